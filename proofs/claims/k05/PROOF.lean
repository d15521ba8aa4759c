import PyProof.Rows.All
import Wide.All
import OpenK.AllK
import Wide.FinOn
import HandS.ForMost
import HandS.ForExc
import HandS.Deep
import PyProof.InstNe
import HandS.OwnEq
import HandS.IterVal
import HandS.OwnIter
import HandS.TryMany
import HandS.ExcField
import HandS.ExcIs
import HandS.ExcInit
import KE.KExcIs
import HandS.TupAny
import HandS.IsInst
import HandS.Codes
import HandS.WideBits
import KE.GoesMore
import KE.GoesEnum
import HandS.Zip
import HandS.Sort
import HandS.Star
import HandS.Flow
import KE.OsArith
import KE.BitLaws
import HandS.Defaults
import PySem.Challenge.RW_linemix_k05_single_ties_lead_up
set_option Elab.async false
set_option linter.all false
set_option autoImplicit false
set_option maxRecDepth 100000
namespace J
open PySem L2
/-! ### data (exv a dd fs: a caught exception at a, its fields in its dict dd) -/
inductive D where
  | non | bl (b : Bool) | int (i : Int) | str (s : Str)
  | lst (xs : List D) | tup (xs : List D) | rng (a b : Int)
  | exv (a dd : Addr) (fs : List (Str × D))
  | ins (C : Addr) (fs : List (Str × D))
mutual
inductive Rd (K : PySem.W.Frag) (S : Hp) : V → D → Prop
  | non : Rd K S .non .non
  | bl (b : Bool) : Rd K S (.bl b) (.bl b)
  | int (i : Int) : Rd K S (.int i) (.int i)
  | str (x : Str) : Rd K S (.str x) (.str x)
  | lst {a : Addr} {vs : List V} {ds : List D} : SqL K S a vs → Rds K S vs ds → Rd K S (.ref a) (.lst ds)
  | tup {a : Addr} {vs : List V} {ds : List D} : SqT K S a vs → Rds K S vs ds → Rd K S (.ref a) (.tup ds)
  | rng {a : Addr} {i j : Int} : S a = some (.rng i j) → Rd K S (.ref a) (.rng i j)
  | exv {a dd : Addr} {fs : List (Str × V)} {gs : List (Str × D)} : S dd = some (.xd fs) → Rfs K S fs gs → Rd K S (.ref a) (.exv a dd gs)
  | ins {a C dx : Addr} {fs : List (Str × V)} {gs : List (Str × D)} : S a = some (.ins C dx fs) → Rfs K S fs gs → Rd K S (.ref a) (.ins C gs)
inductive Rds (K : PySem.W.Frag) (S : Hp) : List V → List D → Prop
  | nil : Rds K S [] []
  | cons {v : V} {vs : List V} {d : D} {ds : List D} : Rd K S v d → Rds K S vs ds → Rds K S (v :: vs) (d :: ds)
inductive Rfs (K : PySem.W.Frag) (S : Hp) : List (Str × V) → List (Str × D) → Prop
  | nil : Rfs K S [] []
  | cons {x : Str} {v : V} {fs : List (Str × V)} {d : D} {gs : List (Str × D)} : Rd K S v d → Rfs K S fs gs → Rfs K S ((x, v) :: fs) ((x, d) :: gs)
end
theorem sqL_mono {K : PySem.W.Frag} {S S' : Hp} {a : Addr} {xs : List V} (e : Same S S') (h : SqL K S a xs) : SqL K S' a xs := e.seq h
theorem sqT_mono {K : PySem.W.Frag} {S S' : Hp} {a : Addr} {xs : List V} (e : Same S S') (h : SqT K S a xs) : SqT K S' a xs := by
  rcases h with (h | ⟨o, h⟩) | h
  · exact .inl (.inl (e _ _ h))
  · exact .inl (.inr ⟨o, e _ _ h⟩)
  · exact .inr h
mutual
theorem Rd.mono {K : PySem.W.Frag} {S S' : Hp} (e : Same S S') : ∀ {v d}, Rd K S v d → Rd K S' v d
  | _, _, .non => .non
  | _, _, .bl b => .bl b
  | _, _, .int b => .int b
  | _, _, .str b => .str b
  | _, _, .lst h r => .lst (sqL_mono e h) (Rds.mono e r)
  | _, _, .tup h r => .tup (sqT_mono e h) (Rds.mono e r)
  | _, _, .rng h => .rng (e _ _ h)
  | _, _, .exv h r => .exv (e _ _ h) (Rfs.mono e r)
  | _, _, .ins h r => .ins (e _ _ h) (Rfs.mono e r)
theorem Rds.mono {K : PySem.W.Frag} {S S' : Hp} (e : Same S S') : ∀ {v d}, Rds K S v d → Rds K S' v d
  | _, _, .nil => .nil
  | _, _, .cons h r => .cons (Rd.mono e h) (Rds.mono e r)
theorem Rfs.mono {K : PySem.W.Frag} {S S' : Hp} (e : Same S S') : ∀ {v d}, Rfs K S v d → Rfs K S' v d
  | _, _, .nil => .nil
  | _, _, .cons h r => .cons (Rd.mono e h) (Rfs.mono e r)
end
theorem Rds.len {K : PySem.W.Frag} {S : Hp} : ∀ {vs ds}, Rds K S vs ds → vs.length = ds.length
  | _, _, .nil => rfl
  | _, _, .cons _ r => congrArg (· + 1) (Rds.len r)
theorem Rds.get {K : PySem.W.Frag} {S : Hp} : ∀ {vs : List V} {ds : List D} {i : Nat} {d : D}, Rds K S vs ds → ds[i]? = some d → ∃ v, vs[i]? = some v ∧ Rd K S v d
  | _, _, 0, _, .cons h _, e => by simp at e; subst e; exact ⟨_, rfl, h⟩
  | _, _, i + 1, d, .cons _ r, e => by
    obtain ⟨v, h1, h2⟩ := Rds.get (i := i) (d := d) r (by simpa using e)
    exact ⟨v, by simpa using h1, h2⟩
  | _, _, _, _, .nil, e => by simp at e
theorem Rds.getV {K : PySem.W.Frag} {S : Hp} : ∀ {vs : List V} {ds : List D} {i : Nat} {v : V}, Rds K S vs ds → vs[i]? = some v → ∃ d, ds[i]? = some d ∧ Rd K S v d
  | _, _, 0, _, .cons h _, e => by simp at e; subst e; exact ⟨_, rfl, h⟩
  | _, _, i + 1, d, .cons _ r, e => by
    obtain ⟨v, h1, h2⟩ := Rds.getV (i := i) (v := d) r (by simpa using e)
    exact ⟨v, by simpa using h1, h2⟩
  | _, _, _, _, .nil, e => by simp at e
theorem Rds.app {K : PySem.W.Frag} {S : Hp} : ∀ {vs ds ws es}, Rds K S vs ds → Rds K S ws es → Rds K S (vs ++ ws) (ds ++ es)
  | _, _, _, _, .nil, s => s
  | _, _, _, _, .cons h r, s => .cons h (Rds.app r s)
theorem Rds.one {K : PySem.W.Frag} {S : Hp} {v d} (h : Rd K S v d) : Rds K S [v] [d] := .cons h .nil
theorem Rds.take {K : PySem.W.Frag} {S : Hp} : ∀ {vs ds} (n : Nat), Rds K S vs ds → Rds K S (vs.take n) (ds.take n)
  | _, _, 0, _ => .nil
  | _, _, _ + 1, .nil => .nil
  | _, _, n + 1, .cons h r => .cons h (Rds.take n r)
theorem Rds.drop {K : PySem.W.Frag} {S : Hp} : ∀ {vs ds} (n : Nat), Rds K S vs ds → Rds K S (vs.drop n) (ds.drop n)
  | _, _, 0, r => r
  | _, _, _ + 1, .nil => .nil
  | _, _, n + 1, .cons _ r => Rds.drop n r
theorem Rds.rev {K : PySem.W.Frag} {S : Hp} : ∀ {vs ds}, Rds K S vs ds → Rds K S vs.reverse ds.reverse
  | _, _, .nil => .nil
  | _, _, .cons h r => by simpa using (Rds.rev r).app (.one h)
theorem Rds.dropLast {K : PySem.W.Frag} {S : Hp} : ∀ {vs ds}, Rds K S vs ds → Rds K S vs.dropLast ds.dropLast
  | _, _, .nil => .nil
  | _, _, .cons _ .nil => .nil
  | _, _, .cons h (.cons h2 r) => .cons h (Rds.dropLast (.cons h2 r))
theorem Rds.set {K : PySem.W.Frag} {S : Hp} {v d} (h : Rd K S v d) : ∀ {vs ds} (i : Nat), Rds K S vs ds → Rds K S (vs.set i v) (ds.set i d)
  | _, _, _, .nil => .nil
  | _, _, 0, .cons _ r => .cons h r
  | _, _, i + 1, .cons q r => .cons q (Rds.set h i r)
theorem Rfs.look {K : PySem.W.Frag} {S : Hp} {x : Str} : ∀ {fs : List (Str × V)} {gs : List (Str × D)} {d : D}, Rfs K S fs gs → gs.lookup x = some d → ∃ v, fs.lookup x = some v ∧ Rd K S v d
  | _, _, _, .nil, e => by simp at e
  | _, _, d, .cons (x := y) (v := v) h r, e => by
    rw [List.lookup_cons] at e ⊢
    cases q : x == y with
    | true => rw [q] at e; cases e; exact ⟨v, rfl, h⟩
    | false => rw [q] at e; exact Rfs.look r e
theorem Rfs.none {K : PySem.W.Frag} {S : Hp} {x : Str} : ∀ {fs : List (Str × V)} {gs : List (Str × D)}, Rfs K S fs gs → gs.lookup x = none → fs.lookup x = none
  | _, _, .nil, _ => rfl
  | _, _, .cons (x := y) (v := v) h r, e => by
    rw [List.lookup_cons] at e ⊢
    cases q : x == y with
    | true => rw [q] at e; cases e
    | false => rw [q] at e; exact Rfs.none r e
theorem Rfs.len {K : PySem.W.Frag} {S : Hp} : ∀ {fs gs}, Rfs K S fs gs → fs.length = gs.length
  | _, _, .nil => rfl
  | _, _, .cons _ r => congrArg (· + 1) (Rfs.len r)
/-! ### slots -/
/-- sh d: a value that is never changed; ol: a list of one's own (at a known address, if o tells one); oll: a list of lists, all one's own; oi: an instance in the making -/
inductive Sl where
  | sh (d : D)
  | ol (o : Option Addr) (ds : List D)
  | oll (dss : List (List D))
  | oi (p C : Addr) (gs : List (Str × D))
def Own2 (K : PySem.W.Frag) (S M : Hp) : List Addr → List (List D) → Prop
  | [], [] => True
  | q :: qs, ds :: dss => (∃ vs, M q = some (.lst vs) ∧ Rds K S vs ds) ∧ Own2 K S M qs dss
  | _, _ => False
def Sl.r (K : PySem.W.Frag) (S M : Hp) (v : V) : Sl → Prop
  | .sh d => Rd K S v d
  | .ol o ds => ∃ p vs, (∀ q, o = some q → p = q) ∧ v = .ref p ∧ M p = some (.lst vs) ∧ Rds K S vs ds
  | .oll dss => ∃ p qs, v = .ref p ∧ M p = some (.lst (qs.map V.ref)) ∧ p ∉ qs ∧ qs.Nodup ∧ Own2 K S M qs dss
  | .oi p C gs => ∃ dx fs, v = .ref p ∧ dx ≠ p ∧ M p = some (.ins C dx fs) ∧ M dx = some (.own p) ∧ Rfs K S fs gs
theorem Own2.mono {K : PySem.W.Frag} {S S' M : Hp} (e : Same S S') : ∀ {qs dss}, Own2 K S M qs dss → Own2 K S' M qs dss
  | [], [], _ => trivial
  | _ :: _, _ :: _, ⟨⟨vs, h, r⟩, t⟩ => ⟨⟨vs, h, r.mono e⟩, Own2.mono e t⟩
  | [], _ :: _, h => h.elim
  | _ :: _, [], h => h.elim
theorem Sl.mono {K : PySem.W.Frag} {S S' M : Hp} {v : V} (e : Same S S') : ∀ {a : Sl}, a.r K S M v → a.r K S' M v
  | .sh _, h => Rd.mono e h
  | .ol _ _, ⟨p, vs, h0, h1, h2, h3⟩ => ⟨p, vs, h0, h1, h2, h3.mono e⟩
  | .oll _, ⟨p, qs, h1, h2, h3, h4, h5⟩ => ⟨p, qs, h1, h2, h3, h4, h5.mono e⟩
  | .oi _ _ _, ⟨dx, fs, h1, h2, h3, h4, h5⟩ => ⟨dx, fs, h1, h2, h3, h4, h5.mono e⟩
abbrev Slots := List (Option Sl)
/-- the entry: what was frozen, the heap, one's own -/
structure En where
  S0 : Hp
  H0 : Hp
  own : Addr → Prop
/-- the place of a value on the way -/
abbrev T : Nat := 1000
structure OK (K : PySem.W.Frag) (Γ : En) (A : Slots) (σ : L2.St) (S H : Hp) (Ms : Nat → Hp) : Prop where
  len : σ.length = A.length
  slot : ∀ (i : Nat) (a : Sl), A[i]? = some (some a) → ∃ v, σ[i]? = some (some v) ∧ a.r K S (Ms i) v
  sH : Same S H
  mH : ∀ i, Same (Ms i) H
  mS : ∀ i p o, Ms i p = some o → S p = none
  dj : ∀ i j p o, Ms i p = some o → i ≠ j → Ms j p = none
  s0 : Same Γ.S0 S
  sN : ∀ p o, S p = some o → (∃ u, Γ.S0 p = some u) ∨ Γ.H0 p = none ∨ Γ.own p
  mN : ∀ i p o, Ms i p = some o → Γ.H0 p = none ∨ Γ.own p
  fr : ∀ p o, Γ.H0 p = some o → ¬ Γ.own p → H p = some o
/-- a call's end when nothing but the frame is to be said -/
structure Fr (Γ : En) (S H : Hp) : Prop where
  sH : Same S H
  s0 : Same Γ.S0 S
  sN : ∀ p o, S p = some o → (∃ u, Γ.S0 p = some u) ∨ Γ.H0 p = none ∨ Γ.own p
  fr : ∀ p o, Γ.H0 p = some o → ¬ Γ.own p → H p = some o
section
variable {K : PySem.W.Frag} {Γ : En} {A B : Slots} {σ : L2.St} {S H : Hp} {Ms : Nat → Hp}
theorem OK.frm (ok : OK K Γ A σ S H Ms) : Fr Γ S H := ⟨ok.sH, ok.s0, ok.sN, ok.fr⟩
/-- less is said -/
theorem OK.weak (ok : OK K Γ A σ S H Ms) (hl : A.length = B.length) (h : ∀ (i : Nat) (a : Sl), B[i]? = some (some a) → A[i]? = some (some a)) : OK K Γ B σ S H Ms :=
  { ok with len := ok.len.trans hl, slot := fun i a e => ok.slot i a (h i a e) }
theorem free_of {H H' : Hp} (e : Same H H') {p : Addr} (h : H' p = none) : H p = none := e.free h
theorem nofree {H : Hp} {p : Addr} {o : HO} (h : H p = some o) (n : H p = none) : False := by rw [n] at h; cases h
/-- a new object is made that is frozen at once -/
theorem OK.new (ok : OK K Γ A σ S H Ms) {p : Addr} {o : HO} (np : H p = none) : OK K Γ A σ (upd S p o) (upd H p o) Ms ∧ Same S (upd S p o) := by
  have nS : S p = none := free_of ok.sH np
  have sS : Same S (upd S p o) := fun b u e => by rw [upd_ne (ne_of_none e nS)]; exact e
  have nM : ∀ i, Ms i p = none := fun i => free_of (ok.mH i) np
  refine ⟨⟨ok.len, fun i a e => ?_, fun b u e => ?_, fun i b u e => ?_, fun i b u e => ?_, ok.dj, ok.s0.trans sS, fun b u e => ?_, ok.mN, fun b u e n => ?_⟩, sS⟩
  · obtain ⟨v, h1, h2⟩ := ok.slot i a e
    exact ⟨v, h1, Sl.mono sS h2⟩
  · by_cases hb : b = p
    · subst hb; rw [upd_same] at e ⊢; exact e
    · rw [upd_ne hb] at e ⊢; exact ok.sH b u e
  · have hb : b ≠ p := ne_of_none e (nM i)
    rw [upd_ne hb]; exact ok.mH i b u e
  · have hb : b ≠ p := ne_of_none e (nM i)
    rw [upd_ne hb]; exact ok.mS i b u e
  · by_cases hb : b = p
    · subst hb
      cases q : Γ.H0 b with
      | none => exact .inr (.inl rfl)
      | some w =>
        by_cases ho : Γ.own b
        · exact .inr (.inr ho)
        · exact (nofree (ok.fr b w q ho) np).elim
    · rw [upd_ne hb] at e; exact ok.sN b u e
  · have hb : b ≠ p := ne_of_none (ok.fr b u e n) np
    rw [upd_ne hb]; exact ok.fr b u e n
/-- a new object is made, one's own, at the place of a value on the way -/
def put (Ms : Nat → Hp) (i : Nat) (M : Hp) : Nat → Hp := fun j => if j = i then M else Ms j
theorem put_same {Ms : Nat → Hp} {i : Nat} {M : Hp} : put Ms i M i = M := if_pos rfl
theorem put_ne {Ms : Nat → Hp} {i j : Nat} {M : Hp} (h : j ≠ i) : put Ms i M j = Ms j := if_neg h
def emp : Hp := fun _ => none
def one (p : Addr) (o : HO) : Hp := upd emp p o
theorem one_same {p : Addr} {o : HO} : one p o p = some o := upd_same
theorem one_at {p b : Addr} {o u : HO} (h : one p o b = some u) : b = p ∧ u = o := by
  unfold one at h
  by_cases hb : b = p
  · subst hb; rw [upd_same] at h; exact ⟨rfl, (Option.some.inj h).symm⟩
  · rw [upd_ne hb] at h; cases h
/-- the heaplet at the place k becomes M: new objects, or objects of the old one -/
theorem OK.heaplet (ok : OK K Γ A σ S H Ms) {k : Nat} {M H' : Hp} (hk : A[k]? = none ∨ A[k]? = some none) (hM : Same M H') (hne : ∀ b u, M b = some u → H b = none ∨ ∃ w, Ms k b = some w)
    (hH : ∀ b u, H b = some u → Ms k b = none → H' b = some u) : OK K Γ A σ S H' (put Ms k M) := by
  have nf : ∀ b, H b = none → Γ.H0 b = none ∨ Γ.own b := fun b n => by
    cases q : Γ.H0 b with
    | none => exact .inl rfl
    | some w =>
      by_cases ho : Γ.own b
      · exact .inr ho
      · exact (nofree (ok.fr b w q ho) n).elim
  have nk : ∀ i b u, i ≠ k → Ms i b = some u → Ms k b = none := fun i b u ne e => ok.dj i k b u e ne
  refine ⟨ok.len, fun i a e => ?_, fun b u e => ?_, fun i b u e => ?_, fun i b u e => ?_, fun i j b u e ne => ?_, ok.s0, ok.sN, fun i b u e => ?_, fun b u e n => ?_⟩
  · have hi : i ≠ k := fun z => by subst z; rcases hk with z | z <;> rw [z] at e <;> cases e
    rw [put_ne hi]; exact ok.slot i a e
  · refine hH b u (ok.sH b u e) ?_
    cases q : Ms k b with
    | none => rfl
    | some w => exact (nofree e (ok.mS k b w q)).elim
  · by_cases hi : i = k
    · subst hi; rw [put_same] at e; exact hM b u e
    · rw [put_ne hi] at e; exact hH b u (ok.mH i b u e) (nk i b u hi e)
  · by_cases hi : i = k
    · subst hi; rw [put_same] at e
      rcases hne b u e with n | ⟨w, hw⟩
      · exact free_of ok.sH n
      · exact ok.mS i b w hw
    · rw [put_ne hi] at e; exact ok.mS i b u e
  · by_cases hi : i = k
    · subst hi
      rw [put_same] at e
      rw [put_ne (fun z => ne z.symm)]
      rcases hne b u e with n | ⟨w, hw⟩
      · exact free_of (ok.mH j) n
      · exact ok.dj i j b w hw ne
    · rw [put_ne hi] at e
      by_cases hj : j = k
      · subst hj; rw [put_same]
        cases q : M b with
        | none => rfl
        | some w =>
          rcases hne b w q with n | ⟨x, hx⟩
          · exact (nofree (ok.mH i b u e) n).elim
          · exact (nofree hx (nk i b u hi e)).elim
      · rw [put_ne hj]; exact ok.dj i j b u e ne
  · by_cases hi : i = k
    · subst hi; rw [put_same] at e
      rcases hne b u e with n | ⟨w, hw⟩
      · exact nf b n
      · exact ok.mN i b w hw
    · rw [put_ne hi] at e; exact ok.mN i b u e
  · refine hH b u (ok.fr b u e n) ?_
    cases q : Ms k b with
    | none => rfl
    | some w => rcases ok.mN k b w q with z | z
                · exact (nofree e z).elim
                · exact (n z).elim
end
end J
namespace J
open PySem L2
theorem peI {X : Cx} {e : Expr} {t u : TE} (h : PE X e t) (i : ∀ σ H Q, u σ H Q → t σ H Q) : PE X e u := ⟨fun pins s σ H Q I q => h.run pins s σ H Q I (i _ _ _ q)⟩
theorem ptI {X : Cx} {e : Expr} {t u : TT} (h : PT X e t) (i : ∀ σ H Q, u σ H Q → t σ H Q) : PT X e u := ⟨fun pins s σ H Q I q => h.run pins s σ H Q I (i _ _ _ q)⟩
theorem paI {X : Cx} {e : List Expr} {t u : TA} (h : PA X e t) (i : ∀ σ H Q, u σ H Q → t σ H Q) : PA X e u := ⟨fun pos pins s σ H Q I q => h.run pos pins s σ H Q I (i _ _ _ q)⟩
theorem psI {X : Cx} {e : Stmt} {t u : TS} (h : PS X e t) (i : ∀ D σ H, u D σ H → t D σ H) : PS X e u := ⟨fun pins s σ H D I q => h.run pins s σ H D I (i _ _ _ q)⟩
theorem pssI {X : Cx} {e : List Stmt} {t u : TS} (h : PSs X e t) (i : ∀ D σ H, u D σ H → t D σ H) : PSs X e u := ⟨fun pins s σ H D I q => h.run pins s σ H D I (i _ _ _ q)⟩
/-- what an exception is, and the heap with its own dict -/
abbrev Er := PySem.W.Frag → Hp → Hp → Value → Option Addr → Prop
inductive Out where
  | nx (A : Slots) | rt (a : Sl) (A : Slots) | er (e : Er) (A : Slots) | bk (A : Slots) | ct (A : Slots)
section
variable (K : PySem.W.Frag) (Γ : En)
/-- e turns A into A' and gives a -/
def JE (A : Slots) (a : Sl) (A' : Slots) : TE := fun σ H Q => ∃ S Ms, OK K Γ A σ S H Ms ∧ ∀ v S' H' Ms', Same S S' → OK K Γ A' σ S' H' Ms' → a.r K S' (Ms' T) v → Q v H'
def JT (A : Slots) (b : Bool) (A' : Slots) : TT := fun σ H Q => ∃ S Ms, OK K Γ A σ S H Ms ∧ ∀ S' H' Ms', Same S S' → OK K Γ A' σ S' H' Ms' → Q b H'
def JA (A : Slots) (ds : List D) (A' : Slots) : TA := fun σ H Q => ∃ S Ms, OK K Γ A σ S H Ms ∧ ∀ vs S' H' Ms', Same S S' → OK K Γ A' σ S' H' Ms' → Rds K S' vs ds → Q vs H'
def Post (W : WX) (S0 : Hp) (o : Out) (d : Ends) : Prop := match o with
  | .nx A => ∀ σ S H Ms, Same S0 S → OK K Γ A σ S H Ms → d.nx σ H
  | .rt a A => ∀ v σ S H Ms, Same S0 S → OK K Γ A σ S H Ms → a.r K S (Ms T) v → d.rt v H
  | .er e A => ∀ cls x σ S H Ms, Same S0 S → OK K Γ A σ S H Ms → e K S H cls x → W cls x σ H
  | .bk A => ∀ σ S H Ms, Same S0 S → OK K Γ A σ S H Ms → d.bk σ H
  | .ct A => ∀ σ S H Ms, Same S0 S → OK K Γ A σ S H Ms → d.ct σ H
def JS (W : WX) (A : Slots) (o : Out) : TS := fun d σ H => ∃ S Ms, OK K Γ A σ S H Ms ∧ Post K Γ W S o d
theorem Post.mono {W : WX} {S S' : Hp} (e : Same S S') {o : Out} {d : Ends} (h : Post K Γ W S o d) : Post K Γ W S' o d := by
  cases o with
  | nx A => exact fun σ S1 H Ms s ok => h σ S1 H Ms (e.trans s) ok
  | rt a A => exact fun v σ S1 H Ms s ok r => h v σ S1 H Ms (e.trans s) ok r
  | er a A => exact fun c x σ S1 H Ms s ok r => h c x σ S1 H Ms (e.trans s) ok r
  | bk A => exact fun σ S1 H Ms s ok => h σ S1 H Ms (e.trans s) ok
  | ct A => exact fun σ S1 H Ms s ok => h σ S1 H Ms (e.trans s) ok
end
section
variable {X : Cx} {Γ : En} {A A1 A2 A' B : Slots} {a b e : Expr} {es : List Expr} {pos : Pos} {i j : Int} {d d' : D} {ds : List D} {sl : Sl}
/-! ### names, constants -/
theorem jvar (n : Nat) {x : Str} {pos : Pos} (h : A[n]? = some (some (.sh d))) (hN : X.N[n]? = some x := by rfl) (hv : Vis X.env.scope x := by first | exact Or.inl rfl | exact Or.inr (Or.inl rfl) | exact Or.inr (Or.inr rfl)) (hd : (x == ("__debug__" : Str)) = false := by decide)
    (hcd : (x == ("__classdict__" : Str)) = false := by decide) : PE X (.Name x pos) (JE X.K Γ A (.sh d) A) :=
  peI (pe_var hN hv hd hcd) fun σ H Q ⟨S, Ms, ok, k⟩ => by
    obtain ⟨v, h1, h2⟩ := ok.slot n _ h
    exact ⟨v, h1, k v S H Ms (Same.refl S) ok h2⟩
theorem jcon {e : Expr} {v : V} {d : D} (h : PE X e (tC v)) (r : ∀ S, Rd X.K S v d) : PE X e (JE X.K Γ A (.sh d) A) :=
  peI h fun σ H Q ⟨S, Ms, ok, k⟩ => k v S H Ms (Same.refl S) ok (r S)
theorem jint {k pos} : PE X (.Constant (.int i) k pos) (JE X.K Γ A (.sh (.int i)) A) := jcon pe_int fun _ => .int i
theorem jbl {b k pos} : PE X (.Constant (.bool b) k pos) (JE X.K Γ A (.sh (.bl b)) A) := jcon pe_bl fun _ => .bl b
theorem jnon {k pos} : PE X (.Constant .none k pos) (JE X.K Γ A (.sh .non) A) := jcon pe_non fun _ => .non
theorem jstr {x k pos} : PE X (.Constant (.str x) k pos) (JE X.K Γ A (.sh (.str x)) A) := jcon pe_str fun _ => .str x
theorem jglob {x : Str} {i : Int} {t : Tok} {pos : Pos} (hm : X.mg x = some (.int i t)) (hg : Gl X x := by rfl) (hd : (x == ("__debug__" : Str)) = false := by decide) : PE X (.Name x pos) (JE X.K Γ A (.sh (.int i)) A) :=
  jcon (pe_glob (v := .int i) hg hm ⟨_, rfl⟩ hd) fun _ => .int i
/-! ### two operands -/
theorem jop {op : Operator} {r : R2} {z : Sl} (ho : OpR X (binaryOp op) r) (ha : PE X a (JE X.K Γ A (.sh d) A1)) (hb : PE X b (JE X.K Γ A1 (.sh d') A2))
    (h : ∀ S H Ms σ x y Q, OK X.K Γ A2 σ S H Ms → Rd X.K S x d → Rd X.K S y d' → (∀ v S' H' Ms', Same S S' → OK X.K Γ A2 σ S' H' Ms' → z.r X.K S' (Ms' T) v → Q v H') → r x y H Q) : PE X (.BinOp a op b pos) (JE X.K Γ A z A2) :=
  peI (pe_op ho ha hb) fun σ H Q ⟨S, Ms, ok, k⟩ => ⟨S, Ms, ok, fun x S1 H1 M1 s1 ok1 r1 => ⟨S1, M1, ok1, fun y S2 H2 M2 s2 ok2 r2 =>
    h S2 H2 M2 σ x y Q ok2 (Rd.mono s2 r1) r2 fun v S3 H3 M3 s3 ok3 r3 => k v S3 H3 M3 ((s1.trans s2).trans s3) ok3 r3⟩⟩
theorem jcmp {op : CmpOp} {r : R2} {z : Sl} (ho : OpR X (compareOp op) r) (hm : behindInMarks op b = false) (ha : PE X a (JE X.K Γ A (.sh d) A1)) (hb : PE X b (JE X.K Γ A1 (.sh d') A2))
    (h : ∀ S H Ms σ x y Q, OK X.K Γ A2 σ S H Ms → Rd X.K S x d → Rd X.K S y d' → (∀ v S' H' Ms', Same S S' → OK X.K Γ A2 σ S' H' Ms' → z.r X.K S' (Ms' T) v → Q v H') → r x y H Q) : PE X (.Compare a [op] [b] pos) (JE X.K Γ A z A2) :=
  peI (pe_cmpR ho ha hb hm) fun σ H Q ⟨S, Ms, ok, k⟩ => ⟨S, Ms, ok, fun x S1 H1 M1 s1 ok1 r1 => ⟨S1, M1, ok1, fun y S2 H2 M2 s2 ok2 r2 =>
    h S2 H2 M2 σ x y Q ok2 (Rd.mono s2 r1) r2 fun v S3 H3 M3 s3 ok3 r3 => k v S3 H3 M3 ((s1.trans s2).trans s3) ok3 r3⟩⟩
theorem jtcmp {op : CmpOp} {r : R2} {c : Bool} (ho : OpR X (compareOp op) r) (hm : behindInMarks op b = false) (ha : PE X a (JE X.K Γ A (.sh d) A1)) (hb : PE X b (JE X.K Γ A1 (.sh d') A2))
    (h : ∀ S H Ms σ x y (Q : VK), OK X.K Γ A2 σ S H Ms → Rd X.K S x d → Rd X.K S y d' → (∀ S' H' Ms', Same S S' → OK X.K Γ A2 σ S' H' Ms' → Q (.bl c) H') → r x y H Q) : PT X (.Compare a [op] [b] pos) (JT X.K Γ A c A2) :=
  ptI (pt_cmpR ho ha hb hm) fun σ H Q ⟨S, Ms, ok, k⟩ => ⟨S, Ms, ok, fun x S1 H1 M1 s1 ok1 r1 => ⟨S1, M1, ok1, fun y S2 H2 M2 s2 ok2 r2 =>
    h S2 H2 M2 σ x y _ ok2 (Rd.mono s2 r1) r2 fun S3 H3 M3 s3 ok3 => ⟨c, rfl, k S3 H3 M3 ((s1.trans s2).trans s3) ok3⟩⟩⟩
theorem int_of {K : PySem.W.Frag} {S : Hp} {x : V} {i : Int} (h : Rd K S x (.int i)) : x = .int i := by cases h; rfl
theorem bl_of {K : PySem.W.Frag} {S : Hp} {x : V} {b : Bool} (h : Rd K S x (.bl b)) : x = .bl b := by cases h; rfl
/-- int op int -/
theorem ji {op : Operator} {C : Int → Int → Prop} {g : Int → Int → Int} (ho : OpR X (binaryOp op) (rI C fun i j => .int (g i j))) (ha : PE X a (JE X.K Γ A (.sh (.int i)) A1)) (hb : PE X b (JE X.K Γ A1 (.sh (.int j)) A2)) (hc : C i j) :
    PE X (.BinOp a op b pos) (JE X.K Γ A (.sh (.int (g i j))) A2) :=
  jop ho ha hb fun S H Ms σ x y Q ok rx ry k => ⟨i, j, int_of rx, int_of ry, hc, k _ S H Ms (Same.refl S) ok (.int _)⟩
theorem ji0 {op : Operator} {g : Int → Int → Int} (ho : OpR X (binaryOp op) (rI0 fun i j => .int (g i j))) (ha : PE X a (JE X.K Γ A (.sh (.int i)) A1)) (hb : PE X b (JE X.K Γ A1 (.sh (.int j)) A2)) :
    PE X (.BinOp a op b pos) (JE X.K Γ A (.sh (.int (g i j))) A2) :=
  jop ho ha hb fun S H Ms σ x y Q ok rx ry k => ⟨i, j, int_of rx, int_of ry, k _ S H Ms (Same.refl S) ok (.int _)⟩
theorem jc0 {op : CmpOp} {g : Int → Int → Bool} (ho : OpR X (compareOp op) (rI0 fun i j => .bl (g i j))) (ha : PE X a (JE X.K Γ A (.sh (.int i)) A1)) (hb : PE X b (JE X.K Γ A1 (.sh (.int j)) A2)) (hm : behindInMarks op b = false := by exact nomark _) :
    PE X (.Compare a [op] [b] pos) (JE X.K Γ A (.sh (.bl (g i j))) A2) :=
  jcmp ho hm ha hb fun S H Ms σ x y Q ok rx ry k => ⟨i, j, int_of rx, int_of ry, k _ S H Ms (Same.refl S) ok (.bl _)⟩
theorem jt0 {op : CmpOp} {g : Int → Int → Bool} (ho : OpR X (compareOp op) (rI0 fun i j => .bl (g i j))) (ha : PE X a (JE X.K Γ A (.sh (.int i)) A1)) (hb : PE X b (JE X.K Γ A1 (.sh (.int j)) A2)) (hm : behindInMarks op b = false := by exact nomark _) :
    PT X (.Compare a [op] [b] pos) (JT X.K Γ A (g i j) A2) :=
  jtcmp ho hm ha hb fun S H Ms σ x y Q ok rx ry k => ⟨i, j, int_of rx, int_of ry, k S H Ms (Same.refl S) ok⟩
/-! ### tests -/
theorem jtB {c : Bool} (h : PE X e (JE X.K Γ A (.sh (.bl c)) A')) (he : ∀ whole, isTrue e X.env whole = (do let v ← whole; standAt e.pos; holding [v] (truthy v)) := by intro _; rfl) : PT X e (JT X.K Γ A c A') :=
  ptI (pt_val h he) fun σ H Q ⟨S, Ms, ok, k⟩ => ⟨S, Ms, ok, fun v S' H' M' s ok' r => ⟨c, bl_of r, k S' H' M' s ok'⟩⟩
theorem jtNot {c : Bool} (h : PT X a (JT X.K Γ A c A')) : PT X (.UnaryOp .Not a pos) (JT X.K Γ A (!c) A') :=
  ptI (pt_not h) fun σ H Q ⟨S, Ms, ok, k⟩ => ⟨S, Ms, ok, k⟩
theorem jtAnd {c c' : Bool} {rest : List Expr} (h1 : PT X a (JT X.K Γ A c A)) (h2 : c = true → PW X (.BoolOp .And (b :: rest) pos) (JT X.K Γ A c' A)) : PW X (.BoolOp .And (a :: b :: rest) pos) (JT X.K Γ A (c && c') A) := by
  cases c with
  | true =>
    have q := pw_and h1 (h2 rfl)
    exact ⟨fun w pins s σ H Q I ⟨S, Ms, ok, k⟩ => q.run w pins s σ H Q I ⟨S, Ms, ok, fun S1 H1 M1 s1 ok1 => ⟨S1, M1, ok1, fun S2 H2 M2 s2 ok2 => k S2 H2 M2 (s1.trans s2) ok2⟩⟩⟩
  | false =>
    have nv : PW X (.BoolOp .And (b :: rest) pos) (fun _ _ _ => False) := ⟨fun _ _ _ _ _ _ _ h => h.elim⟩
    have q := pw_and h1 nv
    exact ⟨fun w pins s σ H Q I ⟨S, Ms, ok, k⟩ => q.run w pins s σ H Q I ⟨S, Ms, ok, fun S1 H1 M1 s1 ok1 => k S1 H1 M1 s1 ok1⟩⟩
theorem jtOr {c c' : Bool} {rest : List Expr} (h1 : PT X a (JT X.K Γ A c A)) (h2 : c = false → PW X (.BoolOp .Or (b :: rest) pos) (JT X.K Γ A c' A)) : PW X (.BoolOp .Or (a :: b :: rest) pos) (JT X.K Γ A (c || c') A) := by
  cases c with
  | false =>
    have q := pw_or h1 (h2 rfl)
    exact ⟨fun w pins s σ H Q I ⟨S, Ms, ok, k⟩ => q.run w pins s σ H Q I ⟨S, Ms, ok, fun S1 H1 M1 s1 ok1 => ⟨S1, M1, ok1, fun S2 H2 M2 s2 ok2 => k S2 H2 M2 (s1.trans s2) ok2⟩⟩⟩
  | true =>
    have nv : PW X (.BoolOp .Or (b :: rest) pos) (fun _ _ _ => False) := ⟨fun _ _ _ _ _ _ _ h => h.elim⟩
    have q := pw_or h1 nv
    exact ⟨fun w pins s σ H Q I ⟨S, Ms, ok, k⟩ => q.run w pins s σ H Q I ⟨S, Ms, ok, fun S1 H1 M1 s1 ok1 => k S1 H1 M1 s1 ok1⟩⟩
theorem jtAnd1 {c : Bool} (h : PT X a (JT X.K Γ A c A)) : PW X (.BoolOp .And [a] pos) (JT X.K Γ A c A) := pw_and1 h
theorem jtOr1 {c : Bool} (h : PT X a (JT X.K Γ A c A)) : PW X (.BoolOp .Or [a] pos) (JT X.K Γ A c A) := pw_or1 h
/-! ### and, or, not as values -/
theorem jNot {c : Bool} (h : PE X a (JE X.K Γ A (.sh (.bl c)) A')) : PE X (.UnaryOp .Not a pos) (JE X.K Γ A (.sh (.bl !c)) A') :=
  peI (pe_not h) fun σ H Q ⟨S, Ms, ok, k⟩ => ⟨S, Ms, ok, fun v S' H' M' s ok' r => ⟨c, bl_of r, k _ S' H' M' s ok' (.bl _)⟩⟩
theorem jAnd {c c' : Bool} {rest : List Expr} (h1 : PE X a (JE X.K Γ A (.sh (.bl c)) A)) (h2 : c = true → PE X (.BoolOp .And (b :: rest) pos) (JE X.K Γ A (.sh (.bl c')) A)) : PE X (.BoolOp .And (a :: b :: rest) pos) (JE X.K Γ A (.sh (.bl (c && c'))) A) := by
  cases c with
  | true =>
    exact peI (pe_and h1 (h2 rfl)) fun σ H Q ⟨S, Ms, ok, k⟩ => ⟨S, Ms, ok, fun v S1 H1 M1 s1 ok1 r => ⟨true, bl_of r, by rw [if_pos rfl]; exact ⟨S1, M1, ok1, fun v S2 H2 M2 s2 ok2 r2 => k v S2 H2 M2 (s1.trans s2) ok2 r2⟩⟩⟩
  | false =>
    have nv : PE X (.BoolOp .And (b :: rest) pos) (fun _ _ _ => False) := ⟨fun _ _ _ _ _ _ h => h.elim⟩
    exact peI (pe_and h1 nv) fun σ H Q ⟨S, Ms, ok, k⟩ => ⟨S, Ms, ok, fun v S1 H1 M1 s1 ok1 r => ⟨false, bl_of r, by rw [if_neg Bool.false_ne_true]; exact k _ S1 H1 M1 s1 ok1 (.bl _)⟩⟩
theorem jOr {c c' : Bool} {rest : List Expr} (h1 : PE X a (JE X.K Γ A (.sh (.bl c)) A)) (h2 : c = false → PE X (.BoolOp .Or (b :: rest) pos) (JE X.K Γ A (.sh (.bl c')) A)) : PE X (.BoolOp .Or (a :: b :: rest) pos) (JE X.K Γ A (.sh (.bl (c || c'))) A) := by
  cases c with
  | false =>
    exact peI (pe_or h1 (h2 rfl)) fun σ H Q ⟨S, Ms, ok, k⟩ => ⟨S, Ms, ok, fun v S1 H1 M1 s1 ok1 r => ⟨false, bl_of r, by rw [if_neg Bool.false_ne_true]; exact ⟨S1, M1, ok1, fun v S2 H2 M2 s2 ok2 r2 => k v S2 H2 M2 (s1.trans s2) ok2 r2⟩⟩⟩
  | true =>
    have nv : PE X (.BoolOp .Or (b :: rest) pos) (fun _ _ _ => False) := ⟨fun _ _ _ _ _ _ h => h.elim⟩
    exact peI (pe_or h1 nv) fun σ H Q ⟨S, Ms, ok, k⟩ => ⟨S, Ms, ok, fun v S1 H1 M1 s1 ok1 r => ⟨true, bl_of r, by rw [if_pos rfl]; exact k _ S1 H1 M1 s1 ok1 (.bl _)⟩⟩
theorem jOne {op} (h : PE X a (JE X.K Γ A sl A')) : PE X (.BoolOp op [a] pos) (JE X.K Γ A sl A') := pe_one h
theorem jIf {c : Bool} {t : Expr} {s1 s2 : Sl} {B : Slots} (ht : PT X t (JT X.K Γ A c A1)) (ha : c = true → PE X a (JE X.K Γ A1 s1 B)) (hb : c = false → PE X b (JE X.K Γ A1 s2 B)) : PE X (.IfExp t a b pos) (JE X.K Γ A (if c then s1 else s2) B) := by
  have nv : ∀ e, PE X e (fun _ _ _ => False) := fun e => ⟨fun _ _ _ _ _ _ h => h.elim⟩
  cases c with
  | true =>
    refine peI (pe_ifExp ht (ha rfl) (nv b)) fun σ H Q ⟨S, Ms, ok, k⟩ => ⟨S, Ms, ok, fun S1 H1 M1 s1 ok1 => ?_⟩
    refine L2.iteT ?_
    exact ⟨S1, M1, ok1, fun v S2 H2 M2 s2 ok2 r2 => k v S2 H2 M2 (s1.trans s2) ok2 r2⟩
  | false =>
    refine peI (pe_ifExp ht (nv a) (hb rfl)) fun σ H Q ⟨S, Ms, ok, k⟩ => ⟨S, Ms, ok, fun S1 H1 M1 s1 ok1 => ?_⟩
    refine L2.iteF ?_
    exact ⟨S1, M1, ok1, fun v S2 H2 M2 s2 ok2 r2 => k v S2 H2 M2 (s1.trans s2) ok2 r2⟩
/-! ### argument lists, displays -/
theorem janil : PA X [] (JA X.K Γ A [] A) := paI pa_nil fun σ H Q ⟨S, Ms, ok, k⟩ => k [] S H Ms (Same.refl S) ok .nil
theorem jacons (h : PE X e (JE X.K Γ A (.sh d) A1)) (r : PA X es (JA X.K Γ A1 ds A2)) (hs : starEach (e :: es) X.env = (false, eval e X.env) :: starEach es X.env := by rfl) : PA X (e :: es) (JA X.K Γ A (d :: ds) A2) :=
  paI (pa_cons h r hs) fun σ H Q ⟨S, Ms, ok, k⟩ => ⟨S, Ms, ok, fun v S1 H1 M1 s1 ok1 r1 => ⟨S1, M1, ok1, fun vs S2 H2 M2 s2 ok2 r2 => k _ S2 H2 M2 (s1.trans s2) ok2 (.cons (Rd.mono s2 r1) r2)⟩⟩
theorem jtup {x1} (h : PA X es (JA X.K Γ A ds A')) (hz : ds.length ≤ 1000 := by exact Nat.le_of_ble_eq_true rfl) : PE X (.Tuple es x1 pos) (JE X.K Γ A (.sh (.tup ds)) A') :=
  peI (pe_tup h) fun σ H Q ⟨S, Ms, ok, k⟩ => ⟨S, Ms, ok, fun vs S1 H1 M1 s1 ok1 r1 => ⟨by rw [r1.len]; exact Nat.le_trans hz (by decide), fun p np => by
    obtain ⟨ok2, s2⟩ := ok1.new (o := .tup vs) np
    exact k _ _ _ M1 (s1.trans s2) ok2 (.tup (SqT.of upd_same) (r1.mono s2))⟩⟩
theorem jlst (h : PA X es (JA X.K Γ A ds A')) (hz : ds.length ≤ 1000 := by exact Nat.le_of_ble_eq_true rfl) : PE X (.List es pos) (JE X.K Γ A (.sh (.lst ds)) A') :=
  peI (pe_lst h) fun σ H Q ⟨S, Ms, ok, k⟩ => ⟨S, Ms, ok, fun vs S1 H1 M1 s1 ok1 r1 => ⟨by rw [r1.len]; exact Nat.le_trans hz (by decide), fun p np => by
    obtain ⟨ok2, s2⟩ := ok1.new (o := .lst vs) np
    exact k _ _ _ M1 (s1.trans s2) ok2 (.lst (SqL.of upd_same) (r1.mono s2))⟩⟩
/-- a new list of one's own at T -/
theorem OK.newOwn {K : PySem.W.Frag} {σ : L2.St} {S H : Hp} {Ms : Nat → Hp} (ok : OK K Γ A σ S H Ms) (hT : A.length ≤ T) {p : Addr} {vs : List V} {ds : List D} (np : H p = none) (r : Rds K S vs ds) :
    OK K Γ A σ S (upd H p (.lst vs)) (put Ms T (one p (.lst vs))) ∧ (Sl.ol none ds).r K S (put Ms T (one p (.lst vs)) T) (.ref p) := by
  refine ⟨ok.heaplet (.inl (List.getElem?_eq_none_iff.mpr hT)) (fun b u e => ?_) (fun b u e => ?_) (fun b u e _ => ?_), p, vs, fun _ z => (by cases z), rfl, by rw [put_same]; exact one_same, r⟩
  · obtain ⟨rfl, rfl⟩ := one_at e; exact upd_same
  · obtain ⟨rfl, rfl⟩ := one_at e; exact .inl np
  · rw [upd_ne (ne_of_none e np)]; exact e
theorem jlstO (h : PA X es (JA X.K Γ A ds A')) (hT : A'.length ≤ T := by exact Nat.le_of_ble_eq_true rfl) (hz : ds.length ≤ 1000 := by exact Nat.le_of_ble_eq_true rfl) : PE X (.List es pos) (JE X.K Γ A (.ol none ds) A') :=
  peI (pe_lst h) fun σ H Q ⟨S, Ms, ok, k⟩ => ⟨S, Ms, ok, fun vs S1 H1 M1 s1 ok1 r1 => ⟨by rw [r1.len]; exact Nat.le_trans hz (by decide), fun p np => by
    obtain ⟨ok2, q⟩ := ok1.newOwn hT np r1
    exact k _ _ _ _ s1 ok2 q⟩⟩
/-- a list of one's own on the way is frozen -/
theorem OK.freezeT {K : PySem.W.Frag} {σ : L2.St} {S H : Hp} {Ms : Nat → Hp} (ok : OK K Γ A σ S H Ms) {k : Nat} {o : Option Addr} {v : V} {ds : List D} (r : (Sl.ol o ds).r K S (Ms k) v) (hk : A[k]? = none ∨ A[k]? = some none) :
    ∃ S' Ms', Same S S' ∧ OK K Γ A σ S' H Ms' ∧ Rd K S' v (.lst ds) := by
  obtain ⟨p, vs, _, rfl, hM, r⟩ := r
  have nS : S p = none := ok.mS k p _ hM
  have s1 : Same S (upd S p (.lst vs)) := fun b u e => by rw [upd_ne (ne_of_none e nS)]; exact e
  refine ⟨upd S p (.lst vs), put Ms k emp, s1, ?_, .lst (SqL.of upd_same) (r.mono s1)⟩
  refine ⟨ok.len, fun i a e => ?_, fun b u e => ?_, fun i b u e => ?_, fun i b u e => ?_, fun i j b u e ne => ?_, ok.s0.trans s1, fun b u e => ?_, fun i b u e => ?_, ok.fr⟩
  · have hi : i ≠ k := fun z => by subst z; rcases hk with z | z <;> rw [z] at e <;> cases e
    rw [put_ne hi]
    obtain ⟨v, h1, h2⟩ := ok.slot i a e
    exact ⟨v, h1, Sl.mono s1 h2⟩
  · by_cases hb : b = p
    · subst hb; rw [upd_same] at e; cases e; exact ok.mH k b _ hM
    · rw [upd_ne hb] at e; exact ok.sH b u e
  · by_cases hi : i = k
    · subst hi; rw [put_same] at e; cases e
    · rw [put_ne hi] at e; exact ok.mH i b u e
  · by_cases hi : i = k
    · subst hi; rw [put_same] at e; cases e
    · rw [put_ne hi] at e
      have hb : b ≠ p := fun z => by subst z; exact nofree e (ok.dj k i b _ hM (fun z => hi z.symm))
      rw [upd_ne hb]; exact ok.mS i b u e
  · by_cases hi : i = k
    · subst hi; rw [put_same] at e; cases e
    · rw [put_ne hi] at e
      by_cases hj : j = k
      · subst hj; rw [put_same]; rfl
      · rw [put_ne hj]; exact ok.dj i j b u e ne
  · by_cases hb : b = p
    · subst hb
      rcases ok.mN k b _ hM with z | z
      · exact .inr (.inl z)
      · exact .inr (.inr z)
    · rw [upd_ne hb] at e; exact ok.sN b u e
  · by_cases hi : i = k
    · subst hi; rw [put_same] at e; cases e
    · rw [put_ne hi] at e; exact ok.mN i b u e
theorem jfrz {o : Option Addr} (h : PE X e (JE X.K Γ A (.ol o ds) A')) (hT : A'.length ≤ T := by exact Nat.le_of_ble_eq_true rfl) : PE X e (JE X.K Γ A (.sh (.lst ds)) A') :=
  peI h fun σ H Q ⟨S, Ms, ok, k⟩ => ⟨S, Ms, ok, fun v S1 H1 M1 s1 ok1 r1 => by
    obtain ⟨S2, M2, s2, ok2, r2⟩ := ok1.freezeT r1 (.inl (List.getElem?_eq_none_iff.mpr hT))
    exact k v S2 H1 M2 (s1.trans s2) ok2 r2⟩
end
end J
namespace J
open PySem L2
/-! ### statements -/
section
variable {X : Cx} {Γ : En} {W : WX} {A A1 A2 A' B B1 B2 : Slots} {a b e : Expr} {es : List Expr} {pos : Pos} {i j : Int} {d d' : D} {ds : List D} {sl : Sl} {st : Stmt} {sts rest : List Stmt} {o o1 o2 : Out}
theorem jnil : PSs X [] (JS X.K Γ W A (.nx A)) := pssI pss_nil fun D σ H ⟨S, Ms, ok, k⟩ => k σ S H Ms (Same.refl S) ok
theorem jcons (h : PS X st (JS X.K Γ W A (.nx A1))) (r : PSs X rest (JS X.K Γ W A1 o)) : PSs X (st :: rest) (JS X.K Γ W A o) :=
  pssI (pss_cons h r) fun D σ H ⟨S, Ms, ok, k⟩ => ⟨S, Ms, ok, fun σ' S' H' M' s' ok' => ⟨S', M', ok', k.mono _ _ s'⟩⟩
theorem jlast (h : PS X st (JS X.K Γ W A o)) : PSs X [st] (JS X.K Γ W A o) := pss_one h
def Out.exit : Out → Bool
  | .nx _ => false
  | _ => true
/-- what follows an exit does not run -/
theorem jexit (h : PS X st (JS X.K Γ W A o)) (hx : o.exit = true) : PSs X (st :: rest) (JS X.K Γ W A o) := by
  have nv : PSs X rest (fun _ _ _ => False) := pss_never
  refine pssI (pss_cons h nv) fun D σ H ⟨S, Ms, ok, k⟩ => ⟨S, Ms, ok, ?_⟩
  cases o with
  | nx _ => cases hx
  | rt _ _ => exact k
  | er _ _ => exact k
  | bk _ => exact k
  | ct _ => exact k
theorem PS.jeq {o o' : Out} (h : PS X st (JS X.K Γ W A o)) (e : o = o') : PS X st (JS X.K Γ W A o') := e ▸ h
theorem jeqs {o o' : Out} (h : PSs X sts (JS X.K Γ W A o)) (e : o = o') : PSs X sts (JS X.K Γ W A o') := e ▸ h
inductive Wk : Slots → Slots → Prop
  | nil : Wk [] []
  | same {x : Option Sl} {A B : Slots} : Wk A B → Wk (x :: A) (x :: B)
  | drop {x : Option Sl} {A B : Slots} : Wk A B → Wk (x :: A) (none :: B)
theorem Wk.refl : ∀ A : Slots, Wk A A
  | [] => .nil
  | _ :: A => .same (Wk.refl A)
theorem Wk.len : ∀ {A B : Slots}, Wk A B → A.length = B.length
  | _, _, .nil => rfl
  | _, _, .same r => congrArg (· + 1) r.len
  | _, _, .drop r => congrArg (· + 1) r.len
theorem Wk.at : ∀ {A B : Slots}, Wk A B → ∀ (i : Nat) (a : Sl), B[i]? = some (some a) → A[i]? = some (some a)
  | _, _, .nil, _, _, e => by simp at e
  | _, _, .same r, 0, a, e => e
  | _, _, .same r, i + 1, a, e => by simpa using r.at i a (by simpa using e)
  | _, _, .drop r, 0, a, e => by simp at e
  | _, _, .drop r, i + 1, a, e => by simpa using r.at i a (by simpa using e)
theorem OK.wk {K : PySem.W.Frag} {σ : L2.St} {S H : Hp} {Ms : Nat → Hp} (ok : OK K Γ A σ S H Ms) (w : Wk A B) : OK K Γ B σ S H Ms := ok.weak w.len w.at
theorem jwk (h : PSs X sts (JS X.K Γ W A (.nx A1))) (w : Wk A1 B) : PSs X sts (JS X.K Γ W A (.nx B)) :=
  pssI h fun D σ H ⟨S, Ms, ok, k⟩ => ⟨S, Ms, ok, fun σ' S' H' M' s' ok' => k σ' S' H' M' s' (ok'.wk w)⟩
theorem jwk0 (h : PSs X sts (JS X.K Γ W B o)) (w : Wk A B) : PSs X sts (JS X.K Γ W A o) :=
  pssI h fun D σ H ⟨S, Ms, ok, k⟩ => ⟨S, Ms, ok.wk w, k⟩
/-- if -/
theorem jif {c : Bool} {t : Expr} {u v : List Stmt} (ht : PT X t (JT X.K Γ A c A1)) (hu : c = true → PSs X u (JS X.K Γ W A1 o1)) (hv : c = false → PSs X v (JS X.K Γ W A1 o2)) : PS X (.If t u v pos) (JS X.K Γ W A (if c then o1 else o2)) := by
  cases c with
  | true =>
    refine psI (ps_if ht (hu rfl) pss_never) fun D σ H ⟨S, Ms, ok, k⟩ => ⟨S, Ms, ok, fun S1 H1 M1 s1 ok1 => ?_⟩
    refine L2.iteT ?_
    exact ⟨S1, M1, ok1, k.mono _ _ s1⟩
  | false =>
    refine psI (ps_if ht pss_never (hv rfl)) fun D σ H ⟨S, Ms, ok, k⟩ => ⟨S, Ms, ok, fun S1 H1 M1 s1 ok1 => ?_⟩
    refine L2.iteF ?_
    exact ⟨S1, M1, ok1, k.mono _ _ s1⟩
/-- if t: u (that leaves); rest -/
theorem jifx {c : Bool} {t : Expr} {u : List Stmt} (ht : PT X t (JT X.K Γ A c A1)) (hu : c = true → PSs X u (JS X.K Γ W A1 o1)) (hx : o1.exit = true) (hv : c = false → PSs X rest (JS X.K Γ W A1 o2)) : PSs X (.If t u [] pos :: rest) (JS X.K Γ W A (if c then o1 else o2)) := by
  cases c with
  | true => exact jexit (jif ht hu (o2 := o2) (fun z => by cases z)) hx
  | false => exact jcons (jif (o1 := o2) ht (fun z => by cases z) (fun _ => jnil)) (hv rfl)
/-- both ways go on -/
theorem jife {c : Bool} {t : Expr} {u v : List Stmt} (ht : PT X t (JT X.K Γ A c A1)) (hu : c = true → PSs X u (JS X.K Γ W A1 (.nx B))) (hv : c = false → PSs X v (JS X.K Γ W A1 (.nx B))) (hr : PSs X rest (JS X.K Γ W B o)) : PSs X (.If t u v pos :: rest) (JS X.K Γ W A o) := by
  refine jcons ?_ hr
  have q := jif (pos := pos) ht hu hv
  rw [ite_self] at q
  exact q
/-- the value on the way goes into the slot i -/
theorem OK.store {K : PySem.W.Frag} {σ : L2.St} {S H : Hp} {Ms : Nat → Hp} {v : V} (ok : OK K Γ A σ S H Ms) (r : sl.r K S (Ms T) v) {i : Nat} (hi : i < A.length) (hT : A.length ≤ T) :
    OK K Γ (A.set i (some sl)) (σ.set i (some v)) S H (put (put Ms i (Ms T)) T emp) := by
  have hiT : i ≠ T := Nat.ne_of_lt (Nat.lt_of_lt_of_le hi hT)
  have hs : i < σ.length := by rw [ok.len]; exact hi
  have at' : ∀ j, j ≠ i → j ≠ T → put (put Ms i (Ms T)) T emp j = Ms j := fun j h1 h2 => by rw [put_ne h2, put_ne h1]
  have ati : put (put Ms i (Ms T)) T emp i = Ms T := by rw [put_ne hiT, put_same]
  have atT : put (put Ms i (Ms T)) T emp T = emp := put_same
  have src : ∀ j p u, put (put Ms i (Ms T)) T emp j p = some u → ∃ k, Ms k p = some u ∧ ((j = i ∧ k = T) ∨ (j ≠ i ∧ j ≠ T ∧ k = j)) := fun j p u e => by
    by_cases h2 : j = T
    · subst h2; rw [atT] at e; cases e
    · by_cases h1 : j = i
      · subst h1; rw [ati] at e; exact ⟨T, e, .inl ⟨rfl, rfl⟩⟩
      · rw [at' j h1 h2] at e; exact ⟨j, e, .inr ⟨h1, h2, rfl⟩⟩
  refine ⟨by rw [List.length_set, List.length_set]; exact ok.len, fun j a e => ?_, ok.sH, fun j p u e => ?_, fun j p u e => ?_, fun j l p u e ne => ?_, ok.s0, ok.sN, fun j p u e => ?_, ok.fr⟩
  · by_cases hj : j = i
    · subst hj
      rw [List.getElem?_set_self hi] at e
      cases e
      exact ⟨v, by rw [List.getElem?_set_self hs], by rw [ati]; exact r⟩
    · rw [List.getElem?_set_ne (Ne.symm hj)] at e
      have hjT : j ≠ T := fun z => by
        subst z
        rw [List.getElem?_eq_none_iff.mpr hT] at e
        cases e
      obtain ⟨w, h1, h2⟩ := ok.slot j a e
      exact ⟨w, by rw [List.getElem?_set_ne (Ne.symm hj)]; exact h1, by rw [at' j hj hjT]; exact h2⟩
  · obtain ⟨k, q, _⟩ := src j p u e
    exact ok.mH k p u q
  · obtain ⟨k, q, _⟩ := src j p u e
    exact ok.mS k p u q
  · obtain ⟨k, q, w⟩ := src j p u e
    cases q2 : put (put Ms i (Ms T)) T emp l p with
    | none => rfl
    | some u2 =>
      obtain ⟨k2, q3, w2⟩ := src l p u2 q2
      have hk : k ≠ k2 := fun z => by
        rcases w with ⟨h1, h2⟩ | ⟨h1, h2, h3⟩ <;> rcases w2 with ⟨g1, g2⟩ | ⟨g1, g2, g3⟩ <;> omega
      exact (nofree q3 (ok.dj k k2 p u q hk)).elim
  · obtain ⟨k, q, _⟩ := src j p u e
    exact ok.mN k p u q
theorem jset (n : Nat) {x : Str} {pos' : Pos} (he : PE X e (JE X.K Γ A sl A1)) (hN : X.N.Nodup) (hi : X.N[n]? = some x := by rfl) (hx : Loc X.env.scope x := by first | exact Or.inl rfl | exact Or.inr rfl) (hn : n < A1.length := by exact Nat.le_of_ble_eq_true rfl) (hT : A1.length ≤ T := by exact Nat.le_of_ble_eq_true rfl)
    (hs : swapsWith e (some (.Name x pos')) pos.line X.env = pure false := by rfl) (hf : X.fn x = true ∨ X.env.scope.names.lookup x = some .local := by first | exact .inl rfl | exact .inr rfl) : PS X (.Assign [.Name x pos'] e pos) (JS X.K Γ W A (.nx (A1.set n (some sl)))) :=
  psI (ps_set (i := n) hN hi hx he hs hf) fun D σ H ⟨S, Ms, ok, k⟩ => ⟨S, Ms, ok, fun v S1 H1 M1 s1 ok1 r1 => k _ S1 H1 _ s1 (ok1.store r1 hn hT)⟩
theorem jexpr (he : PE X e (JE X.K Γ A sl A1)) (hs : swapsWith e none pos.line X.env = pure false := by rfl) : PS X (.Expr e pos) (JS X.K Γ W A (.nx A1)) :=
  psI (ps_expr he hs) fun D σ H ⟨S, Ms, ok, k⟩ => ⟨S, Ms, ok, fun v S1 H1 M1 s1 ok1 r1 => k σ S1 H1 M1 s1 ok1⟩
theorem jret (he : PE X e (JE X.K Γ A sl A1)) : PS X (.Return (some e) pos) (JS X.K Γ W A (.rt sl A1)) :=
  psI (ps_ret he) fun D σ H ⟨S, Ms, ok, k⟩ => ⟨S, Ms, ok, fun v S1 H1 M1 s1 ok1 r1 => k v σ S1 H1 M1 s1 ok1 r1⟩
theorem jbrk : PS X (.Break pos) (JS X.K Γ W A (.bk A)) := psI ps_break fun D σ H ⟨S, Ms, ok, k⟩ => k σ S H Ms (Same.refl S) ok
theorem jcnt : PS X (.Continue pos) (JS X.K Γ W A (.ct A)) := psI ps_continue fun D σ H ⟨S, Ms, ok, k⟩ => k σ S H Ms (Same.refl S) ok
theorem jpass : PS X (.Pass pos) (JS X.K Γ W A (.nx A)) := psI ps_pass fun D σ H ⟨S, Ms, ok, k⟩ => k σ S H Ms (Same.refl S) ok
/-- a slot's list of one's own is frozen -/
theorem OK.freeze {K : PySem.W.Frag} {σ : L2.St} {S H : Hp} {Ms : Nat → Hp} (ok : OK K Γ A σ S H Ms) {n : Nat} {q : Option Addr} (h : A[n]? = some (some (.ol q ds))) : ∃ S' Ms', Same S S' ∧ OK K Γ (A.set n (some (.sh (.lst ds)))) σ S' H Ms' := by
  obtain ⟨v, h1, h2⟩ := ok.slot n _ h
  have hn : n < A.length := (List.getElem?_eq_some_iff.mp h).1
  have ok0 : OK K Γ (A.set n none) σ S H Ms := ok.weak (by rw [List.length_set]) fun i a e => by
    by_cases hi : i = n
    · subst hi; rw [List.getElem?_set_self hn] at e; cases e
    · rw [List.getElem?_set_ne (Ne.symm hi)] at e; exact e
  obtain ⟨S', Ms', s1, ok1, r⟩ := ok0.freezeT h2 (.inr (by rw [List.getElem?_set_self hn]))
  refine ⟨S', Ms', s1, { ok1 with len := by rw [List.length_set]; exact ok.len, slot := fun i a e => ?_ }⟩
  by_cases hi : i = n
  · subst hi
    rw [List.getElem?_set_self hn] at e
    cases e
    exact ⟨v, h1, r⟩
  · rw [List.getElem?_set_ne (Ne.symm hi)] at e
    exact ok1.slot i a (by rw [List.getElem?_set_ne (Ne.symm hi)]; exact e)
theorem jfz (n : Nat) {q : Option Addr} (hn : A[n]? = some (some (.ol q ds))) (h : PE X e (JE X.K Γ (A.set n (some (.sh (.lst ds)))) sl A')) : PE X e (JE X.K Γ A sl A') :=
  peI h fun σ H Q ⟨S, Ms, ok, k⟩ => by
    obtain ⟨S1, M1, s1, ok1⟩ := ok.freeze hn
    exact ⟨S1, M1, ok1, fun v S2 H2 M2 s2 ok2 r2 => k v S2 H2 M2 (s1.trans s2) ok2 r2⟩
theorem jfzs (n : Nat) {q : Option Addr} (hn : A[n]? = some (some (.ol q ds))) (h : PSs X sts (JS X.K Γ W (A.set n (some (.sh (.lst ds)))) o)) : PSs X sts (JS X.K Γ W A o) :=
  pssI h fun D σ H ⟨S, Ms, ok, k⟩ => by
    obtain ⟨S1, M1, s1, ok1⟩ := ok.freeze hn
    exact ⟨S1, M1, ok1, k.mono _ _ s1⟩
end
/-! ### defs -/
def Sl.pin : Sl → Option Addr
  | .ol o _ => o
  | .oi p _ _ => some p
  | _ => none
def keepP (a : Sl) (b : Option Sl) : Option Sl := match a.pin, b with
  | some p, some c => if c.pin = some p then some c else none
  | _, _ => none
def bOf : List Sl → Slots → Slots
  | [], _ => []
  | _ :: as, [] => none :: bOf as []
  | a :: as, b :: B => keepP a b :: bOf as B
theorem keepP_at {a : Sl} {b : Option Sl} {c : Sl} (e : keepP a b = some c) : b = some c ∧ ∃ p, a.pin = some p ∧ c.pin = some p := by
  unfold keepP at e
  cases h : a.pin with
  | none => rw [h] at e; cases e
  | some p =>
    rw [h] at e
    cases b with
    | none => cases e
    | some c' =>
      dsimp only at e
      by_cases h2 : c'.pin = some p
      · rw [if_pos h2] at e; cases e; exact ⟨rfl, p, rfl, h2⟩
      · rw [if_neg h2] at e; cases e
def fin (as : List Sl) : Out → Except Er (Sl × Slots)
  | .rt a A => .ok (a, bOf as A)
  | .nx A => .ok (.sh .non, bOf as A)
  | .er e _ => .error e
  | _ => .error fun _ _ _ _ _ => True
abbrev ownOf (Ms : Nat → Hp) : Addr → Prop := fun p => ∃ i u, Ms i p = some u
def spJ (K : PySem.W.Frag) (as : List Sl) (o : Except Er (Sl × Slots)) : Sp := fun vs H Q E => ∃ S Ms, OK K ⟨S, H, ownOf Ms⟩ (as.map some) (vs.map some) S H Ms ∧
  match o with
  | .ok (r, B) => ∀ v S' H' Ms', OK K ⟨S, H, ownOf Ms⟩ B (vs.map some) S' H' Ms' → r.r K S' (Ms' T) v → Q v H'
  | .error e => ∀ cls x S' H', Fr ⟨S, H, ownOf Ms⟩ S' H' → e K S' H' cls x → E cls x H'
theorem bOf_len : ∀ (as : List Sl) (A : Slots), (bOf as A).length = as.length
  | [], _ => rfl
  | _ :: as, [] => congrArg (· + 1) (bOf_len as [])
  | _ :: as, _ :: B => congrArg (· + 1) (bOf_len as B)
theorem bOf_at : ∀ (as : List Sl) (A : Slots) (i : Nat) (c : Sl), (bOf as A)[i]? = some (some c) → A[i]? = some (some c) ∧ ∃ a p, as[i]? = some a ∧ a.pin = some p ∧ c.pin = some p
  | [], _, i, c, e => by rw [bOf, List.getElem?_nil] at e; cases e
  | _ :: as, [], 0, c, e => by rw [bOf, List.getElem?_cons_zero] at e; cases e
  | _ :: as, [], i + 1, c, e => by
    rw [bOf, List.getElem?_cons_succ] at e
    obtain ⟨h, _⟩ := bOf_at as [] i c e
    rw [List.getElem?_nil] at h; cases h
  | a :: as, b :: B, i + 1, c, e => by
    rw [bOf, List.getElem?_cons_succ] at e
    rw [List.getElem?_cons_succ, List.getElem?_cons_succ]
    exact bOf_at as B i c e
  | a :: as, b :: B, 0, c, e => by
    rw [bOf, List.getElem?_cons_zero] at e
    obtain ⟨h, p, h1, h2⟩ := keepP_at (Option.some.inj e)
    rw [List.getElem?_cons_zero, h]
    exact ⟨rfl, a, p, rfl, h1, h2⟩
theorem Sl.pin_ref {K : PySem.W.Frag} {S M : Hp} {v : V} {p : Addr} : ∀ {a : Sl}, a.pin = some p → a.r K S M v → v = .ref p
  | .ol _ _, e, ⟨q, _, h0, h1, _⟩ => by rw [h1, h0 p e]
  | .oi q _ _, e, ⟨_, _, h1, _⟩ => by rw [h1]; exact congrArg V.ref (Option.some.inj e)
  | .sh _, e, _ => by cases e
  | .oll _, e, _ => by cases e
theorem start_get {N : List Str} {vs : List V} {i : Nat} {v : V} (h : vs[i]? = some v) : (L2.start N vs)[i]? = some (some v) := by
  unfold L2.start
  have hi : i < (vs.map some).length := by rw [List.length_map]; exact (List.getElem?_eq_some_iff.mp h).1
  rw [List.getElem?_append_left hi, List.getElem?_map, h] <;> rfl
/-- the slots at the entry -/
def slots0 (N : List Str) (as : List Sl) : Slots := as.map some ++ List.replicate (N.length - as.length) none
theorem ok_start {K : PySem.W.Frag} {Γ : En} {as : List Sl} {vs : List V} {N : List Str} {S H : Hp} {Ms : Nat → Hp} (ok : OK K Γ (as.map some) (vs.map some) S H Ms) : OK K Γ (slots0 N as) (L2.start N vs) S H Ms := by
  have hl : vs.length = as.length := by have := ok.len; rw [List.length_map, List.length_map] at this; exact this
  refine { ok with len := ?_, slot := fun i a e => ?_ }
  · unfold L2.start slots0
    rw [List.length_append, List.length_append, List.length_map, List.length_map, List.length_replicate, List.length_replicate, hl]
  · unfold slots0 at e
    have hi : i < (as.map some).length := by
      rcases Nat.lt_or_ge i (as.map some).length with h | h
      · exact h
      · rw [List.getElem?_append_right h] at e
        have := List.mem_of_getElem? e
        rw [List.mem_replicate] at this
        cases this.2
    rw [List.getElem?_append_left hi] at e
    obtain ⟨v, h1, h2⟩ := ok.slot i a e
    refine ⟨v, ?_, h2⟩
    rw [List.getElem?_map] at h1
    cases q : vs[i]? with
    | none => rw [q] at h1; cases h1
    | some w => rw [q] at h1; cases h1; exact start_get q
/-- from the end of a body to the promise -/
theorem OK.leave {K : PySem.W.Frag} {Γ : En} {as : List Sl} {vs : List V} {A : Slots} {σ : L2.St} {S S' H H' : Hp} {Ms Ms' : Nat → Hp} (ok0 : OK K Γ (as.map some) (vs.map some) S H Ms) (ok : OK K Γ A σ S' H' Ms') : OK K Γ (bOf as A) (vs.map some) S' H' Ms' := by
  refine { ok with len := ?_, slot := fun i c e => ?_ }
  · have := ok0.len
    rw [List.length_map, List.length_map] at this
    rw [bOf_len, List.length_map, this]
  · obtain ⟨h1, a, p, h2, h3, h4⟩ := bOf_at _ _ _ _ e
    obtain ⟨v, g1, g2⟩ := ok.slot i c h1
    have ev := Sl.pin_ref h4 g2
    obtain ⟨w, k1, k2⟩ := ok0.slot i a (by rw [List.getElem?_map, h2]; rfl)
    have ew := Sl.pin_ref h3 k2
    exact ⟨v, by rw [k1, ew, ev], g2⟩
section
variable {P : Program} {w : World} {K : PySem.W.Frag} {mg : Str → Option Value} {base : Heap}
theorem wish_ends {Γ : En} {as : List Sl} {vs : List V} {S H : Hp} {Ms : Nat → Hp} {Q : VK} {E : XK} {o : Out} (hΓ : Γ = ⟨S, H, ownOf Ms⟩) (ok0 : OK K Γ (as.map some) (vs.map some) S H Ms)
    (h : match fin as o with | .ok (r, B) => ∀ v S' H' Ms', OK K Γ B (vs.map some) S' H' Ms' → r.r K S' (Ms' T) v → Q v H' | .error e => ∀ cls x S' H', Fr Γ S' H' → e K S' H' cls x → E cls x H') (hb : ∀ A, o ≠ .bk A) (hc : ∀ A, o ≠ .ct A) :
    Post K Γ (fun cls d _ H => E cls d H) S o { nx := fun _ H' => Q .non H', rt := Q } := by
  cases o with
  | nx A => exact fun σ S' H' M' _ ok' => h _ S' H' M' (ok0.leave ok') .non
  | rt a A => exact fun v σ S' H' M' _ ok' r => h v S' H' M' (ok0.leave ok') r
  | er e A => exact fun cls x σ S' H' M' _ ok' r => h cls x S' H' ok'.frm r
  | bk A => exact (hb A rfl).elim
  | ct A => exact (hc A rfl).elim
/-- THE RULE for a def: over all the letters i with Pre -/
def spF {ι : Type} (K : PySem.W.Frag) (Pre : ι → Prop) (as : ι → List Sl) (o : ι → Except Er (Sl × Slots)) : Sp := fun vs H Q E => ∃ i, Pre i ∧ spJ K (as i) (o i) vs H Q E
theorem jdef {ι : Type} {x qual : Str} {st : Stmt} {f : Addr} {fd : FuncData} {N ps : List Str} {k : Nat} (F : Fun K x qual st f fd) (Sc : FnScope N ps (defScope st)) (Pre : ι → Prop) (as : ι → List Sl) (out : ι → Out) (o : ι → Except Er (Sl × Slots))
    (hl : ∀ i, (as i).length = ps.length) (ho : ∀ i, Pre i → fin (as i) (out i) = o i) (hb : ∀ i A, out i ≠ .bk A) (hc : ∀ i A, out i ≠ .ct A)
    (body : ∀ (i : ι), Pre i → ∀ (cdv : Value) (A : Around) (outer : List Env) (s : Shared) (H : Hp) (E : XK) (Γ : En), Room k (A.deeper (PyProof.Rows.envOfC qual (defScope st) s.heap.objs.size f cdv)) →
      Takes (cxOf (L2.CX P w) P w K mg base N qual (defScope st) f cdv A outer s H E) (fun cls d _ H => E cls d H) →
      PSs (cxOf (L2.CX P w) P w K mg base N qual (defScope st) f cdv A outer s H E) (defBody st) (JS K Γ (fun cls d _ H => E cls d H) (slots0 N (as i)) (out i))) :
    FnOk P w K mg base (L2.CX P w) (k + 1) f fd ps (spF K Pre as o) := by
  refine F.okX Sc (fun vs H Q E h => ?_) (fun cdv A outer s H vs Q E hr h => ?_)
  · obtain ⟨i, _, S, Ms, ok, _⟩ := h
    have := ok.len
    rw [List.length_map, List.length_map] at this
    rw [this, hl i]
  · obtain ⟨i, hp, S, Ms, ok, q⟩ := h
    refine ⟨_, body i hp cdv A outer s H E ⟨S, H, ownOf Ms⟩ hr (takes_of rfl rfl rfl rfl), S, Ms, ok_start ok, ?_⟩
    rw [← ho i hp] at q
    exact wish_ends rfl ok q (hb i) (hc i)
end
end J
namespace J
open PySem L2
/-! ### behind a call -/
section
variable {K : PySem.W.Frag} {Γ : En} {A B : Slots} {σ σc : L2.St} {S H S' H' : Hp} {Ms M' : Nat → Hp} {own : Addr → Prop}
theorem OK.nf (ok : OK K Γ A σ S H Ms) {b : Addr} (n : H b = none) : Γ.H0 b = none ∨ Γ.own b := by
  cases q : Γ.H0 b with
  | none => exact .inl rfl
  | some w =>
    by_cases ho : Γ.own b
    · exact .inr ho
    · exact (nofree (ok.fr b w q ho) n).elim
/-- the callee had the slot j's heaplet at its i0 -/
theorem OK.back (ok : OK K Γ A σ S H Ms) (okc : OK K ⟨S, H, own⟩ B σc S' H' M') {j i0 : Nat} (ho : ∀ p, own p → ∃ u, Ms j p = some u) (hi : i0 ≠ T) (hj : j ≠ T) (hT : A.length ≤ T) {b : Option Sl}
    (hb : ∀ a, b = some a → j < A.length → ∃ v, σ[j]? = some (some v) ∧ a.r K S' (M' i0) v) : OK K Γ (A.set j b) σ S' H' (put (put Ms j (M' i0)) T (M' T)) := by
  have nown : ∀ i p u, i ≠ j → Ms i p = some u → ¬ own p := fun i p u hij e o => by
    obtain ⟨w, hw⟩ := ho p o
    exact nofree hw (ok.dj i j p u e hij)
  have n1 : ∀ i p u, i ≠ j → Ms i p = some u → M' T p = none ∧ M' i0 p = none := fun i p u hij e => by
    have hk : ∀ k, M' k p = none := fun k => by
      cases q : M' k p with
      | none => rfl
      | some w =>
        rcases okc.mN k p w q with z | z
        · exact (nofree (ok.mH i p u e) z).elim
        · exact (nown i p u hij e z).elim
    exact ⟨hk T, hk i0⟩
  have src : ∀ i p u, put (put Ms j (M' i0)) T (M' T) i p = some u → (i = T ∧ M' T p = some u) ∨ (i = j ∧ M' i0 p = some u) ∨ (i ≠ T ∧ i ≠ j ∧ Ms i p = some u) := fun i p u e => by
    by_cases h1 : i = T
    · subst h1; rw [put_same] at e; exact .inl ⟨rfl, e⟩
    · rw [put_ne h1] at e
      by_cases h2 : i = j
      · subst h2; rw [put_same] at e; exact .inr (.inl ⟨rfl, e⟩)
      · rw [put_ne h2] at e; exact .inr (.inr ⟨h1, h2, e⟩)
  refine ⟨by rw [List.length_set]; exact ok.len, fun i a e => ?_, okc.sH, fun i p u e => ?_, fun i p u e => ?_, fun i l p u e ne => ?_, ok.s0.trans okc.s0, fun p u e => ?_, fun i p u e => ?_, fun p u e n => ?_⟩
  · have hiT : i ≠ T := fun z => by
      subst z
      have : (A.set j b)[T]? = none := List.getElem?_eq_none_iff.mpr (by rw [List.length_set]; exact hT)
      rw [this] at e; cases e
    by_cases hij : i = j
    · subst hij
      have hl : i < A.length := by
        rcases Nat.lt_or_ge i A.length with h | h
        · exact h
        · rw [List.getElem?_eq_none_iff.mpr (by rw [List.length_set]; exact h)] at e; cases e
      rw [List.getElem?_set_self hl] at e
      obtain ⟨v, h1, h2⟩ := hb a (Option.some.inj e) hl
      exact ⟨v, h1, by rw [put_ne hiT, put_same]; exact h2⟩
    · rw [List.getElem?_set_ne (Ne.symm hij)] at e
      obtain ⟨v, h1, h2⟩ := ok.slot i a e
      exact ⟨v, h1, by rw [put_ne hiT, put_ne hij]; exact Sl.mono okc.s0 h2⟩
  · rcases src i p u e with ⟨_, q⟩ | ⟨_, q⟩ | ⟨_, h2, q⟩
    · exact okc.mH T p u q
    · exact okc.mH i0 p u q
    · exact okc.fr p u (ok.mH i p u q) (nown i p u h2 q)
  · rcases src i p u e with ⟨_, q⟩ | ⟨_, q⟩ | ⟨_, h2, q⟩
    · exact okc.mS T p u q
    · exact okc.mS i0 p u q
    · cases q2 : S' p with
      | none => rfl
      | some w =>
        rcases okc.sN p w q2 with ⟨z, hz⟩ | z | z
        · exact (nofree hz (ok.mS i p u q)).elim
        · exact (nofree (ok.mH i p u q) z).elim
        · exact (nown i p u h2 q z).elim
  · cases q2 : put (put Ms j (M' i0)) T (M' T) l p with
    | none => rfl
    | some w =>
      rcases src i p u e with ⟨h1, q⟩ | ⟨h1, q⟩ | ⟨h1, h2, q⟩ <;> rcases src l p w q2 with ⟨g1, r⟩ | ⟨g1, r⟩ | ⟨g1, g2, r⟩
      · exact (ne (h1.trans g1.symm)).elim
      · exact (nofree r (okc.dj T i0 p u q (Ne.symm hi))).elim
      · exact (nofree q (n1 l p w g2 r).1).elim
      · exact (nofree r (okc.dj i0 T p u q hi)).elim
      · exact (ne (h1.trans g1.symm)).elim
      · exact (nofree q (n1 l p w g2 r).2).elim
      · exact (nofree r (n1 i p u h2 q).1).elim
      · exact (nofree r (n1 i p u h2 q).2).elim
      · exact (nofree r (ok.dj i l p u q ne)).elim
  · rcases okc.sN p u e with ⟨z, hz⟩ | z | z
    · exact ok.sN p z hz
    · exact .inr (ok.nf z)
    · obtain ⟨w, hw⟩ := ho p z
      exact .inr (ok.mN j p w hw)
  · have f : ∀ k, M' k p = some u → Γ.H0 p = none ∨ Γ.own p := fun k q => by
      rcases okc.mN k p u q with z | z
      · exact ok.nf z
      · obtain ⟨w, hw⟩ := ho p z
        exact ok.mN j p w hw
    rcases src i p u e with ⟨_, q⟩ | ⟨_, q⟩ | ⟨_, _, q⟩
    · exact f T q
    · exact f i0 q
    · exact ok.mN i p u q
  · refine okc.fr p u (ok.fr p u e n) fun o => ?_
    obtain ⟨w, hw⟩ := ho p o
    rcases ok.mN j p w hw with z | z
    · exact nofree e z
    · exact n z
theorem set_out {α : Type} {A : List α} {j : Nat} {b : α} (h : A.length ≤ j) : A.set j b = A := List.set_eq_of_length_le h
theorem OK.back0 (ok : OK K Γ A σ S H Ms) (okc : OK K ⟨S, H, own⟩ B σc S' H' M') (ho : ∀ p, ¬ own p) (hT : A.length ≤ 900) : ∃ M1, OK K Γ A σ S' H' M1 ∧ M1 T = M' T := by
  have q := ok.back (j := 998) (i0 := 999) okc (fun p o => (ho p o).elim) (by decide) (by decide) (by show A.length ≤ 1000; omega) (b := none) (fun a e => by cases e)
  rw [set_out (by omega)] at q
  exact ⟨_, q, put_same⟩
theorem OK.shared (ok : OK K Γ A σ S H Ms) {vs : List V} {ds : List D} (r : Rds K S vs ds) : OK K ⟨S, H, ownOf fun _ => emp⟩ ((ds.map Sl.sh).map some) (vs.map some) S H (fun _ => emp) where
  len := by rw [List.length_map, List.length_map, List.length_map]; exact r.len
  slot := fun i a e => by
    rw [List.getElem?_map, List.getElem?_map] at e
    cases q : ds[i]? with
    | none => rw [q] at e; cases e
    | some d =>
      rw [q] at e; cases e
      obtain ⟨v, h1, h2⟩ := r.get q
      exact ⟨v, by rw [List.getElem?_map, h1]; rfl, h2⟩
  sH := ok.sH
  mH := fun _ _ _ e => by cases e
  mS := fun _ _ _ e => by cases e
  dj := fun _ _ _ _ e => by cases e
  s0 := Same.refl S
  sN := fun p o e => .inl ⟨o, e⟩
  mN := fun _ _ _ e => by cases e
  fr := fun _ _ e _ => e
theorem no_own : ∀ p, ¬ ownOf (fun _ => emp) p := fun p ⟨_, _, e⟩ => by cases e
end
section
variable {X : Cx} {Γ : En} {W : WX} {A A1 A2 A' B B1 B2 : Slots} {a b e : Expr} {es : List Expr} {p pos apos : Pos} {i j : Int} {d d' : D} {ds dds : List D} {sl r : Sl} {x m : Str} {f C : Addr} {fd : FuncData} {ps : List Str} {sp : Sp} {k : Nat} {dvs : List V} {dv : List Value}
/-- a promise over data alone is met -/
theorem meet {K : PySem.W.Frag} {σ : L2.St} {S H : Hp} {Ms : Nat → Hp} {Q : VK} {E : XK} {vs : List V} (ok : OK K Γ A1 σ S H Ms) (r1 : Rds K S vs ds) (hs : ∀ vs H Q E, spJ K (ds.map Sl.sh) (.ok (r, B)) vs H Q E → sp vs H Q E) (hT : A1.length ≤ 900)
    (kq : ∀ v S' H' Ms', Same S S' → OK K Γ A1 σ S' H' Ms' → r.r K S' (Ms' T) v → Q v H') : sp vs H Q E := by
  refine hs _ _ _ _ ⟨S, fun _ => emp, ok.shared r1, fun v S' H' M' okc rr => ?_⟩
  obtain ⟨M1, ok2, e⟩ := ok.back0 okc no_own hT
  exact kq v S' H' M1 okc.s0 ok2 (by rw [e]; exact rr)
theorem Rds.appd {K : PySem.W.Frag} {S : Hp} {vs dvs : List V} (h : Rds K S vs ds) (hd : Rds K S dvs dds) : Rds K S (vs ++ dvs) (ds ++ dds) := h.app hd
/-- f(..) over data, defaults filled up -/
theorem jcallD (F : FnOk X.prog X.w X.K X.mg X.base (L2.CX X.prog X.w) k f fd ps sp) (hr : Room k X.A) (hm : X.mg x = some (.ref f)) (hk : PySem.W.keepIn X.K (.ref f) = true) (hb : Binds X.K fd ps dv) (hv : Vals dvs dv) (hd : ∀ S, Rds X.K S dvs dds) (ha : PA X (e :: es) (JA X.K Γ A ds A1))
    (hs : ∀ vs H Q E, spJ X.K ((ds ++ dds).map Sl.sh) (.ok (r, B)) vs H Q E → sp vs H Q E) (hT : A1.length ≤ 900 := by exact Nat.le_of_ble_eq_true rfl) (hg : Gl X x := by rfl) (hdb : (x == ("__debug__" : Str)) = false := by decide)
    (he : starEach (e :: es) X.env = (false, eval e X.env) :: starEach es X.env := by rfl) (hpl : (backTo pos (starEach es X.env)).any (·.1) = false := by rfl) : PE X (.Call (.Name x p) (e :: es) [] pos) (JE X.K Γ A r A1) :=
  peI (pe_call F hr hg hm hk hb hv passL ha hdb he hpl) fun σ H Q ⟨S, Ms, ok, kq⟩ => ⟨S, Ms, ok, fun vs S1 H1 M1 s1 ok1 r1 =>
    meet ok1 (r1.appd (hd S1)) hs hT fun v S' H' M' s' ok' rr => kq v S' H' M' (s1.trans s') ok' rr⟩
theorem jcall (F : FnOk X.prog X.w X.K X.mg X.base (L2.CX X.prog X.w) k f fd ps sp) (hr : Room k X.A) (hm : X.mg x = some (.ref f)) (hk : PySem.W.keepIn X.K (.ref f) = true) (hb : Binds X.K fd ps []) (ha : PA X (e :: es) (JA X.K Γ A ds A1))
    (hs : ∀ vs H Q E, spJ X.K (ds.map Sl.sh) (.ok (r, B)) vs H Q E → sp vs H Q E) (hT : A1.length ≤ 900 := by exact Nat.le_of_ble_eq_true rfl) (hg : Gl X x := by rfl) (hdb : (x == ("__debug__" : Str)) = false := by decide)
    (he : starEach (e :: es) X.env = (false, eval e X.env) :: starEach es X.env := by rfl) (hpl : (backTo pos (starEach es X.env)).any (·.1) = false := by rfl) : PE X (.Call (.Name x p) (e :: es) [] pos) (JE X.K Γ A r A1) :=
  jcallD (dds := []) F hr hm hk hb .nil (fun _ => .nil) ha (by rw [List.append_nil]; exact hs) hT hg hdb he hpl
theorem jcall0 (F : FnOk X.prog X.w X.K X.mg X.base (L2.CX X.prog X.w) k f fd ps sp) (hr : Room k X.A) (hm : X.mg x = some (.ref f)) (hk : PySem.W.keepIn X.K (.ref f) = true) (hb : Binds X.K fd ps [])
    (hs : ∀ vs H Q E, spJ X.K [] (.ok (r, B)) vs H Q E → sp vs H Q E) (hT : A.length ≤ 900 := by exact Nat.le_of_ble_eq_true rfl) (hg : Gl X x := by rfl) (hdb : (x == ("__debug__" : Str)) = false := by decide) : PE X (.Call (.Name x p) [] [] pos) (JE X.K Γ A r A) :=
  peI (pe_call0 F hr hg hm hk hb .nil passL hdb) fun σ H Q ⟨S, Ms, ok, kq⟩ => meet (ds := []) (vs := []) ok .nil hs hT kq
end
end J
namespace J
open PySem L2
section
variable {K : PySem.W.Frag} {Γ : En} {A B : Slots} {σ : L2.St} {S H : Hp} {Ms : Nat → Hp}
def joinH (S M : Hp) : Hp := fun b => match M b with | some o => some o | none => S b
theorem joinH_l {S M : Hp} {b : Addr} {o : HO} (h : M b = some o) : joinH S M b = some o := by unfold joinH; rw [h]
theorem joinH_r {S M : Hp} {b : Addr} (h : M b = none) : joinH S M b = S b := by unfold joinH; rw [h]
/-- a heaplet that no slot needs is frozen -/
theorem OK.freezeM (ok : OK K Γ A σ S H Ms) {k : Nat} (hk : A[k]? = none ∨ A[k]? = some none) : OK K Γ A σ (joinH S (Ms k)) H (put Ms k emp) ∧ Same S (joinH S (Ms k)) ∧ Same (Ms k) (joinH S (Ms k)) := by
  have s1 : Same S (joinH S (Ms k)) := fun b u e => by
    cases q : Ms k b with
    | none => rw [joinH_r q]; exact e
    | some w => exact (nofree e (ok.mS k b w q)).elim
  have src : ∀ b u, joinH S (Ms k) b = some u → Ms k b = some u ∨ S b = some u := fun b u e => by
    cases q : Ms k b with
    | none => rw [joinH_r q] at e; exact .inr e
    | some w => rw [joinH_l q] at e; exact .inl e
  refine ⟨⟨ok.len, fun i a e => ?_, fun b u e => ?_, fun i b u e => ?_, fun i b u e => ?_, fun i j b u e ne => ?_, ok.s0.trans s1, fun b u e => ?_, fun i b u e => ?_, ok.fr⟩, s1, fun b u e => joinH_l e⟩
  · have hi : i ≠ k := fun z => by subst z; rcases hk with z | z <;> rw [z] at e <;> cases e
    rw [put_ne hi]
    obtain ⟨v, h1, h2⟩ := ok.slot i a e
    exact ⟨v, h1, Sl.mono s1 h2⟩
  · rcases src b u e with z | z
    · exact ok.mH k b u z
    · exact ok.sH b u z
  · by_cases hi : i = k
    · subst hi; rw [put_same] at e; cases e
    · rw [put_ne hi] at e; exact ok.mH i b u e
  · by_cases hi : i = k
    · subst hi; rw [put_same] at e; cases e
    · rw [put_ne hi] at e
      rw [joinH_r (ok.dj i k b u e hi)]; exact ok.mS i b u e
  · by_cases hi : i = k
    · subst hi; rw [put_same] at e; cases e
    · rw [put_ne hi] at e
      by_cases hj : j = k
      · subst hj; rw [put_same]; rfl
      · rw [put_ne hj]; exact ok.dj i j b u e ne
  · rcases src b u e with z | z
    · exact .inr (ok.mN k b u z)
    · exact ok.sN b u z
  · by_cases hi : i = k
    · subst hi; rw [put_same] at e; cases e
    · rw [put_ne hi] at e; exact ok.mN i b u e
/-- the callee's entry: one heaplet of one's own, then data -/
theorem OK.entry1 (ok : OK K Γ A σ S H Ms) {M : Hp} {a : Sl} {v : V} {vs : List V} {ds : List D} (hM : Same M H) (hS : ∀ p o, M p = some o → S p = none) (ra : a.r K S M v) (r : Rds K S vs ds) :
    OK K ⟨S, H, ownOf (put (fun _ => emp) 0 M)⟩ ((a :: ds.map Sl.sh).map some) ((v :: vs).map some) S H (put (fun _ => emp) 0 M) where
  len := by rw [List.length_map, List.length_map, List.length_cons, List.length_cons, List.length_map]; exact congrArg (· + 1) r.len
  slot := fun i b e => by
    cases i with
    | zero =>
      cases e
      exact ⟨v, rfl, by rw [put_same]; exact ra⟩
    | succ i =>
      rw [List.map_cons, List.getElem?_cons_succ, List.getElem?_map, List.getElem?_map] at e
      cases q : ds[i]? with
      | none => rw [q] at e; cases e
      | some d =>
        rw [q] at e; cases e
        obtain ⟨w, h1, h2⟩ := r.get q
        exact ⟨w, by rw [List.map_cons, List.getElem?_cons_succ, List.getElem?_map, h1]; rfl, h2⟩
  sH := ok.sH
  mH := fun i p o e => by
    by_cases hi : i = 0
    · subst hi; rw [put_same] at e; exact hM p o e
    · rw [put_ne hi] at e; cases e
  mS := fun i p o e => by
    by_cases hi : i = 0
    · subst hi; rw [put_same] at e; exact hS p o e
    · rw [put_ne hi] at e; cases e
  dj := fun i j p o e ne => by
    by_cases hi : i = 0
    · subst hi; rw [put_ne (fun z => ne z.symm)]; rfl
    · rw [put_ne hi] at e; cases e
  s0 := Same.refl S
  sN := fun p o e => .inl ⟨o, e⟩
  mN := fun i p o e => .inr ⟨i, o, e⟩
  fr := fun _ _ e _ => e
theorem own1 {M : Hp} {p : Addr} (h : ownOf (put (fun _ => emp) 0 M) p) : ∃ u, M p = some u := by
  obtain ⟨i, u, e⟩ := h
  by_cases hi : i = 0
  · subst hi; rw [put_same] at e; exact ⟨u, e⟩
  · rw [put_ne hi] at e; cases e
end
section
variable {X : Cx} {Γ : En} {W : WX} {A A1 A2 A' B B1 B2 : Slots} {a b e o : Expr} {es : List Expr} {p pos apos : Pos} {i j : Int} {d d' : D} {ds dds ds1 ds2 : List D} {sl r : Sl} {x m y : Str} {f C : Addr} {fd : FuncData} {ps : List Str} {sp : Sp} {k : Nat} {dvs : List V} {dv : List Value} {q : Option Addr}
/-- f(y, ..), y a list of one's own in the slot n, the rest data -/
theorem jcallO (n : Nat) {py : Pos} {Bt : Addr → Slots} (F : FnOk X.prog X.w X.K X.mg X.base (L2.CX X.prog X.w) k f fd ps sp) (hr : Room k X.A) (hm : X.mg x = some (.ref f)) (hk : PySem.W.keepIn X.K (.ref f) = true) (hb : Binds X.K fd ps []) (hn : A[n]? = some (some (.ol q ds1)))
    (ha : PA X es (JA X.K Γ A ds A1)) (hn1 : A1[n]? = some (some (.ol q ds1))) (hs : ∀ p vs H Q E, spJ X.K (.ol (some p) ds1 :: ds.map Sl.sh) (.ok (r, some (.ol (some p) ds2) :: Bt p)) vs H Q E → sp vs H Q E) (hN : X.N[n]? = some y := by rfl)
    (hv : Vis X.env.scope y := by first | exact Or.inl rfl | exact Or.inr (Or.inl rfl) | exact Or.inr (Or.inr rfl)) (hT : A1.length ≤ 900 := by exact Nat.le_of_ble_eq_true rfl) (hg : Gl X x := by rfl) (hdb : (x == ("__debug__" : Str)) = false := by decide) (hd1 : (y == ("__debug__" : Str)) = false := by decide)
    (hcd : (y == ("__classdict__" : Str)) = false := by decide) (hs0 : starEach (.Name y py :: es) X.env = (false, eval (.Name y py) X.env) :: starEach es X.env := by rfl)
    (hpl : (backTo pos (starEach es X.env)).any (·.1) = false := by rfl) : PE X (.Call (.Name x p) (.Name y py :: es) [] pos) (JE X.K Γ A r (A1.set n (some (.ol q ds2)))) :=
  peI (pe_call F hr hg hm hk hb .nil passL (pa_cons (pe_var hN hv hd1 hcd) ha hs0) hdb hs0 hpl) fun σ H Q ⟨S, Ms, ok, kq⟩ => by
    obtain ⟨v, hv1, _⟩ := ok.slot n _ hn
    refine ⟨v, hv1, S, Ms, ok, fun vs S1 H1 M1 s1 ok1 r1 => ?_⟩
    obtain ⟨v', hv2, rv⟩ := ok1.slot n _ hn1
    rw [hv1] at hv2
    cases hv2
    obtain ⟨p, ws, h0, rfl, hM, rr⟩ := rv
    rw [List.append_nil]
    refine hs p _ _ _ _ ⟨S1, put (fun _ => emp) 0 (M1 n), ok1.entry1 (ok1.mH n) (fun p o e => ok1.mS n p o e) ⟨p, ws, fun q e => Option.some.inj e, rfl, hM, rr⟩ r1, fun v S' H' M' okc rv => ?_⟩
    have q2 := ok1.back (j := n) (i0 := 0) okc (fun p o => own1 o) (by decide) (fun z => by
      have : n < A1.length := (List.getElem?_eq_some_iff.mp hn1).1
      subst z; exact absurd this (by show ¬ 1000 < _; omega)) (by show A1.length ≤ 1000; omega) (b := some (.ol q ds2)) (fun a e _ => by
        cases e
        obtain ⟨v2, g1, g2⟩ := okc.slot 0 _ rfl
        cases g1
        obtain ⟨p2, ws2, g0, g3, g4, g5⟩ := g2
        cases g3
        exact ⟨_, hv1, p, ws2, fun q' z => h0 q' z, rfl, g4, g5⟩)
    exact kq v S' H' _ (s1.trans okc.s0) q2 (by rw [put_same]; exact rv)
/-- o.m(e, ..) of an instance -/
theorem jmeth {gs : List (Str × D)} (he : PE X o (JE X.K Γ A (.sh (.ins C gs)) A1)) (c : Cls X.K C) (hm : Meth X.K C m f) (F : FnOk X.prog X.w X.K X.mg X.base (L2.CX X.prog X.w) k f fd ps sp) (hr : Room k X.A) (hb : Binds X.K fd ps []) (hl : gs.lookup m = none)
    (ha : PA X (e :: es) (JA X.K Γ A1 ds A2)) (hs : ∀ vs H Q E, spJ X.K ((D.ins C gs :: ds).map Sl.sh) (.ok (r, B)) vs H Q E → sp vs H Q E) (hT : A2.length ≤ 900)
    (h : ∀ (he : PE X o (JE X.K Γ A (.sh (.ins C gs)) A1)) (ha : PA X (e :: es) (JA X.K Γ A1 ds A2)), PE X (.Call (.Attribute o m apos) (e :: es) [] pos) (tMeth C m sp [] E0 (JE X.K Γ A (.sh (.ins C gs)) A1) (JA X.K Γ A1 ds A2))) :
    PE X (.Call (.Attribute o m apos) (e :: es) [] pos) (JE X.K Γ A r A2) :=
  peI (h he ha) fun σ H Q ⟨S, Ms, ok, kq⟩ => ⟨S, Ms, ok, fun v S1 H1 M1 s1 ok1 r1 => by
    cases r1 with
    | ins h1 rf =>
      rename_i a dx fs
      refine ⟨a, dx, fs, rfl, ok1.sH _ _ h1, rf.none hl, S1, M1, ok1, fun vs S2 H2 M2 s2 ok2 r2 => ?_⟩
      show sp (V.ref a :: (vs ++ [])) H2 Q E0
      rw [List.append_nil]
      exact meet ok2 (.cons (.ins (s2 _ _ h1) (rf.mono s2)) r2) hs hT fun v S' H' M' s' ok' rr => kq v S' H' M' ((s1.trans s2).trans s') ok' rr⟩
theorem jmeth0 {gs : List (Str × D)} (he : PE X o (JE X.K Γ A (.sh (.ins C gs)) A1)) (hl : gs.lookup m = none) (hs : ∀ vs H Q E, spJ X.K ((D.ins C gs :: []).map Sl.sh) (.ok (r, B)) vs H Q E → sp vs H Q E) (hT : A1.length ≤ 900)
    (h : ∀ (he : PE X o (JE X.K Γ A (.sh (.ins C gs)) A1)), PE X (.Call (.Attribute o m apos) [] [] pos) (tMeth C m sp [] E0 (JE X.K Γ A (.sh (.ins C gs)) A1) tNil)) :
    PE X (.Call (.Attribute o m apos) [] [] pos) (JE X.K Γ A r A1) :=
  peI (h he) fun σ H Q ⟨S, Ms, ok, kq⟩ => ⟨S, Ms, ok, fun v S1 H1 M1 s1 ok1 r1 => by
    cases r1 with
    | ins h1 rf =>
      rename_i a dx fs
      refine ⟨a, dx, fs, rfl, ok1.sH _ _ h1, rf.none hl, ?_⟩
      exact meet (vs := [V.ref a]) ok1 (.cons (.ins h1 rf) .nil) hs hT fun v S' H' M' s' ok' rr => kq v S' H' M' (s1.trans s') ok' rr⟩
/-- C(e, ..) -/
theorem jmake {gs : List (Str × D)} {fi : Addr} {Bt : Addr → Slots} (M : Mk X.K C fi) (F : FnOk X.prog X.w X.K X.mg X.base (L2.CX X.prog X.w) k fi fd ps sp) (hr : Room (k + 1) X.A) (hm : X.mg x = some (.ref C)) (hb : Binds X.K fd ps dv) (hv : Vals dvs dv) (hd : ∀ S, Rds X.K S dvs dds) (ha : PA X (e :: es) (JA X.K Γ A ds A1))
    (hs : ∀ p vs H Q E, spJ X.K (.oi p C [] :: (ds ++ dds).map Sl.sh) (.ok (.sh .non, some (.oi p C gs) :: Bt p)) vs H Q E → sp vs H Q E) (hT : A1.length ≤ 900 := by exact Nat.le_of_ble_eq_true rfl) (hg : Gl X x := by rfl) (hdb : (x == ("__debug__" : Str)) = false := by decide)
    (he : starEach (e :: es) X.env = (false, eval e X.env) :: starEach es X.env := by rfl) (hpl : (backTo pos (starEach es X.env)).any (·.1) = false := by rfl) : PE X (.Call (.Name x p) (e :: es) [] pos) (JE X.K Γ A (.sh (.ins C gs)) A1) :=
  peI (pe_make M F hr hg hm hb hv passL ha hdb he hpl) fun σ H Q ⟨S, Ms, ok, kq⟩ => ⟨S, Ms, ok, fun vs S1 H1 M1 s1 ok1 r1 y dx ny ndx ne => by
    have hin : ∀ b u, upd (upd emp dx (.own y)) y (.ins C dx []) b = some u → (b = y ∧ u = .ins C dx []) ∨ (b = dx ∧ u = .own y) := fun b u e => by
      by_cases h1 : b = y
      · subst h1; rw [upd_same] at e; exact .inl ⟨rfl, (Option.some.inj e).symm⟩
      · rw [upd_ne h1] at e
        by_cases h2 : b = dx
        · subst h2; rw [upd_same] at e; exact .inr ⟨rfl, (Option.some.inj e).symm⟩
        · rw [upd_ne h2] at e; cases e
    have okh : OK X.K Γ A1 σ S1 (upd (upd H1 dx (.own y)) y (.ins C dx [])) (put M1 998 (upd (upd emp dx (.own y)) y (.ins C dx []))) := by
      have hA : A1[998]? = none := List.getElem?_eq_none_iff.mpr (by omega)
      -- the heaplet at 998 is emptied first
      have ok9 : OK X.K Γ A1 σ (joinH S1 (M1 998)) H1 (put M1 998 emp) := (ok1.freezeM (.inl hA)).1
      have ok0 : OK X.K Γ A1 σ S1 H1 (put M1 998 emp) := by
        refine { ok1 with slot := fun i a e => ?_, mH := fun i b u e => ?_, mS := fun i b u e => ?_, dj := fun i j b u e ne => ?_, mN := fun i b u e => ?_ }
        · have hi : i ≠ 998 := fun z => by subst z; rw [hA] at e; cases e
          rw [put_ne hi]; exact ok1.slot i a e
        all_goals
          by_cases hi : i = 998
          · subst hi; rw [put_same] at e; cases e
          · rw [put_ne hi] at e
            first
              | exact ok1.mH i b u e
              | exact ok1.mS i b u e
              | exact ok1.mN i b u e
              | (by_cases hj : j = 998
                 · subst hj; rw [put_same]; rfl
                 · rw [put_ne hj]; exact ok1.dj i j b u e ne)
      have := ok0.heaplet (k := 998) (M := upd (upd emp dx (.own y)) y (.ins C dx [])) (H' := upd (upd H1 dx (.own y)) y (.ins C dx [])) (.inl hA) (fun b u e => by
        rcases hin b u e with ⟨rfl, rfl⟩ | ⟨rfl, rfl⟩
        · exact upd_same
        · rw [upd_ne ne, upd_same]) (fun b u e => by
        rcases hin b u e with ⟨rfl, rfl⟩ | ⟨rfl, rfl⟩
        · exact .inl ny
        · exact .inl ndx) (fun b u e _ => by rw [upd_ne (ne_of_none e ny), upd_ne (ne_of_none e ndx)]; exact e)
      have e2 : put (put M1 998 emp) 998 (upd (upd emp dx (.own y)) y (.ins C dx [])) = put M1 998 (upd (upd emp dx (.own y)) y (.ins C dx [])) := by
        funext i
        by_cases hi : i = 998
        · subst hi; rw [put_same, put_same]
        · rw [put_ne hi, put_ne hi, put_ne hi]
      rw [e2] at this
      exact this
    have hm9 : (put M1 998 (upd (upd emp dx (.own y)) y (.ins C dx []))) 998 = upd (upd emp dx (.own y)) y (.ins C dx []) := put_same
    refine hs y _ _ _ _ ⟨S1, put (fun _ => emp) 0 (upd (upd emp dx (.own y)) y (.ins C dx [])), okh.entry1 (a := .oi y C []) (v := .ref y) (by rw [← hm9]; exact okh.mH 998) (fun p o e => okh.mS 998 p o (by rw [hm9]; exact e))
      ⟨dx, [], rfl, ne, upd_same, by rw [upd_ne ne]; exact upd_same, .nil⟩ (r1.appd (hd S1)), fun v S' H' M' okc rv => ⟨by cases rv; rfl, ?_⟩⟩
    have q2 := okh.back (j := 998) (i0 := 0) okc (fun p o => by rw [hm9]; exact own1 o) (by decide) (by decide) (by show A1.length ≤ 1000; omega) (b := none) (fun a e => by cases e)
    rw [set_out (by omega)] at q2
    obtain ⟨q3, s3, s4⟩ := q2.freezeM (k := 998) (.inl (List.getElem?_eq_none_iff.mpr (by omega)))
    obtain ⟨v2, g1, g2⟩ := okc.slot 0 _ rfl
    cases g1
    obtain ⟨dx2, fs2, g3, g4, g5, g6, g7⟩ := g2
    have g8 : put (put (put M1 998 (upd (upd emp dx (.own y)) y (.ins C dx []))) 998 (M' 0)) T (M' T) 998 = M' 0 := by rw [put_ne (by decide), put_same]
    have g9 := s4 y (.ins C dx2 fs2) (by rw [g8]; exact g5)
    exact kq _ _ H' _ ((s1.trans okc.s0).trans s3) q3 (.ins g9 (g7.mono s3))⟩
/-- o.f -/
theorem jfld {gs : List (Str × D)} {f : Str} (he : PE X o (JE X.K Γ A (.sh (.ins C gs)) A1)) (c : Cls X.K C) (hn : NoAttr X.K C f) (hl : gs.lookup f = some d) (hb : attributeBase o f X.env (eval o X.env) = eval o X.env := by rfl) : PE X (.Attribute o f pos) (JE X.K Γ A (.sh d) A1) :=
  peI (pe_fld he hb) fun σ H Q ⟨S, Ms, ok, kq⟩ => ⟨S, Ms, ok, fun v S1 H1 M1 s1 ok1 r1 => by
    cases r1 with
    | ins h1 rf =>
      obtain ⟨v, g1, g2⟩ := rf.look hl
      exact ⟨_, C, _, _, v, rfl, ok1.sH _ _ h1, c, hn, g1, kq v S1 H1 M1 s1 ok1 g2⟩⟩
end
end J
namespace J
open PySem L2
/-! ### slots of data are stored -/
section
variable {K : PySem.W.Frag} {Γ : En} {A B : Slots} {σ : L2.St} {S H : Hp} {Ms : Nat → Hp}
theorem OK.sto (ok : OK K Γ A σ S H Ms) {v : V} {d : D} (r : Rd K S v d) (i : Nat) : OK K Γ (A.set i (some (.sh d))) (σ.set i (some v)) S H Ms := by
  refine { ok with len := by rw [List.length_set, List.length_set]; exact ok.len, slot := fun j a e => ?_ }
  by_cases hj : j = i
  · subst hj
    have hl : j < A.length := by
      rcases Nat.lt_or_ge j A.length with h | h
      · exact h
      · rw [List.getElem?_eq_none_iff.mpr (by rw [List.length_set]; exact h)] at e; cases e
    rw [List.getElem?_set_self hl] at e
    cases e
    exact ⟨v, List.getElem?_set_self (by rw [ok.len]; exact hl), r⟩
  · rw [List.getElem?_set_ne (Ne.symm hj)] at e
    obtain ⟨w, h1, h2⟩ := ok.slot j a e
    exact ⟨w, by rw [List.getElem?_set_ne (Ne.symm hj)]; exact h1, h2⟩
/-! a target: a name, or targets in a tuple -/
mutual
inductive Tg where
  | n (i : Nat) | tt (l : Tgs)
inductive Tgs where
  | nil | cons (g : Tg) (l : Tgs)
end
def Tgs.len : Tgs → Nat
  | .nil => 0
  | .cons _ l => l.len + 1
def Tgs.of : List Nat → Tgs
  | [] => .nil
  | i :: r => .cons (.n i) (Tgs.of r)
/-- names in a tuple -/
abbrev Tg.t (is : List Nat) : Tg := .tt (Tgs.of is)
mutual
def Tg.g (K : PySem.W.Frag) : Tg → TG
  | .n i => gName i
  | .tt l => gTup K l.len (l.g K)
def Tgs.g (K : PySem.W.Frag) : Tgs → TGs
  | .nil => gNil
  | .cons g l => gCons (g.g K) (l.g K)
end
mutual
def Tg.sl : Tg → Slots → D → Slots
  | .n i, A, d => A.set i (some (.sh d))
  | .tt l, A, d => match d with
    | .tup ds => l.sl A ds
    | _ => A
def Tgs.sl : Tgs → Slots → List D → Slots
  | .nil, A, _ => A
  | .cons g l, A, ds => match ds with
    | d :: ds => l.sl (g.sl A d) ds
    | [] => A
end
mutual
def Tg.fit : Tg → D → Prop
  | .n _, _ => True
  | .tt l, d => ∃ ds, d = .tup ds ∧ l.fit ds
def Tgs.fit : Tgs → List D → Prop
  | .nil, ds => ds = []
  | .cons g l, ds => ∃ d r, ds = d :: r ∧ g.fit d ∧ l.fit r
end
mutual
def Tg.ix : Tg → List Nat
  | .n i => [i]
  | .tt l => l.ix
def Tgs.ix : Tgs → List Nat
  | .nil => []
  | .cons g l => g.ix ++ l.ix
end
theorem Tgs.fit_len : ∀ {l : Tgs} {ds : List D}, l.fit ds → ds.length = l.len
  | .nil, ds, h => by rw [Tgs.fit] at h; subst h; rfl
  | .cons g l, ds, h => by
    rw [Tgs.fit] at h
    obtain ⟨d, r, rfl, _, h⟩ := h
    rw [List.length_cons, Tgs.len, Tgs.fit_len h]
def Keep (is : List Nat) (σ σ' : L2.St) : Prop := (∀ j, j ∉ is → σ'[j]? = σ[j]?) ∧ σ'.length = σ.length
mutual
theorem tg_runK : ∀ {tg : Tg} {d : D} {v : V} {A : Slots} {σ : L2.St} {Q : L2.St → Hp → Prop}, OK K Γ A σ S H Ms → Rd K S v d → tg.fit d →
    (∀ σ', OK K Γ (tg.sl A d) σ' S H Ms → Keep tg.ix σ σ' → Q σ' H) → tg.g K v σ H Q
  | .n i, d, v, A, σ, Q, ok, r, _, k => by
    rw [Tg.g]
    refine k _ (by rw [Tg.sl]; exact ok.sto r i) ⟨fun j hj => ?_, List.length_set ..⟩
    rw [List.getElem?_set_ne]
    intro z
    subst z
    exact hj (by rw [Tg.ix]; exact List.mem_cons_self)
  | .tt l, d, v, A, σ, Q, ok, r, hf, k => by
    rw [Tg.fit] at hf
    obtain ⟨ds, rfl, hf⟩ := hf
    rw [Tg.g]
    cases r with
    | tup h rs => exact ⟨_, _, rfl, sqT_mono ok.sH h, by rw [rs.len, Tgs.fit_len hf], tgs_runK ok rs hf fun σ' ok' kp => k σ' (by rw [Tg.sl]; exact ok') (by rw [Tg.ix]; exact kp)⟩
theorem tgs_runK : ∀ {l : Tgs} {ds : List D} {vs : List V} {A : Slots} {σ : L2.St} {Q : L2.St → Hp → Prop}, OK K Γ A σ S H Ms → Rds K S vs ds → l.fit ds →
    (∀ σ', OK K Γ (l.sl A ds) σ' S H Ms → Keep l.ix σ σ' → Q σ' H) → l.g K vs σ H Q
  | .nil, ds, vs, A, σ, Q, ok, r, hf, k => by
    rw [Tgs.fit] at hf
    subst hf
    cases r
    rw [Tgs.g]
    exact ⟨rfl, k σ (by rw [Tgs.sl]; exact ok) ⟨fun _ _ => rfl, rfl⟩⟩
  | .cons g l, ds, vs, A, σ, Q, ok, r, hf, k => by
    rw [Tgs.fit] at hf
    obtain ⟨d, rr, rfl, h1, h2⟩ := hf
    cases r with
    | cons r rs =>
      rw [Tgs.g]
      refine ⟨_, _, rfl, tg_runK ok r h1 fun σ1 ok1 k1 => tgs_runK ok1 rs h2 fun σ2 ok2 k2 => k σ2 (by rw [Tgs.sl]; exact ok2) ⟨fun j hj => ?_, k2.2.trans k1.2⟩⟩
      rw [Tgs.ix, List.mem_append, not_or] at hj
      rw [k2.1 j hj.2, k1.1 j hj.1]
end
theorem tg_run {tg : Tg} {d : D} {v : V} {Q : L2.St → Hp → Prop} (ok : OK K Γ A σ S H Ms) (r : Rd K S v d) (hf : tg.fit d)
    (k : ∀ σ', OK K Γ (tg.sl A d) σ' S H Ms → (∀ ws : List Nat, (∀ i ∈ tg.ix, i ∈ ws) → ∀ j, j ∉ ws → σ'[j]? = σ[j]?) → σ'.length = σ.length → Q σ' H) : tg.g K v σ H Q :=
  tg_runK ok r hf fun σ' ok' kp => k σ' ok' (fun ws hw j hj => kp.1 j fun hm => hj (hw j hm)) kp.2
end
/-! ### what is walked -/
/-- J walks the data ds, above S -/
def Walks (K : PySem.W.Frag) (S : Hp) (J : It) (ds : List D) : Prop := ∀ i H, Same S H → (ds.length ≤ i → J.stop i H) ∧ ∀ d, ds[i]? = some d → J.go i H ∧ ∀ x H', J.yld i H x H' →
  (H' = H ∧ Rd K S x d) ∨ ∃ p o, H p = none ∧ H' = upd H p o ∧ ∀ S', Same S S' → S' p = some o → Rd K S' x d
theorem Walks.mono {K : PySem.W.Frag} {S S' : Hp} {J : It} {ds : List D} (e : Same S S') (w : Walks K S J ds) : Walks K S' J ds := fun i H h => by
  obtain ⟨w1, w2⟩ := w i H (e.trans h)
  refine ⟨w1, fun d hd => ?_⟩
  obtain ⟨g, y⟩ := w2 d hd
  refine ⟨g, fun x H' q => ?_⟩
  rcases y x H' q with ⟨z, r⟩ | ⟨p, o, n, z, r⟩
  · exact .inl ⟨z, r.mono e⟩
  · exact .inr ⟨p, o, n, z, fun S2 s2 q2 => r S2 (e.trans s2) q2⟩
def JI (K : PySem.W.Frag) (Γ : En) (A : Slots) (ds : List D) (A' : Slots) : TI := fun σ H R => ∃ S Ms, OK K Γ A σ S H Ms ∧ ∀ J S' H' Ms', Same S S' → OK K Γ A' σ S' H' Ms' → Walks K S' J ds → R J H'
theorem piI {X : Cx} {tg e : Expr} {t u : TI} (h : PI X tg e t) (i : ∀ σ H R, u σ H R → t σ H R) : PI X tg e u := ⟨fun pins s σ H R I q => h.run pins s σ H R I (i _ _ _ q)⟩
theorem walks_l {K : PySem.W.Frag} {S : Hp} {a : Addr} {vs : List V} {ds : List D} (h : SqL K S a vs) (r : Rds K S vs ds) : Walks K S (Itl K a) ds := fun i H e => by
  have hH := sqL_mono e h
  refine ⟨fun hl => ⟨vs, hH, by rw [r.len]; exact hl⟩, fun d hd => ?_⟩
  obtain ⟨v, h1, h2⟩ := r.get hd
  exact ⟨⟨vs, v, hH, h1⟩, fun x H' ⟨z, y⟩ => .inl ⟨z, by have := y vs hH; rw [h1] at this; cases this; exact h2⟩⟩
theorem walks_t {K : PySem.W.Frag} {S : Hp} {a : Addr} {vs : List V} {ds : List D} (h : SqT K S a vs) (r : Rds K S vs ds) : Walks K S (Itt K a) ds := fun i H e => by
  have hH := sqT_mono e h
  refine ⟨fun hl => ⟨vs, hH, by rw [r.len]; exact hl⟩, fun d hd => ?_⟩
  obtain ⟨v, h1, h2⟩ := r.get hd
  exact ⟨⟨vs, v, hH, h1⟩, fun x H' ⟨z, y⟩ => .inl ⟨z, by have := y vs hH; rw [h1] at this; cases this; exact h2⟩⟩
def rng (lo : Int) (n : Nat) : List Int := (List.range n).map fun (k : Nat) => lo + (k : Int)
theorem walks_r {K : PySem.W.Frag} {S : Hp} (lo : Int) (n : Nat) : Walks K S (Itr lo n) ((rng lo n).map .int) := fun i H e => by
  refine ⟨fun hl => (show n ≤ i by simpa [rng] using hl), fun d hd => ?_⟩
  unfold rng at hd
  rw [List.map_map, List.getElem?_map] at hd
  rcases Nat.lt_or_ge i n with hi | hi
  · rw [List.getElem?_range hi] at hd
    cases hd
    exact ⟨hi, fun x H' ⟨z, y⟩ => .inl ⟨z, by rw [y]; exact .int _⟩⟩
  · rw [List.getElem?_eq_none_iff.mpr (by simpa using hi)] at hd; cases hd
def enm (ds : List D) : List D := (List.range ds.length).zipWith (fun (i : Nat) (d : D) => D.tup [.int (i : Int), d]) ds
theorem enm_at {ds : List D} {i : Nat} {d : D} (h : (enm ds)[i]? = some d) : ∃ e, ds[i]? = some e ∧ d = .tup [.int (i : Int), e] := by
  unfold enm at h
  rw [List.getElem?_zipWith] at h
  cases q : ds[i]? with
  | none => rw [q] at h; cases q2 : (List.range ds.length)[i]? <;> rw [q2] at h <;> cases h
  | some e =>
    have hi : i < ds.length := (List.getElem?_eq_some_iff.mp q).1
    rw [q, List.getElem?_range hi] at h
    cases h
    exact ⟨e, rfl, rfl⟩
theorem enm_len (ds : List D) : (enm ds).length = ds.length := by unfold enm; simp
theorem walks_e {K : PySem.W.Frag} {S : Hp} {a : Addr} {vs : List V} {ds : List D} (h : SqL K S a vs) (r : Rds K S vs ds) : Walks K S (Ite K a) (enm ds) := fun i H e => by
  have hH := sqL_mono e h
  refine ⟨fun hl => ⟨vs, hH, by rw [r.len]; rw [enm_len] at hl; exact hl⟩, fun d hd => ?_⟩
  obtain ⟨z, hz, rfl⟩ := enm_at hd
  obtain ⟨v, h1, h2⟩ := r.get hz
  refine ⟨⟨vs, v, hH, h1⟩, fun x H' ⟨Tt, y, e1, n, e2, q⟩ => .inr ⟨Tt, _, n, e2, fun S' s' q' => ?_⟩⟩
  have := q vs hH
  rw [h1] at this
  cases this
  rw [e1]
  exact .tup (SqT.of q') (.cons (.int _) (.cons (h2.mono s') .nil))
section
variable {X : Cx} {Γ : En} {A A1 A2 : Slots} {a e tg : Expr} {p pos : Pos} {ds : List D} {i j : Int}
theorem jil (h : PE X e (JE X.K Γ A (.sh (.lst ds)) A1)) : PI X tg e (JI X.K Γ A ds A1) :=
  piI (pi_list h) fun σ H R ⟨S, Ms, ok, k⟩ => ⟨S, Ms, ok, fun v S1 H1 M1 s1 ok1 r => by
    cases r with
    | lst h r => exact ⟨_, rfl, ⟨_, sqL_mono ok1.sH h⟩, k _ S1 H1 M1 s1 ok1 (walks_l h r)⟩⟩
theorem jit (h : PE X e (JE X.K Γ A (.sh (.tup ds)) A1)) : PI X tg e (JI X.K Γ A ds A1) :=
  piI (pi_tup h) fun σ H R ⟨S, Ms, ok, k⟩ => ⟨S, Ms, ok, fun v S1 H1 M1 s1 ok1 r => by
    cases r with
    | tup h r => exact ⟨_, rfl, ⟨_, sqT_mono ok1.sH h⟩, k _ S1 H1 M1 s1 ok1 (walks_t h r)⟩⟩
theorem jir1 (h : PA X [e] (JA X.K Γ A [.int j] A1)) (hm : X.mg "range" = none) (hb : -(2 ^ 62) ≤ j ∧ j < 2 ^ 62) (hg : Gl X "range" := by rfl) (hs : starEach [e] X.env = [(false, eval e X.env)] := by rfl) : PI X tg (.Call (.Name "range" p) [e] [] pos) (JI X.K Γ A ((rng 0 j.toNat).map .int) A1) :=
  piI (pi_range1 hg hm h hs) fun σ H R ⟨S, Ms, ok, k⟩ => ⟨S, Ms, ok, fun vs S1 H1 M1 s1 ok1 r => by
    cases r with
    | cons h t => cases h; cases t; exact ⟨j, rfl, hb.1, hb.2, k _ S1 H1 M1 s1 ok1 (walks_r 0 _)⟩⟩
theorem jir2 {e2 : Expr} (h : PA X [e, e2] (JA X.K Γ A [.int i, .int j] A1)) (hm : X.mg "range" = none) (hb : -(2 ^ 62) ≤ i ∧ i < 2 ^ 62 ∧ -(2 ^ 62) ≤ j ∧ j < 2 ^ 62) (hg : Gl X "range" := by rfl)
    (hs : starEach [e, e2] X.env = [(false, eval e X.env), (false, eval e2 X.env)] := by rfl) (hs2 : starEach [e2] X.env = [(false, eval e2 X.env)] := by rfl) : PI X tg (.Call (.Name "range" p) [e, e2] [] pos) (JI X.K Γ A ((rng i (j - i).toNat).map .int) A1) :=
  piI (pi_range2 hg hm h hs hs2) fun σ H R ⟨S, Ms, ok, k⟩ => ⟨S, Ms, ok, fun vs S1 H1 M1 s1 ok1 r => by
    cases r with
    | cons h t => cases h; cases t with
      | cons h t => cases h; cases t; exact ⟨i, j, rfl, hb, k _ S1 H1 M1 s1 ok1 (walks_r i _)⟩⟩
theorem jie {elts : List Expr} {kk : Nat} {tpos : Pos} (h : PA X [e] (JA X.K Γ A [.lst ds] A1)) (hm : X.mg "enumerate" = none) (hg : Gl X "enumerate" := by rfl) (hs : starEach [e] X.env = [(false, eval e X.env)] := by rfl) :
    PI X (.Tuple elts kk tpos) (.Call (.Name "enumerate" p) [e] [] pos) (JI X.K Γ A (enm ds) A1) :=
  piI (pi_enum hg hm h hs) fun σ H R ⟨S, Ms, ok, k⟩ => ⟨S, Ms, ok, fun vs S1 H1 M1 s1 ok1 r => by
    cases r with
    | cons h t => cases h with
      | lst h r => cases t; exact ⟨_, _, rfl, sqL_mono ok1.sH h, k _ S1 H1 M1 s1 ok1 (walks_e h r)⟩⟩
end
/-! ### for -/
inductive LR (τ ρ : Type) where
  | go (s : τ) | ex (r : ρ)
def loop {α τ ρ : Type} (step : τ → α → LR τ ρ) : List α → τ → LR τ ρ
  | [], s => .go s
  | x :: xs, s => match step s x with
    | .go s' => loop step xs s'
    | .ex r => .ex r
theorem loop_app {α τ ρ : Type} {step : τ → α → LR τ ρ} : ∀ {xs ys : List α} {s : τ}, loop step (xs ++ ys) s = match loop step xs s with | .go s' => loop step ys s' | .ex r => .ex r
  | [], ys, s => rfl
  | x :: xs, ys, s => by
    show (match step s x with | .go s' => loop step (xs ++ ys) s' | .ex r => .ex r) = match (match step s x with | .go s' => loop step xs s' | .ex r => .ex r) with | .go s' => loop step ys s' | .ex r => .ex r
    cases step s x with
    | go s' => exact loop_app
    | ex r => rfl
theorem loop_fold {α τ ρ : Type} {step : τ → α → LR τ ρ} {f : τ → α → τ} (h : ∀ s x, step s x = .go (f s x)) : ∀ {xs : List α} {s : τ}, loop step xs s = .go (xs.foldl f s)
  | [], s => rfl
  | x :: xs, s => by
    show (match step s x with | .go s' => loop step xs s' | .ex r => .ex r) = _
    rw [h]
    exact loop_fold h
/-- how a turn ends -/
inductive Turns {τ ρ : Type} (Af : τ → Slots) (exO : ρ → Out) : Out → LR τ ρ → Prop
  | nx {B : Slots} {s : τ} : Wk B (Af s) → Turns Af exO (.nx B) (.go s)
  | ct {B : Slots} {s : τ} : Wk B (Af s) → Turns Af exO (.ct B) (.go s)
  | bk {B : Slots} {r : ρ} : exO r = .nx B → Turns Af exO (.bk B) (.ex r)
  | rt {a : Sl} {B : Slots} {r : ρ} : exO r = .rt a B → Turns Af exO (.rt a B) (.ex r)
  | er {e : Er} {B : Slots} {r : ρ} : exO r = .er e B → Turns Af exO (.er e B) (.ex r)
def outL {τ ρ : Type} (Af : τ → Slots) (exO : ρ → Out) : LR τ ρ → Out
  | .go s => .nx (Af s)
  | .ex r => exO r
section
variable {X : Cx} {Γ : En} {W : WX} {A A1 : Slots} {tgt iter : Expr} {pos : Pos} {body : List Stmt}
theorem jfor {α τ ρ : Type} (xs : List α) (enc : α → D) (tg : Tg) (Af : τ → Slots) (exO : ρ → Out) (step : τ → α → LR τ ρ) (s0 : τ) (hp : PassesOwn (model X.prog X.w) X.A X.env X.xe) (hi : PI X tgt iter (JI X.K Γ A (xs.map enc) A1)) (hA : Wk A1 (Af s0)) (hg : PG X tgt (tg.g X.K))
    (hf : ∀ x ∈ xs, tg.fit (enc x))
    (hb : ∀ pre x post s, xs = pre ++ x :: post → loop step pre s0 = .go s → ∃ o, PSs X body (JS X.K Γ W (tg.sl (Af s) (enc x)) o) ∧ Turns Af exO o (step s x)) (hc : X.calm = true := by rfl) (hs : ∀ x, foldedSetIterable iter X.env x = pure x := by intro _; rfl) :
    PS X (.For tgt iter body [] pos) (JS X.K Γ W A (outL Af exO (loop step xs s0))) := by
  have hbody : PSs X body (fun d σ H => ∃ u : TS, PSs X body u ∧ u d σ H) := ⟨fun pins sh σ H d I ⟨u, h1, h2⟩ => h1.run pins sh σ H d I h2⟩
  refine psI (ps_for hp hc hi hg hbody hs) fun d σ H ⟨S, Ms, ok, k⟩ => ⟨S, Ms, ok, fun J S1 H1 M1 s1 ok1 w => ?_⟩
  refine ⟨fun i m σ H => m = xs.length - i ∧ i ≤ xs.length ∧ ∃ s S Ms, loop step (xs.take i) s0 = .go s ∧ Same S1 S ∧ OK X.K Γ (Af s) σ S H Ms, ⟨xs.length, rfl, Nat.zero_le _, s0, S1, M1, rfl, Same.refl S1, ok1.wk hA⟩, ?_⟩
  rintro i m σ H ⟨rfl, hi, s, S2, M2, hl, s2, ok2⟩
  rcases Nat.lt_or_ge i xs.length with hlt | hge
  · have hx : xs = xs.take i ++ xs[i] :: xs.drop (i + 1) := by rw [List.getElem_cons_drop, List.take_append_drop]
    have htk : xs.take (i + 1) = xs.take i ++ [xs[i]] := by rw [List.take_succ, List.getElem?_eq_getElem hlt]; rfl
    obtain ⟨o, g1, g2⟩ := hb _ _ _ s hx hl
    obtain ⟨_, wy⟩ := w i H (s2.trans ok2.sH)
    obtain ⟨wg, wy⟩ := wy (enc xs[i]) (by rw [List.getElem?_map, List.getElem?_eq_getElem hlt]; rfl)
    refine .inr ⟨wg, fun σ' H' => ∃ s' S' Ms', loop step (xs.take (i + 1)) s0 = .go s' ∧ Same S1 S' ∧ OK X.K Γ (Af s') σ' S' H' Ms', fun σ' H' ⟨s', S', Ms', e1, e2, e3⟩ => ⟨xs.length - (i + 1), by omega, rfl, hlt, s', S', Ms', e1, e2, e3⟩, fun x H' y => ?_⟩
    have all : ∀ S3, Same S1 S3 → OK X.K Γ (Af s) σ S3 H' M2 → Rd X.K S3 x (enc xs[i]) → tg.g X.K x σ H' fun σ2 H2 => ∃ u : TS, PSs X body u ∧ u { d with nx := fun σ' H' => ∃ s' S' Ms', loop step (xs.take (i + 1)) s0 = .go s' ∧ Same S1 S' ∧ OK X.K Γ (Af s') σ' S' H' Ms', ct := fun σ' H' => ∃ s' S' Ms', loop step (xs.take (i + 1)) s0 = .go s' ∧ Same S1 S' ∧ OK X.K Γ (Af s') σ' S' H' Ms', bk := d.nx } σ2 H2 := by
      intro S3 s3 ok3 r3
      refine tg_run ok3 r3 (hf _ (List.getElem_mem hlt)) fun σ2 ok4 _ _ => ⟨_, g1, S3, M2, ok4, ?_⟩
      have hgo : ∀ s', step s xs[i] = .go s' → loop step (xs.take (i + 1)) s0 = .go s' := fun s' e => by
        rw [htk, loop_app, hl]
        show (match step s xs[i] with | .go s' => loop step [] s' | .ex r => .ex r) = _
        rw [e]; rfl
      have hex : ∀ r, step s xs[i] = .ex r → loop step xs s0 = .ex r := fun r e => by
        rw [hx, loop_app, hl]
        show (match step s xs[i] with | .go s' => loop step _ s' | .ex r => .ex r) = _
        rw [e]
      have hk : ∀ r, step s xs[i] = .ex r → Post X.K Γ W S (exO r) d := fun r e => by
        have q := k
        rw [hex r e] at q
        exact q
      generalize hst : step s xs[i] = z at g2
      cases g2 with
      | nx wk => exact fun σ' S' H2 Ms' se ok' => ⟨_, S', Ms', hgo _ hst, s3.trans se, ok'.wk wk⟩
      | ct wk => exact fun σ' S' H2 Ms' se ok' => ⟨_, S', Ms', hgo _ hst, s3.trans se, ok'.wk wk⟩
      | bk e =>
        have k := hk _ hst
        rw [e] at k
        exact fun σ' S' H2 Ms' se ok' => k σ' S' H2 Ms' ((s1.trans s3).trans se) ok'
      | rt e =>
        have k := hk _ hst
        rw [e] at k
        exact fun v σ' S' H2 Ms' se ok' r => k v σ' S' H2 Ms' ((s1.trans s3).trans se) ok' r
      | er e =>
        have k := hk _ hst
        rw [e] at k
        exact fun c v σ' S' H2 Ms' se ok' r => k c v σ' S' H2 Ms' ((s1.trans s3).trans se) ok' r
    rcases wy x H' y with ⟨rfl, r⟩ | ⟨p, u, np, rfl, r⟩
    · exact all S2 s2 ok2 (r.mono s2)
    · obtain ⟨ok3, s3⟩ := ok2.new (o := u) np
      exact all _ (s2.trans s3) ok3 (r _ (s2.trans s3) upd_same)
  · have e : i = xs.length := by omega
    subst e
    rw [List.take_length] at hl
    rw [hl] at k
    exact .inl ⟨(w _ H (s2.trans ok2.sH)).1 (by rw [List.length_map]; exact Nat.le_refl _), k σ S2 H M2 (s1.trans s2) ok2⟩
/-- no turn leaves the loop -/
theorem jfor0 {α τ : Type} (xs : List α) (enc : α → D) (tg : Tg) (Af : τ → Slots) (f : τ → α → τ) (s0 : τ) (hp : PassesOwn (model X.prog X.w) X.A X.env X.xe) (hi : PI X tgt iter (JI X.K Γ A (xs.map enc) A1)) (hA : Wk A1 (Af s0)) (hg : PG X tgt (tg.g X.K))
    (hf : ∀ x ∈ xs, tg.fit (enc x)) (hb : ∀ pre x post, xs = pre ++ x :: post → ∃ B, PSs X body (JS X.K Γ W (tg.sl (Af (pre.foldl f s0)) (enc x)) (.nx B)) ∧ Wk B (Af (f (pre.foldl f s0) x))) (hc : X.calm = true := by rfl) (hs : ∀ x, foldedSetIterable iter X.env x = pure x := by intro _; rfl) :
    PS X (.For tgt iter body [] pos) (JS X.K Γ W A (.nx (Af (xs.foldl f s0)))) := by
  have q := jfor (X := X) (Γ := Γ) (W := W) (pos := pos) (body := body) (ρ := Empty) xs enc tg Af (fun r => r.elim) (fun s x => .go (f s x)) s0 hp hi hA hg hf (fun pre x post s h1 h2 => by
    rw [loop_fold (fun _ _ => rfl)] at h2
    cases h2
    obtain ⟨B, g1, g2⟩ := hb pre x post h1
    exact ⟨_, g1, .nx g2⟩) hc hs
  rw [loop_fold (fun _ _ => rfl)] at q
  exact q
end
/-! ### comprehensions -/
theorem wipe_at (σ : L2.St) : ∀ (vs : List Nat) (j : Nat), (wipe σ vs)[j]? = if j ∈ vs then (if j < σ.length then some none else none) else σ[j]?
  | [], j => by rw [if_neg (by simp)]; rfl
  | v :: vs, j => by
    show ((wipe σ vs).set v none)[j]? = _
    by_cases hj : v = j
    · subst hj
      rw [if_pos List.mem_cons_self]
      by_cases hl : v < σ.length
      · rw [if_pos hl, List.getElem?_set_self (by rw [wipe_length]; exact hl)]
      · rw [if_neg hl, List.getElem?_eq_none_iff.mpr (by rw [List.length_set, wipe_length]; omega)]
    · rw [List.getElem?_set_ne hj, wipe_at σ vs j]
      have : (j ∈ v :: vs) ↔ j ∈ vs := by simp [List.mem_cons, Ne.symm hj]
      by_cases h : j ∈ vs
      · rw [if_pos h, if_pos (this.mpr h)]
      · rw [if_neg h, if_neg (fun z => h (this.mp z))]
theorem wipe_eq {σ σ' : L2.St} {vs : List Nat} (hl : σ'.length = σ.length) (h : ∀ j, j ∉ vs → σ'[j]? = σ[j]?) : wipe σ' vs = wipe σ vs := by
  refine List.ext_getElem? fun j => ?_
  rw [wipe_at, wipe_at, hl]
  by_cases hj : j ∈ vs
  · rw [if_pos hj, if_pos hj]
  · rw [if_neg hj, if_neg hj, h j hj]
theorem wipe_wipe (σ : L2.St) (vs : List Nat) : wipe (wipe σ vs) vs = wipe σ vs := wipe_eq (wipe_length σ vs) fun j hj => by rw [wipe_at, if_neg hj]
def wipeA (A : Slots) : List Nat → Slots
  | [] => A
  | v :: vs => (wipeA A vs).set v none
theorem wipeA_at {A : Slots} : ∀ {vs : List Nat} {i : Nat} {a : Sl}, (wipeA A vs)[i]? = some (some a) → A[i]? = some (some a) ∧ i ∉ vs
  | [], i, a, h => ⟨h, by simp⟩
  | v :: vs, i, a, h => by
    unfold wipeA at h
    by_cases hi : v = i
    · subst hi
      by_cases hv : v < (wipeA A vs).length
      · rw [List.getElem?_set_self hv] at h; cases h
      · rw [List.getElem?_eq_none_iff.mpr (by rw [List.length_set]; omega)] at h; cases h
    · rw [List.getElem?_set_ne hi] at h
      obtain ⟨h1, h2⟩ := wipeA_at h
      exact ⟨h1, by simp only [List.mem_cons, not_or]; exact ⟨fun e => hi e.symm, h2⟩⟩
theorem wipeA_len (A : Slots) : ∀ vs : List Nat, (wipeA A vs).length = A.length
  | [] => rfl
  | v :: vs => by unfold wipeA; rw [List.length_set, wipeA_len]
theorem OK.wipe {K : PySem.W.Frag} {Γ : En} {A : Slots} {σ : L2.St} {S H : Hp} {Ms : Nat → Hp} (ok : OK K Γ A σ S H Ms) (vs : List Nat) : OK K Γ (wipeA A vs) (L2.wipe σ vs) S H Ms :=
by
  refine { ok with len := by rw [wipe_length, wipeA_len]; exact ok.len, slot := fun i a e => ?_ }
  obtain ⟨h1, h2⟩ := wipeA_at e
  obtain ⟨v, g1, g2⟩ := ok.slot i a h1
  exact ⟨v, by rw [wipe_at, if_neg h2]; exact g1, g2⟩
theorem OK.unwipe {K : PySem.W.Frag} {Γ : En} {A : Slots} {σ σ' : L2.St} {S H : Hp} {Ms : Nat → Hp} {vs : List Nat} (ok : OK K Γ A σ' S H Ms) (hl : σ'.length = σ.length) (h : ∀ j, j ∉ vs → σ'[j]? = σ[j]?) : OK K Γ (wipeA A vs) σ S H Ms :=
by
  refine { ok with len := by rw [wipeA_len, ← hl]; exact ok.len, slot := fun i a e => ?_ }
  obtain ⟨h1, h2⟩ := wipeA_at e
  obtain ⟨v, g1, g2⟩ := ok.slot i a h1
  exact ⟨v, by rw [← h i h2]; exact g1, g2⟩
/-- one turn of a comprehension: None where the tests say no -/
def lcs {α τ : Type} (f : τ → α → Option D × τ) : List α → τ → List D × τ
  | [], s => ([], s)
  | x :: xs, s => match f s x with
    | (some d, s') => (d :: (lcs f xs s').1, (lcs f xs s').2)
    | (none, s') => lcs f xs s'
theorem lcs_app {α τ : Type} {f : τ → α → Option D × τ} : ∀ {xs ys : List α} {s : τ}, lcs f (xs ++ ys) s = ((lcs f xs s).1 ++ (lcs f ys (lcs f xs s).2).1, (lcs f ys (lcs f xs s).2).2)
  | [], ys, s => rfl
  | x :: xs, ys, s => by
    show (match f s x with | (some d, s') => (d :: (lcs f (xs ++ ys) s').1, (lcs f (xs ++ ys) s').2) | (none, s') => lcs f (xs ++ ys) s') = _
    rw [show lcs f (x :: xs) s = (match f s x with | (some d, s') => (d :: (lcs f xs s').1, (lcs f xs s').2) | (none, s') => lcs f xs s') from rfl]
    cases h : f s x with
    | mk o s' =>
      cases o with
      | none => exact lcs_app
      | some d =>
        show (d :: (lcs f (xs ++ ys) s').1, (lcs f (xs ++ ys) s').2) = _
        rw [lcs_app (xs := xs)]
        rfl
theorem lcs_len {α τ : Type} {f : τ → α → Option D × τ} : ∀ (xs : List α) (s : τ), (lcs f xs s).1.length ≤ xs.length
  | [], s => Nat.le_refl _
  | x :: xs, s => by
    rw [show lcs f (x :: xs) s = (match f s x with | (some d, s') => (d :: (lcs f xs s').1, (lcs f xs s').2) | (none, s') => lcs f xs s') from rfl]
    cases h : f s x with
    | mk o s' =>
      cases o with
      | none => exact Nat.le_succ_of_le (lcs_len xs s')
      | some d => exact Nat.succ_le_succ (lcs_len xs s')
/-! the place of the list in the making -/
abbrev L7 : Nat := 997
section
variable {K : PySem.W.Frag} {Γ : En} {A B : Slots} {σ σ' : L2.St} {S S' H H' : Hp} {Ms M' : Nat → Hp}
abbrev own7 (Ms : Nat → Hp) : Addr → Prop := fun p => ∃ i u, i ≠ L7 ∧ Ms i p = some u
theorem OK.into (ok : OK K Γ A σ S H Ms) (hA : A.length ≤ 900) : OK K ⟨S, H, own7 Ms⟩ A σ S H (put Ms L7 emp) where
  len := ok.len
  slot := fun i a e => by
    have hi : i ≠ L7 := fun z => by
      subst z
      rw [List.getElem?_eq_none_iff.mpr (by show A.length ≤ 997; omega)] at e; cases e
    rw [put_ne hi]; exact ok.slot i a e
  sH := ok.sH
  mH := fun i p o e => by
    by_cases hi : i = L7
    · subst hi; rw [put_same] at e; cases e
    · rw [put_ne hi] at e; exact ok.mH i p o e
  mS := fun i p o e => by
    by_cases hi : i = L7
    · subst hi; rw [put_same] at e; cases e
    · rw [put_ne hi] at e; exact ok.mS i p o e
  dj := fun i j p o e ne => by
    by_cases hi : i = L7
    · subst hi; rw [put_same] at e; cases e
    · rw [put_ne hi] at e
      by_cases hj : j = L7
      · subst hj; rw [put_same]; rfl
      · rw [put_ne hj]; exact ok.dj i j p o e ne
  s0 := Same.refl S
  sN := fun p o e => .inl ⟨o, e⟩
  mN := fun i p o e => by
    by_cases hi : i = L7
    · subst hi; rw [put_same] at e; cases e
    · rw [put_ne hi] at e; exact .inr ⟨i, o, hi, e⟩
  fr := fun _ _ e _ => e
theorem OK.outof (ok : OK K Γ A σ S H Ms) (okc : OK K ⟨S, H, own7 Ms⟩ B σ' S' H' M') (hB : B.length ≤ 900) : OK K Γ B σ' S' H' (put M' L7 (Ms L7)) := by
  have no : ∀ b u, Ms L7 b = some u → ¬ own7 Ms b := fun b u e ⟨i, w, hi, hw⟩ => nofree hw (ok.dj L7 i b u e (Ne.symm hi))
  have n1 : ∀ b u i, Ms L7 b = some u → M' i b = none := fun b u i e => by
    cases q : M' i b with
    | none => rfl
    | some w =>
      rcases okc.mN i b w q with z | z
      · exact (nofree (ok.mH L7 b u e) z).elim
      · exact (no b u e z).elim
  have g : ∀ b, own7 Ms b → Γ.H0 b = none ∨ Γ.own b := fun b ⟨i, w, _, hw⟩ => ok.mN i b w hw
  refine ⟨okc.len, fun i a e => ?_, okc.sH, fun i b u e => ?_, fun i b u e => ?_, fun i j b u e ne => ?_, ok.s0.trans okc.s0, fun b u e => ?_, fun i b u e => ?_, fun b u e n => ?_⟩
  · have hi : i ≠ L7 := fun z => by
      subst z
      rw [List.getElem?_eq_none_iff.mpr (by show B.length ≤ 997; omega)] at e; cases e
    rw [put_ne hi]; exact okc.slot i a e
  · by_cases hi : i = L7
    · subst hi; rw [put_same] at e; exact okc.fr b u (ok.mH L7 b u e) (no b u e)
    · rw [put_ne hi] at e; exact okc.mH i b u e
  · by_cases hi : i = L7
    · subst hi; rw [put_same] at e
      cases q : S' b with
      | none => rfl
      | some w =>
        rcases okc.sN b w q with ⟨z, hz⟩ | z | z
        · exact (nofree hz (ok.mS L7 b u e)).elim
        · exact (nofree (ok.mH L7 b u e) z).elim
        · exact (no b u e z).elim
    · rw [put_ne hi] at e; exact okc.mS i b u e
  · by_cases hi : i = L7
    · subst hi; rw [put_same] at e; rw [put_ne (Ne.symm ne)]; exact n1 b u j e
    · rw [put_ne hi] at e
      by_cases hj : j = L7
      · subst hj; rw [put_same]
        cases q : Ms L7 b with
        | none => rfl
        | some w => exact (nofree e (n1 b w i q)).elim
      · rw [put_ne hj]; exact okc.dj i j b u e ne
  · rcases okc.sN b u e with ⟨z, hz⟩ | z | z
    · exact ok.sN b z hz
    · exact .inr (ok.nf z)
    · exact .inr (g b z)
  · by_cases hi : i = L7
    · subst hi; rw [put_same] at e; exact ok.mN L7 b u e
    · rw [put_ne hi] at e
      rcases okc.mN i b u e with z | z
      · exact ok.nf z
      · exact g b z
  · refine okc.fr b u (ok.fr b u e n) fun o => ?_
    rcases g b o with z | z
    · exact nofree e z
    · exact n z
theorem OK.mv (ok : OK K Γ A σ S H Ms) (hA : A.length ≤ 900) : OK K Γ A σ S H (put (put Ms T (Ms L7)) L7 emp) := by
  have hA1 : ∀ i, 900 ≤ i → A[i]? = none := fun i h => List.getElem?_eq_none_iff.mpr (by omega)
  have src : ∀ i b u, put (put Ms T (Ms L7)) L7 emp i b = some u → (i = T ∧ Ms L7 b = some u) ∨ (i ≠ T ∧ i ≠ L7 ∧ Ms i b = some u) := fun i b u e => by
    by_cases h1 : i = L7
    · subst h1; rw [put_same] at e; cases e
    · rw [put_ne h1] at e
      by_cases h2 : i = T
      · subst h2; rw [put_same] at e; exact .inl ⟨rfl, e⟩
      · rw [put_ne h2] at e; exact .inr ⟨h2, h1, e⟩
  refine { ok with slot := fun i a e => ?_, mH := fun i b u e => ?_, mS := fun i b u e => ?_, dj := fun i j b u e ne => ?_, mN := fun i b u e => ?_ }
  · have h1 : i ≠ L7 := fun z => by rw [z, hA1 _ (by decide)] at e; cases e
    have h2 : i ≠ T := fun z => by rw [z, hA1 _ (by decide)] at e; cases e
    rw [put_ne h1, put_ne h2]; exact ok.slot i a e
  · rcases src i b u e with ⟨_, q⟩ | ⟨_, _, q⟩ <;> exact ok.mH _ b u q
  · rcases src i b u e with ⟨_, q⟩ | ⟨_, _, q⟩ <;> exact ok.mS _ b u q
  · cases q2 : put (put Ms T (Ms L7)) L7 emp j b with
    | none => rfl
    | some w =>
      rcases src i b u e with ⟨h1, q⟩ | ⟨h1, h2, q⟩ <;> rcases src j b w q2 with ⟨g1, r⟩ | ⟨g1, g2, r⟩
      · exact (ne (h1.trans g1.symm)).elim
      · exact (nofree r (ok.dj L7 j b u q (Ne.symm g2))).elim
      · exact (nofree r (ok.dj i L7 b u q h2)).elim
      · exact (nofree r (ok.dj i j b u q ne)).elim
  · rcases src i b u e with ⟨_, q⟩ | ⟨_, _, q⟩ <;> exact ok.mN _ b u q
theorem OK.unw {vs : List Nat} (ok : OK K Γ (wipeA A vs) (L2.wipe σ vs) S H Ms) : OK K Γ (wipeA A vs) σ S H Ms :=
by
  refine { ok with len := by rw [← ok.len, wipe_length], slot := fun i a e => ?_ }
  obtain ⟨v, g1, g2⟩ := ok.slot i a e
  obtain ⟨_, h2⟩ := wipeA_at e
  rw [wipe_at, if_neg h2] at g1
  exact ⟨v, g1, g2⟩
end
theorem OK.resl {K : PySem.W.Frag} {Γ : En} {A : Slots} {σ σ2 : L2.St} {S H : Hp} {Ms : Nat → Hp} (ok : OK K Γ A σ2 S H Ms) {B : Slots} {vs : List Nat} (w : Wk A (wipeA B vs)) (e : L2.wipe σ2 vs = L2.wipe σ vs) : OK K Γ (wipeA B vs) (L2.wipe σ vs) S H Ms := by
  have ok1 := ok.wk w
  have ok2 := ok1.wipe vs
  rw [e] at ok2
  refine { ok2 with len := by rw [ok2.len, wipeA_len], slot := fun i a h => ok2.slot i a ?_ }
  obtain ⟨_, h2⟩ := wipeA_at h
  have : ∀ (us : List Nat), i ∉ us → (wipeA (wipeA B vs) us)[i]? = (wipeA B vs)[i]? := fun us => by
    induction us with
    | nil => intro _; rfl
    | cons u us ih =>
      intro hu
      show ((wipeA (wipeA B vs) us).set u none)[i]? = _
      rw [List.getElem?_set_ne (fun z => hu (by rw [z]; exact List.mem_cons_self)), ih (fun z => hu (List.mem_cons_of_mem _ z))]
  rw [this vs h2]; exact h
/-- what one turn of a comprehension must show: in the block's context Y -/
structure LcT {τ : Type} (P : (Cx → Prop) → Prop) (K : PySem.W.Frag) (Af : τ → Slots) (vs : List Nat) (ifs : List Expr) (elt : Expr) (A0 : Slots) (r : Option D × τ) : Prop where
  ex : ∃ c B1, (∀ Γ, P fun Y => PTs Y ifs (JT K Γ A0 c B1)) ∧ B1.length ≤ 900 ∧ (c = false → r.1 = none ∧ Wk B1 (wipeA (Af r.2) vs)) ∧ (c = true → ∃ d B2, (∀ Γ, P fun Y => PE Y elt (JE K Γ B1 (.sh d) B2)) ∧ B2.length ≤ 900 ∧ r.1 = some d ∧ Wk B2 (wipeA (Af r.2) vs))
section
variable {K : PySem.W.Frag} {Γ : En} {A A1 : Slots} {ifs : List Expr} {elt : Expr}
/-- the reading -/
theorem lc_read {α τ : Type} {P : (Cx → Prop) → Prop} (xs : List α) (enc : α → D) (tg : Tg) (vs : List Nat) (Af : τ → Slots) (f : τ → α → Option D × τ) (s0 : τ) (hA : Wk A1 (Af s0)) (hl9 : ∀ s, (Af s).length ≤ 900) (hix : ∀ i ∈ tg.ix, i ∈ vs) (hf : ∀ x ∈ xs, tg.fit (enc x)) (hz : xs.length ≤ 100000)
    (hb : ∀ pre x post s, xs = pre ++ x :: post → (lcs f pre s0).2 = s → LcT P K Af vs ifs elt (tg.sl (wipeA (Af s) vs) (enc x)) (f s x)) :
    ∀ σ H Q, JE K Γ A (.ol none (lcs f xs s0).1) (wipeA (Af (lcs f xs s0).2) vs) σ H Q →
      tLc (JI K Γ A (xs.map enc) A1) (tg.g K) (fun σ H Q => ∃ u : TT, (P fun Y => PTs Y ifs u) ∧ u σ H Q) (fun σ H Q => ∃ u : TE, (P fun Y => PE Y elt u) ∧ u σ H Q) vs σ H Q := by
  rintro σ H Q ⟨S, Ms, ok, k⟩
  refine ⟨S, Ms, ok, fun J S1 H1 M1 s1 ok1 w Dl nD => ?_⟩
  have len9 : ∀ s, (wipeA (Af s) vs).length ≤ 900 := fun s => by rw [wipeA_len]; exact hl9 s
  have n7 : ∀ s, (wipeA (Af s) vs)[L7]? = none := fun s => List.getElem?_eq_none_iff.mpr (Nat.le_trans (len9 s) (by decide))
  refine ⟨fun i m H => m = xs.length - i ∧ i ≤ xs.length ∧ ∃ S Ms acc, Same S1 S ∧ OK K Γ (wipeA (Af (lcs f (xs.take i) s0).2) vs) (wipe σ vs) S H Ms ∧ Ms L7 = one Dl (.lst acc) ∧ Rds K S acc (lcs f (xs.take i) s0).1, ⟨xs.length, rfl, Nat.zero_le _, ?_⟩, ?_⟩
  · have ok2 := (ok1.wk hA).wipe vs
    exact ⟨S1, _, [], Same.refl S1, ok2.heaplet (k := L7) (M := one Dl (.lst [])) (.inl (n7 _)) (fun b u e => by obtain ⟨rfl, rfl⟩ := one_at e; exact upd_same) (fun b u e => by obtain ⟨rfl, rfl⟩ := one_at e; exact .inl nD) (fun b u e _ => by rw [upd_ne (ne_of_none e nD)]; exact e), put_same, .nil⟩
  rintro i m H ⟨rfl, hi, S2, M2, acc, s2, ok2, e7, racc⟩
  rcases Nat.lt_or_ge i xs.length with hlt | hge
  · have hx : xs = xs.take i ++ xs[i] :: xs.drop (i + 1) := by rw [List.getElem_cons_drop, List.take_append_drop]
    have htk : xs.take (i + 1) = xs.take i ++ [xs[i]] := by rw [List.take_succ, List.getElem?_eq_getElem hlt]; rfl
    obtain ⟨c, B1, ht, hB1, hn, hy⟩ := (hb _ _ _ _ hx rfl).ex
    obtain ⟨_, wy⟩ := w i H (s2.trans ok2.sH)
    obtain ⟨wg, wy⟩ := wy (enc xs[i]) (by rw [List.getElem?_map, List.getElem?_eq_getElem hlt]; rfl)
    refine .inr ⟨wg, fun H' => ∃ S' Ms' acc', Same S1 S' ∧ OK K Γ (wipeA (Af (lcs f (xs.take (i + 1)) s0).2) vs) (wipe σ vs) S' H' Ms' ∧ Ms' L7 = one Dl (.lst acc') ∧ Rds K S' acc' (lcs f (xs.take (i + 1)) s0).1, fun H' ⟨S', Ms', acc', e1, e2, e3, e4⟩ => ⟨xs.length - (i + 1), by omega, rfl, hlt, S', Ms', acc', e1, e2, e3, e4⟩, fun x H' y => ?_⟩
    have hstep : lcs f (xs.take (i + 1)) s0 = (match f (lcs f (xs.take i) s0).2 xs[i] with | (some d, s') => ((lcs f (xs.take i) s0).1 ++ [d], s') | (none, s') => ((lcs f (xs.take i) s0).1, s')) := by
      rw [htk, lcs_app]
      show ((lcs f (xs.take i) s0).1 ++ (match f (lcs f (xs.take i) s0).2 xs[i] with | (some d, s') => (d :: (lcs f [] s').1, (lcs f [] s').2) | (none, s') => lcs f [] s').1, (match f (lcs f (xs.take i) s0).2 xs[i] with | (some d, s') => (d :: (lcs f [] s').1, (lcs f [] s').2) | (none, s') => lcs f [] s').2) = _
      rcases f (lcs f (xs.take i) s0).2 xs[i] with ⟨_ | d, s'⟩
      · show ((lcs f (xs.take i) s0).1 ++ [], s') = _
        rw [List.append_nil]
      · rfl
    have all : ∀ S3, Same S1 S3 → OK K Γ (wipeA (Af (lcs f (xs.take i) s0).2) vs) (wipe σ vs) S3 H' M2 → Rds K S3 acc (lcs f (xs.take i) s0).1 → Rd K S3 x (enc xs[i]) → tg.g K x (wipe σ vs) H' fun σ2 H2 => wipe σ2 vs = wipe σ vs ∧ (fun σ H Q => ∃ u : TT, (P fun Y => PTs Y ifs u) ∧ u σ H Q) σ2 H2 fun b H3 =>
        if b = true then (fun σ H Q => ∃ u : TE, (P fun Y => PE Y elt u) ∧ u σ H Q) σ2 H3 fun y H4 => ∃ acc, H4 Dl = some (.lst acc) ∧ acc.length < sizeLine ∧ (fun H' => ∃ S' Ms' acc', Same S1 S' ∧ OK K Γ (wipeA (Af (lcs f (xs.take (i + 1)) s0).2) vs) (wipe σ vs) S' H' Ms' ∧ Ms' L7 = one Dl (.lst acc') ∧ Rds K S' acc' (lcs f (xs.take (i + 1)) s0).1) (upd H4 Dl (.lst (acc ++ [y])))
        else (fun H' => ∃ S' Ms' acc', Same S1 S' ∧ OK K Γ (wipeA (Af (lcs f (xs.take (i + 1)) s0).2) vs) (wipe σ vs) S' H' Ms' ∧ Ms' L7 = one Dl (.lst acc') ∧ Rds K S' acc' (lcs f (xs.take (i + 1)) s0).1) H3 := by
      intro S3 s3 ok3 racc r3
      refine tg_run ok3 r3 (hf _ (List.getElem_mem hlt)) fun σ2 ok4 hw hl => ?_
      have e2 : wipe σ2 vs = wipe σ vs := by rw [wipe_eq hl (hw vs hix), wipe_wipe]
      have l4 : (tg.sl (wipeA (Af (lcs f (xs.take i) s0).2) vs) (enc xs[i])).length ≤ 900 := by
        have := ok4.len
        rw [hl, wipe_length] at this
        have l3 := ok3.len
        rw [wipe_length] at l3
        rw [← this, l3]; exact len9 _
      refine ⟨e2, _, ht _, S3, _, ok4.into l4, fun S5 H5 M5 s5 ok5 => ?_⟩
      cases c with
      | false =>
        refine L2.iteF ?_
        obtain ⟨z1, z2⟩ := hn rfl
        have ok6 := (ok4.outof ok5 hB1).resl z2 e2
        generalize hfz : f (lcs f (xs.take i) s0).2 xs[i] = z at z1 ok6 hstep
        obtain ⟨o, s'⟩ := z
        cases z1
        have hst : lcs f (xs.take (i + 1)) s0 = ((lcs f (xs.take i) s0).1, s') := hstep
        refine ⟨S5, put M5 L7 (M2 L7), acc, s3.trans s5, ?_, by rw [put_same]; exact e7, ?_⟩
        · rw [hst]; exact ok6
        · rw [hst]; exact racc.mono s5
      | true =>
        refine L2.iteT ?_
        obtain ⟨dd, B2, he, hB2, z1, z2⟩ := hy rfl
        refine ⟨_, he _, S5, M5, ok5, fun v S6 H6 M6 s6 ok6 rv => ?_⟩
        have hD : M2 L7 Dl = some (.lst acc) := by rw [e7]; exact one_same
        have ok7 := (ok4.outof ok6 hB2).resl z2 e2
        have hD6 : H6 Dl = some (.lst acc) := ok7.mH L7 Dl _ (by rw [put_same]; exact hD)
        have lacc : acc.length ≤ 100000 := by
          rw [racc.len]
          exact Nat.le_trans (lcs_len _ _) (Nat.le_trans (by rw [List.length_take]; exact Nat.min_le_right _ _) hz)
        refine ⟨acc, hD6, Nat.lt_of_le_of_lt lacc (by decide), ?_⟩
        have ok8 := ok7.heaplet (k := L7) (M := one Dl (.lst (acc ++ [v]))) (H' := upd H6 Dl (.lst (acc ++ [v]))) (.inl (n7 _)) (fun b u e => by obtain ⟨rfl, rfl⟩ := one_at e; exact upd_same) (fun b u e => by
          obtain ⟨rfl, rfl⟩ := one_at e; exact .inr ⟨_, by rw [put_same]; exact hD⟩) (fun b u e n => by
          rw [put_same, e7] at n
          have hb : b ≠ Dl := fun z => by subst z; exact nofree one_same n
          rw [upd_ne hb]; exact e)
        generalize hfz : f (lcs f (xs.take i) s0).2 xs[i] = z at z1 ok8 hstep
        obtain ⟨o, s'⟩ := z
        cases z1
        have hst : lcs f (xs.take (i + 1)) s0 = ((lcs f (xs.take i) s0).1 ++ [dd], s') := hstep
        refine ⟨S6, put (put M6 L7 (M2 L7)) L7 (one Dl (.lst (acc ++ [v]))), acc ++ [v], (s3.trans s5).trans s6, ?_, put_same, ?_⟩
        · rw [hst]; exact ok8
        · rw [hst]; exact (racc.mono (s5.trans s6)).app (.one rv)
    rcases wy x H' y with ⟨rfl, r⟩ | ⟨p, u, np, rfl, r⟩
    · exact all S2 s2 ok2 racc (r.mono s2)
    · obtain ⟨ok3, s3⟩ := ok2.new (o := u) np
      exact all _ (s2.trans s3) ok3 (racc.mono s3) (r _ (s2.trans s3) upd_same)
  · have e : i = xs.length := by omega
    subst e
    rw [List.take_length] at ok2 racc
    refine .inl ⟨(w _ H (s2.trans ok2.sH)).1 (by rw [List.length_map]; exact Nat.le_refl _), ?_⟩
    have ok3 := ok2.unw.mv (len9 _)
    refine k (.ref Dl) S2 H _ (s1.trans s2) ok3 ⟨Dl, acc, fun _ z => (by cases z), rfl, ?_, racc⟩
    have e9 : put (put M2 T (M2 L7)) L7 emp T = M2 L7 := by rw [put_ne (by decide), put_same]
    rw [e9, e7]
    exact one_same
end
section
variable {X : Cx} {Γ : En} {W : WX} {A A1 : Slots} {ifs : List Expr} {elt tgt iter : Expr} {scope : Scope} {own : List (Str × Nat)} {pos : Pos}
/-- in every block of X -/
abbrev blkP (X : Cx) (scope : Scope) : (Cx → Prop) → Prop := fun q => ∀ (s : Shared) (H : Hp) (C : Addr) (cl : List (Str × Addr)) (fp : List Addr), q (X.blk s H scope (compEnvC scope cl C X.env) fp)
theorem jlc {α τ : Type} (xs : List α) (enc : α → D) (tg : Tg) (own : List (Str × Nat)) (Af : τ → Slots) (f : τ → α → Option D × τ) (s0 : τ) (hN : X.N.Nodup) (hi : PI X tgt iter (JI X.K Γ A (xs.map enc) A1)) (hA : Wk A1 (Af s0)) (ok : BlkOk X.N X.env.scope scope own)
    (hg : blkP X scope fun Y => PG Y tgt (tg.g X.K)) (hl9 : ∀ s, (Af s).length ≤ 900) (hix : ∀ i ∈ tg.ix, i ∈ own.map (·.2)) (hf : ∀ x ∈ xs, tg.fit (enc x)) (hz : xs.length ≤ 100000)
    (hb : ∀ pre x post s, xs = pre ++ x :: post → (lcs f pre s0).2 = s → LcT (blkP X scope) X.K Af (own.map (·.2)) ifs elt (tg.sl (wipeA (Af s) (own.map (·.2))) (enc x)) (f s x)) (hc : X.calm = true := by rfl) (hs : ∀ x, foldedSetIterable iter X.env x = pure x := by intro _; rfl) :
    PE X (.ListComp elt [⟨tgt, iter, ifs, 0⟩] scope pos) (JE X.K Γ A (.ol none (lcs f xs s0).1) (wipeA (Af (lcs f xs s0).2) (own.map (·.2)))) :=
  peI (pe_lc hc hN hi ok hg (tt := fun σ H Q => ∃ u : TT, (blkP X scope fun Y => PTs Y ifs u) ∧ u σ H Q) (te := fun σ H Q => ∃ u : TE, (blkP X scope fun Y => PE Y elt u) ∧ u σ H Q)
    (fun s H C cl fp => ⟨fun pins sh σ H Q I ⟨u, h1, h2⟩ => (h1 s _ C cl fp).run pins sh σ H Q I h2⟩) (fun s H C cl fp => ⟨fun pins sh σ H Q I ⟨u, h1, h2⟩ => (h1 s _ C cl fp).run pins sh σ H Q I h2⟩) hs)
    (lc_read xs enc tg (own.map (·.2)) Af f s0 hA hl9 hix hf hz hb)
end
end J
namespace J
open PySem L2
/-! ### lists of one's own change -/
section
variable {K : PySem.W.Frag} {Γ : En} {A B : Slots} {σ σ' : L2.St} {S S' H H' : Hp} {Ms M' : Nat → Hp} {n : Nat} {a : Sl}
theorem OK.forget (ok : OK K Γ A σ S H Ms) (n : Nat) : OK K Γ (A.set n none) σ S H Ms := ok.weak (by rw [List.length_set]) fun i a e => by
  by_cases hi : i = n
  · subst hi
    by_cases hn : i < A.length
    · rw [List.getElem?_set_self hn] at e; cases e
    · rw [List.getElem?_eq_none_iff.mpr (by rw [List.length_set]; omega)] at e; cases e
  · rw [List.getElem?_set_ne (Ne.symm hi)] at e; exact e
theorem OK.refill (ok : OK K Γ (A.set n none) σ S H Ms) {v : V} (hv : σ[n]? = some (some v)) (r : a.r K S (Ms n) v) : OK K Γ (A.set n (some a)) σ S H Ms := by
  refine { ok with len := by have := ok.len; rw [List.length_set] at this ⊢; exact this, slot := fun i b e => ?_ }
  by_cases hi : i = n
  · subst hi
    have hn : i < A.length := by
      rcases Nat.lt_or_ge i A.length with h | h
      · exact h
      · rw [List.getElem?_eq_none_iff.mpr (by rw [List.length_set]; exact h)] at e; cases e
    rw [List.getElem?_set_self hn] at e
    cases e
    exact ⟨v, hv, r⟩
  · rw [List.getElem?_set_ne (Ne.symm hi)] at e
    exact ok.slot i b (by rw [List.getElem?_set_ne (Ne.symm hi)]; exact e)
theorem none_at {A : Slots} (n : Nat) : (A.set n none)[n]? = none ∨ (A.set n none)[n]? = some none := by
  by_cases hn : n < A.length
  · exact .inr (List.getElem?_set_self hn)
  · exact .inl (List.getElem?_eq_none_iff.mpr (by rw [List.length_set]; omega))
/-- the object at p, in the slot n's heaplet, becomes o -/
theorem OK.mut (ok : OK K Γ A σ S H Ms) {p : Addr} {o0 o : HO} (h0 : Ms n p = some o0) {v : V} (hv : σ[n]? = some (some v)) (r : a.r K S (upd (Ms n) p o) v) :
    OK K Γ (A.set n (some a)) σ S (upd H p o) (put Ms n (upd (Ms n) p o)) := by
  have ok1 := (ok.forget n).heaplet (k := n) (M := upd (Ms n) p o) (H' := upd H p o) (none_at n) (fun b u e => by
    by_cases hb : b = p
    · subst hb; rw [upd_same] at e ⊢; exact e
    · rw [upd_ne hb] at e ⊢; exact ok.mH n b u e) (fun b u e => by
    by_cases hb : b = p
    · subst hb; exact .inr ⟨_, h0⟩
    · rw [upd_ne hb] at e; exact .inr ⟨u, e⟩) (fun b u e z => by
    have hb : b ≠ p := fun q => by subst q; exact nofree h0 z
    rw [upd_ne hb]; exact e)
  exact ok1.refill hv (by rw [put_same]; exact r)
/-- a heaplet goes into another one -/
theorem OK.absorb (ok : OK K Γ A σ S H Ms) {k l : Nat} (hk : A[k]? = none ∨ A[k]? = some none) (hl : A[l]? = none ∨ A[l]? = some none) (hkl : k ≠ l) : OK K Γ A σ S H (put (put Ms k (joinH (Ms k) (Ms l))) l emp) := by
  have src : ∀ i b u, put (put Ms k (joinH (Ms k) (Ms l))) l emp i b = some u → ∃ j, Ms j b = some u ∧ ((i = k ∧ (j = k ∨ j = l)) ∨ (i ≠ k ∧ i ≠ l ∧ j = i)) := fun i b u e => by
    by_cases h1 : i = l
    · subst h1; rw [put_same] at e; cases e
    · rw [put_ne h1] at e
      by_cases h2 : i = k
      · subst h2; rw [put_same] at e
        cases q : Ms l b with
        | none => rw [joinH_r q] at e; exact ⟨i, e, .inl ⟨rfl, .inl rfl⟩⟩
        | some w => rw [joinH_l q] at e; exact ⟨l, by rw [q]; exact e, .inl ⟨rfl, .inr rfl⟩⟩
      · rw [put_ne h2] at e; exact ⟨i, e, .inr ⟨h2, h1, rfl⟩⟩
  refine { ok with slot := fun i a e => ?_, mH := fun i b u e => ?_, mS := fun i b u e => ?_, dj := fun i j b u e ne => ?_, mN := fun i b u e => ?_ }
  · have h1 : i ≠ k := fun z => by subst z; rcases hk with z | z <;> rw [z] at e <;> cases e
    have h2 : i ≠ l := fun z => by subst z; rcases hl with z | z <;> rw [z] at e <;> cases e
    rw [put_ne h2, put_ne h1]; exact ok.slot i a e
  · obtain ⟨j, q, _⟩ := src i b u e; exact ok.mH j b u q
  · obtain ⟨j, q, _⟩ := src i b u e; exact ok.mS j b u q
  · cases q2 : put (put Ms k (joinH (Ms k) (Ms l))) l emp j b with
    | none => rfl
    | some w =>
      obtain ⟨x, q, hx⟩ := src i b u e
      obtain ⟨y, r, hy⟩ := src j b w q2
      have : x ≠ y := fun z => by
        subst z
        rcases hx with ⟨h1, h2⟩ | ⟨h1, h2, h3⟩ <;> rcases hy with ⟨g1, g2⟩ | ⟨g1, g2, g3⟩
        · exact ne (h1.trans g1.symm)
        · rcases h2 with z | z
          · exact g1 (g3 ▸ z)
          · exact g2 (g3 ▸ z)
        · rcases g2 with z | z
          · exact h1 (h3 ▸ z)
          · exact h2 (h3 ▸ z)
        · exact ne (h3.symm.trans g3)
      exact (nofree r (ok.dj x y b u q this)).elim
  · obtain ⟨j, q, _⟩ := src i b u e; exact ok.mN j b u q
/-- what a slot's value is once it is frozen -/
def Sl.frz : Sl → D
  | .sh d => d
  | .ol _ ds => .lst ds
  | .oll dss => .lst (dss.map .lst)
  | .oi _ C gs => .ins C gs
theorem own2_rds {K : PySem.W.Frag} {S S' M : Hp} (e1 : Same S S') (e2 : Same M S') : ∀ {qs : List Addr} {dss : List (List D)}, Own2 K S M qs dss → Rds K S' (qs.map V.ref) (dss.map .lst)
  | [], [], _ => .nil
  | q :: qs, ds :: dss, ⟨⟨vs, h, r⟩, t⟩ => .cons (.lst (SqL.of (e2 _ _ h)) (r.mono e1)) (own2_rds e1 e2 t)
  | [], _ :: _, h => h.elim
  | _ :: _, [], h => h.elim
theorem frz_rd {K : PySem.W.Frag} {S S' M : Hp} {v : V} (e1 : Same S S') (e2 : Same M S') : ∀ {a : Sl}, a.r K S M v → Rd K S' v a.frz
  | .sh _, h => Rd.mono e1 h
  | .ol _ _, ⟨p, vs, _, h1, h2, h3⟩ => by subst h1; exact .lst (SqL.of (e2 _ _ h2)) (h3.mono e1)
  | .oll _, ⟨p, qs, h1, h2, _, _, h5⟩ => by subst h1; exact .lst (SqL.of (e2 _ _ h2)) (own2_rds e1 e2 h5)
  | .oi _ _ _, ⟨dx, fs, h1, _, h3, _, h5⟩ => by subst h1; exact .ins (e2 _ _ h3) (h5.mono e1)
theorem OK.freezeN (ok : OK K Γ A σ S H Ms) {n : Nat} (h : A[n]? = some (some a)) : ∃ S' Ms', Same S S' ∧ OK K Γ (A.set n (some (.sh a.frz))) σ S' H Ms' := by
  obtain ⟨v, h1, h2⟩ := ok.slot n _ h
  obtain ⟨ok1, s1, s2⟩ := (ok.forget n).freezeM (none_at n)
  exact ⟨_, _, s1, ok1.refill h1 (frz_rd s1 s2 h2)⟩
end
section
variable {X : Cx} {Γ : En} {W : WX} {A A1 A2 A' B B1 B2 : Slots} {a b e o : Expr} {es : List Expr} {p pos apos cpos : Pos} {i j : Int} {d d' : D} {ds dds ds0 ds1 ds2 : List D} {sl r : Sl} {x m y : Str} {q : Option Addr} {sts : List Stmt} {ou : Out}
theorem jfzN (n : Nat) (hn : A[n]? = some (some sl)) (h : PE X e (JE X.K Γ (A.set n (some (.sh sl.frz))) r A')) : PE X e (JE X.K Γ A r A') :=
  peI h fun σ H Q ⟨S, Ms, ok, k⟩ => by
    obtain ⟨S1, M1, s1, ok1⟩ := ok.freezeN hn
    exact ⟨S1, M1, ok1, fun v S2 H2 M2 s2 ok2 r2 => k v S2 H2 M2 (s1.trans s2) ok2 r2⟩
theorem jfzS (n : Nat) (hn : A[n]? = some (some sl)) (h : PSs X sts (JS X.K Γ W (A.set n (some (.sh sl.frz))) ou)) : PSs X sts (JS X.K Γ W A ou) :=
  pssI h fun D σ H ⟨S, Ms, ok, k⟩ => by
    obtain ⟨S1, M1, s1, ok1⟩ := ok.freezeN hn
    exact ⟨S1, M1, ok1, k.mono _ _ s1⟩
/-- the value on the way is frozen -/
theorem jfzT (h : PE X e (JE X.K Γ A sl A')) (hT : A'.length ≤ T := by exact Nat.le_of_ble_eq_true rfl) : PE X e (JE X.K Γ A (.sh sl.frz) A') :=
  peI h fun σ H Q ⟨S, Ms, ok, k⟩ => ⟨S, Ms, ok, fun v S1 H1 M1 s1 ok1 r1 => by
    obtain ⟨ok2, s2, s3⟩ := ok1.freezeM (k := T) (.inl (List.getElem?_eq_none_iff.mpr hT))
    exact k v _ H1 _ (s1.trans s2) ok2 (frz_rd s2 s3 r1)⟩
/-- y.append(e) -/
theorem jappend (n : Nat) {py : Pos} (hn : A[n]? = some (some (.ol q ds0))) (ha : PE X e (JE X.K Γ A (.sh d) A1)) (hn1 : A1[n]? = some (some (.ol q ds1))) (hz : ds1.length < 100000) (hN : X.N[n]? = some y := by rfl)
    (hv : Vis X.env.scope y := by first | exact Or.inl rfl | exact Or.inr (Or.inl rfl) | exact Or.inr (Or.inr rfl)) (hd1 : (y == ("__debug__" : Str)) = false := by decide) (hcd : (y == ("__classdict__" : Str)) = false := by decide)
    (h : ∀ {t : TA}, PA X [e] t → PE X (.Call (.Attribute (.Name y py) "append" apos) [e] [] cpos) (tBM X.K "list" rAppend (tVar n) t)) (hs : swapsWith (.Call (.Attribute (.Name y py) "append" apos) [e] [] cpos) none pos.line X.env = pure false := by rfl)
    (hs0 : starEach [e] X.env = (false, eval e X.env) :: starEach [] X.env := by rfl) :
    PS X (.Expr (.Call (.Attribute (.Name y py) "append" apos) [e] [] cpos) pos) (JS X.K Γ W A (.nx (A1.set n (some (.ol q (ds1 ++ [d])))))) :=
  psI (ps_expr (h (pa_cons ha pa_nil hs0)) hs) fun dd σ H ⟨S, Ms, ok, k⟩ => by
    obtain ⟨v, hv1, p0, vs0, h0, rfl, hM, _⟩ := ok.slot n _ hn
    refine ⟨.ref p0, hv1, .inl ⟨rfl, vs0, SqL.of (ok.mH n _ _ hM)⟩, S, Ms, ok, fun w S1 H1 M1 s1 ok1 r1 => ?_⟩
    obtain ⟨v, hv2, p1, vs1, g0, rfl, gM, gr⟩ := ok1.slot n _ hn1
    rw [hv1] at hv2
    cases hv2
    refine ⟨p0, vs1, w, rfl, rfl, ok1.mH n _ _ gM, by rw [gr.len]; exact Nat.lt_of_lt_of_le hz (by decide), ?_⟩
    exact k σ S1 _ _ s1 (ok1.mut (a := .ol q (ds1 ++ [d])) gM hv1 ⟨p0, vs1 ++ [w], g0, rfl, upd_same, gr.app (.one r1)⟩)
theorem own2_app {K : PySem.W.Frag} {S M M' : Hp} {q : Addr} {vs : List V} {ds : List D} (hq : M' q = some (.lst vs)) (r : Rds K S vs ds) : ∀ {qs : List Addr} {dss : List (List D)}, Own2 K S M qs dss → (∀ b ∈ qs, ∀ u, M b = some u → M' b = some u) → Own2 K S M' (qs ++ [q]) (dss ++ [ds])
  | [], [], _, _ => ⟨⟨vs, hq, r⟩, trivial⟩
  | b :: qs, ds :: dss, ⟨⟨vs, h, r⟩, t⟩, k => ⟨⟨vs, k b List.mem_cons_self _ h, r⟩, own2_app hq ‹_› t fun b hb => k b (List.mem_cons_of_mem _ hb)⟩
  | [], _ :: _, h, _ => h.elim
  | _ :: _, [], h, _ => h.elim
theorem own2_in {K : PySem.W.Frag} {S M : Hp} : ∀ {qs : List Addr} {dss : List (List D)}, Own2 K S M qs dss → ∀ b ∈ qs, ∃ u, M b = some u
  | [], [], _, b, hb => by cases hb
  | q :: qs, ds :: dss, ⟨⟨vs, h, r⟩, t⟩, b, hb => by
    rcases List.mem_cons.mp hb with z | z
    · subst z; exact ⟨_, h⟩
    · exact own2_in t b z
  | [], _ :: _, h, _, _ => h.elim
  | _ :: _, [], h, _, _ => h.elim
theorem own2_len {K : PySem.W.Frag} {S M : Hp} : ∀ {qs : List Addr} {dss : List (List D)}, Own2 K S M qs dss → qs.length = dss.length
  | [], [], _ => rfl
  | q :: qs, ds :: dss, ⟨_, t⟩ => congrArg (· + 1) (own2_len t)
  | [], _ :: _, h => h.elim
  | _ :: _, [], h => h.elim
/-- y.append(e), e a new list: y a list of lists of one's own -/
theorem jappendL (n : Nat) {py : Pos} {dss : List (List D)} (hn : A[n]? = some (some (.oll dss))) (ha : PE X e (JE X.K Γ A (.ol none ds) A1)) (hn1 : A1[n]? = some (some (.oll dss))) (hz : dss.length < 100000) (hT : A1.length ≤ 900 := by exact Nat.le_of_ble_eq_true rfl) (hN : X.N[n]? = some y := by rfl)
    (hv : Vis X.env.scope y := by first | exact Or.inl rfl | exact Or.inr (Or.inl rfl) | exact Or.inr (Or.inr rfl)) (hd1 : (y == ("__debug__" : Str)) = false := by decide) (hcd : (y == ("__classdict__" : Str)) = false := by decide)
    (h : ∀ {t : TA}, PA X [e] t → PE X (.Call (.Attribute (.Name y py) "append" apos) [e] [] cpos) (tBM X.K "list" rAppend (tVar n) t)) (hs : swapsWith (.Call (.Attribute (.Name y py) "append" apos) [e] [] cpos) none pos.line X.env = pure false := by rfl)
    (hs0 : starEach [e] X.env = (false, eval e X.env) :: starEach [] X.env := by rfl) :
    PS X (.Expr (.Call (.Attribute (.Name y py) "append" apos) [e] [] cpos) pos) (JS X.K Γ W A (.nx (A1.set n (some (.oll (dss ++ [ds])))))) :=
  psI (ps_expr (h (pa_cons ha pa_nil hs0)) hs) fun dd σ H ⟨S, Ms, ok, k⟩ => by
    obtain ⟨v, hv1, p0, qs0, rfl, hM, _⟩ := ok.slot n _ hn
    refine ⟨.ref p0, hv1, .inl ⟨rfl, _, SqL.of (ok.mH n _ _ hM)⟩, S, Ms, ok, fun w S1 H1 M1 s1 ok1 r1 => ?_⟩
    obtain ⟨v, hv2, p1, qs1, rfl, gM, g2, g3, g4⟩ := ok1.slot n _ hn1
    rw [hv1] at hv2
    cases hv2
    obtain ⟨q, ws, _, rfl, hq, rq⟩ := r1
    have hnl : n < A1.length := (List.getElem?_eq_some_iff.mp hn1).1
    have hnT : n ≠ T := fun z => by subst z; exact absurd hnl (by show ¬ 1000 < _; omega)
    have hqp : ∀ b u, M1 n b = some u → b ≠ q := fun b u e z => by subst z; exact nofree hq (ok1.dj n T b u e hnT)
    refine ⟨p0, qs1.map V.ref, .ref q, rfl, rfl, ok1.mH n _ _ gM, by rw [List.length_map, own2_len g4]; exact Nat.lt_of_lt_of_le hz (by decide), ?_⟩
    have ok2 := (ok1.forget n).absorb (k := n) (l := T) (none_at n) (.inl (List.getElem?_eq_none_iff.mpr (by rw [List.length_set]; show A1.length ≤ 1000; omega))) hnT
    have en : put (put M1 n (joinH (M1 n) (M1 T))) T emp n = joinH (M1 n) (M1 T) := by rw [put_ne hnT, put_same]
    have nj : ∀ b u, M1 n b = some u → M1 T b = none := fun b u e => ok1.dj n T b u e hnT
    have gj : ∀ b u, M1 n b = some u → joinH (M1 n) (M1 T) b = some u := fun b u e => by rw [joinH_r (nj b u e)]; exact e
    have ok3 := ok2.mut (n := n) (a := .oll (dss ++ [ds])) (p := p0) (o := .lst (qs1.map V.ref ++ [V.ref q])) (by rw [en]; exact gj _ _ gM) hv1 ⟨p0, qs1 ++ [q], rfl, by rw [upd_same, List.map_append]; rfl, by
      rw [List.mem_append, List.mem_singleton]
      rintro (z | z)
      · exact g2 z
      · exact hqp _ _ gM z, by
      rw [List.nodup_append]
      refine ⟨g3, by simp, fun b hb c hc z => ?_⟩
      rw [List.mem_singleton] at hc
      subst hc; subst z
      obtain ⟨u, hu⟩ := own2_in g4 b hb
      exact hqp _ _ hu rfl, ?_⟩
    · rw [List.set_set] at ok3
      exact k σ S1 _ _ s1 ok3
    · rw [en]
      refine own2_app (q := q) (vs := ws) ?_ rq g4 fun b hb u e => ?_
      · rw [upd_ne (hqp _ _ gM).symm]; exact joinH_l hq
      · have hbp : b ≠ p0 := fun z => g2 (z ▸ hb)
        rw [upd_ne hbp]; exact gj b u e
/-- an empty list of one's own is a list of lists -/
theorem jas_oll (n : Nat) (hn : A[n]? = some (some (.ol none []))) (h : PSs X sts (JS X.K Γ W (A.set n (some (.oll []))) ou)) : PSs X sts (JS X.K Γ W A ou) :=
  pssI h fun dd σ H ⟨S, Ms, ok, k⟩ => by
    obtain ⟨v, hv1, p0, vs0, h0, rfl, hM, r⟩ := ok.slot n _ hn
    cases r
    exact ⟨S, Ms, (ok.forget n).refill hv1 ⟨p0, [], rfl, hM, by simp, by simp, trivial⟩, k⟩
end
end J
namespace J
open PySem L2
section
variable {X : Cx} {Γ : En} {W : WX} {A A1 A2 A' B B1 B2 : Slots} {a b e o : Expr} {es : List Expr} {p pos apos cpos : Pos} {i j : Int} {d d' : D} {ds dds ds0 ds1 ds2 es1 : List D} {sl r : Sl} {x m y : Str} {q : Option Addr} {sts : List Stmt} {ou : Out} {dss : List (List D)}
/-! ### reading places -/
theorem atI_rd {K : PySem.W.Frag} {S : Hp} {vs : List V} (r : Rds K S vs ds) (h : atI ds i = some d) : ∃ v, atI vs i = some v ∧ Rd K S v d := by
  unfold atI at h ⊢
  rw [r.len]
  cases q : ixN ds.length i with
  | none => rw [q] at h; cases h
  | some k =>
    rw [q] at h
    exact r.get h
theorem jixL (ha : PE X a (JE X.K Γ A (.sh (.lst ds)) A1)) (hb : PE X b (JE X.K Γ A1 (.sh (.int i)) A2)) (h : atI ds i = some d) (hs : PlainIx b := by exact fun _ _ => rfl) : PE X (.Subscript a b pos) (JE X.K Γ A (.sh d) A2) :=
  peI (pe_ix ix_list ha hb hs) fun σ H Q ⟨S, Ms, ok, k⟩ => ⟨S, Ms, ok, fun v S1 H1 M1 s1 ok1 r1 => ⟨S1, M1, ok1, fun w S2 H2 M2 s2 ok2 r2 => by
    cases r1 with
    | lst h1 rr =>
      obtain ⟨z, g1, g2⟩ := atI_rd (rr.mono s2) h
      exact ⟨_, _, i, z, rfl, int_of r2, sqL_mono (s2.trans ok2.sH) h1, g1, k z S2 H2 M2 (s1.trans s2) ok2 g2⟩⟩⟩
theorem jixT (ha : PE X a (JE X.K Γ A (.sh (.tup ds)) A1)) (hb : PE X b (JE X.K Γ A1 (.sh (.int i)) A2)) (h : atI ds i = some d) (hs : PlainIx b := by exact fun _ _ => rfl) : PE X (.Subscript a b pos) (JE X.K Γ A (.sh d) A2) :=
  peI (pe_ix ix_tup ha hb hs) fun σ H Q ⟨S, Ms, ok, k⟩ => ⟨S, Ms, ok, fun v S1 H1 M1 s1 ok1 r1 => ⟨S1, M1, ok1, fun w S2 H2 M2 s2 ok2 r2 => by
    cases r1 with
    | tup h1 rr =>
      obtain ⟨z, g1, g2⟩ := atI_rd (rr.mono s2) h
      exact ⟨_, _, i, z, rfl, int_of r2, sqT_mono (s2.trans ok2.sH) h1, g1, k z S2 H2 M2 (s1.trans s2) ok2 g2⟩⟩⟩
/-- of a list of one's own in a slot -/
theorem jixO (n : Nat) {py : Pos} (hn : A[n]? = some (some (.ol q ds0))) (hb : PE X b (JE X.K Γ A (.sh (.int i)) A1)) (hn1 : A1[n]? = some (some (.ol q ds))) (h : atI ds i = some d) (hs : PlainIx b := by exact fun _ _ => rfl) (hN : X.N[n]? = some y := by rfl)
    (hv : Vis X.env.scope y := by first | exact Or.inl rfl | exact Or.inr (Or.inl rfl) | exact Or.inr (Or.inr rfl)) (hd1 : (y == ("__debug__" : Str)) = false := by decide) (hcd : (y == ("__classdict__" : Str)) = false := by decide) : PE X (.Subscript (.Name y py) b pos) (JE X.K Γ A (.sh d) A1) :=
  peI (pe_ix ix_list (pe_var hN hv hd1 hcd) hb hs) fun σ H Q ⟨S, Ms, ok, k⟩ => by
    obtain ⟨v, hv1, p0, vs0, h0, rfl, hM, _⟩ := ok.slot n _ hn
    refine ⟨.ref p0, hv1, S, Ms, ok, fun w S2 H2 M2 s2 ok2 r2 => ?_⟩
    obtain ⟨v, hv2, p1, vs1, g0, rfl, gM, gr⟩ := ok2.slot n _ hn1
    rw [hv1] at hv2
    cases hv2
    obtain ⟨z, g1, g2⟩ := atI_rd gr h
    exact ⟨p0, vs1, i, z, rfl, int_of r2, SqL.of (ok2.mH n _ _ gM), g1, k z S2 H2 M2 s2 ok2 g2⟩
theorem own2_at {K : PySem.W.Frag} {S M : Hp} : ∀ {qs : List Addr} {dss : List (List D)} {k : Nat} {ds : List D}, Own2 K S M qs dss → dss[k]? = some ds → ∃ q vs, qs[k]? = some q ∧ M q = some (.lst vs) ∧ Rds K S vs ds
  | q :: qs, ds :: dss, 0, _, ⟨⟨vs, h, r⟩, _⟩, e => by cases e; exact ⟨q, vs, rfl, h, r⟩
  | q :: qs, ds :: dss, k + 1, _, ⟨_, t⟩, e => own2_at (k := k) t e
  | [], [], _, _, _, e => by simp at e
  | [], _ :: _, _, _, h, _ => h.elim
  | _ :: _, [], _, _, h, _ => h.elim
/-- a value that is read, nothing is made -/
def JP (K : PySem.W.Frag) (Γ : En) (A : Slots) (d : D) : TE := fun σ H Q => ∃ S Ms, OK K Γ A σ S H Ms ∧ ∀ v, Rd K S v d → Q v H
theorem jp (h : PE X e (JP X.K Γ A d)) : PE X e (JE X.K Γ A (.sh d) A) := peI h fun σ H Q ⟨S, Ms, ok, k⟩ => ⟨S, Ms, ok, fun v r => k v S H Ms (Same.refl S) ok r⟩
theorem jpvar (n : Nat) {x : Str} {pos : Pos} (h : A[n]? = some (some (.sh d))) (hN : X.N[n]? = some x := by rfl) (hv : Vis X.env.scope x := by first | exact Or.inl rfl | exact Or.inr (Or.inl rfl) | exact Or.inr (Or.inr rfl)) (hd : (x == ("__debug__" : Str)) = false := by decide)
    (hcd : (x == ("__classdict__" : Str)) = false := by decide) : PE X (.Name x pos) (JP X.K Γ A d) :=
  peI (pe_var hN hv hd hcd) fun σ H Q ⟨S, Ms, ok, k⟩ => by
    obtain ⟨v, h1, h2⟩ := ok.slot n _ h
    exact ⟨v, h1, k v h2⟩
theorem jpint {k pos} : PE X (.Constant (.int i) k pos) (JP X.K Γ A (.int i)) := peI pe_int fun σ H Q ⟨S, Ms, ok, k⟩ => k _ (.int i)
theorem jpixT (ha : PE X a (JP X.K Γ A (.tup ds))) (hb : PE X b (JP X.K Γ A (.int i))) (h : atI ds i = some d) (hs : PlainIx b := by exact fun _ _ => rfl) : PE X (.Subscript a b pos) (JP X.K Γ A d) :=
  peI (pe_ix ix_tup ha hb hs) fun σ H Q ⟨S, Ms, ok, k⟩ => ⟨S, Ms, ok, fun v r1 => ⟨S, Ms, ok, fun w r2 => by
    cases r1 with
    | tup h1 rr =>
      obtain ⟨z, g1, g2⟩ := atI_rd rr h
      exact ⟨_, _, i, z, rfl, int_of r2, sqT_mono ok.sH h1, g1, k z g2⟩⟩⟩
theorem jpixL (ha : PE X a (JP X.K Γ A (.lst ds))) (hb : PE X b (JP X.K Γ A (.int i))) (h : atI ds i = some d) (hs : PlainIx b := by exact fun _ _ => rfl) : PE X (.Subscript a b pos) (JP X.K Γ A d) :=
  peI (pe_ix ix_list ha hb hs) fun σ H Q ⟨S, Ms, ok, k⟩ => ⟨S, Ms, ok, fun v r1 => ⟨S, Ms, ok, fun w r2 => by
    cases r1 with
    | lst h1 rr =>
      obtain ⟨z, g1, g2⟩ := atI_rd rr h
      exact ⟨_, _, i, z, rfl, int_of r2, sqL_mono ok.sH h1, g1, k z g2⟩⟩⟩
/-- y[i], y a list of lists of one's own: where its inner list stands -/
def JQ (K : PySem.W.Frag) (Γ : En) (A : Slots) (n k : Nat) : TE := fun σ H Q => ∃ S Ms, OK K Γ A σ S H Ms ∧ ∀ (p : Addr) (qs : List Addr) (q : Addr), σ[n]? = some (some (.ref p)) → Ms n p = some (.lst (qs.map V.ref)) → qs[k]? = some q → Q (.ref q) H
theorem jq {k : Nat} (n : Nat) {py : Pos} (hn : A[n]? = some (some (.oll dss))) (hb : PE X b (JP X.K Γ A (.int i))) (hi : i = (k : Int)) (hk : k < dss.length) (hs : PlainIx b := by exact fun _ _ => rfl) (hN : X.N[n]? = some y := by rfl)
    (hv : Vis X.env.scope y := by first | exact Or.inl rfl | exact Or.inr (Or.inl rfl) | exact Or.inr (Or.inr rfl)) (hd1 : (y == ("__debug__" : Str)) = false := by decide) (hcd : (y == ("__classdict__" : Str)) = false := by decide) : PE X (.Subscript (.Name y py) b pos) (JQ X.K Γ A n k) :=
  peI (pe_ix ix_list (pe_var hN hv hd1 hcd) hb hs) fun σ H Q ⟨S, Ms, ok, kq⟩ => by
    obtain ⟨v, hv1, p0, qs0, rfl, hM, _, _, g4⟩ := ok.slot n _ hn
    refine ⟨.ref p0, hv1, S, Ms, ok, fun w r2 => ?_⟩
    have hl : k < qs0.length := by rw [own2_len g4]; exact hk
    have e : (qs0.map V.ref)[k]? = some (V.ref qs0[k]) := by rw [List.getElem?_map, List.getElem?_eq_getElem hl]; rfl
    exact ⟨p0, _, i, _, rfl, int_of r2, SqL.of (ok.mH n _ _ hM), at_of hi e, kq p0 qs0 qs0[k] hv1 hM (List.getElem?_eq_getElem hl)⟩
theorem map_ref_inj : ∀ {qs ws : List Addr}, qs.map V.ref = ws.map V.ref → qs = ws
  | [], [], _ => rfl
  | q :: qs, w :: ws, h => by
    rw [List.map_cons, List.map_cons] at h
    injection h with h1 h2
    injection h1 with h1
    rw [h1, map_ref_inj h2]
  | [], _ :: _, h => by cases h
  | _ :: _, [], h => by cases h
/-- y[i][j] of a list of lists of one's own -/
theorem jixOO {k : Nat} (n : Nat) (ho : PE X o (JQ X.K Γ A n k)) (hb : PE X b (JP X.K Γ A (.int j))) (hn : A[n]? = some (some (.oll dss))) (hk : dss[k]? = some ds) (h : atI ds j = some d) (hs : PlainIx b := by exact fun _ _ => rfl) : PE X (.Subscript o b pos) (JE X.K Γ A (.sh d) A) :=
  peI (pe_ix ix_list ho hb hs) fun σ H Q ⟨S, Ms, ok, kq⟩ => ⟨S, Ms, ok, fun p qs q hv1 hM1 hq => ⟨S, Ms, ok, fun w r2 => by
    obtain ⟨v, hv2, p1, qs1, rfl, gM, _, _, g4⟩ := ok.slot n _ hn
    rw [hv1] at hv2
    cases hv2
    rw [hM1] at gM
    have e := map_ref_inj (HO.lst.inj (Option.some.inj gM))
    subst e
    obtain ⟨q', vs, f1, f2, f3⟩ := own2_at g4 hk
    rw [hq] at f1
    cases f1
    obtain ⟨z, g1, g2⟩ := atI_rd f3 h
    exact ⟨q, vs, j, z, rfl, int_of r2, SqL.of (ok.mH n _ _ f2), g1, kq z S H Ms (Same.refl S) ok g2⟩⟩⟩
theorem own2_set {K : PySem.W.Frag} {S M : Hp} {q : Addr} {vs : List V} {ds : List D} (r : Rds K S vs ds) : ∀ {qs : List Addr} {dss : List (List D)} {k : Nat}, Own2 K S M qs dss → qs.Nodup → qs[k]? = some q → Own2 K S (upd M q (.lst vs)) qs (dss.set k ds)
  | b :: qs, d :: dss, 0, ⟨⟨ws, h, rr⟩, t⟩, nd, e => by
    cases e
    refine ⟨⟨vs, upd_same, r⟩, ?_⟩
    have nb := (List.nodup_cons.mp nd).1
    clear h rr nd
    induction qs generalizing dss with
    | nil => cases dss with
      | nil => trivial
      | cons _ _ => exact t.elim
    | cons c qs ih => cases dss with
      | nil => exact t.elim
      | cons d2 dss =>
        obtain ⟨⟨ws, h, rr⟩, t⟩ := t
        have hc : c ≠ q := fun z => nb (by rw [z]; exact List.mem_cons_self)
        exact ⟨⟨ws, by rw [upd_ne hc]; exact h, rr⟩, ih (dss := dss) t (fun z => nb (List.mem_cons_of_mem _ z))⟩
  | b :: qs, d :: dss, k + 1, ⟨⟨ws, h, rr⟩, t⟩, nd, e => by
    have nb := (List.nodup_cons.mp nd).1
    have hb : b ≠ q := fun z => nb (by rw [z]; exact List.mem_of_getElem? (i := k) e)
    exact ⟨⟨ws, by rw [upd_ne hb]; exact h, rr⟩, own2_set (k := k) r t (List.nodup_cons.mp nd).2 e⟩
  | [], [], _, _, _, e => by simp at e
  | [], _ :: _, _, h, _, _ => h.elim
  | _ :: _, [], _, h, _, _ => h.elim
/-- y[i][j] = e, y a list of lists of one's own -/
theorem jsetOO {k jn : Nat} (n : Nat) {tpos : Pos} (he : PE X e (JE X.K Γ A (.sh d) A1)) (ho : PE X o (JQ X.K Γ A1 n k)) (hb : PE X b (JP X.K Γ A1 (.int j))) (hn : A1[n]? = some (some (.oll dss))) (hk : dss[k]? = some ds) (hj : j = (jn : Int)) (hjl : jn < ds.length)
    (hg : ∀ {to ti : TE}, PE X o to → PE X b ti → PG X (.Subscript o b tpos) (gSub to ti rSetL)) (hs : swapsWithSole [.Subscript o b tpos] e pos.line X.env = pure false := by rfl) (hw : swappedStores [.Subscript o b tpos] e X.env = pure none := by rfl) :
    PS X (.Assign [.Subscript o b tpos] e pos) (JS X.K Γ W A (.nx (A1.set n (some (.oll (dss.set k (ds.set jn d))))))) :=
  psI (ps_asg he (hg ho hb) hs hw) fun D σ H ⟨S, Ms, ok, kq⟩ => ⟨S, Ms, ok, fun v S1 H1 M1 s1 ok1 rv => ⟨S1, M1, ok1, fun p qs q hv1 hM1 hq => ⟨S1, M1, ok1, fun w r2 => by
    obtain ⟨v2, hv2, p1, qs1, rfl, gM, g2, g3, g4⟩ := ok1.slot n _ hn
    rw [hv1] at hv2
    cases hv2
    rw [hM1] at gM
    have e := map_ref_inj (HO.lst.inj (Option.some.inj gM))
    subst e
    obtain ⟨q', vs, f1, f2, f3⟩ := own2_at g4 hk
    rw [hq] at f1
    cases f1
    have hl : jn < vs.length := by rw [f3.len]; exact hjl
    refine ⟨q, vs, j, jn, rfl, int_of r2, ok1.mH n _ _ f2, ?_, ?_⟩
    · rw [hj]; unfold ixN; rw [if_pos (by omega), if_pos (by omega)]; rfl
    have hqp : p ≠ q := fun z => g2 (by rw [z]; exact List.mem_of_getElem? hq)
    exact kq σ S1 _ _ s1 (ok1.mut (n := n) (a := .oll (dss.set k (ds.set jn d))) f2 hv1 ⟨p, qs, rfl, by rw [upd_ne hqp]; exact hM1, g2, g3, own2_set (f3.set rv jn) g4 g3 hq⟩)⟩⟩⟩
/-! ### pop, reverse -/
theorem jpop (n : Nat) {py : Pos} (hn : A[n]? = some (some (.ol q (ds ++ [d])))) (hN : X.N[n]? = some y := by rfl)
    (hv : Vis X.env.scope y := by first | exact Or.inl rfl | exact Or.inr (Or.inl rfl) | exact Or.inr (Or.inr rfl)) (hd1 : (y == ("__debug__" : Str)) = false := by decide) (hcd : (y == ("__classdict__" : Str)) = false := by decide)
    (h : ∀ {t : TE}, PE X (.Name y py) t → PE X (.Call (.Attribute (.Name y py) "pop" apos) [] [] cpos) (tBM0 X.K "list" rPop t)) :
    PE X (.Call (.Attribute (.Name y py) "pop" apos) [] [] cpos) (JE X.K Γ A (.sh d) (A.set n (some (.ol q ds)))) :=
  peI (h (pe_var hN hv hd1 hcd)) fun σ H Q ⟨S, Ms, ok, k⟩ => by
    obtain ⟨v, hv1, p0, vs0, h0, rfl, hM, rr⟩ := ok.slot n _ hn
    have hl := rr.len
    rw [List.length_append, List.length_singleton] at hl
    obtain ⟨w, g1, g2⟩ := rr.get (i := ds.length) (d := d) (by rw [List.getElem?_append_right (Nat.le_refl _), Nat.sub_self]; rfl)
    refine ⟨.ref p0, hv1, .inl ⟨rfl, vs0, SqL.of (ok.mH n _ _ hM)⟩, p0, vs0, w, rfl, rfl, ok.mH n _ _ hM, by rw [hl]; exact g1, ?_⟩
    have rd : Rds X.K S vs0.dropLast ds := by have := rr.dropLast; rw [List.dropLast_concat] at this; exact this
    exact k w S _ _ (Same.refl S) (ok.mut (a := .ol q ds) hM hv1 ⟨p0, vs0.dropLast, h0, rfl, upd_same, rd⟩) g2
theorem jrev (n : Nat) {py : Pos} (hn : A[n]? = some (some (.ol q ds))) (hN : X.N[n]? = some y := by rfl)
    (hv : Vis X.env.scope y := by first | exact Or.inl rfl | exact Or.inr (Or.inl rfl) | exact Or.inr (Or.inr rfl)) (hd1 : (y == ("__debug__" : Str)) = false := by decide) (hcd : (y == ("__classdict__" : Str)) = false := by decide)
    (h : ∀ {t : TE}, PE X (.Name y py) t → PE X (.Call (.Attribute (.Name y py) "reverse" apos) [] [] cpos) (tBM0 X.K "list" rReverse t)) :
    PE X (.Call (.Attribute (.Name y py) "reverse" apos) [] [] cpos) (JE X.K Γ A (.sh .non) (A.set n (some (.ol q ds.reverse)))) :=
  peI (h (pe_var hN hv hd1 hcd)) fun σ H Q ⟨S, Ms, ok, k⟩ => by
    obtain ⟨v, hv1, p0, vs0, h0, rfl, hM, rr⟩ := ok.slot n _ hn
    exact ⟨.ref p0, hv1, .inl ⟨rfl, vs0, SqL.of (ok.mH n _ _ hM)⟩, p0, vs0, rfl, rfl, ok.mH n _ _ hM, k _ S _ _ (Same.refl S) (ok.mut (a := .ol q ds.reverse) hM hv1 ⟨p0, vs0.reverse, h0, rfl, upd_same, rr.rev⟩) .non⟩
/-! ### built-ins -/
theorem jb {f : String} {rr : List V → Hp → VK → Prop} (hc : CallR X (.builtin f) rr) (hm : X.mg x = none) (hv : bootBuiltins x = some (.builtin f)) (ha : PA X (e :: es) (JA X.K Γ A ds A1))
    (h : ∀ S H Ms σ vs (Q : VK), OK X.K Γ A1 σ S H Ms → Rds X.K S vs ds → (∀ v S' H' Ms', Same S S' → OK X.K Γ A1 σ S' H' Ms' → r.r X.K S' (Ms' T) v → Q v H') → rr vs H Q)
    (hp : ∀ {t : TA}, PA X (e :: es) t → PE X (.Call (.Name x p) (e :: es) [] pos) (tCB rr t)) : PE X (.Call (.Name x p) (e :: es) [] pos) (JE X.K Γ A r A1) :=
  peI (hp ha) fun σ H Q ⟨S, Ms, ok, k⟩ => ⟨S, Ms, ok, fun vs S1 H1 M1 s1 ok1 r1 => h S1 H1 M1 σ vs Q ok1 r1 fun v S2 H2 M2 s2 ok2 r2 => k v S2 H2 M2 (s1.trans s2) ok2 r2⟩
theorem one_rd {K : PySem.W.Frag} {S : Hp} {vs : List V} (h : Rds K S vs [d]) : ∃ v, vs = [v] ∧ Rd K S v d := by cases h with | cons h t => cases t; exact ⟨_, rfl, h⟩
theorem two_rd {K : PySem.W.Frag} {S : Hp} {vs : List V} (h : Rds K S vs [d, d']) : ∃ v w, vs = [v, w] ∧ Rd K S v d ∧ Rd K S w d' := by cases h with | cons h t => cases t with | cons h2 t => cases t; exact ⟨_, _, rfl, h, h2⟩
theorem jlenL (hm : X.mg "len" = none) (ha : PA X [e] (JA X.K Γ A [.lst ds] A1)) (hp : ∀ {t : TA}, PA X [e] t → PE X (.Call (.Name "len" p) [e] [] pos) (tCB (fun xs H Q => ∃ p ys, xs = [.ref p] ∧ (SqL X.K H p ys ∨ SqT X.K H p ys) ∧ Q (.int ys.length) H) t)) : PE X (.Call (.Name "len" p) [e] [] pos) (JE X.K Γ A (.sh (.int (ds.length : Nat))) A1) :=
  jb call_len_seq hm boot_len ha (fun S H Ms σ vs Q ok r k => by
    obtain ⟨v, rfl, rv⟩ := one_rd r
    cases rv with
    | lst h rr => exact ⟨_, _, rfl, .inl (sqL_mono ok.sH h), k _ S H Ms (Same.refl S) ok (by rw [rr.len]; exact .int _)⟩) hp
theorem jlenT (hm : X.mg "len" = none) (ha : PA X [e] (JA X.K Γ A [.tup ds] A1)) (hp : ∀ {t : TA}, PA X [e] t → PE X (.Call (.Name "len" p) [e] [] pos) (tCB (fun xs H Q => ∃ p ys, xs = [.ref p] ∧ (SqL X.K H p ys ∨ SqT X.K H p ys) ∧ Q (.int ys.length) H) t)) : PE X (.Call (.Name "len" p) [e] [] pos) (JE X.K Γ A (.sh (.int (ds.length : Nat))) A1) :=
  jb call_len_seq hm boot_len ha (fun S H Ms σ vs Q ok r k => by
    obtain ⟨v, rfl, rv⟩ := one_rd r
    cases rv with
    | tup h rr => exact ⟨_, _, rfl, .inr (sqT_mono ok.sH h), k _ S H Ms (Same.refl S) ok (by rw [rr.len]; exact .int _)⟩) hp
theorem jlenO (n : Nat) {py : Pos} (hn : A[n]? = some (some (.ol q ds))) (hN : X.N[n]? = some y := by rfl)
    (hv : Vis X.env.scope y := by first | exact Or.inl rfl | exact Or.inr (Or.inl rfl) | exact Or.inr (Or.inr rfl)) (hd1 : (y == ("__debug__" : Str)) = false := by decide) (hcd : (y == ("__classdict__" : Str)) = false := by decide) (hs0 : starEach [.Name y py] X.env = (false, eval (.Name y py) X.env) :: starEach [] X.env := by rfl)
    (hp : ∀ {t : TA}, PA X [.Name y py] t → PE X (.Call (.Name "len" p) [.Name y py] [] pos) (tCB (fun xs H Q => ∃ p ys, xs = [.ref p] ∧ (SqL X.K H p ys ∨ SqT X.K H p ys) ∧ Q (.int ys.length) H) t)) : PE X (.Call (.Name "len" p) [.Name y py] [] pos) (JE X.K Γ A (.sh (.int (ds.length : Nat))) A) :=
  peI (hp (pa_cons (pe_var hN hv hd1 hcd) pa_nil hs0)) fun σ H Q ⟨S, Ms, ok, k⟩ => by
    obtain ⟨v, hv1, p0, vs0, h0, rfl, hM, rr⟩ := ok.slot n _ hn
    exact ⟨.ref p0, hv1, p0, vs0, rfl, .inl (SqL.of (ok.mH n _ _ hM)), k _ S H Ms (Same.refl S) ok (by rw [rr.len]; exact .int _)⟩
end
end J
namespace J
open PySem L2
section
variable {X : Cx} {Γ : En} {W : WX} {A A1 A2 A' B B1 B2 : Slots} {a b e o : Expr} {es : List Expr} {p pos apos cpos : Pos} {i j : Int} {d d' : D} {ds dds ds0 ds1 ds2 es1 : List D} {sl r : Sl} {x m y : Str} {q : Option Addr} {sts : List Stmt} {ou : Out} {dss : List (List D)}
theorem dcI {i j : Int} : decide (V.int i = V.int j) = decide (i = j) := by rw [dec_int]; exact (Bool.beq_eq_decide_eq i j)
theorem jteqI (ha : PE X a (JE X.K Γ A (.sh (.int i)) A1)) (hb : PE X b (JE X.K Γ A1 (.sh (.int j)) A2)) : PT X (.Compare a [.Eq] [b] pos) (JT X.K Γ A (decide (i = j)) A2) :=
  jtcmp op_eq (nomark _) ha hb fun S H Ms σ x y Q ok rx ry k => by rw [int_of rx, int_of ry]; exact ⟨rfl, by rw [dcI]; exact k S H Ms (Same.refl S) ok⟩
theorem jtneI (ha : PE X a (JE X.K Γ A (.sh (.int i)) A1)) (hb : PE X b (JE X.K Γ A1 (.sh (.int j)) A2)) : PT X (.Compare a [.NotEq] [b] pos) (JT X.K Γ A (!decide (i = j)) A2) :=
  jtcmp op_ne (nomark _) ha hb fun S H Ms σ x y Q ok rx ry k => by rw [int_of rx, int_of ry]; exact ⟨rfl, by rw [dcI]; exact k S H Ms (Same.refl S) ok⟩
theorem jeqI (ha : PE X a (JE X.K Γ A (.sh (.int i)) A1)) (hb : PE X b (JE X.K Γ A1 (.sh (.int j)) A2)) : PE X (.Compare a [.Eq] [b] pos) (JE X.K Γ A (.sh (.bl (decide (i = j)))) A2) :=
  jcmp op_eq (nomark _) ha hb fun S H Ms σ x y Q ok rx ry k => by rw [int_of rx, int_of ry]; exact ⟨rfl, by rw [dcI]; exact k _ S H Ms (Same.refl S) ok (.bl _)⟩
theorem jneI (ha : PE X a (JE X.K Γ A (.sh (.int i)) A1)) (hb : PE X b (JE X.K Γ A1 (.sh (.int j)) A2)) : PE X (.Compare a [.NotEq] [b] pos) (JE X.K Γ A (.sh (.bl (!decide (i = j)))) A2) :=
  jcmp op_ne (nomark _) ha hb fun S H Ms σ x y Q ok rx ry k => by rw [int_of rx, int_of ry]; exact ⟨rfl, by rw [dcI]; exact k _ S H Ms (Same.refl S) ok (.bl _)⟩
/-- int(e) of an int -/
theorem jintI (hm : X.mg "int" = none) (ha : PA X [e] (JA X.K Γ A [.int i] A1)) (hp : ∀ {t : TA}, PA X [e] t → PE X (.Call (.Name "int" p) [e] [] pos) (tCB (fun xs H Q => (∃ i, xs = [.int i] ∧ Q (.int i) H) ∨ ∃ k, xs = [.bl k] ∧ Q (.int (if k then 1 else 0)) H) t)) : PE X (.Call (.Name "int" p) [e] [] pos) (JE X.K Γ A (.sh (.int i)) A1) :=
  peI (hp ha) fun σ H Q ⟨S, Ms, ok, k⟩ => ⟨S, Ms, ok, fun vs S1 H1 M1 s1 ok1 r1 => by
    obtain ⟨v, rfl, rv⟩ := one_rd r1
    exact .inl ⟨i, by rw [int_of rv], k _ S1 H1 M1 s1 ok1 (.int i)⟩⟩
end
end J
namespace J
open PySem L2 PySem.W
section
variable {prog : Program} {w : World} {A : Around} {E : Value → Shared → Prop} {s : Shared} {K : Frag} {x C L f : Addr} {h₀ : Heap} {m : Str → Option Value} {ox : Obj} {od : Option Obj} {b tb : Value}
theorem ne_K {Q : Value → Shared → Prop} (hu : A.units + 1 < cLine) (F : PyProof.Rows.Fr h₀ L s.heap m) (X₀ : K.In h₀) (I : InstAt s.heap x ox C od) (hb : Looks (model prog w) s.heap (typeOf b) tb) (hn : notFirst K C tb = true) (hp : plainOver K C = true)
    (hs : findIn K (.ref C) "__ne__" = some (some (.builtin "object.__ne__"))) (he : findIn K (.ref C) "__eq__" = some (some (.ref f))) (hf : isFn K (.ref f) = true)
    (h : wpAny (model prog w) A.in1 (call (.ref f) [.ref x, b]) (fun v s' => ∃ c, v = .bool c ∧ Q (.bool (!c)) s') E s) : wpAny (model prog w) A (richCompare .NotEq (.ref x) b) Q E s := by
  have X := X₀.keeps F.keep
  have ent : wpAny (model prog w) A.in1 (Builtin.«object.__ne__» ⟨[.ref x, b], []⟩) (fun fin s' => ∃ c, fin = .done (.ret (.bool (!c))) ∧ Q (.bool (!c)) s') E s := by
    unfold Builtin.«object.__ne__»
    refine wpAny_bind (wpAny_pure ?_)
    refine wpAny_bind (wpAny_cRoomFor (by exact hu) ?_)
    refine wpAny_bind (ifBound_K X I he hf (wpAny_mono h (fun v s' hv => ?_) fun _ _ e => e))
    obtain ⟨c, rfl, hq⟩ := hv
    exact wpAny_bind (wpAny_truthy_bool (wpAny_pure ⟨c, rfl, hq⟩))
  obtain ⟨cd, hc, ho⟩ := any_some hp
  have ne : cd.mro.isEmpty = false := by cases q : cd.mro with | nil => rw [q] at ho; cases ho | cons _ _ => rfl
  have sub : Looks (model prog w) s.heap (isInstance (.ref x) (.type "object")) true := I.type.andThen (looks_mroIn X (by unfold mroIn; rw [hc, Option.bind_some, if_neg (by rw [ne]; decide), only_has ho]))
  have cl : wpAny (model prog w) A (call (.builtin "object.__ne__") [.ref x, b]) (fun v s' => v ≠ .notImplemented ∧ Q v s') E s := by
    refine wpAny_call (codeAny_call_builtin PySem.F.cmp_object.ne.plain PySem.F.cmpEntry_ne (@check_slot (model prog w) _ _ s "object.__ne__" "object" "__ne__" (.ref x) [b] [] _ PySem.F.cmpKind_ne PySem.F.cmpSplit_ne sub (PySem.F.cmpArgs_ne _ _) ?_))
    refine wpAny_mono ent (fun fin s' hfin => ?_) fun _ _ e => e
    obtain ⟨c, rfl, hq⟩ := hfin
    exact ⟨(fun z => by cases z), hq⟩
  have one : wpAny (model prog w) A (tryCompare (.ref x) "__ne__" b) (fun r s' => ∃ v, r = some v ∧ Q v s') E s := by
    have fin : wpAny (model prog w) A (call (.builtin "object.__ne__") ([.ref x] ++ [b]) >>= fun v => pure (some v)) (fun r s' => ∃ v, r = some v ∧ v ≠ .notImplemented ∧ Q v s') E s :=
      wpAny_bind (wpAny_mono cl (fun v s' hv => wpAny_pure ⟨v, rfl, hv⟩) fun _ _ e => e)
    have inner : wpAny (model prog w) A (callSpecialIfBound? (.ref x) "__ne__" [b]) (fun r s' => ∃ v, r = some v ∧ v ≠ .notImplemented ∧ Q v s') E s := by
      simp only [callSpecialIfBound?, bindSpecialIfBound?]
      refine wpAny_holding (wpAny_bind (wpAny_bind (wpAny_bind (I.type.here ((looks_findIn X hs).here ?_)))))
      simp only [PySem.F.cmp_object.ne.bind]
      refine wpAny_bind (wpAny_askSetting (wpAny_ite ?_))
      split
      · exact wpAny_bind (wpAny_pure (wpAny_pure fin))
      · exact wpAny_tryCatch (wpAny_bind (wpAny_pure (wpAny_pure fin)))
    unfold tryCompare
    refine wpAny_bind (wpAny_mono inner (fun r s' hr => ?_) fun _ _ e => e)
    obtain ⟨v, rfl, n, q⟩ := hr
    cases v <;> first | exact (n rfl).elim | exact wpAny_pure ⟨_, rfl, q⟩
  unfold richCompare
  simp only [oneThing_ref]
  refine wpAny_holding (wpAny_bind (wpAny_cRoomFor (Nat.lt_of_succ_lt hu) ?_))
  rw [cmpInfo_NotEq]
  dsimp only
  refine wpAny_bind (I.type.here (wpAny_bind (hb.here ?_)))
  have back : wpAny (model prog w) A (tryCompare (.ref x) "__ne__" b) (fun r s' => ∃ v, r = some v ∧ Q v s') E s := one
  split
  · rename_i q
    have e : subIn K tb (.ref C) = some false := by
      rcases Bool.or_eq_true_iff.mp hn with e | e
      · rw [beq_iff_eq.mp e] at q; simp at q
      · exact beq_iff_eq.mp e
    refine wpAny_bind ((looks_subIn X e).here ?_)
    simp only [Bool.false_eq_true, if_false]
    refine wpAny_bind (wpAny_mono back (fun r s' z => ?_) fun _ _ e => e)
    obtain ⟨v, rfl, hq⟩ := z
    exact wpAny_pure hq
  · refine wpAny_bind (wpAny_pure ?_)
    simp only [Bool.false_eq_true, if_false]
    refine wpAny_bind (wpAny_mono back (fun r s' z => ?_) fun _ _ e => e)
    obtain ⟨v, rfl, hq⟩ := z
    exact wpAny_pure hq
end
end J
namespace J
open PySem L2
open Builtin Builtin.ObjectAttr
section
variable {X : Cx} {pins : List (Addr × Obj)} {σ : L2.St} {H : Hp} {s : Shared} {n : Nat} {f : Addr} {fd : FuncData} {ps : List Str} {sp : Sp} {vs : List V} {us : List Value} {Q : VK} {A1 : Around}
/-- a def of one's own is called somewhere below -/
theorem sub_fn (sb : Sub X n A1) (F : FnOk X.prog X.w X.K X.mg X.base (L2.CX X.prog X.w) n f fd ps sp) (hb : Binds X.K fd ps []) (I : Inv X pins σ H s) (r : Vals vs us) (h : sp vs H Q E0) : wpAny (model X.prog X.w) A1 (call (.ref f) us) (EP X pins σ Q) X.xe s := by
  have e0 : Env0 X.prog X.w X.K X.mg X.base A1 X.stack s H := by
    have e := I.env0
    exact ⟨by rw [sb.fr]; exact e.frames, e.mod, e.bs, e.bsz, e.funs, e.frf, e.hok, e.bare⟩
  have hl := F.len _ _ _ _ h
  refine wpAny_call (codeAny_mono (F.run A1 X.stack s H ⟨us, []⟩ us vs Q E0 sb.room e0 (by
    have := hb s us I.kIn (by rw [List.append_nil, ← r.length]; exact hl)
    rw [List.append_nil] at this
    exact this) r h) fun rr s' hq => ?_)
  cases rr with
  | error e => exact passL pins σ H s e s' I hq
  | ok fl =>
    cases fl with
    | ret u => exact I.after hq
    | next => exact False.elim hq
    | brk => exact False.elim hq
    | cont => exact False.elim hq
theorem sub_fn0 (sb : Sub X n A1) (F : FnOk X.prog X.w X.K X.mg X.base (L2.CX X.prog X.w) n f fd ps sp) (hb : Binds X.K fd ps []) (I : Inv X pins σ H s) (r : Vals vs us) (h : sp vs H Q E0) : wpAny (model X.prog X.w) A1 (call (.ref f) us) (EP X pins σ Q) (fun _ _ => False) s := by
  have q := sub_fn (X := X.nox) (A1 := A1) ⟨sb.room, sb.fr⟩ F hb (I.wish _) r h
  exact wpAny_mono q (fun u s' ⟨v, H', I', e1, e2⟩ => ⟨v, H', I'.unwish, e1, e2⟩) fun _ _ e => e
/-- an iterator over the tuple at t, at the place i; at its end -/
def ItK (t it : Addr) (i : Nat) : HO := .ext fun h => h.IsTupleIter it t i
def ItZ (it : Addr) : HO := .ext fun h => ∃ o, h.get? it = some o
abbrev ItT (t it : Addr) : HO := ItK t it 0
theorem itT_ok {P : Program} {w : World} {h : Heap} {t it : Addr} {i : Nat} (e : h.IsTupleIter it t i) : ObjOk P w H h it (ItK t it i) := by
  refine ⟨e, ?_, fun h1 h2 q k => q.at k⟩
  obtain ⟨o, e, _⟩ := e
  exact ⟨o, e⟩
theorem itZ_ok {P : Program} {w : World} {h : Heap} {it : Addr} (e : ∃ o, h.get? it = some o) : ObjOk P w H h it (ItZ it) := ⟨e, e, fun h1 h2 ⟨o, q⟩ k => ⟨o, k o q⟩⟩
def rIterT (K : PySem.W.Frag) : List V → Hp → VK → Prop := fun xs H Q => ∃ (t : Addr) (zs : List V), xs = [.ref t] ∧ SqT K H t zs ∧ ∀ it, H it = none → Q (.ref it) (upd H it (ItT t it))
theorem call_iterT : CallR X (.builtin "iter") (rIterT X.K) := by
  intro pins s σ H xs us Q I rv h
  obtain ⟨t, zs, rfl, ht, q⟩ := h
  obtain ⟨u, rfl, ru⟩ := rv.one
  cases ru
  obtain ⟨its, r, p, hz⟩ := I.tuple ht
  refine Calls.call_function_entry (by decide +kernel) (by decide +kernel) PySem.W.kdk_entry_iter (PySem.W.kdk_args_iter _) ?_
  unfold Builtin.«iter»
  refine wpAny_bind (m := someArgs "iter" 1 2 _) (wpAny_of_eq (a := [Value.ref t]) (by first | rfl | kernel_rfl!) ?_)
  show wpAny _ _ (pyIter (.ref t) >>= _) _ _ _
  refine wpAny_bind (wpAny_pyIter_tuple (show s.heap.IsTuple t its.toArray from p) ?_)
  refine wpAny_pure ⟨_, rfl, ?_⟩
  exact ⟨.ref s.heap.objs.size, _, I.laid (t' := s.toks) (fun b u e => Heap.get?_push_of_some _ e) (Nat.le_refl _) (itT_ok ⟨_, Heap.get?_push_size _ rfl, rfl, rfl⟩), rfl, q _ (I.hok.fresh (Nat.le_refl _))⟩
/-- a class that is walked by __iter__ and has a __len__ -/
structure OwnIt (K : PySem.W.Frag) (C fi fl : Addr) : Prop where
  it : PySem.W.findIn K (.ref C) "__iter__" = some (some (.ref fi))
  itF : PySem.W.isFn K (.ref fi) = true
  ln : PySem.W.findIn K (.ref C) "__len__" = some (some (.ref fl))
  lnF : PySem.W.isFn K (.ref fl) = true
/-- the iterator at its end: what stood but it stands, and it is there -/
theorem end_tuple {prog : Program} {w : World} {A : Around} {E : Value → Shared → Prop} {s : Shared} {it t : Addr} {i : Nat} {its : Array Value} {Q : Option Value → Shared → Prop} (hh : A.handled = none) (hi : s.heap.IsTupleIter it t i) (ht : s.heap.IsTuple t its) (hx : its[i]? = none)
    (hQ : ∀ h', (∀ b u, b ≠ it → s.heap.get? b = some u → h'.get? b = some u) → (∃ u, h'.get? it = some u) → Q none { s with heap := h' }) : wpAny (model prog w) A (pyNext (.ref it)) Q E s := by
  obtain ⟨o, ho, hc, hd⟩ := id hi; obtain ⟨ol, hol, _, nl, hdl⟩ := ht; unfold pyNext
  refine wpAny_bind (wpAny_attempt (wpAny_callSpecial?_slot (name := Str.ofString "__next__") hi.typeIs F.slot_tuple_iterator_next (wpAny_call_entry F.slot_tuple_iterator_next hi.typeIs F.entry_tuple_iterator_next ?_ (F.args_tuple_iterator_next_1 _))))
  show wpAny _ _ (field (.ref it) 0 >>= _) _ _ s; refine wpAny_bind (wpAny_field ho hd (x := .ref t) rfl ?_)
  show wpAny _ _ (if (Value.ref t == Value.none) = true then _ else _) _ _ s; rw [if_neg (show ¬ ((Value.ref t == Value.none) = true) from Bool.false_ne_true)]
  show wpAny _ _ (field (.ref it) 1 >>= _) _ _ s; refine wpAny_bind (wpAny_field ho hd (x := .int i 0) rfl ?_)
  show wpAny _ _ (seqItems? (.ref t) >>= _) _ _ s; refine wpAny_bind (wpAny_seqItems hol hdl ?_); simp only [Int.toNat_natCast, hx]
  refine wpAny_bind (wpAny_rule (wpAny_bind (wpAny_setField ho hd (by simp) ?_))); show wpAny _ _ (newExc (.type "StopIteration") [] >>= _) _ _ _
  refine wpAny_bind ?_; simp only [newExc, newTuple]; refine wpAny_bind (wpAny_newObj_type ?_ (by size_fits))
  refine wpAny_bind (m := firstArgMember _ _) (wpAny_of_eq (a := Value.none) (by first | rfl | (simp only [firstArgMember]; rfl)) ?_); refine wpAny_newObj_type ?_ (by size_fits)
  simp only [raiseNew]; refine wpAny_bind (wpAny_handled ?_); first | rw [show A.in1.handled = none from hh] | rw [hh]
  refine wpAny_bind (wpAny_pure (wpAny_throw ?_)); refine wpAny_bind (wpAny_isInstance (T := "StopIteration") (b := true) ⟨_, Heap.get?_push_size _ rfl, rfl⟩ isSubtype_stop ?_)
  refine wpAny_pure (hQ _ (fun b u hb e => ((((Heap.SameBut.update ..).extBut.push _).push _) b u hb e)) ⟨_, Heap.get?_push_of_some _ (Heap.get?_push_of_some _ (Heap.get?_update_self _ ho (by obtain ⟨_, _, _, _⟩ := o; simp only at hd; subst hd; rfl)))⟩)
/-- the walk of the iterator into the list at q -/
theorem it_loop {q it t : Addr} {zs : List V} {Rs : PySem.Result → Shared → Prop} {R : Hp → Prop} (ht0 : ∀ s H, Inv X pins σ H s → R H → Rs (.ok (.ret .none)) s) (hz : zs.length ≤ 100000) (hh : A1.in1.handled = none) :
    ∀ (m i : Nat) (H : Hp) (s : Shared), zs.length - i = m → i ≤ zs.length → Inv X pins σ H s → SqT X.K H t zs → H q = some (.lst (zs.take i)) → H it = some (ItK t it i) → R (upd (upd H it (ItZ it)) q (.lst zs)) →
      codeAny (model X.prog X.w) A1 (.builtin "list.extend.loop" ⟨[.ref q, .ref it, .none], []⟩) Rs s := by
  have sq : ∀ {H : Hp} {p : Addr} {o u : HO}, SqT X.K H t zs → H p = some o → (∀ ys, o ≠ .tup ys) → (∀ x y, o ≠ .frz x y) → SqT X.K (upd H p u) t zs := fun {H p o u} h e n1 n2 => by
    rcases h with (g | ⟨z, g⟩) | g
    · exact .inl (.inl (by rw [upd_ne (fun q => by rw [q, e] at g; exact n1 _ (Option.some.inj g))]; exact g))
    · exact .inl (.inr ⟨z, by rw [upd_ne (fun q => by rw [q, e] at g; exact n2 _ _ (Option.some.inj g))]; exact g⟩)
    · exact .inr g
  intro m
  induction m with
  | zero =>
    intro i H s hm hi I ht hq hit hR
    have e : i = zs.length := by omega
    subst e
    refine codeAny_builtin PySem.F.entry_extend_loop ?_
    rw [Around.under_plainId PySem.F.plain_extend_loop _]; show wpAny _ A1.in1 (pyNext (.ref it) >>= _) _ _ s
    obtain ⟨its, rv, p, _⟩ := I.tuple ht
    have hl := rv.length
    refine wpAny_bind (end_tuple hh (I.hok it _ hit).1 (show s.heap.IsTuple t its.toArray from p) (by simp; omega) fun h' k hu => ?_)
    have I1 := I.write (x := it) (e := it) (o := ItZ it) (t' := s.toks) (by rw [hit]; trivial) (.inl rfl) k hu (itZ_ok hu)
    have iq : q ≠ it := fun z => by rw [z, hit] at hq; cases hq
    refine wpAny_pure (ht0 _ _ I1 ?_)
    have e2 : upd (upd H it (ItZ it)) q (.lst zs) = upd H it (ItZ it) := by
      funext b
      by_cases hb : b = q
      · subst hb; rw [upd_same, upd_ne iq, hq, List.take_length]
      · rw [upd_ne hb]
    rw [e2] at hR; exact hR
  | succ m ih =>
    intro i H s hm hi I ht hq hit hR
    have hlt : i < zs.length := by omega
    refine codeAny_builtin PySem.F.entry_extend_loop ?_
    rw [Around.under_plainId PySem.F.plain_extend_loop _]; show wpAny _ A1.in1 (pyNext (.ref it) >>= _) _ _ s
    obtain ⟨its, rv, p, _⟩ := I.tuple ht
    obtain ⟨u, hu, ru⟩ := rv.get (List.getElem?_eq_getElem hlt)
    have iq : q ≠ it := fun z => by rw [z, hit] at hq; cases hq
    refine wpAny_bind (wpAny_pyNext_tuple_item (I.hok it _ hit).1 (show s.heap.IsTuple t its.toArray from p) (x := u) (by simpa using hu) fun h' st' sb => ?_)
    have I1 := I.write (x := it) (e := it) (o := ItK t it (i + 1)) (t' := s.toks) (by rw [hit]; trivial) (.inl rfl) (fun b o hb e => (sb.2 b hb).trans e) (itT_ok (P := X.prog) (w := X.w) (H := H) st').2.1 (itT_ok st')
    have hq1 : upd H it (ItK t it (i + 1)) q = some (.lst (zs.take i)) := by rw [upd_ne iq]; exact hq
    have ht1 : SqT X.K (upd H it (ItK t it (i + 1))) t zs := sq ht hit (fun _ z => by cases z) (fun _ _ z => by cases z)
    show wpAny _ A1.in1 (updateSeq q (·.push u) >>= _) _ _ _
    obtain ⟨z, its2, k, r2, hl, e⟩ := I1.lstM hq1
    have hlen : (zs.take i).length = i := by rw [List.length_take]; omega
    have big : its2.length < 16777216 := by rw [← hl, hlen]; omega
    refine wpAny_bind (wpAny_updateSeq e rfl (wpAny_pure ⟨plainId_quiet PySem.F.plain_extend_loop _, ?_⟩) (by rw [List.size_toArray, sizeLine_eq]; omega) (by show (its2.toArray.push u).size ≤ sizeLine + 1; rw [Array.size_push, List.size_toArray, sizeLine_eq]; omega))
    have I2 := I1.lset (f := (·.push u)) (its' := its2 ++ [u]) (ys := zs.take i ++ [zs[i]]) (t' := s.toks) hq1 e (by simp) (r2.append (.cons ru .nil)) (by rw [List.length_append, List.length_singleton, hlen, sizeLine_eq]; omega)
    have htk : zs.take i ++ [zs[i]] = zs.take (i + 1) := by rw [List.take_succ, List.getElem?_eq_getElem hlt]; rfl
    rw [htk] at I2
    refine ih (i + 1) _ _ (by omega) hlt I2 (sq ht1 hq1 (fun _ z => by cases z) (fun _ _ z => by cases z)) upd_same (by rw [upd_ne iq.symm, upd_same]) ?_
    have e3 : upd (upd (upd (upd H it (ItK t it (i + 1))) q (.lst (zs.take (i + 1)))) it (ItZ it)) q (.lst zs) = upd (upd H it (ItZ it)) q (.lst zs) := by
      funext b
      by_cases hb : b = q
      · subst hb; rw [upd_same, upd_same]
      · rw [upd_ne hb, upd_ne hb]
        by_cases hb2 : b = it
        · subst hb2; rw [upd_same, upd_same]
        · rw [upd_ne hb2, upd_ne hb2, upd_ne hb, upd_ne hb2]
    rw [e3]; exact hR
def rListI (K : PySem.W.Frag) (C : Addr) (sp1 sp2 : Sp) : List V → Hp → VK → Prop := fun xs H Q => ∃ (a dx : Addr) (fs : List (Str × V)) (t : Addr) (zs : List V), xs = [.ref a] ∧ H a = some (.ins C dx fs) ∧ zs.length ≤ 100000 ∧ ∀ q, H q = none →
  sp1 [.ref a] (upd H q (.lst [])) (fun v H1 => ∃ it, v = .ref it ∧ H1 it = some (ItK t it 0) ∧ H1 a = some (.ins C dx fs) ∧
    sp2 [.ref a] H1 (fun v2 H2 => ∃ k : Nat, v2 = .int k ∧ k ≤ 100000 ∧ H2 q = some (.lst []) ∧ SqT K H2 t zs ∧ H2 it = some (ItK t it 0) ∧ Q (.ref q) (upd (upd H2 it (ItZ it)) q (.lst zs))) E0) E0
theorem call_listI {C fi fl : Addr} {fdI fdL : FuncData} {psI psL : List Str} {sp1 sp2 : Sp} (hc : OwnIt X.K C fi fl) (FI : FnOk X.prog X.w X.K X.mg X.base (L2.CX X.prog X.w) n fi fdI psI sp1) (bI : Binds X.K fdI psI [])
    (FL : FnOk X.prog X.w X.K X.mg X.base (L2.CX X.prog X.w) n fl fdL psL sp2) (bL : Binds X.K fdL psL []) (hr : Room (n + 4) X.A) : CallR X (.type "list") (rListI X.K C sp1 sp2) := by
  intro pins s σ H xs us Q I rv h
  obtain ⟨a, dx, fs, t, zs, rfl, ha, hz, hq⟩ := h
  obtain ⟨u, rfl, ru⟩ := rv.one; cases ru
  have sb : Sub X (n + 2) X.A.in1.in1 := Sub.in1 (Sub.in1 (⟨hr, rfl⟩ : Sub X (n + 4) X.A))
  have sb3 : Sub X n X.A.in1.in1.in1 := (Sub.in1 (n := n + 1) sb).mono (Nat.le_succ n)
  refine callType_codes (Q₁ := fun obj s₁ => obj = .ref s.heap.objs.size ∧ s₁ = { s with heap := s.heap.push { cls := .type "list", data := .seq #[] } }) PySem.F.called_list (PySem.F.typeCall_list_1 _) PySem.F.entry_list_init (code_list_new _ ⟨rfl, rfl⟩) fun obj s₁ h₁ => ?_
  obtain ⟨rfl, rfl⟩ := h₁
  have hS : (s.heap.push { cls := .type "list", data := .seq #[] }).get? s.heap.objs.size = some { cls := .type "list", data := .seq #[] } := Heap.get?_push_size _ rfl
  refine ⟨⟨_, hS, rfl⟩, PySem.F.args_list_init_2 _ _, ?_⟩
  have fr : H s.heap.objs.size = none := I.hok.fresh (Nat.le_refl _)
  have hq := hq _ fr
  have I1 : Inv X pins σ (upd H s.heap.objs.size (.lst [])) { s with heap := s.heap.push { cls := .type "list", data := .seq #[] } } := I.lnew (its := []) (t' := s.toks) .nil (Nat.zero_le _)
  show wpAny _ _ (do let old ← Builtin.List.listItems (.ref s.heap.objs.size); Builtin.List.listUpdate (.ref s.heap.objs.size) (fun _ => #[]); letGo old.toList.reverse; Builtin.List.listExtendWith (.ref s.heap.objs.size) (.ref a) .none) _ _ _
  refine wpAny_bind ?_; unfold Builtin.List.listItems
  refine wpAny_bind (wpAny_seqItems hS rfl (wpAny_pure ?_))
  show wpAny _ _ (updateSeq s.heap.objs.size (fun _ => #[]) >>= fun _ => letGo (#[] : Array Value).toList.reverse >>= fun _ => Builtin.List.listExtendWith (.ref s.heap.objs.size) (.ref a) .none) _ _ _
  refine wpAny_bind (wpAny_updateSeq hS rfl ?_)
  have I2 := I1.lset (f := fun _ => #[]) (its := []) (its' := []) (ys := []) (t' := s.toks) upd_same hS rfl .nil (Nat.zero_le _)
  rw [upd_upd] at I2
  refine wpAny_bind (wpAny_letGo ?_)
  have ha2 : upd H s.heap.objs.size (.lst []) a = some (.ins C dx fs) := by rw [upd_ne (ne_of_none ha fr)]; exact ha
  generalize hqe : s.heap.objs.size = q at hq I2 ha2 ⊢
  have hne : q ≠ a := fun z => by rw [z, upd_same] at ha2; cases ha2
  obtain ⟨mA, J, _⟩ := ins_get I2.hok ha2
  obtain ⟨od, J, _⟩ := J.look
  obtain ⟨m0, hF⟩ := I2.fr
  unfold Builtin.List.listExtendWith
  refine wpAny_bind (J.type.here ?_)
  have h1 : Builtin.List.listSameRef (.ref q) (.ref a) = false := by simp [Builtin.List.listSameRef, hne]
  have h2 : (Value.ref C == Value.type "list") = false := rfl
  have h3 : (Value.ref C == Value.type "tuple") = false := rfl
  simp only [h1, h2, h3, Bool.or_false, Bool.false_eq_true, if_false]
  refine wpAny_bind (PySem.W.owit_iter hF I2.ok.mod.kin J hc.it hc.itF ?_)
  refine wpAny_mono (sub_fn0 (sb.mono (by omega)) FI bI I2 (vs := [.ref a]) (.cons rfl .nil) hq) (fun u s1 hu => ?_) fun _ _ e => e.elim
  obtain ⟨v, H1, I3, rv, it, rfl, hit, ha3, h4⟩ := hu
  cases rv
  have hti := (I3.hok it _ hit).1
  show wpAny _ _ (specialOf (.ref it) "__next__") _ _ _
  refine wpAny_specialOf hti.typeIs PySem.F.slot_tuple_iterator_next.lookup ?_
  refine wpAny_bind (wpAny_holding ?_)
  obtain ⟨mA2, J2, _⟩ := ins_get I3.hok ha3
  obtain ⟨od2, J2, _⟩ := J2.look
  obtain ⟨m2, hF2⟩ := I3.fr
  have hint : wpAny (model X.prog X.w) X.A.in1.in1 (Builtin.List.listLengthHint (.ref a)) (fun b s2 => ∃ H2, Inv X pins σ H2 s2 ∧ H2 q = some (.lst []) ∧ SqT X.K H2 t zs ∧ H2 it = some (ItK t it 0) ∧ Q (.ref q) (upd (upd H2 it (ItZ it)) q (.lst zs))) (fun _ _ => False) s1 := by
    unfold Builtin.List.listLengthHint
    refine wpAny_bind (wpAny_bind (J2.type.here ((PySem.W.looks_findIn I3.kIn hc.ln).here ?_)))
    refine PySem.W.KFB.if_not rfl ?_
    refine wpAny_ite_split (fun _ => ?_) (fun z => absurd rfl z)
    refine wpAny_bind (wpAny_rule (wpAny_bind (wpAny_attempt ?_)))
    refine wpAny_mono (PySem.W.len_K (Q := fun v s2 => ∃ k : Nat, ∃ H2, (∃ tk, v = .int k tk) ∧ k ≤ 100000 ∧ Inv X pins σ H2 s2 ∧ H2 q = some (.lst []) ∧ SqT X.K H2 t zs ∧ H2 it = some (ItK t it 0) ∧ Q (.ref q) (upd (upd H2 it (ItZ it)) q (.lst zs))) hF2 I3.ok.mod.kin J2 hc.ln hc.lnF
      (wpAny_mono (sub_fn0 sb3 FL bL I3 (vs := [.ref a]) (.cons rfl .nil) h4) (fun u s2 hu => ?_) fun _ _ e => e)) (fun v s2 hv => ?_) fun _ _ e => (e : False).elim
    · obtain ⟨v, H2, I4, rv, k, rfl, hk, e1, e2, e3, e4⟩ := hu
      obtain ⟨tk, rfl⟩ := rv
      refine ⟨⟨by omega, by omega⟩, k, H2, ⟨_, rfl⟩, hk, ?_, e1, e2, e3, e4⟩
      exact I4.tok _
    · obtain ⟨k, H2, ⟨tk, rfl⟩, hk, I4, e1, e2, e3, e4⟩ := hv
      have hl : Builtin.List.listTooLong (k : Int).toNat = false := notLongL (by rw [sizeLine_eq]; omega)
      refine wpAny_bind (wpAny_pure ?_)
      refine wpAny_ite_split (fun z => by rw [hl] at z; cases z) (fun _ => ?_)
      exact wpAny_pure ⟨H2, I4, e1, e2, e3, e4⟩
  refine wpAny_mono hint (fun room s2 hs2 => ?_) fun _ _ e => (e : False).elim
  obtain ⟨H2, I4, e1, e2, e3, e4⟩ := hs2
  have hh : X.A.in1.in1.handled = none := sb.room.hd
  have go : ∀ s3, Inv X pins σ H2 s3 → codeAny (model X.prog X.w) X.A.in1 (.builtin "list.extend.loop" ⟨[.ref q, .ref it, .none], []⟩) (wants (fun r s₂ => r = .none ∧ EP X pins σ Q (.ref q) s₂) X.xe) s3 := fun s3 I5 =>
    it_loop (R := fun H' => Q (.ref q) H') (fun s4 H4 I6 h6 => ⟨rfl, .ref q, H4, I6, rfl, h6⟩) hz hh _ 0 H2 s3 rfl (Nat.zero_le _) I5 e2 e1 e3 e4
  refine wpAny_ite_split (fun _ => ?_) (fun _ => wpAny_pure ⟨plainId_quiet PySem.F.plain_extend_loop _, go _ I4⟩)
  refine wpAny_bind (wpAny_rule ?_); refine wpAny_bind ?_
  obtain ⟨z, its, k, r3, hl3, e5⟩ := I4.lstM e1
  cases r3
  show wpAny _ _ (updateSeq q (·.push .none) >>= fun _ => updateSeq q (·.pop)) _ _ _
  refine wpAny_bind (wpAny_updateSeq e5 rfl ?_)
  have I6 := I4.lset (f := (·.push Value.none)) (its' := [Value.none]) (ys := [.non]) (t' := s2.toks) e1 e5 (by simp) (.cons rfl .nil) (by rw [List.length_singleton, sizeLine_eq]; decide)
  obtain ⟨z4, its4, k4, r4, hl4, e6⟩ := I6.lstM upd_same
  obtain ⟨u4, rfl, ru4⟩ := r4.one
  refine wpAny_updateSeq e6 rfl ?_ (by show 1 ≤ sizeLine; rw [sizeLine_eq]; decide) (by show 0 ≤ sizeLine + 1; exact Nat.zero_le _)
  refine wpAny_pure ⟨plainId_quiet PySem.F.plain_extend_loop _, go _ ?_⟩
  have I7 := I6.lset (f := (·.pop)) (its := [u4]) (its' := []) (ys := []) (t' := s2.toks) upd_same e6 (by rfl) .nil (Nat.zero_le _)
  rw [upd_upd] at I7
  have hH : upd H2 q (.lst []) = H2 := by
    funext b
    by_cases hb : b = q
    · rw [hb, upd_same, e1]
    · rw [upd_ne hb]
  rw [hH] at I7
  exact I7
end
end J
namespace J
open PySem L2
section
variable {X : Cx} {pins : List (Addr × Obj)} {σ : L2.St} {H : Hp} {s : Shared} {k : Nat} {f C : Addr} {fd : FuncData} {ps : List Str} {sp : Sp}
/-! ### an own class's ==, !=, in, len by values -/
def rOwn2 (C : Addr) (sp : Sp) (g : Bool → Bool) : R2 := fun x y H Q => ∃ a b dx dy fs gs, x = .ref a ∧ y = .ref b ∧ H a = some (.ins C dx fs) ∧ H b = some (.ins C dy gs) ∧ sp [x, y] H (fun v H' => ∃ c, v = .bl c ∧ Q (.bl (g c)) H') E0
theorem op_eqO (F : FnOk X.prog X.w X.K X.mg X.base (L2.CX X.prog X.w) k f fd ps sp) (hr : Room k X.A) (hs : PySem.W.findIn X.K (.ref C) "__eq__" = some (some (.ref f))) (hf : PySem.W.isFn X.K (.ref f) = true) (hb : Binds X.K fd ps []) : OpR X (compareOp .Eq) (rOwn2 C sp id) := by
  intro pins s σ H x y v u Q I rx ry h
  obtain ⟨a, b, dx, dy, fs, gs, rfl, rfl, ha, hb', hsp⟩ := h
  cases rx; cases ry
  obtain ⟨mA, J, _⟩ := ins_get I.hok ha
  obtain ⟨mB, J', _⟩ := ins_get I.hok hb'
  obtain ⟨od, J, _⟩ := J.look
  obtain ⟨od', J', _⟩ := J'.look
  obtain ⟨m, hF⟩ := I.fr
  show wpAny (model X.prog X.w) X.A (richCompare .Eq (.ref a) (.ref b)) (EP X pins σ Q) X.xe s
  refine PySem.W.cmp_K (op := .Eq) (tb := .ref C) hr.units0 hF I.ok.mod.kin J J'.type (by simp [PySem.W.notFirst]) hs hf ?_
  refine wpAny_mono (sub_fn (n := k) (vs := [.ref a, .ref b]) ⟨hr, rfl⟩ F hb I (.cons rfl (.cons rfl .nil)) hsp) (fun u s' hu => ?_) fun _ _ e => e
  obtain ⟨v, H', I', rv, c, rfl, q⟩ := hu
  cases rv
  exact ⟨.bl c, H', I', rfl, q⟩
theorem op_neO (F : FnOk X.prog X.w X.K X.mg X.base (L2.CX X.prog X.w) k f fd ps sp) (hr : Room (k + 1) X.A) (hs : PySem.W.findIn X.K (.ref C) "__eq__" = some (some (.ref f))) (hn : PySem.W.findIn X.K (.ref C) "__ne__" = some (some (.builtin "object.__ne__"))) (hp : PySem.W.plainOver X.K C = true)
    (hf : PySem.W.isFn X.K (.ref f) = true) (hb : Binds X.K fd ps []) : OpR X (compareOp .NotEq) (rOwn2 C sp Bool.not) := by
  intro pins s σ H x y v u Q I rx ry h
  obtain ⟨a, b, dx, dy, fs, gs, rfl, rfl, ha, hb', hsp⟩ := h
  cases rx; cases ry
  obtain ⟨mA, J, _⟩ := ins_get I.hok ha
  obtain ⟨mB, J', _⟩ := ins_get I.hok hb'
  obtain ⟨od, J, _⟩ := J.look
  obtain ⟨od', J', _⟩ := J'.look
  obtain ⟨m, hF⟩ := I.fr
  show wpAny (model X.prog X.w) X.A (richCompare .NotEq (.ref a) (.ref b)) (EP X pins σ Q) X.xe s
  have hu := hr.units
  refine ne_K (tb := .ref C) (by omega) hF I.ok.mod.kin J J'.type (by simp [PySem.W.notFirst]) hp hn hs hf ?_
  refine wpAny_mono (sub_fn (n := k) (vs := [.ref a, .ref b]) (Sub.in1 (n := k) ⟨hr, rfl⟩) F hb I (.cons rfl (.cons rfl .nil)) hsp) (fun u s' hu => ?_) fun _ _ e => e
  obtain ⟨v, H', I', rv, c, rfl, q⟩ := hu
  cases rv
  exact ⟨c, rfl, .bl (!c), H', I', rfl, q⟩
def rOwnIn (C : Addr) (sp : Sp) (g : Bool → Bool) : R2 := fun x y H Q => ∃ b dy gs, y = .ref b ∧ H b = some (.ins C dy gs) ∧ sp [y, x] H (fun v H' => ∃ c, v = .bl c ∧ Q (.bl (g c)) H') E0
theorem op_inO (F : FnOk X.prog X.w X.K X.mg X.base (L2.CX X.prog X.w) k f fd ps sp) (hr : Room k X.A) (hs : PySem.W.findIn X.K (.ref C) "__contains__" = some (some (.ref f))) (hf : PySem.W.isFn X.K (.ref f) = true) (hb : Binds X.K fd ps []) : OpR X (compareOp .In) (rOwnIn C sp id) := by
  intro pins s σ H x y v u Q I rx ry h
  obtain ⟨b, dy, gs, rfl, hb', hsp⟩ := h
  cases ry
  obtain ⟨mB, J', _⟩ := ins_get I.hok hb'
  obtain ⟨od', J', _⟩ := J'.look
  obtain ⟨m, hF⟩ := I.fr
  refine PySem.W.in_K hF I.ok.mod.kin J' hs hf (wpAny_mono (sub_fn (n := k) (vs := [.ref b, x]) ⟨hr, rfl⟩ F hb I (.cons rfl (.cons rx .nil)) hsp) (fun u s' hu => ?_) fun _ _ e => e)
  obtain ⟨v, H', I', rv, c, rfl, q⟩ := hu
  cases rv
  exact wpAny_truthy_bool ⟨.bl c, H', I', rfl, q⟩
theorem op_niO (F : FnOk X.prog X.w X.K X.mg X.base (L2.CX X.prog X.w) k f fd ps sp) (hr : Room k X.A) (hs : PySem.W.findIn X.K (.ref C) "__contains__" = some (some (.ref f))) (hf : PySem.W.isFn X.K (.ref f) = true) (hb : Binds X.K fd ps []) : OpR X (compareOp .NotIn) (rOwnIn C sp Bool.not) := by
  intro pins s σ H x y v u Q I rx ry h
  obtain ⟨b, dy, gs, rfl, hb', hsp⟩ := h
  cases ry
  obtain ⟨mB, J', _⟩ := ins_get I.hok hb'
  obtain ⟨od', J', _⟩ := J'.look
  obtain ⟨m, hF⟩ := I.fr
  refine PySem.W.notIn_K hF I.ok.mod.kin J' hs hf (wpAny_mono (sub_fn (n := k) (vs := [.ref b, x]) ⟨hr, rfl⟩ F hb I (.cons rfl (.cons rx .nil)) hsp) (fun u s' hu => ?_) fun _ _ e => e)
  obtain ⟨v, H', I', rv, c, rfl, q⟩ := hu
  cases rv
  exact wpAny_truthy_bool ⟨.bl (!c), H', I', rfl, q⟩
def rOwnLen (C : Addr) (sp : Sp) : List V → Hp → VK → Prop := fun xs H Q => ∃ b dy gs, xs = [.ref b] ∧ H b = some (.ins C dy gs) ∧ sp [.ref b] H (fun v H' => ∃ n : Nat, v = .int n ∧ n ≤ 100000 ∧ Q (.int n) H') E0
theorem call_lenO (F : FnOk X.prog X.w X.K X.mg X.base (L2.CX X.prog X.w) k f fd ps sp) (hr : Room (k + 1) X.A) (hs : PySem.W.findIn X.K (.ref C) "__len__" = some (some (.ref f))) (hf : PySem.W.isFn X.K (.ref f) = true) (hb : Binds X.K fd ps []) : CallR X (.builtin "len") (rOwnLen C sp) := by
  intro pins s σ H xs us Q I rv h
  obtain ⟨b, dy, gs, rfl, hb', hsp⟩ := h
  obtain ⟨u, rfl, ru⟩ := rv.one; cases ru
  obtain ⟨mB, J', _⟩ := ins_get I.hok hb'
  obtain ⟨od', J', _⟩ := J'.look
  obtain ⟨m, hF⟩ := I.fr
  refine PySem.W.len_K hF I.ok.mod.kin J' hs hf (wpAny_mono (sub_fn (n := k) (vs := [.ref b]) (Sub.in1 (n := k) ⟨hr, rfl⟩) F hb I (.cons rfl .nil) hsp) (fun u s' hu => ?_) fun _ _ e => e)
  obtain ⟨v, H', I', rv, n, rfl, hn, q⟩ := hu
  obtain ⟨tk, rfl⟩ := rv
  exact ⟨⟨by omega, by omega⟩, .int n, H', I'.tok _, ⟨_, rfl⟩, q⟩
end
/-! ### .. over data -/
section
variable {X : Cx} {Γ : En} {A A1 A2 B : Slots} {a b e : Expr} {p pos : Pos} {d : D} {ds : List D} {C f : Addr} {k : Nat} {fd : FuncData} {ps : List Str} {sp : Sp} {gs gs' : List (Str × D)} {c : Bool} {n : Nat}
theorem ins_of {K : PySem.W.Frag} {S : Hp} {v : V} (h : Rd K S v (.ins C gs)) : ∃ a dx fs, v = .ref a ∧ S a = some (.ins C dx fs) := by cases h with | ins h r => exact ⟨_, _, _, rfl, h⟩
theorem jown2 {op : CmpOp} {g : Bool → Bool} (ho : OpR X (compareOp op) (rOwn2 C sp g)) (hm : behindInMarks op b = false) (ha : PE X a (JE X.K Γ A (.sh (.ins C gs)) A1)) (hb : PE X b (JE X.K Γ A1 (.sh (.ins C gs')) A2)) (hs : ∀ vs H Q E, spJ X.K ([D.ins C gs, .ins C gs'].map Sl.sh) (.ok (.sh (.bl c), B)) vs H Q E → sp vs H Q E)
    (hT : A2.length ≤ 900 := by exact Nat.le_of_ble_eq_true rfl) : PE X (.Compare a [op] [b] pos) (JE X.K Γ A (.sh (.bl (g c))) A2) :=
  jcmp ho hm ha hb fun S H Ms σ x y Q ok rx ry k => by
    obtain ⟨a1, dx, fs, rfl, h1⟩ := ins_of rx
    obtain ⟨a2, dy, fs2, rfl, h2⟩ := ins_of ry
    refine ⟨a1, a2, dx, dy, fs, fs2, rfl, rfl, ok.sH _ _ h1, ok.sH _ _ h2, ?_⟩
    exact meet ok (.cons rx (.cons ry .nil)) hs hT fun v S' H' M' s' ok' rr => ⟨c, bl_of rr, k _ S' H' M' s' ok' (.bl _)⟩
theorem jownIn {op : CmpOp} {g : Bool → Bool} (ho : OpR X (compareOp op) (rOwnIn C sp g)) (hm : behindInMarks op b = false) (ha : PE X a (JE X.K Γ A (.sh d) A1)) (hb : PE X b (JE X.K Γ A1 (.sh (.ins C gs)) A2)) (hs : ∀ vs H Q E, spJ X.K ([D.ins C gs, d].map Sl.sh) (.ok (.sh (.bl c), B)) vs H Q E → sp vs H Q E)
    (hT : A2.length ≤ 900 := by exact Nat.le_of_ble_eq_true rfl) : PE X (.Compare a [op] [b] pos) (JE X.K Γ A (.sh (.bl (g c))) A2) :=
  jcmp ho hm ha hb fun S H Ms σ x y Q ok rx ry k => by
    obtain ⟨a2, dy, fs2, rfl, h2⟩ := ins_of ry
    refine ⟨a2, dy, fs2, rfl, ok.sH _ _ h2, ?_⟩
    exact meet ok (.cons ry (.cons rx .nil)) hs hT fun v S' H' M' s' ok' rr => ⟨c, bl_of rr, k _ S' H' M' s' ok' (.bl _)⟩
theorem jtown2 {op : CmpOp} {g : Bool → Bool} (ho : OpR X (compareOp op) (rOwn2 C sp g)) (hm : behindInMarks op b = false) (ha : PE X a (JE X.K Γ A (.sh (.ins C gs)) A1)) (hb : PE X b (JE X.K Γ A1 (.sh (.ins C gs')) A2)) (hs : ∀ vs H Q E, spJ X.K ([D.ins C gs, .ins C gs'].map Sl.sh) (.ok (.sh (.bl c), B)) vs H Q E → sp vs H Q E)
    (hT : A2.length ≤ 900 := by exact Nat.le_of_ble_eq_true rfl) : PT X (.Compare a [op] [b] pos) (JT X.K Γ A (g c) A2) :=
  jtcmp ho hm ha hb fun S H Ms σ x y Q ok rx ry k => by
    obtain ⟨a1, dx, fs, rfl, h1⟩ := ins_of rx
    obtain ⟨a2, dy, fs2, rfl, h2⟩ := ins_of ry
    refine ⟨a1, a2, dx, dy, fs, fs2, rfl, rfl, ok.sH _ _ h1, ok.sH _ _ h2, ?_⟩
    exact meet ok (.cons rx (.cons ry .nil)) hs hT fun v S' H' M' s' ok' rr => ⟨c, bl_of rr, k S' H' M' s' ok'⟩
theorem jtownIn {op : CmpOp} {g : Bool → Bool} (ho : OpR X (compareOp op) (rOwnIn C sp g)) (hm : behindInMarks op b = false) (ha : PE X a (JE X.K Γ A (.sh d) A1)) (hb : PE X b (JE X.K Γ A1 (.sh (.ins C gs)) A2)) (hs : ∀ vs H Q E, spJ X.K ([D.ins C gs, d].map Sl.sh) (.ok (.sh (.bl c), B)) vs H Q E → sp vs H Q E)
    (hT : A2.length ≤ 900 := by exact Nat.le_of_ble_eq_true rfl) : PT X (.Compare a [op] [b] pos) (JT X.K Γ A (g c) A2) :=
  jtcmp ho hm ha hb fun S H Ms σ x y Q ok rx ry k => by
    obtain ⟨a2, dy, fs2, rfl, h2⟩ := ins_of ry
    refine ⟨a2, dy, fs2, rfl, ok.sH _ _ h2, ?_⟩
    exact meet ok (.cons ry (.cons rx .nil)) hs hT fun v S' H' M' s' ok' rr => ⟨c, bl_of rr, k S' H' M' s' ok'⟩
theorem jownLen (hc : CallR X (.builtin "len") (rOwnLen C sp)) (hm : X.mg "len" = none) (ha : PA X [e] (JA X.K Γ A [.ins C gs] A1)) (hs : ∀ vs H Q E, spJ X.K ([D.ins C gs].map Sl.sh) (.ok (.sh (.int n), B)) vs H Q E → sp vs H Q E) (hn : n ≤ 100000) (hT : A1.length ≤ 900 := by exact Nat.le_of_ble_eq_true rfl)
    (hp : ∀ {t : TA}, PA X [e] t → PE X (.Call (.Name "len" p) [e] [] pos) (tCB (rOwnLen C sp) t)) : PE X (.Call (.Name "len" p) [e] [] pos) (JE X.K Γ A (.sh (.int n)) A1) :=
  jb hc hm boot_len ha (fun S H Ms σ vs Q ok r k => by
    obtain ⟨v, rfl, rv⟩ := one_rd r
    obtain ⟨a2, dy, fs2, rfl, h2⟩ := ins_of rv
    refine ⟨a2, dy, fs2, rfl, ok.sH _ _ h2, ?_⟩
    exact meet ok (.cons rv .nil) hs hT fun v S' H' M' s' ok' rr => ⟨n, int_of rr, hn, k _ S' H' M' s' ok' (.int _)⟩) hp
/-- what __iter__ promises: a new iterator over the tuple at the field f -/
def spIt (K : PySem.W.Frag) (C : Addr) (fn : Str) : Sp := fun vs H Q _ => ∃ (a dx : Addr) (fs : List (Str × V)) (t : Addr) (zs : List V), vs = [.ref a] ∧ H a = some (.ins C dx fs) ∧ fs.lookup fn = some (.ref t) ∧ SqT K H t zs ∧ ∀ it, H it = none → Q (.ref it) (upd H it (ItT t it))
/-- behind a call with two objects q, it of the walk on the way -/
theorem OK.walked {K : PySem.W.Frag} {σ σc : L2.St} {S S' H H1 H' H2 : Hp} {Ms M' : Nat → Hp} {own : Addr → Prop} {q it : Addr} {zs : List V} (ok : OK K Γ A σ S H Ms) (okc : OK K ⟨S, H1, own⟩ B σc S' H' M') (no : ∀ p, ¬ own p) (hA : A.length ≤ 900) (nq : H q = none) (ni : H it = none) (hq : ∃ u, H1 q = some u) (hi : ∃ u, H1 it = some u)
    (h1 : ∀ p u, H p = some u → H1 p = some u) (h2 : ∀ p u, p ≠ q → p ≠ it → H' p = some u → H2 p = some u) (h3 : H2 q = some (.lst zs)) : OK K Γ A σ S' H2 (put Ms T (one q (.lst zs))) := by
  have kp : ∀ p u, H p = some u → H2 p = some u := fun p u e => h2 p u (ne_of_none e nq) (ne_of_none e ni) (okc.fr p u (h1 p u e) (no p))
  have sn : ∀ p, S' p = none ∨ (∃ u, S p = some u) ∨ H1 p = none := fun p => by
    cases z : S' p with
    | none => exact .inl rfl
    | some u => rcases okc.sN p u z with h | h | h
                · exact .inr (.inl h)
                · exact .inr (.inr h)
                · exact (no p h).elim
  have sq : S' q = none := by
    rcases sn q with h | ⟨u, h⟩ | h
    · exact h
    · exact (nofree (ok.sH _ _ h) nq).elim
    · obtain ⟨u, hu⟩ := hq; exact (nofree hu h).elim
  have si : S' it = none := by
    rcases sn it with h | ⟨u, h⟩ | h
    · exact h
    · exact (nofree (ok.sH _ _ h) ni).elim
    · obtain ⟨u, hu⟩ := hi; exact (nofree hu h).elim
  have hT : A[T]? = none := List.getElem?_eq_none_iff.mpr (by show A.length ≤ 1000; omega)
  refine ⟨ok.len, fun i a e => ?_, fun p u e => ?_, fun i p u e => ?_, fun i p u e => ?_, fun i j p u e ne => ?_, ok.s0.trans okc.s0, fun p u e => ?_, fun i p u e => ?_, fun p u e n => kp p u (ok.fr p u e n)⟩
  · have hi' : i ≠ T := fun z => by subst z; rw [hT] at e; cases e
    obtain ⟨v, g1, g2⟩ := ok.slot i a e
    exact ⟨v, g1, by rw [put_ne hi']; exact Sl.mono okc.s0 g2⟩
  · exact h2 p u (fun z => by subst z; rw [sq] at e; cases e) (fun z => by subst z; rw [si] at e; cases e) (okc.sH p u e)
  · by_cases hi' : i = T
    · subst hi'; rw [put_same] at e; obtain ⟨rfl, rfl⟩ := one_at e; exact h3
    · rw [put_ne hi'] at e; exact kp p u (ok.mH i p u e)
  · by_cases hi' : i = T
    · subst hi'; rw [put_same] at e; obtain ⟨rfl, rfl⟩ := one_at e; exact sq
    · rw [put_ne hi'] at e
      rcases sn p with h | ⟨w, h⟩ | h
      · exact h
      · exact (nofree h (ok.mS i p u e)).elim
      · exact (nofree (h1 p u (ok.mH i p u e)) h).elim
  · by_cases hi' : i = T
    · subst hi'; rw [put_same] at e; obtain ⟨rfl, rfl⟩ := one_at e
      rw [put_ne (Ne.symm ne)]; exact free_of (ok.mH j) nq
    · rw [put_ne hi'] at e
      by_cases hj : j = T
      · subst hj; rw [put_same]
        cases z : one q (.lst zs) p with
        | none => rfl
        | some w => obtain ⟨rfl, _⟩ := one_at z; exact (nofree (ok.mH i _ u e) nq).elim
      · rw [put_ne hj]; exact ok.dj i j p u e ne
  · rcases okc.sN p u e with ⟨w, h⟩ | h | h
    · exact ok.sN p w h
    · have hn : H p = none := by
        cases z : H p with
        | none => rfl
        | some w => exact (nofree (h1 p w z) h).elim
      exact .inr (ok.nf hn)
    · exact (no p h).elim
  · by_cases hi' : i = T
    · subst hi'; rw [put_same] at e; obtain ⟨rfl, rfl⟩ := one_at e; exact ok.nf nq
    · rw [put_ne hi'] at e; exact ok.mN i p u e
/-- list(e), e an instance that is walked by __iter__ -/
theorem jownList {fn : Str} (hc : CallR X (.type "list") (rListI X.K C (spIt X.K C fn) sp)) (hv : bootBuiltins "list" = some (.type "list")) (ha : PA X [e] (JA X.K Γ A [.ins C gs] A1)) (hg : gs.lookup fn = some (.tup ds)) (hz : ds.length ≤ 100000) (hs : ∀ vs H Q E, spJ X.K ([D.ins C gs].map Sl.sh) (.ok (.sh (.int n), B)) vs H Q E → sp vs H Q E) (hn : n ≤ 100000)
    (hp : ∀ {t : TA}, PA X [e] t → PE X (.Call (.Name "list" p) [e] [] pos) (tCB (rListI X.K C (spIt X.K C fn) sp) t)) (hT : A1.length ≤ 900 := by exact Nat.le_of_ble_eq_true rfl) : PE X (.Call (.Name "list" p) [e] [] pos) (JE X.K Γ A (.ol none ds) A1) :=
  peI (hp ha) fun σ H Q ⟨S, Ms, ok, k⟩ => ⟨S, Ms, ok, fun vs S1 H1 M1 s1 ok1 r1 => by
    obtain ⟨v, rfl, rv⟩ := one_rd r1
    cases id rv with
    | ins h2 rf =>
    rename_i a dx fs
    obtain ⟨vt, g1, g2⟩ := rf.look hg
    cases g2 with
    | tup g3 g4 =>
    rename_i t zs
    refine ⟨a, dx, fs, t, zs, rfl, ok1.sH _ _ h2, by rw [g4.len]; exact hz, fun q nq => ?_⟩
    have haq : a ≠ q := ne_of_none (ok1.sH _ _ h2) nq
    have same : ∀ p u, H1 p = some u → upd H1 q (.lst []) p = some u := fun p u e => by rw [upd_ne (ne_of_none e nq)]; exact e
    have htq : SqT X.K (upd H1 q (.lst [])) t zs := sqT_mono (fun p u e => same p u e) (sqT_mono ok1.sH g3)
    refine ⟨a, dx, fs, t, zs, rfl, same _ _ (ok1.sH _ _ h2), g1, htq, fun it ni => ?_⟩
    have hiq : it ≠ q := fun z => by subst z; rw [upd_same] at ni; cases ni
    have ni1 : H1 it = none := by rw [upd_ne hiq] at ni; exact ni
    have same2 : ∀ p u, H1 p = some u → upd (upd H1 q (.lst [])) it (ItT t it) p = some u := fun p u e => by rw [upd_ne (ne_of_none e ni1)]; exact same p u e
    have ok2 : OK X.K ⟨S1, upd (upd H1 q (.lst [])) it (ItT t it), ownOf fun _ => emp⟩ (([D.ins C gs].map Sl.sh).map some) ([V.ref a].map some) S1 (upd (upd H1 q (.lst [])) it (ItT t it)) (fun _ => emp) := by
      have := ok1.shared (vs := [V.ref a]) (ds := [.ins C gs]) (.cons rv .nil)
      exact { this with sH := fun p u e => same2 p u (ok1.sH p u e), mH := fun _ _ _ e => (by cases e), mN := fun _ _ _ e => (by cases e), sN := fun p u e => .inl ⟨u, e⟩, fr := fun _ _ e _ => e }
    refine ⟨it, rfl, upd_same, same2 _ _ (ok1.sH _ _ h2), hs _ _ _ _ ⟨S1, fun _ => emp, ok2, fun v S' H' M' okc rr => ⟨n, int_of rr, hn, ?_, ?_, ?_, ?_⟩⟩⟩
    · exact okc.fr q _ (by show upd (upd H1 q (.lst [])) it (ItT t it) q = _; rw [upd_ne hiq.symm, upd_same]) (no_own q)
    · exact sqT_mono (fun p u e => okc.fr p u (same2 p u (ok1.sH p u e)) (no_own p)) g3
    · exact okc.fr it _ upd_same (no_own it)
    · have ok3 := ok1.walked (q := q) (it := it) (zs := zs) (H2 := upd (upd H' it (ItZ it)) q (.lst zs)) okc no_own hT nq ni1 ⟨_, by rw [upd_ne hiq.symm, upd_same]⟩ ⟨_, upd_same⟩ same2 (fun p u n1 n2 e => by rw [upd_ne n1, upd_ne n2]; exact e) upd_same
      exact k _ S' _ _ (s1.trans okc.s0) ok3 ⟨q, zs, fun _ z => (by cases z), rfl, by rw [put_same]; exact one_same, g4.mono okc.s0⟩⟩
end
end J
namespace J
open PySem L2
/-! ### several clauses «except C as n» with one name n -/
abbrev Cl := Value × (Addr → Value → Option Addr → TS)
def offE (i : Nat) (D : Ends) : Ends := { nx := fun σ H => D.nx (σ.set i none) H, rt := D.rt, bk := fun σ H => D.bk (σ.set i none) H, ct := fun σ H => D.ct (σ.set i none) H }
def wMa (K : PySem.W.Frag) (i : Nat) (Wo : WX) (D : Ends) : List Cl → WX
  | [] => Wo
  | (c, ts) :: r => fun cls d σ H => ∃ b, PySem.W.exmOne K cls c = some b ∧ (b = true → ∀ a, H a = none → ts a cls d (offE i D) (σ.set i (some (.ref a))) H) ∧ (b = false → wMa K i Wo D r cls d σ H)
inductive Hds (X : Cx) (n : Str) : List ExceptHandler → List Cl → Prop
  | nil : Hds X n [] []
  | cons {x : Str} {c : Value} {ts : Addr → Value → Option Addr → TS} {b₀ : Stmt} {su : List Stmt} {np pp : Pos} {hs : List ExceptHandler} {l : List Cl} (hc : Names X x c)
      (hsu : ∀ (a : Addr) (oe : Obj) (cls : Value) (d : Option Addr) (pn : List (Addr × Obj)), Zc cls d oe → (∃ vs, oe.data = .fields vs) → PSs (X.suite a ((a, oe) :: pn)) (b₀ :: su) (ts a cls d)) (r : Hds X n hs l) : Hds X n (.ExceptHandler (some (.Name x np)) (some n) (b₀ :: su) pp :: hs) ((c, ts) :: l)
theorem ps_try_ma {X : Cx} {n : Str} {i : Nat} {body : List Stmt} {h1 : ExceptHandler} {hds : List ExceptHandler} {l : List Cl} {pos : Pos} {tb : WX → TS} {Wo : WX} (hs : X.stack = X.env :: X.outer) (hf : X.env.frame = some X.env.locals) (hN : X.N.Nodup) (hi : X.N[i]? = some n) (hln : X.env.kindOf n = some .local) (tk : Takes X Wo)
    (hb : ∀ (W : WX) (pn : List (Addr × Obj)) (xe : Value → Shared → Prop), Takes (X.tr pn xe) W → PassesOwn (model X.prog X.w) X.A X.env xe → PSs (X.tr pn xe) body (tb W)) (hh : Hds X n (h1 :: hds) l) : PS X (.Try body (h1 :: hds) [] [] pos) (fun D σ H => tb (wMa X.K i Wo D l) D σ H) := by
  refine ⟨fun pins s σ H D I h => ?_⟩; have okX := I.ok
  have frA : X.A.frames = some (X.env :: X.outer) := by rw [okX.frames, hs]
  have locn : Loc X.env.scope n := .inl hln
  refine wpAny_Try_except ?_
  refine wpAny_mono ((hb (wMa X.K i Wo D l) (X.pn ++ pins) (fun e s₁ => wpAny (model X.prog X.w) X.A (noteFrame e X.env) (fun _ s₂ => wpAny (model X.prog X.w) X.A (setFlight e none) (fun _ s₃ => wpAny (model X.prog X.w) X.A (handleBy e X.env (h1 :: hds)) (SP X pins D) X.xe s₃) X.xe s₂) X.xe s₁) (fun u s' xx => ?_) PassesOwn.looking).run [] s σ H D (I.toTry _) h) (fun f s1 hsp => ?_) (fun _ _ he => he)
  · obtain ⟨a, B, sI, pins', σ', H', cls, d, rfl, J', nb, up, sky, na, os, ag, wq⟩ := xx; have Jx : Inv X pins σ' H' sI := J'.ofTry okX
    have sk : Sky B (X.env :: X.outer) a (Zc cls d) X.env.locals s'.heap := by rw [← hs]; exact sky
    show wpAny (model X.prog X.w) X.A (noteFrame (.ref a) X.env) _ _ _; refine Sky.land Zc.steady frA hf sk fun hA flA upA => ?_
    have JA' : Inv X pins σ' H' { s' with heap := hA } := Jx.landed nb flA.1 (up.trans upA) os ag; obtain ⟨oeA, vsA, heA, hzA, hdA⟩ := flA.there
    have offF : ∀ {h : Heap} {o : Obj} {vs : Array Value}, h.FunFrames B (X.env :: X.outer) → h.get? a = some o → o.data = .fields vs → a ∉ frs (X.env :: X.outer) := fun {h o vs} ff e dd hm => by
      obtain ⟨_, ob, eb, nf⟩ := ff.mem hm; rw [e] at eb; cases eb; exact nf _ dd
    have nfr := offF flA.2.2.1 heA hdA
    have nL : a ≠ X.env.locals := fun z => nfr (List.mem_filterMap.mpr ⟨X.env, List.mem_cons_self, by rw [hf]; exact congrArg some z.symm⟩)
    have nF : a ∉ X.fs := fun hm => by
      obtain ⟨en, hen, q⟩ := List.mem_filterMap.mp hm; exact nfr (List.mem_filterMap.mpr ⟨en, List.mem_cons_of_mem _ hen, q⟩)
    have SA := JA'.suite heA hdA na nL nF
    have LT : PySem.W.Looks (model X.prog X.w) hA (typeOf (.ref a)) cls := fun A Q E s k q => wpAny_typeOf_ref (k _ _ heA) (by rw [hzA.1] <;> exact q)
    have go : ∀ {hs' : List ExceptHandler} {l' : List Cl}, Hds X n hs' l' → wMa X.K i Wo D l' cls d σ' H' → wpAny (model X.prog X.w) X.A (handleBy (.ref a) X.env hs') (SP X pins D) X.xe { s' with heap := hA } := by
      intro hs' l' hk
      induction hk with
      | nil =>
        intro wq; refine wpAny_handleBy_nil ?_; obtain ⟨k1, k2, k3, oe, vs, T, oT, tt, he, hz, hd, g1, hr⟩ := id flA
        unfold PySem.passOn; refine wpAny_bind (wpAny_field he hd g1 ?_); rw [if_neg (show ¬ ((Value.ref T == Value.none) = true) from by simp)]
        have last : wpAny (model X.prog X.w) X.A (setFlight (.ref a) X.env.frame) (fun _ s4 => wpAny (model X.prog X.w) X.A (throw (.ref a) : Sem Flow) (SP X pins D) X.xe s4) X.xe { s' with heap := hA } := by
          rw [hf]; refine HandSPX.setFlight_upZ flA fun h4 hh4 up4 => wpAny_throw (tk _ _ ?_)
          exact ⟨a, B, sI, pins, σ', H', cls, d, rfl, Jx, nb, (up.trans upA).trans up4, .inr (.inr (by rw [hs] <;> exact hh4)), na, os, ag, wq⟩
        first | exact wpAny_bind (wpAny_pure (wpAny_bind last)) | exact wpAny_bind last
      | @cons x c ts b₀ su np pp hs2 l2 hc hsu r ih =>
        intro wq; obtain ⟨b, hb1, hyes, hno⟩ := wq; refine wpAny_handleBy_cons (codeAny_handlers_test ?_) (by intro q; cases q)
        have LM := PySem.W.exm_one (M := model X.prog X.w) (JA'.kIn) LT hb1
        have tst : ∀ {Q : Value → Shared → Prop} {E : Value → Shared → Prop}, Q c { s' with heap := hA } → wpAny (model X.prog X.w) (X.A.mark (some (.ref a))) (eval (.Name x np) X.env) Q E { s' with heap := hA } := fun {Q E} q => by
          obtain ⟨hg, hdbg, hm | ⟨hm, hv, hnn⟩⟩ := hc
          · exact ld_glob (X := X.suite a ((a, oeA) :: (X.pn ++ pins))) SA hg hm q hdbg
          · exact ld_blt (X := X.suite a ((a, oeA) :: (X.pn ++ pins))) SA hg hm hv q hnn hdbg
        refine tst (LM.here ?_)
        cases b with
        | true =>
          refine codeAny_handlers_suite_as ?_; refine HandSPX.lands_againZ flA fun h4 fl4 up4 => ?_
          have J4 : Inv X pins σ' H' { s' with heap := h4 } := Jx.landed nb fl4.1 ((up.trans upA).trans up4) os ag; obtain ⟨oe4, vs4, he4, hz4, hd4⟩ := fl4.there
          have S4 := J4.suite he4 hd4 na nL nF
          refine store_ok (X := X.suite a ((a, oe4) :: (X.pn ++ pins))) (v := .ref a) S4 hN hi locn rfl (fun s5 S5 => ?_) (.inr hln)
          refine wpAny_mono ((hsu a oe4 cls d (X.pn ++ pins) hz4 ⟨_, hd4⟩).run [] s5 _ H' _ S5 (hyes rfl a na)) (fun fl s6 hsp => ?_) (fun _ _ z => False.elim z)
          have off_ : ∀ {σ6 : L2.St} {H6 : Hp} {Q : Shared → Prop}, Inv (X.suite a ((a, oe4) :: (X.pn ++ pins))) [] σ6 H6 s6 → (∀ s7, Inv X pins (σ6.set i none) H6 s7 → Q s7) → wpAny (model X.prog X.w) X.A (do bindName X.env n .none; unbindBehindTheSuite X.env n pp) (fun _ s7 => Q s7) X.xe s6 := fun {σ6 H6 Q} S6 hq => gone_ok (S6.unsuite okX) hN hi hln hq
          cases fl with
          | next => obtain ⟨σ6, H6, S6, q6⟩ := hsp; exact off_ S6 fun s7 J7 => ⟨_, _, J7, q6⟩
          | brk => obtain ⟨σ6, H6, S6, q6⟩ := hsp; exact off_ S6 fun s7 J7 => ⟨_, _, J7, q6⟩
          | cont => obtain ⟨σ6, H6, S6, q6⟩ := hsp; exact off_ S6 fun s7 J7 => ⟨_, _, J7, q6⟩
          | ret u => obtain ⟨v6, σ6, H6, S6, r6, q6⟩ := hsp; exact off_ S6 fun s7 J7 => ⟨_, _, _, J7, r6, q6⟩
        | false => show wpAny _ X.A (handleBy (.ref a) X.env hs2) _ _ _; exact ih (hno rfl)
    exact go hh wq
  · cases f with
    | next => obtain ⟨σ', H', J', q⟩ := hsp; exact wpAny_execs_nil ⟨σ', H', J'.ofTry okX, q⟩
    | brk => obtain ⟨σ', H', J', q⟩ := hsp; exact ⟨σ', H', J'.ofTry okX, q⟩
    | cont => obtain ⟨σ', H', J', q⟩ := hsp; exact ⟨σ', H', J'.ofTry okX, q⟩
    | ret u => obtain ⟨v, σ', H', J', r, q⟩ := hsp; exact ⟨v, σ', H', J'.ofTry okX, r, q⟩
end J
namespace J
open PySem L2
/-! ### exceptions over data -/
/-- an exception of the class at C with these fields, its dict frozen -/
def exE (C : Addr) (gs : List (Str × D)) : Er := fun K S _ cls d => cls = .ref C ∧ ∃ dd fs, d = some dd ∧ S dd = some (.xd fs) ∧ Rfs K S fs gs
theorem OK.backE {K : PySem.W.Frag} {Γ : En} {A : Slots} {σ : L2.St} {S H S' H' : Hp} {Ms : Nat → Hp} {own : Addr → Prop} (ok : OK K Γ A σ S H Ms) (f : Fr ⟨S, H, own⟩ S' H') (no : ∀ p, ¬ own p) : OK K Γ A σ S' H' Ms where
  len := ok.len
  slot := fun i a e => by obtain ⟨v, h1, h2⟩ := ok.slot i a e; exact ⟨v, h1, Sl.mono f.s0 h2⟩
  sH := f.sH
  mH := fun i p o e => f.fr p o (ok.mH i p o e) (no p)
  mS := fun i p o e => by
    cases q : S' p with
    | none => rfl
    | some w => rcases f.sN p w q with ⟨z, hz⟩ | z | z
                · exact (nofree hz (ok.mS i p o e)).elim
                · exact (nofree (ok.mH i p o e) z).elim
                · exact (no p z).elim
  dj := ok.dj
  s0 := ok.s0.trans f.s0
  sN := fun p o e => by
    rcases f.sN p o e with ⟨z, hz⟩ | z | z
    · exact ok.sN p z hz
    · exact .inr (ok.nf z)
    · exact (no p z).elim
  mN := ok.mN
  fr := fun p o e n => f.fr p o (ok.fr p o e n) (no p)
section
variable (K : PySem.W.Frag) (Γ : En)
/-- e lets an exception out -/
def JX (W : WX) (A : Slots) (er : Er) (A' : Slots) : TE := fun σ H _ => ∃ S Ms, OK K Γ A σ S H Ms ∧ ∀ cls x S' H' Ms', Same S S' → OK K Γ A' σ S' H' Ms' → er K S' H' cls x → W cls x σ H'
end
section
variable {X : Cx} {Γ : En} {W : WX} {A A1 A2 A' B B1 B2 : Slots} {a b e o : Expr} {es : List Expr} {p pos apos : Pos} {i j : Int} {d d' : D} {ds dds : List D} {sl r : Sl} {x m y : Str} {f C : Addr} {fd : FuncData} {ps : List Str} {sp : Sp} {k : Nat} {er : Er} {gs : List (Str × D)}
theorem meetE {K : PySem.W.Frag} {σ : L2.St} {S H : Hp} {Ms : Nat → Hp} {Q : VK} {E : XK} {vs : List V} (ok : OK K Γ A1 σ S H Ms) (r1 : Rds K S vs ds) (hs : ∀ vs H Q E, spJ K (ds.map Sl.sh) (.error er) vs H Q E → sp vs H Q E)
    (kq : ∀ cls x S' H' Ms', Same S S' → OK K Γ A1 σ S' H' Ms' → er K S' H' cls x → E cls x H') : sp vs H Q E :=
  hs _ _ _ _ ⟨S, fun _ => emp, ok.shared r1, fun cls x S' H' f e => kq cls x S' H' Ms f.s0 (ok.backE f no_own) e⟩
theorem jcallX (tk : Takes X W) (F : FnOk X.prog X.w X.K X.mg X.base (L2.CX X.prog X.w) k f fd ps sp) (hr : Room k X.A) (hm : X.mg x = some (.ref f)) (hk : PySem.W.keepIn X.K (.ref f) = true) (hb : Binds X.K fd ps []) (ha : PA X (e :: es) (JA X.K Γ A ds A1))
    (hs : ∀ vs H Q E, spJ X.K (ds.map Sl.sh) (.error er) vs H Q E → sp vs H Q E) (hg : Gl X x := by rfl) (hdb : (x == ("__debug__" : Str)) = false := by decide)
    (he : starEach (e :: es) X.env = (false, eval e X.env) :: starEach es X.env := by rfl) (hpl : (backTo pos (starEach es X.env)).any (·.1) = false := by rfl) : PE X (.Call (.Name x p) (e :: es) [] pos) (JX X.K Γ W A er A1) :=
  peI (pe_callS F hr hg hm hk hb (fun σ => passAt tk σ) ha hdb he hpl) fun σ H Q ⟨S, Ms, ok, kq⟩ => ⟨S, Ms, ok, fun vs S1 H1 M1 s1 ok1 r1 =>
    meetE ok1 r1 hs fun cls x S' H' M' s' ok' ee => kq cls x S' H' M' (s1.trans s') ok' ee⟩
/-- o.m(e, ..), the wish may speak of the slots -/
theorem pe_methAt {CX : CXT} {E : L2.St → XK} {ta : TE} {t : TA} {pl : Sem Bool} (he : PE X o ta) (c : Cls X.K C) (hm : Meth X.K C m f) (F : FnOk X.prog X.w X.K X.mg X.base CX k f fd ps sp) (hr : Room k X.A) (hb : Binds X.K fd ps []) (hx : ∀ σ, PassesAt CX X σ (E σ)) (ha : PA X (e :: es) t)
    (hst : starEach (e :: es) X.env = (false, eval e X.env) :: starEach es X.env := by rfl) (hpl : (backTo pos (starEach es X.env)).any (·.1) = false := by rfl)
    (ht : eval (.Call (.Attribute o m apos) (e :: es) [] pos) X.env = (do
      let ov ← eval o X.env
      standAt apos.atName
      let (f, first) ← holding [ov] (getMethod ov m pl)
      callWith pos f first (backTo pos (starEach (e :: es) X.env)) (backToKw pos (keywordEach [] X.env))) := by rfl) :
    PE X (.Call (.Attribute o m apos) (e :: es) [] pos) (fun σ H Q => ta σ H fun x H1 => ∃ a dx fs, x = .ref a ∧ H1 a = some (.ins C dx fs) ∧ fs.lookup m = none ∧ t σ H1 fun vs H2 => sp (x :: vs) H2 Q (E σ)) := by
  refine ⟨fun pins s σ H Q I h => ?_⟩
  refine PySem.W.methodCall_KW (pl := pl) (thn (he.run pins s σ H _ I h) fun u s1 ⟨x, H1, I1, rx, a, dx, fs, ex, ea, l, q⟩ => ?_) ht
  subst ex
  obtain rfl : u = Value.ref a := rx
  refine getmeth_ok I1 ea c hm l ?_
  refine PySem.W.callWith_K (first := [.ref a]) (h₀ := X.base) I.ok.mod.kin hm.kp (thn (ha.run pos pins s1 σ H1 _ I1 q) fun us s2 ⟨vs, H2, I2, r, q2⟩ => ⟨I2.kIn, ?_⟩) hst hpl
  exact run_fnS (us := .ref a :: us) (vs := .ref a :: vs) F hr hb (hx σ) I2 (.cons rfl r) q2
theorem jmethX {gs : List (Str × D)} (he : PE X o (JE X.K Γ A (.sh (.ins C gs)) A1)) (hl : gs.lookup m = none) (ha : PA X (e :: es) (JA X.K Γ A1 ds A2)) (hs : ∀ vs H Q E, spJ X.K ((D.ins C gs :: ds).map Sl.sh) (.error er) vs H Q E → sp vs H Q E)
    (h : ∀ {ta : TE} {t : TA} (he : PE X o ta) (ha : PA X (e :: es) t), PE X (.Call (.Attribute o m apos) (e :: es) [] pos) (fun σ H Q => ta σ H fun x H1 => ∃ a dx fs, x = .ref a ∧ H1 a = some (.ins C dx fs) ∧ fs.lookup m = none ∧ t σ H1 fun vs H2 => sp (x :: vs) H2 Q (WE W σ))) :
    PE X (.Call (.Attribute o m apos) (e :: es) [] pos) (JX X.K Γ W A er A2) :=
  peI (h he ha) fun σ H Q ⟨S, Ms, ok, kq⟩ => ⟨S, Ms, ok, fun v S1 H1 M1 s1 ok1 r1 => by
    cases r1 with
    | ins h1 rf =>
      rename_i a dx fs
      refine ⟨a, dx, fs, rfl, ok1.sH _ _ h1, rf.none hl, S1, M1, ok1, fun vs S2 H2 M2 s2 ok2 r2 => ?_⟩
      exact meetE ok2 (.cons (.ins (s2 _ _ h1) (rf.mono s2)) r2) hs fun cls x S' H' M' s' ok' ee => kq cls x S' H' M' ((s1.trans s2).trans s') ok' ee⟩
/-- y = e, e lets an exception out -/
theorem jsetX (n : Nat) {pos' : Pos} (he : PE X e (JX X.K Γ W A er A1)) (hN : X.N.Nodup) (hi : X.N[n]? = some x := by rfl) (hx : Loc X.env.scope x := by first | exact Or.inl rfl | exact Or.inr rfl)
    (hs : swapsWith e (some (.Name x pos')) pos.line X.env = pure false := by rfl) (hf : X.fn x = true ∨ X.env.scope.names.lookup x = some .local := by first | exact .inl rfl | exact .inr rfl) : PS X (.Assign [.Name x pos'] e pos) (JS X.K Γ W A (.er er A1)) :=
  psI (ps_set (i := n) hN hi hx he hs hf) fun D σ H ⟨S, Ms, ok, k⟩ => ⟨S, Ms, ok, fun cls x S' H' M' s' ok' ee => k cls x σ S' H' M' s' ok' ee⟩
theorem jexprX (he : PE X e (JX X.K Γ W A er A1)) (hs : swapsWith e none pos.line X.env = pure false := by rfl) : PS X (.Expr e pos) (JS X.K Γ W A (.er er A1)) :=
  psI (ps_expr he hs) fun D σ H ⟨S, Ms, ok, k⟩ => ⟨S, Ms, ok, fun cls x S' H' M' s' ok' ee => k cls x σ S' H' M' s' ok' ee⟩
theorem jretX (he : PE X e (JX X.K Γ W A er A1)) : PS X (.Return (some e) pos) (JS X.K Γ W A (.er er A1)) :=
  psI (ps_ret he) fun D σ H ⟨S, Ms, ok, k⟩ => ⟨S, Ms, ok, fun cls x S' H' M' s' ok' ee => k cls x σ S' H' M' s' ok' ee⟩
/-! ### own exception classes -/
/-- what an own exception class's __init__ promises: these fields are set, in their order -/
def spX (K : PySem.W.Frag) (C : Addr) (ns : List Str) : Sp := fun vs H Q _ => ∃ (a : Addr) (ys : List V), vs = .ref a :: ys ∧ ys.length = ns.length ∧ H a = some (exo a C none) ∧ ∀ dx, H dx = none → dx ≠ a →
  Q .non (upd (upd H dx (exd dx (ns.zip ys).reverse)) a (exo a C (some dx)))
/-- the class at C is made by an __init__ with the fields ns -/
structure Xc (P : Program) (w : World) (K : PySem.W.Frag) (mg : Str → Option Value) (base : Heap) (C : Addr) (ns : List Str) (k : Nat) : Prop where
  oex : OexC K C
  ini : ∃ fI fd ps, PySem.W.findIn K (.ref C) "__init__" = some (some (.ref fI)) ∧ PySem.W.typeIn K (.ref fI) = some (.type "function") ∧ FnOk P w K mg base (L2.CX P w) k fI fd ps (spX K C ns) ∧ Binds K fd ps []
theorem zip_rfs {K : PySem.W.Frag} {S : Hp} : ∀ {ns : List Str} {vs : List V} {ds : List D}, Rds K S vs ds → Rfs K S (ns.zip vs) (ns.zip ds)
  | [], _, _, _ => by simp only [List.zip_nil_left]; exact .nil
  | _ :: _, _, _, .nil => .nil
  | _ :: _, _, _, .cons h r => .cons h (zip_rfs r)
theorem Rfs.app {K : PySem.W.Frag} {S : Hp} : ∀ {fs gs fs' gs'}, Rfs K S fs gs → Rfs K S fs' gs' → Rfs K S (fs ++ fs') (gs ++ gs')
  | _, _, _, _, .nil, s => s
  | _, _, _, _, .cons h r, s => .cons h (Rfs.app r s)
theorem Rfs.rev {K : PySem.W.Frag} {S : Hp} : ∀ {fs gs}, Rfs K S fs gs → Rfs K S fs.reverse gs.reverse
  | _, _, .nil => .nil
  | _, _, .cons h r => by
    rw [List.reverse_cons, List.reverse_cons]
    exact (Rfs.rev r).app (.cons h .nil)
theorem xd_upd {H : Hp} {a d : Addr} {u1 u2 u3 u4 : HO} (na : H a = none) (hda : d ≠ a) : upd (del (upd (upd (upd H a u1) d u2) a u3) a) d u4 = upd H d u4 := by
  funext b
  by_cases h1 : b = d
  · subst h1; rw [upd_same, upd_same]
  · rw [upd_ne h1, upd_ne h1]
    by_cases h2 : b = a
    · subst h2; rw [del_same, na]
    · rw [del_ne h2, upd_ne h2, upd_ne h1, upd_ne h2]
/-- raise C(e, ..) -/
theorem jraise {ns : List Str} {kk : Nat} {p1 : Pos} (hc : X.calm = true) (tk : Takes X W) (T : Xc X.prog X.w X.K X.mg X.base C ns kk) (hr : Room (kk + 1) X.A) (hm : X.mg x = some (.ref C)) (ha : PA X (e :: es) (JA X.K Γ A ds A1)) (hl : ds.length = ns.length := by rfl) (hz : ds.length ≤ 900 := by exact Nat.le_of_ble_eq_true rfl)
    (hg : Gl X x := by rfl) (hdb : (x == ("__debug__" : Str)) = false := by decide) (he : starEach (e :: es) X.env = (false, eval e X.env) :: starEach es X.env := by rfl) (hpl : (backTo p1 (starEach es X.env)).any (·.1) = false := by rfl) :
    PS X (.Raise (some (.Call (.Name x p) (e :: es) [] p1)) none pos) (JS X.K Γ W A (.er (exE C (ns.zip ds).reverse) A1)) := by
  obtain ⟨fI, fd, ps, iC, tI, F, hb⟩ := T.ini
  refine psI (ps_raise hc tk (pmk_oex (dvs := []) T.oex iC tI F hr hb .nil passL hg hm ha hdb he hpl)) fun D σ H ⟨S, Ms, ok, kq⟩ => ⟨S, Ms, ok, fun vs S1 H1 M1 s1 ok1 r1 => ?_⟩
  have hvl : vs.length = ds.length := r1.len
  refine ⟨by omega, fun a na => ?_⟩
  rw [List.append_nil]
  refine ⟨a, vs, rfl, by omega, upd_same, fun dx ndx hda => ⟨rfl, dx, (ns.zip vs).reverse, upd_same, by rw [upd_ne hda, upd_same], ?_, ?_⟩⟩
  · rw [upd_ne hda] at ndx; exact ndx
  · rw [upd_ne hda] at ndx
    rw [xd_upd na hda]
    obtain ⟨ok2, s2⟩ := ok1.new (o := .xd (ns.zip vs).reverse) ndx
    exact kq _ _ _ _ _ _ (s1.trans s2) ok2 ⟨rfl, dx, _, rfl, upd_same, (zip_rfs (r1.mono s2)).rev⟩
end
end J
namespace J
open PySem L2
section
variable {P : Program} {w : World} {K : PySem.W.Frag} {mg : Str → Option Value} {base : Heap} {C f : Addr} {x qual n n1 n2 : Str} {st : Stmt} {fd : FuncData} {k : Nat} {p1 p2 p3 p4 q1 q2 q3 q4 : Pos}
theorem init1 (F : Fun K x qual st f fd) (Sc : FnScope ["self", n] ["self", n] (defScope st)) (T : OexC K C) (hno : PySem.W.findIn K (.ref C) n = some none) (hv0 : Vis (defScope st) "self" := by first | exact Or.inl rfl | exact Or.inr (Or.inl rfl)) (hv1 : Vis (defScope st) n := by first | exact Or.inl rfl | exact Or.inr (Or.inl rfl))
    (hd : (n == ("__debug__" : Str)) = false := by decide) (hcd : (n == ("__classdict__" : Str)) = false := by decide) (hb : defBody st = [.Assign [.Attribute (.Name "self" p1) n p2] (.Name n p3) p4] := by rfl) : FnOk P w K mg base (L2.CX P w) (k + 1) f fd ["self", n] (spX K C [n]) := by
  refine F.okX Sc (fun vs H Q E h => ?_) (fun cdv A outer s H vs Q E hr h => ?_)
  · obtain ⟨a, ys, rfl, hl, _⟩ := h
    exact congrArg (· + 1) hl
  · obtain ⟨a, ys, rfl, hl, ea, q⟩ := h
    match ys, hl with
    | [y], _ =>
      refine ⟨_, by rw [hb]; exact pss_one (ps_ost (pe_var (i := 0) rfl hv0 (by decide) (by decide)) (pe_var (i := 1) rfl hv1 hd hcd)), ?_⟩
      refine ⟨y, rfl, .ref a, rfl, a, C, rfl, T, hno, .inl ⟨ea, fun dx n ne => q dx n ne⟩⟩
theorem init2 (F : Fun K x qual st f fd) (Sc : FnScope ["self", n1, n2] ["self", n1, n2] (defScope st)) (T : OexC K C) (hno1 : PySem.W.findIn K (.ref C) n1 = some none) (hno2 : PySem.W.findIn K (.ref C) n2 = some none) (hv0 : Vis (defScope st) "self" := by first | exact Or.inl rfl | exact Or.inr (Or.inl rfl)) (hv1 : Vis (defScope st) n1 := by first | exact Or.inl rfl | exact Or.inr (Or.inl rfl)) (hv2 : Vis (defScope st) n2 := by first | exact Or.inl rfl | exact Or.inr (Or.inl rfl))
    (hd1 : (n1 == ("__debug__" : Str)) = false := by decide) (hcd1 : (n1 == ("__classdict__" : Str)) = false := by decide) (hd2 : (n2 == ("__debug__" : Str)) = false := by decide) (hcd2 : (n2 == ("__classdict__" : Str)) = false := by decide)
    (hb : defBody st = [.Assign [.Attribute (.Name "self" p1) n1 p2] (.Name n1 p3) p4, .Assign [.Attribute (.Name "self" q1) n2 q2] (.Name n2 q3) q4] := by rfl) : FnOk P w K mg base (L2.CX P w) (k + 1) f fd ["self", n1, n2] (spX K C [n1, n2]) := by
  refine F.okX Sc (fun vs H Q E h => ?_) (fun cdv A outer s H vs Q E hr h => ?_)
  · obtain ⟨a, ys, rfl, hl, _⟩ := h
    exact congrArg (· + 1) hl
  · obtain ⟨a, ys, rfl, hl, ea, q⟩ := h
    match ys, hl with
    | [y, z], _ =>
      refine ⟨_, by rw [hb]; exact pss_cons (ps_ost (pe_var (i := 0) rfl hv0 (by decide) (by decide)) (pe_var (i := 1) rfl hv1 hd1 hcd1)) (pss_one (ps_ost (pe_var (i := 0) rfl hv0 (by decide) (by decide)) (pe_var (i := 2) rfl hv2 hd2 hcd2))), ?_⟩
      refine ⟨y, rfl, .ref a, rfl, a, C, rfl, T, hno1, .inl ⟨ea, fun dx ndx ne => ?_⟩⟩
      refine ⟨z, rfl, .ref a, rfl, a, C, rfl, T, hno2, .inr ⟨dx, [(n1, y)], upd_same, by rw [upd_ne ne, upd_same], Nat.le_of_ble_eq_true rfl, ?_⟩⟩
      have e : upd (upd (upd H dx (exd dx [(n1, y)])) a (exo a C (some dx))) dx (exd dx ((n2, z) :: [(n1, y)])) = upd (upd H dx (exd dx [(n2, z), (n1, y)])) a (exo a C (some dx)) := by
        funext b
        by_cases h1 : b = dx
        · subst h1; rw [upd_same, upd_ne ne, upd_same]
        · rw [upd_ne h1]
          by_cases h2 : b = a
          · subst h2; rw [upd_same, upd_same]
          · rw [upd_ne h2, upd_ne h2, upd_ne h1, upd_ne h1]
      rw [e]
      exact q dx ndx ne
end
section
variable {X : Cx} {Γ : En} {W : WX} {A A1 A2 A' B B1 B2 : Slots} {a C : Addr} {e o : Expr} {es : List Expr} {p pos apos : Pos} {i j : Int} {d d' : D} {ds dds : List D} {sl r : Sl} {x m y f : Str} {fd : FuncData} {ps : List Str} {sp : Sp} {k : Nat} {er : Er} {gs : List (Str × D)} {dd : Addr} {oe : Obj} {pn : List (Addr × Obj)}
/-- e.f of the caught exception -/
theorem jxf (T : XfC X.K C) (hno : PySem.W.findIn X.K (.ref C) f = some none) (hz : Zc (.ref C) (some dd) oe) (hf : ∃ vs, oe.data = .fields vs) (he : PE (X.suite a ((a, oe) :: pn)) e (JE X.K Γ A (.sh (.exv a dd gs)) A1)) (hl : gs.lookup f = some d)
    (hb : attributeBase e f X.env (eval e X.env) = eval e X.env := by rfl) : PE (X.suite a ((a, oe) :: pn)) (.Attribute e f pos) (JE X.K Γ A (.sh d) A1) :=
  peI (pe_xf T hno hz hf he hb) fun σ H Q ⟨S, Ms, ok, kq⟩ => ⟨S, Ms, ok, fun v S1 H1 M1 s1 ok1 r1 => by
    cases r1 with
    | exv h1 rf =>
      obtain ⟨v, g1, g2⟩ := rf.look hl
      exact ⟨rfl, rfl, dd, _, v, rfl, ok1.sH _ _ h1, g1, kq v S1 H1 M1 s1 ok1 g2⟩⟩
/-- isinstance(e, c), e the caught exception with fields -/
theorem call_isX {D : Addr} (T : ExcC X.K D) (hz : Zc (.ref D) (some dd) oe) (hf : ∃ vs, oe.data = .fields vs) : CallR (X.suite a ((a, oe) :: pn)) (.builtin "isinstance") (fun xs H Q => ∃ (c : V) (cv : Value) (b : Bool) (fs : List (Str × V)), xs = [.ref a, c] ∧ H dd = some (.xd fs) ∧ (∀ u, RelV c u → u = cv) ∧ PySem.W.kitOne X.K (.ref D) cv = some b ∧ Q (.bl b) H) := by
  intro pins s σ H xs us Q I r h
  obtain ⟨c, cv, b, fs, rfl, hd, hcv, e, q⟩ := h
  cases r with
  | cons rx rr =>
    cases rr with
    | cons rt rr =>
      cases rr
      cases rx
      have ec := hcv _ rt
      subst ec
      obtain ⟨hget, _⟩ := I.pin (a, oe) (List.mem_append.mpr (.inl List.mem_cons_self))
      obtain ⟨vs, hv⟩ := hf
      have hx : ObjOk X.prog X.w H s.heap dd (.xd fs) := I.hok dd _ hd
      obtain ⟨mA, hns, _⟩ := hx
      obtain ⟨od, ho, _⟩ := lookIn_ns hns
      have J : PySem.W.InstAt s.heap a oe D (some od) := ⟨hget, hz.1, by unfold PySem.W.notCls; rw [hv] <;> rfl, by rw [hz.2]; exact ho⟩
      have hcl : (PySem.W.clsIn X.K D).isSome = true := by
        obtain ⟨cd, hc, _⟩ := PySem.W.any_some T.hd
        rw [hc]; rfl
      exact PySem.W.kia_one (PySem.W.kitx_exc hcl T.hg T.hk T.hs T.ha T.hn T.ht T.hm) I.kIn J e (fun z => nomatch z) fun tk => ⟨.bl b, H, I.kept (t' := tk) fun _ _ z => z, rfl, q⟩
theorem jisX {Ci : Addr} {b : Bool} {x : Str} {p0 p1 p2 : Pos} (T : ExcC X.K C) (hz : Zc (.ref C) (some dd) oe) (hf : ∃ vs, oe.data = .fields vs) (he : PE (X.suite a ((a, oe) :: pn)) e (JE X.K Γ A (.sh (.exv a dd gs)) A1))
    (hm : X.mg x = some (.ref Ci)) (hk : PySem.W.kitOne X.K (.ref C) (.ref Ci) = some b) (hmi : X.mg "isinstance" = none) (hg : Gl X x := by rfl) (hgi : Gl X "isinstance" := by rfl) (hdb : (x == ("__debug__" : Str)) = false := by decide)
    (hs : starEach [e, .Name x p1] X.env = (false, eval e X.env) :: starEach [.Name x p1] X.env := by rfl) : PE (X.suite a ((a, oe) :: pn)) (.Call (.Name "isinstance" p0) [e, .Name x p1] [] p2) (JE X.K Γ A (.sh (.bl b)) A1) := by
  have q := pe_callB (p := p0) (pos := p2) (call_isX (X := X) (a := a) (pn := pn) T hz hf) hgi hmi (by decide +kernel) (pa_cons he (pa_cons (pe_glob (X := X.suite a ((a, oe) :: pn)) (pos := p1) (v := .ref Ci) hg hm rfl hdb) pa_nil (by rfl)) hs) (by decide) (by decide) hs (by rfl)
  refine peI q fun σ H Q ⟨S, Ms, ok, kq⟩ => ⟨S, Ms, ok, fun v S1 H1 M1 s1 ok1 r1 => ?_⟩
  cases r1 with
  | exv h1 rf => exact ⟨.ref Ci, .ref Ci, b, _, rfl, ok1.sH _ _ h1, fun u z => z, hk, kq _ _ _ _ s1 ok1 (.bl b)⟩
end
end J
namespace J
open PySem L2
def never : Addr → Value → Option Addr → TS := fun _ _ _ _ _ _ => False
inductive Hn (X : Cx) (n : Str) : List ExceptHandler → List Value → Prop
  | nil : Hn X n [] []
  | cons {x : Str} {c : Value} {b₀ : Stmt} {su : List Stmt} {np pp : Pos} {hs : List ExceptHandler} {l : List Value} (hc : Names X x c) (r : Hn X n hs l) : Hn X n (.ExceptHandler (some (.Name x np)) (some n) (b₀ :: su) pp :: hs) (c :: l)
theorem Hn.hds {X : Cx} {n : Str} : ∀ {hs cs}, Hn X n hs cs → Hds X n hs (cs.map fun c => (c, never))
  | _, _, .nil => .nil
  | _, _, .cons hc r => .cons hc (fun a oe cls d pn hz hf => ⟨fun _ _ _ _ _ _ h => h.elim⟩) r.hds
def Out.off (i : Nat) : Out → Out
  | .nx B => .nx (B.set i none)
  | .bk B => .bk (B.set i none)
  | .ct B => .ct (B.set i none)
  | o => o
def tsT (K : PySem.W.Frag) (Γ : En) (Wo : WX) (i : Nat) (C : Addr) (gs : List (Str × D)) (A1 : Slots) (oh : Out) : Addr → Value → Option Addr → TS := fun a cls d D σ H => ∃ dd, cls = .ref C ∧ d = some dd ∧ JS K Γ Wo (A1.set i (some (.sh (.exv a dd gs)))) oh D σ H
inductive Hj (X : Cx) (Γ : En) (Wo : WX) (n : Str) (i : Nat) (C : Addr) (gs : List (Str × D)) (A1 : Slots) (oh : Out) : List ExceptHandler → List Cl → Prop
  | take {x : Str} {Ck : Addr} {b₀ : Stmt} {su : List Stmt} {np pp : Pos} {hs : List ExceptHandler} {cs : List Value} (hc : Names X x (.ref Ck)) (hm : PySem.W.exmOne X.K (.ref C) (.ref Ck) = some true)
      (hsu : ∀ (a dd : Addr) (oe : Obj) (pn : List (Addr × Obj)), Zc (.ref C) (some dd) oe → (∃ vs, oe.data = .fields vs) → PSs (X.suite a ((a, oe) :: pn)) (b₀ :: su) (JS X.K Γ Wo (A1.set i (some (.sh (.exv a dd gs)))) oh)) (r : Hn X n hs cs) :
      Hj X Γ Wo n i C gs A1 oh (.ExceptHandler (some (.Name x np)) (some n) (b₀ :: su) pp :: hs) ((.ref Ck, tsT X.K Γ Wo i C gs A1 oh) :: cs.map fun c => (c, never))
  | skip {x : Str} {Ck : Addr} {b₀ : Stmt} {su : List Stmt} {np pp : Pos} {hs : List ExceptHandler} {l : List Cl} (hc : Names X x (.ref Ck)) (hm : PySem.W.exmOne X.K (.ref C) (.ref Ck) = some false) (r : Hj X Γ Wo n i C gs A1 oh hs l) :
      Hj X Γ Wo n i C gs A1 oh (.ExceptHandler (some (.Name x np)) (some n) (b₀ :: su) pp :: hs) ((.ref Ck, never) :: l)
section
variable {X : Cx} {Γ : En} {W Wo : WX} {A A1 B : Slots} {n : Str} {i : Nat} {C : Addr} {gs : List (Str × D)} {oh ob : Out} {hs : List ExceptHandler} {l : List Cl} {body : List Stmt} {h1 : ExceptHandler} {hds : List ExceptHandler} {cs : List Value} {pos : Pos}
theorem Hj.toH : Hj X Γ Wo n i C gs A1 oh hs l → Hds X n hs l := fun h => by
  induction h with
  | take hc hm hsu r =>
    refine .cons hc (fun a oe cls d pn hz hf => ⟨fun pins s σ H D I h => ?_⟩) r.hds
    obtain ⟨dd, rfl, rfl, h⟩ := h
    exact (hsu a dd oe pn hz hf).run pins s σ H D I h
  | skip hc hm r ih => exact .cons hc (fun a oe cls d pn hz hf => ⟨fun _ _ _ _ _ _ h => h.elim⟩) ih
theorem OK.unset {K : PySem.W.Frag} {σ : L2.St} {S H : Hp} {Ms : Nat → Hp} (ok : OK K Γ A σ S H Ms) (i : Nat) : OK K Γ (A.set i none) (σ.set i none) S H Ms :=
  { ok with
    len := by rw [List.length_set, List.length_set]; exact ok.len
    slot := fun j a e => by
      by_cases hj : j = i
      · subst hj
        rcases Nat.lt_or_ge j A.length with h | h
        · rw [List.getElem?_set_self h] at e; cases e
        · rw [List.getElem?_eq_none_iff.mpr (by rw [List.length_set]; exact h)] at e; cases e
      · rw [List.getElem?_set_ne (Ne.symm hj)] at e
        obtain ⟨v, h1, h2⟩ := ok.slot j a e
        exact ⟨v, by rw [List.getElem?_set_ne (Ne.symm hj)]; exact h1, h2⟩ }
theorem OK.setD {K : PySem.W.Frag} {σ : L2.St} {S H : Hp} {Ms : Nat → Hp} (ok : OK K Γ A σ S H Ms) (i : Nat) {v : V} {d : D} (r : Rd K S v d) : OK K Γ (A.set i (some (.sh d))) (σ.set i (some v)) S H Ms :=
  { ok with
    len := by rw [List.length_set, List.length_set]; exact ok.len
    slot := fun j a e => by
      by_cases hj : j = i
      · subst hj
        rcases Nat.lt_or_ge j A.length with h | h
        · rw [List.getElem?_set_self h] at e
          cases e
          exact ⟨v, by rw [List.getElem?_set_self (by rw [ok.len]; exact h)], r⟩
        · rw [List.getElem?_eq_none_iff.mpr (by rw [List.length_set]; exact h)] at e; cases e
      · rw [List.getElem?_set_ne (Ne.symm hj)] at e
        obtain ⟨v, h1, h2⟩ := ok.slot j a e
        exact ⟨v, by rw [List.getElem?_set_ne (Ne.symm hj)]; exact h1, h2⟩ }
theorem Hj.met {D : Ends} {S0 : Hp} (h : Hj X Γ Wo n i C gs A1 oh hs l) (hp : Post X.K Γ Wo S0 (oh.off i) D) {cls : Value} {x : Option Addr} {σ : L2.St} {S H : Hp} {Ms : Nat → Hp} (s0 : Same S0 S) (ok : OK X.K Γ A1 σ S H Ms) (ee : exE C gs X.K S H cls x) : wMa X.K i Wo D l cls x σ H := by
  obtain ⟨rfl, dd, fs, rfl, hd, hr⟩ := ee
  induction h with
  | take hc hm hsu r =>
    refine ⟨true, hm, fun _ a na => ⟨dd, rfl, rfl, S, Ms, ok.setD i (.exv hd hr), ?_⟩, fun z => by cases z⟩
    cases oh with
    | nx B => exact fun σ' S' H' M' s' ok' => hp _ S' H' M' (s0.trans s') (ok'.unset i)
    | rt a B => exact fun v σ' S' H' M' s' ok' r => hp v σ' S' H' M' (s0.trans s') ok' r
    | er a B => exact fun c x σ' S' H' M' s' ok' r => hp c x σ' S' H' M' (s0.trans s') ok' r
    | bk B => exact fun σ' S' H' M' s' ok' => hp _ S' H' M' (s0.trans s') (ok'.unset i)
    | ct B => exact fun σ' S' H' M' s' ok' => hp _ S' H' M' (s0.trans s') (ok'.unset i)
  | skip hc hm r ih => exact ⟨false, hm, (fun z => by cases z), fun _ => ih⟩
/-- try: body (lets an own exception out), one of the clauses takes it -/
theorem jtryE (hb : ∀ (W : WX) (pn : List (Addr × Obj)) (xe : Value → Shared → Prop), Takes (X.tr pn xe) W → PSs (X.tr pn xe) body (JS X.K Γ W A (.er (exE C gs) A1))) (hh : Hj X Γ Wo n i C gs A1 oh (h1 :: hds) l) (tk : Takes X Wo) (hN : X.N.Nodup) (hi : X.N[i]? = some n := by rfl)
    (hs : X.stack = X.env :: X.outer := by rfl) (hf : X.env.frame = some X.env.locals := by rfl) (hln : X.env.kindOf n = some .local := by rfl) : PS X (.Try body (h1 :: hds) [] [] pos) (JS X.K Γ Wo A (oh.off i)) :=
  psI (ps_try_ma hs hf hN hi hln tk (fun W pn xe tk' _ => hb W pn xe tk') hh.toH) fun D σ H ⟨S, Ms, ok, k⟩ => ⟨S, Ms, ok, fun cls x σ' S' H' M' s' ok' ee => hh.met k s' ok' ee⟩
/-- try: body, that lets nothing out -/
theorem jtry0 (hb : ∀ (W : WX) (pn : List (Addr × Obj)) (xe : Value → Shared → Prop), Takes (X.tr pn xe) W → PSs (X.tr pn xe) body (JS X.K Γ W A ob)) (ho : ∀ e B, ob ≠ .er e B) (hh : Hn X n (h1 :: hds) cs) (tk : Takes X Wo) (hN : X.N.Nodup) (hi : X.N[i]? = some n := by rfl)
    (hs : X.stack = X.env :: X.outer := by rfl) (hf : X.env.frame = some X.env.locals := by rfl) (hln : X.env.kindOf n = some .local := by rfl) : PS X (.Try body (h1 :: hds) [] [] pos) (JS X.K Γ Wo A ob) :=
  psI (ps_try_ma (i := i) hs hf hN hi hln tk (fun W pn xe tk' _ => hb W pn xe tk') hh.hds) fun D σ H ⟨S, Ms, ok, k⟩ => ⟨S, Ms, ok, by
    cases ob with
    | er e B => exact (ho e B rfl).elim
    | nx B => exact k
    | rt a B => exact k
    | bk B => exact k
    | ct B => exact k⟩
end
end J
namespace J
open PySem L2
/-! ### data as PyData: ==, in -/
mutual
def D.pd : D → PyData
  | .non => .none
  | .bl b => .bool b
  | .int i => .int i
  | .str x => .str x
  | .lst xs => .list (D.pds xs)
  | .tup xs => .tuple (D.pds xs)
  | .rng _ _ => .none
  | .exv _ _ _ => .none
  | .ins _ _ => .none
def D.pds : List D → List PyData
  | [] => []
  | x :: xs => x.pd :: D.pds xs
end
mutual
def D.pln : D → Bool
  | .non => true
  | .bl _ => true
  | .int _ => true
  | .str x => PyData.canLay0 (.str x)
  | .lst xs => D.plns xs
  | .tup xs => D.plns xs
  | .rng _ _ => false
  | .exv _ _ _ => false
  | .ins _ _ => false
def D.plns : List D → Bool
  | [] => true
  | x :: xs => x.pln && D.plns xs
end
mutual
theorem Rd.dp {K : PySem.W.Frag} {S H : Hp} (e : Same S H) : ∀ {d : D} {v : V}, Rd K S v d → d.pln = true → Dp K H v d.pd
  | .non, _, .non, _ => .non
  | .bl b, _, .bl _, _ => .bl b
  | .int i, _, .int _, _ => .int i
  | .str x, _, .str _, _ => .str x
  | .lst xs, _, .lst h r, p => .lst (sqL_mono e h) (Rds.dp e r (by simpa [D.pln] using p))
  | .tup xs, _, .tup h r, p => .tup (sqT_mono e h) (Rds.dp e r (by simpa [D.pln] using p))
  | .rng _ _, _, _, p => by simp [D.pln] at p
  | .exv _ _ _, _, _, p => by simp [D.pln] at p
  | .ins _ _, _, _, p => by simp [D.pln] at p
theorem Rds.dp {K : PySem.W.Frag} {S H : Hp} (e : Same S H) : ∀ {ds : List D} {vs : List V}, Rds K S vs ds → D.plns ds = true → DpAll K H vs (D.pds ds)
  | [], _, .nil, _ => .nil
  | _ :: _, _, .cons h r, p => by
    rw [D.plns, Bool.and_eq_true] at p
    exact .cons (Rd.dp e h p.1) (Rds.dp e r p.2)
end
mutual
theorem pln_lay : ∀ {d : D}, d.pln = true → d.pd.canLay0 = true
  | .non, _ => by simp [D.pd, PyData.canLay0]
  | .bl _, _ => by simp [D.pd, PyData.canLay0]
  | .int _, _ => by simp [D.pd, PyData.canLay0]
  | .str x, p => by rw [D.pln] at p; rw [D.pd]; exact p
  | .lst xs, p => by rw [D.pln] at p; rw [D.pd, PyData.canLay0]; exact plns_lay p
  | .tup xs, p => by rw [D.pln] at p; rw [D.pd, PyData.canLay0]; exact plns_lay p
  | .rng _ _, p => by simp [D.pln] at p
  | .exv _ _ _, p => by simp [D.pln] at p
  | .ins _ _, p => by simp [D.pln] at p
theorem plns_lay : ∀ {ds : List D}, D.plns ds = true → PyData.canLayAll0 (D.pds ds) = true
  | [], _ => by simp [D.pds, PyData.canLayAll0]
  | x :: xs, p => by
    rw [D.plns, Bool.and_eq_true] at p
    rw [D.pds, PyData.canLayAll0, pln_lay p.1, plns_lay p.2]; rfl
end
/-- data that == and in may be asked of -/
structure Cmp (d : D) : Prop where
  pln : d.pln = true
  dep : d.pd.depth ≤ 64
theorem Cmp.shp {d : D} (c : Cmp d) : SeqAt.shaped d.pd = true := by
  unfold SeqAt.shaped
  rw [pln_lay c.pln, Bool.true_and]
  exact decide_eq_true c.dep
def deq (d e : D) : Bool := PyData.eqv d.pd e.pd
theorem any_pds {ds : List D} {d : D} : ((D.pds ds).any fun z => PyData.eqv z d.pd) = ds.any fun z => deq z d := by
  induction ds with
  | nil => rfl
  | cons x xs ih => rw [D.pds, List.any_cons, List.any_cons, ih]; rfl
section
variable {X : Cx}
def rInT (K : PySem.W.Frag) (g : Bool → Bool) : R2 := fun x y H Q => ∃ d ds, Dp K H x d ∧ Dp K H y (.tuple ds) ∧ SeqAt.shaped d = true ∧ SeqAt.shaped (.tuple ds) = true ∧ Q (.bl (g (ds.any fun z => PyData.eqv z d))) H
theorem op_inT (hu : X.A.units + 65 < cLine) : OpR X (compareOp .In) (rInT X.K id) := by
  intro pins s σ H x y v u Q I rx ry h
  obtain ⟨d, ds, hd, he, sd, se, q⟩ := h
  obtain ⟨as, r1⟩ := Dp.reads I d x v hd rx
  obtain ⟨bs, r2⟩ := Dp.reads I (.tuple ds) y u he ry
  exact SeqAt.in_tuple_reads r2 r1 (SeqAt.canLay_of_shaped se) (SeqAt.canLay_of_shaped sd) (PyProof.Rows.room_in_shaped sd hu) ⟨.bl _, H, I, rfl, q⟩
theorem op_niT (hu : X.A.units + 65 < cLine) : OpR X (compareOp .NotIn) (rInT X.K Bool.not) := by
  intro pins s σ H x y v u Q I rx ry h
  obtain ⟨d, ds, hd, he, sd, se, q⟩ := h
  obtain ⟨as, r1⟩ := Dp.reads I d x v hd rx
  obtain ⟨bs, r2⟩ := Dp.reads I (.tuple ds) y u he ry
  exact SeqAt.notIn_tuple_reads r2 r1 (SeqAt.canLay_of_shaped se) (SeqAt.canLay_of_shaped sd) (PyProof.Rows.room_in_shaped sd hu) ⟨.bl _, H, I, rfl, q⟩
def rCatL (K : PySem.W.Frag) : R2 := fun x y H Q => ∃ a b xs ys, x = .ref a ∧ y = .ref b ∧ SqL K H a xs ∧ SqL K H b ys ∧ xs.length + ys.length ≤ sizeLine ∧ ∀ p, H p = none → Q (.ref p) (upd H p (.lst (xs ++ ys)))
theorem op_catL : OpR X (binaryOp .Add) (rCatL X.K) := by
  intro pins s σ H x y v u Q I rx ry h
  obtain ⟨l, b, xs, zs, rfl, rfl, hH, hB, hz, q⟩ := h
  cases rx
  cases ry
  obtain ⟨its, r, ⟨o, n, ho, hc, hdn, hd⟩, hl⟩ := I.list hH
  obtain ⟨its2, r2, ⟨o2, n2, ho2, hc2, hdn2, hd2⟩, hl2⟩ := I.list hB
  have e1 := r.length
  have e2 := r2.length
  obtain ⟨cls, dd, data, sl⟩ := o
  obtain ⟨cls2, dd2, data2, sl2⟩ := o2
  simp only at hc hd hc2 hd2
  subst hc hd hc2 hd2
  refine PySem.concat_meets ⟨_, ho, rfl⟩ ⟨_, ho2, rfl⟩ PySem.noFill_list_add PySem.seq_list_add PySem.F.slot_list_add PySem.F.entry_list_add (PySem.F.args_list_add_2 _ _) (PyProof.Rows.list_addW l b its.toArray its2.toArray n n2 dd dd2 sl sl2 (by rw [List.size_toArray, List.size_toArray]; omega)) ⟨ho, ho2, ?_⟩
  have ea : its.toArray ++ its2.toArray = (its ++ its2).toArray := by simp
  rw [ea]
  exact ⟨.ref _, _, I.lnew (t' := s.toks) (r.append r2) (by rw [List.length_append]; omega), rfl, q _ I.fresh⟩
end
section
variable {X : Cx} {Γ : En} {W : WX} {A A1 A2 A' B B1 B2 : Slots} {a b c e o : Expr} {es : List Expr} {p pos apos cpos : Pos} {i j : Int} {d d' : D} {ds dds ds0 ds1 ds2 es1 : List D} {sl r : Sl} {x m y : Str} {q : Option Addr} {sts : List Stmt} {ou : Out}
theorem jeqD (hu : X.A.units + 64 < cLine) (ha : PE X a (JE X.K Γ A (.sh d) A1)) (hb : PE X b (JE X.K Γ A1 (.sh d') A2)) (c1 : Cmp d) (c2 : Cmp d') : PE X (.Compare a [.Eq] [b] pos) (JE X.K Γ A (.sh (.bl (deq d d'))) A2) :=
  jcmp (op_eqD hu) (nomark _) ha hb fun S H Ms σ x y Q ok rx ry k => ⟨_, _, rx.dp ok.sH c1.pln, ry.dp ok.sH c2.pln, c1.shp, c2.shp, k _ S H Ms (Same.refl S) ok (.bl _)⟩
theorem jneD (hu : X.A.units + 64 < cLine) (ha : PE X a (JE X.K Γ A (.sh d) A1)) (hb : PE X b (JE X.K Γ A1 (.sh d') A2)) (c1 : Cmp d) (c2 : Cmp d') : PE X (.Compare a [.NotEq] [b] pos) (JE X.K Γ A (.sh (.bl (!deq d d'))) A2) :=
  jcmp (op_neD hu) (nomark _) ha hb fun S H Ms σ x y Q ok rx ry k => ⟨_, _, rx.dp ok.sH c1.pln, ry.dp ok.sH c2.pln, c1.shp, c2.shp, k _ S H Ms (Same.refl S) ok (.bl _)⟩
theorem jinL (hu : X.A.units + 65 < cLine) (ha : PE X a (JE X.K Γ A (.sh d) A1)) (hb : PE X b (JE X.K Γ A1 (.sh (.lst ds)) A2)) (c1 : Cmp d) (c2 : Cmp (.lst ds)) (hm : behindInMarks .In b = false := by rfl) : PE X (.Compare a [.In] [b] pos) (JE X.K Γ A (.sh (.bl (ds.any fun z => deq z d))) A2) :=
  jcmp (op_inD hu) hm ha hb fun S H Ms σ x y Q ok rx ry k => ⟨d.pd, D.pds ds, rx.dp ok.sH c1.pln, by have := ry.dp ok.sH c2.pln; rw [D.pd] at this; exact this, c1.shp, by have := c2.shp; rw [D.pd] at this; exact this, by rw [any_pds]; exact k _ S H Ms (Same.refl S) ok (.bl _)⟩
theorem jniL (hu : X.A.units + 65 < cLine) (ha : PE X a (JE X.K Γ A (.sh d) A1)) (hb : PE X b (JE X.K Γ A1 (.sh (.lst ds)) A2)) (c1 : Cmp d) (c2 : Cmp (.lst ds)) (hm : behindInMarks .NotIn b = false := by rfl) : PE X (.Compare a [.NotIn] [b] pos) (JE X.K Γ A (.sh (.bl (!ds.any fun z => deq z d))) A2) :=
  jcmp (op_notInD hu) hm ha hb fun S H Ms σ x y Q ok rx ry k => ⟨d.pd, D.pds ds, rx.dp ok.sH c1.pln, by have := ry.dp ok.sH c2.pln; rw [D.pd] at this; exact this, c1.shp, by have := c2.shp; rw [D.pd] at this; exact this, by rw [any_pds]; exact k _ S H Ms (Same.refl S) ok (.bl _)⟩
theorem jinT (hu : X.A.units + 65 < cLine) (ha : PE X a (JE X.K Γ A (.sh d) A1)) (hb : PE X b (JE X.K Γ A1 (.sh (.tup ds)) A2)) (c1 : Cmp d) (c2 : Cmp (.tup ds)) (hm : behindInMarks .In b = false := by rfl) : PE X (.Compare a [.In] [b] pos) (JE X.K Γ A (.sh (.bl (ds.any fun z => deq z d))) A2) :=
  jcmp (op_inT hu) hm ha hb fun S H Ms σ x y Q ok rx ry k => ⟨d.pd, D.pds ds, rx.dp ok.sH c1.pln, by have := ry.dp ok.sH c2.pln; rw [D.pd] at this; exact this, c1.shp, by have := c2.shp; rw [D.pd] at this; exact this, by rw [any_pds]; exact k _ S H Ms (Same.refl S) ok (.bl _)⟩
theorem jniT (hu : X.A.units + 65 < cLine) (ha : PE X a (JE X.K Γ A (.sh d) A1)) (hb : PE X b (JE X.K Γ A1 (.sh (.tup ds)) A2)) (c1 : Cmp d) (c2 : Cmp (.tup ds)) (hm : behindInMarks .NotIn b = false := by rfl) : PE X (.Compare a [.NotIn] [b] pos) (JE X.K Γ A (.sh (.bl (!ds.any fun z => deq z d))) A2) :=
  jcmp (op_niT hu) hm ha hb fun S H Ms σ x y Q ok rx ry k => ⟨d.pd, D.pds ds, rx.dp ok.sH c1.pln, by have := ry.dp ok.sH c2.pln; rw [D.pd] at this; exact this, c1.shp, by have := c2.shp; rw [D.pd] at this; exact this, by rw [any_pds]; exact k _ S H Ms (Same.refl S) ok (.bl _)⟩
/-! ### + of lists, of tuples -/
theorem jcatL (ha : PE X a (JE X.K Γ A (.sh (.lst ds)) A1)) (hb : PE X b (JE X.K Γ A1 (.sh (.lst ds1)) A2)) (hz : ds.length + ds1.length ≤ 100000) (hT : A2.length ≤ T := by exact Nat.le_of_ble_eq_true rfl) : PE X (.BinOp a .Add b pos) (JE X.K Γ A (.ol none (ds ++ ds1)) A2) :=
  jop op_catL ha hb fun S H Ms σ x y Q ok rx ry k => by
    cases rx with
    | lst h1 r1 => cases ry with
      | lst h2 r2 =>
        refine ⟨_, _, _, _, rfl, rfl, sqL_mono ok.sH h1, sqL_mono ok.sH h2, by rw [r1.len, r2.len]; exact Nat.le_trans hz (by decide), fun p np => ?_⟩
        obtain ⟨ok2, q⟩ := ok.newOwn hT np (r1.app r2)
        exact k _ _ _ _ (Same.refl S) ok2 q
theorem jcatT (ha : PE X a (JE X.K Γ A (.sh (.tup ds)) A1)) (hb : PE X b (JE X.K Γ A1 (.sh (.tup ds1)) A2)) (hz : ds.length + ds1.length ≤ 100000) : PE X (.BinOp a .Add b pos) (JE X.K Γ A (.sh (.tup (ds ++ ds1))) A2) :=
  jop op_catA ha hb fun S H Ms σ x y Q ok rx ry k => by
    cases rx with
    | tup h1 r1 =>
      rename_i va xs
      cases ry with
      | tup h2 r2 =>
        rename_i vb ys
        refine ⟨va, vb, xs, ys, rfl, rfl, sqT_mono ok.sH h1, sqT_mono ok.sH h2, by rw [r1.len, r2.len]; exact Nat.le_trans hz (by decide), fun e => ?_, fun _ e => ?_, fun _ _ p np => ?_⟩
        · subst e; cases r1; exact k _ S H Ms (Same.refl S) ok (.tup h2 r2)
        · subst e; cases r2; exact k _ S H Ms (Same.refl S) ok (.tup h1 (by rw [List.append_nil]; exact r1))
        · obtain ⟨ok2, s2⟩ := ok.new (o := .tup (xs ++ ys)) np
          exact k _ _ _ Ms s2 ok2 (.tup (SqT.of upd_same) ((r1.app r2).mono s2))
/-! ### built-in types and functions, called -/
theorem jbT {T : String} {rr : List V → Hp → VK → Prop} (hc : CallR X (.type T) rr) (hm : X.mg x = none) (ha : PA X (e :: es) (JA X.K Γ A ds A1)) (h : ∀ S H Ms σ vs (Q : VK), OK X.K Γ A1 σ S H Ms → Rds X.K S vs ds → (∀ v S' H' Ms', Same S S' → OK X.K Γ A1 σ S' H' Ms' → r.r X.K S' (Ms' J.T) v → Q v H') → rr vs H Q)
    (hv : bootBuiltins x = some (.type T) := by decide +kernel) (hg : Gl X x := by rfl) (hn : x ≠ "__name__" := by decide) (hdb : (x == ("__debug__" : Str)) = false := by decide) (he : starEach (e :: es) X.env = (false, eval e X.env) :: starEach es X.env := by rfl) (hpl : (backTo pos (starEach es X.env)).any (·.1) = false := by rfl) :
    PE X (.Call (.Name x p) (e :: es) [] pos) (JE X.K Γ A r A1) :=
  peI (pe_callTy hc hg hm hv ha hn hdb he hpl) fun σ H Q ⟨S, Ms, ok, k⟩ => ⟨S, Ms, ok, fun vs S1 H1 M1 s1 ok1 r1 => h S1 H1 M1 σ vs Q ok1 r1 fun v S2 H2 M2 s2 ok2 r2 => k v S2 H2 M2 (s1.trans s2) ok2 r2⟩
theorem jbB {T : String} {rr : List V → Hp → VK → Prop} (hc : CallR X (.builtin T) rr) (hm : X.mg x = none) (ha : PA X (e :: es) (JA X.K Γ A ds A1)) (h : ∀ S H Ms σ vs (Q : VK), OK X.K Γ A1 σ S H Ms → Rds X.K S vs ds → (∀ v S' H' Ms', Same S S' → OK X.K Γ A1 σ S' H' Ms' → r.r X.K S' (Ms' J.T) v → Q v H') → rr vs H Q)
    (hv : bootBuiltins x = some (.builtin T) := by decide +kernel) (hg : Gl X x := by rfl) (hn : x ≠ "__name__" := by decide) (hdb : (x == ("__debug__" : Str)) = false := by decide) (he : starEach (e :: es) X.env = (false, eval e X.env) :: starEach es X.env := by rfl) (hpl : (backTo pos (starEach es X.env)).any (·.1) = false := by rfl) :
    PE X (.Call (.Name x p) (e :: es) [] pos) (JE X.K Γ A r A1) :=
  peI (pe_callB hc hg hm hv ha hn hdb he hpl) fun σ H Q ⟨S, Ms, ok, k⟩ => ⟨S, Ms, ok, fun vs S1 H1 M1 s1 ok1 r1 => h S1 H1 M1 σ vs Q ok1 r1 fun v S2 H2 M2 s2 ok2 r2 => k v S2 H2 M2 (s1.trans s2) ok2 r2⟩
/-- tuple(e) -/
theorem jtupL (hm : X.mg "tuple" = none) (ha : PA X [e] (JA X.K Γ A [.lst ds] A1)) (hg : Gl X "tuple" := by rfl) (he : starEach [e] X.env = (false, eval e X.env) :: starEach [] X.env := by rfl) : PE X (.Call (.Name "tuple" p) [e] [] pos) (JE X.K Γ A (.sh (.tup ds)) A1) :=
  jbT call_tuple_of hm ha (fun S H Ms σ vs Q ok r k => by
    obtain ⟨v, rfl, rv⟩ := one_rd r
    cases rv with
    | lst h rr => exact ⟨_, _, rfl, .inl ⟨sqL_mono ok.sH h, fun p np => by
        obtain ⟨ok2, s2⟩ := ok.new (o := .tup _) np
        exact k _ _ _ Ms s2 ok2 (.tup (SqT.of upd_same) (rr.mono s2))⟩⟩) (by decide +kernel) hg (by decide) (by decide) he (by rfl)
theorem jtupT (hm : X.mg "tuple" = none) (ha : PA X [e] (JA X.K Γ A [.tup ds] A1)) (hg : Gl X "tuple" := by rfl) (he : starEach [e] X.env = (false, eval e X.env) :: starEach [] X.env := by rfl) : PE X (.Call (.Name "tuple" p) [e] [] pos) (JE X.K Γ A (.sh (.tup ds)) A1) :=
  jbT call_tuple_of hm ha (fun S H Ms σ vs Q ok r k => by
    obtain ⟨v, rfl, rv⟩ := one_rd r
    cases rv with
    | tup h rr => exact ⟨_, _, rfl, .inr ⟨sqT_mono ok.sH h, k _ S H Ms (Same.refl S) ok (.tup h rr)⟩⟩) (by decide +kernel) hg (by decide) (by decide) he (by rfl)
/-- list(e) -/
theorem jlistL (hm : X.mg "list" = none) (ha : PA X [e] (JA X.K Γ A [.lst ds] A1)) (hT : A1.length ≤ T := by exact Nat.le_of_ble_eq_true rfl) (hg : Gl X "list" := by rfl) (he : starEach [e] X.env = (false, eval e X.env) :: starEach [] X.env := by rfl) : PE X (.Call (.Name "list" p) [e] [] pos) (JE X.K Γ A (.ol none ds) A1) :=
  jbT call_list_of hm ha (fun S H Ms σ vs Q ok r k => by
    obtain ⟨v, rfl, rv⟩ := one_rd r
    cases rv with
    | lst h rr => exact ⟨_, _, rfl, .inl (sqL_mono ok.sH h), fun p np => by
        obtain ⟨ok2, q⟩ := ok.newOwn hT np rr
        exact k _ _ _ _ (Same.refl S) ok2 q⟩) (by decide +kernel) hg (by decide) (by decide) he (by rfl)
theorem jlistT (hm : X.mg "list" = none) (ha : PA X [e] (JA X.K Γ A [.tup ds] A1)) (hT : A1.length ≤ T := by exact Nat.le_of_ble_eq_true rfl) (hg : Gl X "list" := by rfl) (he : starEach [e] X.env = (false, eval e X.env) :: starEach [] X.env := by rfl) : PE X (.Call (.Name "list" p) [e] [] pos) (JE X.K Γ A (.ol none ds) A1) :=
  jbT call_list_of hm ha (fun S H Ms σ vs Q ok r k => by
    obtain ⟨v, rfl, rv⟩ := one_rd r
    cases rv with
    | tup h rr => exact ⟨_, _, rfl, .inr (sqT_mono ok.sH h), fun p np => by
        obtain ⟨ok2, q⟩ := ok.newOwn hT np rr
        exact k _ _ _ _ (Same.refl S) ok2 q⟩) (by decide +kernel) hg (by decide) (by decide) he (by rfl)
/-- min(i, j) -/
theorem jmin2 {e2 : Expr} (hc : X.calm = true) (hm : X.mg "min" = none) (ha : PA X [e, e2] (JA X.K Γ A [.int i, .int j] A1)) (hg : Gl X "min" := by rfl) (he : starEach [e, e2] X.env = (false, eval e X.env) :: starEach [e2] X.env := by rfl) (hpl : (backTo pos (starEach [e2] X.env)).any (·.1) = false := by rfl) :
    PE X (.Call (.Name "min" p) [e, e2] [] pos) (JE X.K Γ A (.sh (.int (if j < i then j else i))) A1) :=
  jbB (call_min2 hc) hm ha (fun S H Ms σ vs Q ok r k => by
    obtain ⟨v, w, rfl, rv, rw'⟩ := two_rd r
    exact ⟨i, j, by rw [int_of rv, int_of rw'], k _ S H Ms (Same.refl S) ok (.int _)⟩) (by decide +kernel) hg (by decide) (by decide) he hpl
/-! ### tests -/
theorem jtI (h : PE X e (JE X.K Γ A (.sh (.int i)) A')) (he : ∀ whole, isTrue e X.env whole = (do let v ← whole; standAt e.pos; holding [v] (truthy v)) := by intro _; rfl) : PT X e (JT X.K Γ A (i != 0) A') :=
  ptI (pt_truth h he) fun σ H Q ⟨S, Ms, ok, k⟩ => ⟨S, Ms, ok, fun v S' H' M' s ok' r => by rw [int_of r]; exact ⟨_, rfl, k S' H' M' s ok'⟩⟩
/-- x is None, x is not None -/
def D.isN : D → Bool
  | .non => true
  | _ => false
theorem non_iff {K : PySem.W.Frag} {S : Hp} {v : V} (h : Rd K S v d) : decide (v = .non) = d.isN := by cases h <;> simp [D.isN]
theorem jisN (ha : PE X a (JE X.K Γ A (.sh d) A1)) {k pos'} : PE X (.Compare a [.Is] [.Constant .none k pos'] pos) (JE X.K Γ A (.sh (.bl d.isN)) A1) :=
  jcmp op_isN (nomark _) ha jnon fun S H Ms σ x y Q ok rx ry k => ⟨by cases ry; rfl, by rw [non_iff rx]; exact k _ S H Ms (Same.refl S) ok (.bl _)⟩
theorem jnotN (ha : PE X a (JE X.K Γ A (.sh d) A1)) {k pos'} : PE X (.Compare a [.IsNot] [.Constant .none k pos'] pos) (JE X.K Γ A (.sh (.bl (!d.isN))) A1) :=
  jcmp op_notN (nomark _) ha jnon fun S H Ms σ x y Q ok rx ry k => ⟨by cases ry; rfl, by rw [non_iff rx]; exact k _ S H Ms (Same.refl S) ok (.bl _)⟩
theorem jteqD (hu : X.A.units + 64 < cLine) (ha : PE X a (JE X.K Γ A (.sh d) A1)) (hb : PE X b (JE X.K Γ A1 (.sh d') A2)) (c1 : Cmp d) (c2 : Cmp d') : PT X (.Compare a [.Eq] [b] pos) (JT X.K Γ A (deq d d') A2) :=
  jtcmp (op_eqD hu) (nomark _) ha hb fun S H Ms σ x y Q ok rx ry k => ⟨_, _, rx.dp ok.sH c1.pln, ry.dp ok.sH c2.pln, c1.shp, c2.shp, k S H Ms (Same.refl S) ok⟩
theorem jtneD (hu : X.A.units + 64 < cLine) (ha : PE X a (JE X.K Γ A (.sh d) A1)) (hb : PE X b (JE X.K Γ A1 (.sh d') A2)) (c1 : Cmp d) (c2 : Cmp d') : PT X (.Compare a [.NotEq] [b] pos) (JT X.K Γ A (!deq d d') A2) :=
  jtcmp (op_neD hu) (nomark _) ha hb fun S H Ms σ x y Q ok rx ry k => ⟨_, _, rx.dp ok.sH c1.pln, ry.dp ok.sH c2.pln, c1.shp, c2.shp, k S H Ms (Same.refl S) ok⟩
theorem jtinL (hu : X.A.units + 65 < cLine) (ha : PE X a (JE X.K Γ A (.sh d) A1)) (hb : PE X b (JE X.K Γ A1 (.sh (.lst ds)) A2)) (c1 : Cmp d) (c2 : Cmp (.lst ds)) (hm : behindInMarks .In b = false := by rfl) : PT X (.Compare a [.In] [b] pos) (JT X.K Γ A (ds.any fun z => deq z d) A2) :=
  jtcmp (op_inD hu) hm ha hb fun S H Ms σ x y Q ok rx ry k => ⟨d.pd, D.pds ds, rx.dp ok.sH c1.pln, by have := ry.dp ok.sH c2.pln; rw [D.pd] at this; exact this, c1.shp, by have := c2.shp; rw [D.pd] at this; exact this, by rw [any_pds]; exact k S H Ms (Same.refl S) ok⟩
theorem jtniL (hu : X.A.units + 65 < cLine) (ha : PE X a (JE X.K Γ A (.sh d) A1)) (hb : PE X b (JE X.K Γ A1 (.sh (.lst ds)) A2)) (c1 : Cmp d) (c2 : Cmp (.lst ds)) (hm : behindInMarks .NotIn b = false := by rfl) : PT X (.Compare a [.NotIn] [b] pos) (JT X.K Γ A (!ds.any fun z => deq z d) A2) :=
  jtcmp (op_notInD hu) hm ha hb fun S H Ms σ x y Q ok rx ry k => ⟨d.pd, D.pds ds, rx.dp ok.sH c1.pln, by have := ry.dp ok.sH c2.pln; rw [D.pd] at this; exact this, c1.shp, by have := c2.shp; rw [D.pd] at this; exact this, by rw [any_pds]; exact k S H Ms (Same.refl S) ok⟩
theorem jtinT (hu : X.A.units + 65 < cLine) (ha : PE X a (JE X.K Γ A (.sh d) A1)) (hb : PE X b (JE X.K Γ A1 (.sh (.tup ds)) A2)) (c1 : Cmp d) (c2 : Cmp (.tup ds)) (hm : behindInMarks .In b = false := by rfl) : PT X (.Compare a [.In] [b] pos) (JT X.K Γ A (ds.any fun z => deq z d) A2) :=
  jtcmp (op_inT hu) hm ha hb fun S H Ms σ x y Q ok rx ry k => ⟨d.pd, D.pds ds, rx.dp ok.sH c1.pln, by have := ry.dp ok.sH c2.pln; rw [D.pd] at this; exact this, c1.shp, by have := c2.shp; rw [D.pd] at this; exact this, by rw [any_pds]; exact k S H Ms (Same.refl S) ok⟩
theorem jtniT (hu : X.A.units + 65 < cLine) (ha : PE X a (JE X.K Γ A (.sh d) A1)) (hb : PE X b (JE X.K Γ A1 (.sh (.tup ds)) A2)) (c1 : Cmp d) (c2 : Cmp (.tup ds)) (hm : behindInMarks .NotIn b = false := by rfl) : PT X (.Compare a [.NotIn] [b] pos) (JT X.K Γ A (!ds.any fun z => deq z d) A2) :=
  jtcmp (op_niT hu) hm ha hb fun S H Ms σ x y Q ok rx ry k => ⟨d.pd, D.pds ds, rx.dp ok.sH c1.pln, by have := ry.dp ok.sH c2.pln; rw [D.pd] at this; exact this, c1.shp, by have := c2.shp; rw [D.pd] at this; exact this, by rw [any_pds]; exact k S H Ms (Same.refl S) ok⟩
theorem jtisN (ha : PE X a (JE X.K Γ A (.sh d) A1)) {k pos'} : PT X (.Compare a [.Is] [.Constant .none k pos'] pos) (JT X.K Γ A d.isN A1) :=
  jtcmp op_isN (nomark _) ha jnon fun S H Ms σ x y Q ok rx ry k => ⟨by cases ry; rfl, by rw [non_iff rx]; exact k S H Ms (Same.refl S) ok⟩
theorem jtnotN (ha : PE X a (JE X.K Γ A (.sh d) A1)) {k pos'} : PT X (.Compare a [.IsNot] [.Constant .none k pos'] pos) (JT X.K Γ A (!d.isN) A1) :=
  jtcmp op_notN (nomark _) ha jnon fun S H Ms σ x y Q ok rx ry k => ⟨by cases ry; rfl, by rw [non_iff rx]; exact k S H Ms (Same.refl S) ok⟩
end
end J
namespace J
open PySem L2
/-! ### isinstance over data -/
def D.ty : D → Option String
  | .non => some "NoneType"
  | .bl _ => some "bool"
  | .int _ => some "int"
  | .str _ => some "str"
  | .lst _ => some "list"
  | .tup _ => some "tuple"
  | _ => none
theorem tyX_l {K : PySem.W.Frag} {H : Hp} {a : Addr} {xs : List V} (h : SqL K H a xs) : TyX K H (.ref a) (.type "list") := by
  rcases h with (h | ⟨o, h⟩) | ⟨o, its, n, h1, h2, _⟩
  · exact .base (.lst h)
  · exact .base (.frz h)
  · exact .kList h1 h2
theorem tyX_t {K : PySem.W.Frag} {H : Hp} {a : Addr} {xs : List V} (h : SqT K H a xs) : TyX K H (.ref a) (.type "tuple") := by
  rcases h with (h | ⟨o, h⟩) | ⟨o, its, n, h1, h2, _⟩
  · exact .base (.tup h)
  · exact .fTuple h
  · exact .kTuple h1 h2
theorem Rd.tyx {K : PySem.W.Frag} {S H : Hp} (e : Same S H) {d : D} {v : V} {t : String} (r : Rd K S v d) (h : d.ty = some t) : TyX K H v (.type t) := by
  cases r with
  | non => cases h; exact .base .non
  | bl b => cases h; exact .base (.bl b)
  | int i => cases h; exact .base (.int i)
  | str x => cases h; exact .base (.str x)
  | lst h1 r => cases h; exact tyX_l (sqL_mono e h1)
  | tup h1 r => cases h; exact tyX_t (sqT_mono e h1)
  | rng h1 => cases h
  | exv h1 r => cases h
  | ins h1 r => cases h
section
variable {X : Cx} {Γ : En} {W : WX} {A A1 A2 A' B B1 B2 : Slots} {a b e o : Expr} {es : List Expr} {p pos apos cpos p1 p2 p3 p4 : Pos} {i j : Int} {d d' : D} {ds dds ds0 ds1 ds2 es1 : List D} {sl r : Sl} {x m y : Str} {q : Option Addr} {sts : List Stmt} {ou : Out} {t T1 T2 : String} {n1 n2 : Str} {k1 : Nat}
/-- isinstance(e, T) -/
theorem jisi {c : Bool} (he : PE X e (JE X.K Γ A (.sh d) A1)) (ht : d.ty = some t) (hk : kitB t T1 = some c) (hmi : X.mg "isinstance" = none) (hm : X.mg n1 = none) (hv : bootBuiltins n1 = some (.type T1) := by decide +kernel) (hn : n1 ≠ "__name__" := by decide) (hd : (n1 == ("__debug__" : Str)) = false := by decide)
    (hg : Gl X n1 := by rfl) (hgi : Gl X "isinstance" := by rfl) (hs : starEach [e, .Name n1 p1] X.env = (false, eval e X.env) :: starEach [.Name n1 p1] X.env := by rfl) :
    PE X (.Call (.Name "isinstance" p) [e, .Name n1 p1] [] pos) (JE X.K Γ A (.sh (.bl c)) A1) :=
  peI (pe_callB (p := p) (pos := pos) call_isi hgi hmi (by decide +kernel) (pa_cons he (pa_cons (pe_bltn (v := .ty T1) (pos := p1) hg hm hv rfl hn hd) pa_nil (by rfl)) hs) (by decide) (by decide) hs (by rfl)) fun σ H Q ⟨S, Ms, ok, kq⟩ => ⟨S, Ms, ok, fun v S1 H1 M1 s1 ok1 r1 =>
    ⟨v, .ty T1, .type t, .type T1, c, rfl, .ty T1, r1.tyx ok1.sH ht, kit_ty hk, kq _ S1 H1 M1 s1 ok1 (.bl c)⟩⟩
/-- isinstance(e, (T1, T2)) -/
theorem jisi2 {c : Bool} (he : PE X e (JE X.K Γ A (.sh d) A1)) (ht : d.ty = some t) (hk : PySem.W.kitAny X.K (.type t) [.type T1, .type T2] = some c) (hmi : X.mg "isinstance" = none) (hm : X.mg n1 = none) (hm2 : X.mg n2 = none) (hv : bootBuiltins n1 = some (.type T1) := by decide +kernel) (hv2 : bootBuiltins n2 = some (.type T2) := by decide +kernel)
    (hn : n1 ≠ "__name__" := by decide) (hd : (n1 == ("__debug__" : Str)) = false := by decide) (hn2 : n2 ≠ "__name__" := by decide) (hd2 : (n2 == ("__debug__" : Str)) = false := by decide) (hg : Gl X n1 := by rfl) (hg2 : Gl X n2 := by rfl) (hgi : Gl X "isinstance" := by rfl)
    (hs : starEach [e, .Tuple [.Name n1 p1, .Name n2 p2] k1 p3] X.env = (false, eval e X.env) :: starEach [.Tuple [.Name n1 p1, .Name n2 p2] k1 p3] X.env := by rfl) :
    PE X (.Call (.Name "isinstance" p) [e, .Tuple [.Name n1 p1, .Name n2 p2] k1 p3] [] pos) (JE X.K Γ A (.sh (.bl c)) A1) :=
  peI (pe_callB (p := p) (pos := pos) call_isiT hgi hmi (by decide +kernel) (pa_cons he (pa_cons (pe_tup (pa_cons (pe_bltn (v := .ty T1) (pos := p1) hg hm hv rfl hn hd) (pa_cons (pe_bltn (v := .ty T2) (pos := p2) hg2 hm2 hv2 rfl hn2 hd2) pa_nil (by rfl)) (by rfl))) pa_nil (by rfl)) hs) (by decide) (by decide) hs (by rfl)) fun σ H Q ⟨S, Ms, ok, kq⟩ => ⟨S, Ms, ok, fun v S1 H1 M1 s1 ok1 r1 => by
    refine ⟨Nat.le_trans (show 2 ≤ 1000 by decide) (by decide), fun tp nt => ?_⟩
    obtain ⟨ok2, s2⟩ := ok1.new (o := .tup [.ty T1, .ty T2]) nt
    exact ⟨v, tp, [.ty T1, .ty T2], .type t, [.type T1, .type T2], c, rfl, upd_same, .cons (.ty T1) (.cons (.ty T2) .nil), (r1.mono s2).tyx ok2.sH ht, hk, kq _ _ _ M1 (s1.trans s2) ok2 (.bl c)⟩⟩
/-- isinstance(o, C), C the instance's own class -/
theorem jisO {C : Addr} {gs : List (Str × D)} (c : C8.InsC X.K C) (he : PE X e (JE X.K Γ A (.sh (.ins C gs)) A1)) (hmi : X.mg "isinstance" = none) (hm : X.mg n1 = some (.ref C)) (hd : (n1 == ("__debug__" : Str)) = false := by decide)
    (hg : Gl X n1 := by rfl) (hgi : Gl X "isinstance" := by rfl) (hs : starEach [e, .Name n1 p1] X.env = (false, eval e X.env) :: starEach [.Name n1 p1] X.env := by rfl) :
    PE X (.Call (.Name "isinstance" p) [e, .Name n1 p1] [] pos) (JE X.K Γ A (.sh (.bl true)) A1) :=
  peI (pe_callB (p := p) (pos := pos) (C8.call_isC c) hgi hmi (by decide +kernel) (pa_cons he (pa_cons (pe_glob (v := .ref C) (pos := p1) hg hm rfl hd) pa_nil (by rfl)) hs) (by decide) (by decide) hs (by rfl)) fun σ H Q ⟨S, Ms, ok, kq⟩ => ⟨S, Ms, ok, fun v S1 H1 M1 s1 ok1 r1 => by
    cases r1 with
    | ins h1 rf => exact ⟨_, _, _, rfl, ok1.sH _ _ h1, kq _ S1 H1 M1 s1 ok1 (.bl true)⟩⟩
/-- i <= j < k of ints -/
theorem jchain {op op' : CmpOp} {g g' : Int → Int → Bool} {c : Expr} {k : Int} (ho : OpR X (compareOp op) (rI0 fun i j => .bl (g i j))) (ho' : OpR X (compareOp op') (rI0 fun i j => .bl (g' i j))) (ha : PE X a (JE X.K Γ A (.sh (.int i)) A)) (hb : PE X b (JE X.K Γ A (.sh (.int j)) A)) (hc : PE X c (JE X.K Γ A (.sh (.int k)) A))
    (hm : lastMarks [op, op'] [b, c] = false := by with_unfolding_all rfl) : PE X (.Compare a [op, op'] [b, c] pos) (JE X.K Γ A (.sh (.bl (g i j && g' j k))) A) :=
  peI (pe_chain ho ho' ha hb hc hm) fun σ H Q ⟨S, Ms, ok, kq⟩ => ⟨S, Ms, ok, fun v1 S1 H1 M1 s1 ok1 r1 => ⟨S1, M1, ok1, fun v2 S2 H2 M2 s2 ok2 r2 => by
    refine ⟨i, j, int_of r1, int_of r2, g i j, rfl, ?_⟩
    cases h : g i j with
    | true =>
      refine L2.iteT ?_
      refine ⟨S2, M2, ok2, fun v3 S3 H3 M3 s3 ok3 r3 => ⟨j, k, int_of r2, int_of r3, ?_⟩⟩
      have := kq (.bl (g i j && g' j k)) S3 H3 M3 ((s1.trans s2).trans s3) ok3 (.bl _)
      rw [h] at this
      exact this
    | false =>
      refine L2.iteF ?_
      have := kq (.bl (g i j && g' j k)) S2 H2 M2 (s1.trans s2) ok2 (.bl _)
      rw [h] at this
      exact this⟩⟩
/-- e.bit_length() -/
theorem jbits (ho : PE X o (JE X.K Γ A (.sh (.int i)) A1)) (hbase : attributeBase o "bit_length" X.env (eval o X.env) = eval o X.env := by rfl) (hline : (apos.endLine == pos.line) = true := by rfl) : PE X (.Call (.Attribute o "bit_length" apos) [] [] pos) (JE X.K Γ A (.sh (.int (Builtin.Int.intBits i : Nat))) A1) :=
  peI (pe_bits ho hbase hline) fun σ H Q ⟨S, Ms, ok, kq⟩ => ⟨S, Ms, ok, fun v S1 H1 M1 s1 ok1 r1 => ⟨i, int_of r1, kq _ S1 H1 M1 s1 ok1 (.int _)⟩⟩
theorem ints_of {K : PySem.W.Frag} {S : Hp} : ∀ {ns : List Int} {vs : List V}, Rds K S vs (ns.map D.int) → vs = ns.map V.int
  | [], _, .nil => rfl
  | n :: ns, _, .cons h r => by rw [int_of h, ints_of r]; rfl
theorem bls_of {K : PySem.W.Frag} {S : Hp} : ∀ {ns : List Bool} {vs : List V}, Rds K S vs (ns.map D.bl) → vs = ns.map V.bl
  | [], _, .nil => rfl
  | n :: ns, _, .cons h r => by rw [bl_of h, bls_of r]; rfl
theorem rd_ints {K : PySem.W.Frag} {S : Hp} : ∀ (ns : List Int), Rds K S (ns.map V.int) (ns.map D.int)
  | [] => .nil
  | n :: ns => .cons (.int n) (rd_ints ns)
/-- sum(l), all(l), sorted(l) -/
theorem jsum {ns : List Int} (hc : X.calm = true) (hm : X.mg "sum" = none) (ha : PA X [e] (JA X.K Γ A [.lst (ns.map .int)] A1)) (hg : Gl X "sum" := by rfl) (he : starEach [e] X.env = (false, eval e X.env) :: starEach [] X.env := by rfl) : PE X (.Call (.Name "sum" p) [e] [] pos) (JE X.K Γ A (.sh (.int ns.sum)) A1) :=
  jbB (cr_sum hc) hm ha (fun S H Ms σ vs Q ok r k => by
    obtain ⟨v, rfl, rv⟩ := one_rd r
    cases rv with
    | lst h rr => exact ⟨_, ns, rfl, by rw [← ints_of rr]; exact sqL_mono ok.sH h, k _ S H Ms (Same.refl S) ok (.int _)⟩) (by decide +kernel) hg (by decide) (by decide) he (by rfl)
theorem jall {bs : List Bool} (hc : X.calm = true) (hm : X.mg "all" = none) (ha : PA X [e] (JA X.K Γ A [.lst (bs.map .bl)] A1)) (hg : Gl X "all" := by rfl) (he : starEach [e] X.env = (false, eval e X.env) :: starEach [] X.env := by rfl) : PE X (.Call (.Name "all" p) [e] [] pos) (JE X.K Γ A (.sh (.bl (bs.all id))) A1) :=
  jbB (cr_all hc) hm ha (fun S H Ms σ vs Q ok r k => by
    obtain ⟨v, rfl, rv⟩ := one_rd r
    cases rv with
    | lst h rr => exact ⟨_, bs, rfl, by rw [← bls_of rr]; exact sqL_mono ok.sH h, k _ S H Ms (Same.refl S) ok (.bl _)⟩) (by decide +kernel) hg (by decide) (by decide) he (by rfl)
/-- the sorted ints -/
def srt (ns : List Int) : List Int := ns.mergeSort (· ≤ ·)
theorem srt_len (ns : List Int) : (srt ns).length = ns.length := List.length_mergeSort ns
theorem srt_eq {ns ns' : List Int} (h : ns'.Perm ns) (s : ns'.Pairwise (· ≤ ·)) : ns' = srt ns := by
  have p : (srt ns).Perm ns := List.mergeSort_perm ns _
  have q : (srt ns).Pairwise (· ≤ ·) := by
    have := List.pairwise_mergeSort (le := fun (a b : Int) => decide (a ≤ b)) (fun a b c h1 h2 => by simp only [decide_eq_true_eq] at *; omega) (fun a b => by simp only [Bool.or_eq_true, decide_eq_true_eq]; omega) ns
    exact this.imp fun h => by simpa using h
  exact (h.trans p.symm).eq_of_pairwise (fun a b _ _ h1 h2 => Int.le_antisymm h1 h2) s q
theorem jsorted {ns : List Int} (hm : X.mg "sorted" = none) (ha : PA X [e] (JA X.K Γ A [.lst (ns.map .int)] A1)) (hz : ns.length < 64) (hT : A1.length ≤ T := by exact Nat.le_of_ble_eq_true rfl) (hg : Gl X "sorted" := by rfl) (he : starEach [e] X.env = (false, eval e X.env) :: starEach [] X.env := by rfl) :
    PE X (.Call (.Name "sorted" p) [e] [] pos) (JE X.K Γ A (.ol none ((srt ns).map .int)) A1) :=
  jbB cr_sorted hm ha (fun S H Ms σ vs Q ok r k => by
    obtain ⟨v, rfl, rv⟩ := one_rd r
    cases rv with
    | lst h rr =>
      refine ⟨_, ns, rfl, by rw [← ints_of rr]; exact sqL_mono ok.sH h, hz, fun ns' p h1 h2 np => ?_⟩
      rw [srt_eq h1 h2]
      obtain ⟨ok2, q⟩ := ok.newOwn hT np (rd_ints (srt ns))
      exact k _ _ _ _ (Same.refl S) ok2 q) (by decide +kernel) hg (by decide) (by decide) he (by rfl)
end
end J
set_option maxHeartbeats 1000000
namespace PySem
open PySem.Calls
theorem meets_enumerate_newJ {v : Value} {o : Obj} {H : Heap → Prop} (B : Begins v o H) :
    Meets (Builtin.«enumerate.__new__» ⟨[.type "enumerate", v], []⟩) (fun _ R s => H s.heap ∧
      R (.ok (.ret (.ref (s.heap.push o).objs.size))) { s with heap := (s.heap.push o).push { cls := .type "enumerate", data := .fields #[.none, .bool false, .ref s.heap.objs.size, rawInt 0, .none, .none] } }) :=
  .of_wp fun prog w A R s h => by
    obtain ⟨hp, g, d, tk, os⟩ := s; obtain ⟨h1, h⟩ := h
    have hsub := sub_enumerate
    have q1 : ∀ {A' : Around} {E : Value → Shared → Prop} {Q : Value → Shared → Prop}, Q (.ref hp.objs.size) ⟨hp.push o, g, d, tk, os⟩ → wpAny (model prog w) A' (pyIter v) Q E ⟨hp, g, d, tk, os⟩ :=
      fun q => B.iter prog w _ _ ⟨hp, g, d, tk, os⟩ _ h1 q
    wp_walk using q1
    refine wpAny_stack_any fun st => wpAny_pure ?_
    split
    · rename_i c _ _ _ _ _
      cases (c == Value.type "enumerate")
      · wp_walk using q1
        exact ⟨_, rfl, h⟩
      · wp_walk using q1
        exact ⟨_, rfl, h⟩
    · wp_walk using q1
      exact ⟨_, rfl, h⟩
section
variable {prog : Program} {w : World} {A : Around} {E : Value → Shared → Prop} {s : Shared}
theorem enum_beginsJ {v : Value} {o : Obj} {H : Heap → Prop} {Q : Value → Shared → Prop} (B : Begins v o H) (h1 : H s.heap)
    (h : ∀ h', IsEnum h' (s.heap.objs.size + 1) s.heap.objs.size 0 .none → h'.get? s.heap.objs.size = some o → h'.objs.size = s.heap.objs.size + 2 →
      (∀ b o, s.heap.get? b = some o → h'.get? b = some o) → Q (.ref (s.heap.objs.size + 1)) { s with heap := h' }) :
    wpAny (model prog w) A (call (.type "enumerate") [v]) Q E s := by
  refine callType_new F.called_enumerate (by decide) (F.typeCall_enumerate_1 _) (F.newCall_enumerate_1 _) (fun obj => F.args_object_init_2 obj _) F.entry_enumerate_new
    (meets_enumerate_newJ B) ⟨h1, ?_⟩
  have hz : (s.heap.push o).objs.size = s.heap.objs.size + 1 := Heap.size_push ..
  show _ ∧ _
  rw [hz]
  have he : IsEnum ((s.heap.push o).push { cls := .type "enumerate", data := .fields #[.none, .bool false, .ref s.heap.objs.size, rawInt 0, .none, .none] }) (s.heap.objs.size + 1) s.heap.objs.size 0 .none := by
    have := Heap.get?_push_size (s.heap.push o) (o := { cls := .type "enumerate", data := .fields #[.none, .bool false, .ref s.heap.objs.size, rawInt 0, .none, .none] }) rfl
    rw [hz] at this; exact this
  refine ⟨⟨_, he, rfl⟩, h _ he (Heap.get?_push_of_some _ (Heap.get?_push_size _ B.free)) (by rw [Heap.size_push, hz]) fun b o x => Heap.get?_push_of_some _ (Heap.get?_push_of_some _ x)⟩
theorem pyNext_enumT_end {e it l : Addr} {i : Nat} {items : Array Value} {old : Value} {Q : Option Value → Shared → Prop} (hh : A.handled = none)
    (he : IsEnum s.heap e it i old) (hit : s.heap.IsTupleIter it l i) (hl : s.heap.IsTuple l items) (hx : items[i]? = none)
    (hQ : ∀ h', Heap.ExtBut it s.heap h' → Q none { s with heap := h' }) : wpAny (model prog w) A (pyNext (.ref e)) Q E s := by
  have hT : s.TypeIs (.ref e) "enumerate" := ⟨_, he, rfl⟩
  unfold pyNext
  refine wpAny_bind (wpAny_attempt (wpAny_callSpecial?_slot (name := Str.ofString "__next__") hT F.slot_enumerate_next
    (wpAny_call_entry F.slot_enumerate_next hT F.entry_enumerate_next ?_ (F.args_enumerate_next_1 _))))
  show wpAny _ _ (field (.ref e) 2 >>= _) _ _ _
  refine wpAny_bind (wpAny_field he rfl (x := .ref it) rfl ?_)
  refine wpAny_bind (wpAny_nextOf_tuple_end hh hit hl hx fun h' x he' hx' => ?_)
  obtain ⟨o, ho, hc⟩ := hx'
  refine wpAny_bind (wpAny_isInstance (T := "StopIteration") (b := true) ⟨o, ho, hc⟩ isSubtype_stop ?_)
  exact wpAny_pure (hQ _ he')
end
end PySem
namespace J
open PySem L2
/-! ### enumerate(tuple) -/
def Itet (K : PySem.W.Frag) (a : Addr) : It :=
  ⟨fun i H => ∃ (xs : List V) (x : V), SqT K H a xs ∧ xs[i]? = some x, fun i H v H' => ∃ T x, v = .ref T ∧ H T = none ∧ H' = upd H T (.tup [.int (i : Nat), x]) ∧ ∀ xs, SqT K H a xs → xs[i]? = some x, fun i H => ∃ xs : List V, SqT K H a xs ∧ xs.length ≤ i⟩
theorem SqT.inj {X : Cx} {pins : List (Addr × Obj)} {σ : L2.St} {H : Hp} {s : Shared} (I : Inv X pins σ H s) {a : Addr} {xs ys : List V} (hx : SqT X.K H a xs) (hy : SqT X.K H a ys) : xs = ys := I.tuple_inj hx hy
theorem turn_enumT {P : Program} {w : World} {K : PySem.W.Frag} {elts : List Expr} {kk : Nat} {tpos : Pos} (a e it : Addr) (hae : a ≠ e) (hai : a ≠ it) :
    Turn P w K (.Tuple elts kk tpos) (Itet K a) [e, it] e (fun i h => (∃ old, IsEnum h e it ((i : Nat) : Int) old) ∧ h.IsTupleIter it a i ∧ e ≠ it) where
  mem := by simp
  obj := fun i h st b hb => by
    obtain ⟨⟨old, he⟩, ⟨o, ho, hc, hd⟩, _⟩ := st
    have e' : b = e ∨ b = it := by simpa using hb
    rcases e' with z | z
    · rw [z]; exact ⟨_, he, fun v q => nomatch q⟩
    · rw [z]; exact ⟨o, ho, fun v q => by rw [hd] at q; cases q⟩
  keep := fun i h h' st k => let ⟨⟨old, he⟩, hi, hne⟩ := st; ⟨⟨old, k e (by simp) _ he⟩, hi.at fun o q => k it (by simp) o q, hne⟩
  item := by
    intro X hP hw hK hc i pins s σ H E I hf st hg
    subst hP hw hK
    obtain ⟨⟨old, he⟩, hit, hne⟩ := st
    obtain ⟨xs, x, hq, hx⟩ := hg
    obtain ⟨its, rv, p, hz⟩ := I.tuple hq
    obtain ⟨u, hu, ru⟩ := rv.get hx
    have hel : e < s.heap.objs.size := Heap.lt_size he
    have hil : it < s.heap.objs.size := by obtain ⟨_, q, _⟩ := hit; exact Heap.lt_size q
    have hli : i < its.toArray.size := by
      have := (List.getElem?_eq_some_iff.mp hu).1
      rw [List.size_toArray]; exact this
    refine wpAny_pyNext_enum_itemD (Draws.tuple (A := X.A.in1) (show X.A.in1.handled = none from I.ok.hd hc) it a hai its.toArray) he (i := i) (show s.heap.IsTupleIter it a i ∧ s.heap.IsTuple a its.toArray from ⟨hit, p⟩) hli hne (fun hm => by
      rcases List.mem_cons.mp hm with z | z
      · exact hne z
      · exact hae (List.mem_singleton.mp z).symm) fun u' h' tk hPx ho hst' hT hsz hk => ?_
    have eu : u' = u := by
      have h1 : its.toArray[i]? = some u' := hPx
      have h2 : its.toArray[i]? = some u := by simpa using hu
      rw [h1] at h2; exact Option.some.inj h2
    subst eu
    refine ⟨_, rfl, wpAny_letOwnedTupleGo_enum (s := { s with heap := h', toks := tk + 1 }) ho fun h'' he' sb => ?_⟩
    have hT2 : h''.get? s.heap.objs.size = some { cls := .type "tuple", data := .seq #[.int i tk, u'] } := (sb.2 _ (Nat.ne_of_gt hel)).trans hT
    have new : ObjOk X.prog X.w (upd H s.heap.objs.size (.tup [.int (i : Nat), x])) h'' s.heap.objs.size (.tup [.int (i : Nat), x]) :=
      ⟨by show 2 ≤ sizeLine; decide, [.int i tk, u'], .cons ⟨_, rfl⟩ (.cons ru .nil), ⟨_, hT2, rfl, _, rfl⟩⟩
    have I1 : Inv X pins σ (upd H s.heap.objs.size (.tup [.int (i : Nat), x])) { s with heap := h'', toks := tk + 1 } :=
      I.turnedNew (ch := [e, it]) (fun b ob hb q => (sb.2 b (fun z => hb (by simp [z]))).trans (hk b ob (fun z => hb (by simp [z])) (fun z => hb (by simp [z])) q)) hf (Nat.le_refl _) new
    refine ⟨.ref s.heap.objs.size, _, I1, rfl, ⟨_, x, rfl, I.hok.fresh (Nat.le_refl _), rfl, fun ys hy => by rw [SqT.inj I hy hq]; exact hx⟩, ⟨⟨u', ?_⟩, hst'.1.at fun o q => (sb.2 it (Ne.symm hne)).trans q, hne⟩, fun b hb => ?_⟩
    · have e1 : ((i + 1 : Nat) : Int) = (i : Int) + 1 := by omega
      rw [e1]; exact he'
    · have hb' : b < s.heap.objs.size := by
        have e' : b = e ∨ b = it := by simpa using hb
        rcases e' with z | z
        · rw [z]; exact hel
        · rw [z]; exact hil
      rw [upd_ne (Nat.ne_of_lt hb')]
      exact (hf b hb).1
  done := by
    intro X hP hw hK hc i pins s σ H E I hf st hg
    subst hP hw hK
    obtain ⟨⟨old, he⟩, hit, hne⟩ := st
    obtain ⟨xs, hq, hx⟩ := hg
    obtain ⟨its, rv, p, hz⟩ := I.tuple hq
    obtain ⟨f0, f1, f2, f3, f4, f5⟩ := hf it (by simp)
    have hl := rv.length
    exact pyNext_enumT_end (I.ok.hd hc) he hit p (by simp; omega) fun h' eb => ⟨rfl, I.turned (t' := s.toks) (fun b o hb q => eb b o hb q) f0 f1 f3 f4 f5⟩
  self := fun A i s Q E st h => let ⟨⟨_, he⟩, _⟩ := st; wpAny_pyIter_enum he h
def iEnumT (K : PySem.W.Frag) (ta : TA) : TI := fun σ H R => ta σ H fun vs H1 => ∃ a xs, vs = [.ref a] ∧ SqT K H1 a xs ∧ R (Itet K a) H1
theorem pi_enumT {X : Cx} {e : Expr} {ta : TA} {p pos tpos : Pos} {elts : List Expr} {kk : Nat} (hg : Gl X "enumerate") (hm : X.mg "enumerate" = none) (ha : PA X [e] ta) (hs : starEach [e] X.env = [(false, eval e X.env)] := by rfl) :
    PI X (.Tuple elts kk tpos) (.Call (.Name "enumerate" p) [e] [] pos) (iEnumT X.K ta) := by
  refine ⟨fun pins s σ H R I h => ?_⟩
  refine PyProof.Rows.Call_ (ld_blt I hg hm PyProof.Rows.boot_enumerate (PyProof.Rows.callWith_type1 (thn (ha.run pos pins s σ H _ I h) fun us s1 ⟨vs, H1, I1, r1, q1⟩ => ?_) hs rfl))
  obtain ⟨a, xs, ex, hq, q⟩ := q1
  subst ex
  cases r1 with
  | cons r rr =>
    cases rr
    cases r
    obtain ⟨its, rv, p', hz⟩ := I1.tuple hq
    have hlt : a < s1.heap.objs.size := by obtain ⟨o, ho, _⟩ := p'; exact Heap.lt_size ho
    refine enum_beginsJ (begins_tuple a its.toArray) p' fun h' he hit hsz hk => wpAny_pyIter_enum he ?_
    have I2 : Inv X pins σ H1 { s1 with heap := h' } := I1.kept (t' := s1.toks) hk
    refine ⟨s1.heap.objs.size + 1, [s1.heap.objs.size + 1, s1.heap.objs.size], _, _, H1, rfl, I2, turn_enumT a (s1.heap.objs.size + 1) s1.heap.objs.size (Nat.ne_of_lt (Nat.lt_succ_of_lt hlt)) (Nat.ne_of_lt hlt), ⟨⟨.none, he⟩, ⟨_, hit, rfl, rfl⟩, Nat.succ_ne_self _⟩, fun b hb => ?_, q⟩
    have e' : b = s1.heap.objs.size + 1 ∨ b = s1.heap.objs.size := by simpa using hb
    have hle : s1.heap.objs.size ≤ b := by
      rcases e' with z | z
      · rw [z]; exact Nat.le_add_right _ _
      · rw [z]; exact Nat.le_refl _
    exact I1.fpOk hle (I1.hok.fresh hle)
theorem walks_et {K : PySem.W.Frag} {S : Hp} {a : Addr} {vs : List V} {ds : List D} (h : SqT K S a vs) (r : Rds K S vs ds) : Walks K S (Itet K a) (enm ds) := fun i H e => by
  have hH := sqT_mono e h
  refine ⟨fun hl => ⟨vs, hH, by rw [r.len]; rw [enm_len] at hl; exact hl⟩, fun d hd => ?_⟩
  obtain ⟨z, hz, rfl⟩ := enm_at hd
  obtain ⟨v, h1, h2⟩ := r.get hz
  refine ⟨⟨vs, v, hH, h1⟩, fun x H' ⟨Tt, y, e1, n, e2, q⟩ => .inr ⟨Tt, _, n, e2, fun S' s' q' => ?_⟩⟩
  have := q vs hH
  rw [h1] at this
  cases this
  rw [e1]
  exact .tup (SqT.of q') (.cons (.int _) (.cons (h2.mono s') .nil))
section
variable {X : Cx} {Γ : En} {A A1 A2 : Slots} {a e tg : Expr} {p pos : Pos} {ds : List D} {i j : Int}
theorem jiet {elts : List Expr} {kk : Nat} {tpos : Pos} (h : PA X [e] (JA X.K Γ A [.tup ds] A1)) (hm : X.mg "enumerate" = none) (hg : Gl X "enumerate" := by rfl) (hs : starEach [e] X.env = [(false, eval e X.env)] := by rfl) :
    PI X (.Tuple elts kk tpos) (.Call (.Name "enumerate" p) [e] [] pos) (JI X.K Γ A (enm ds) A1) :=
  piI (pi_enumT hg hm h hs) fun σ H R ⟨S, Ms, ok, k⟩ => ⟨S, Ms, ok, fun vs S1 H1 M1 s1 ok1 r => by
    obtain ⟨v, rfl, rv⟩ := one_rd r
    cases rv with
    | tup h r => exact ⟨_, _, rfl, sqT_mono ok1.sH h, k _ S1 H1 M1 s1 ok1 (walks_et h r)⟩⟩
end
end J
namespace J
open PySem L2
section
variable {X : Cx} {pins : List (Addr × Obj)} {σ : L2.St} {H : Hp} {s : Shared}
/-! ### ranges as values -/
theorem cr_range1 : CallR X (.type "range") (fun vs H Q => ∃ j, vs = [V.int j] ∧ ∀ p, H p = none → Q (.ref p) (upd H p (.rng 0 j))) := by
  intro pins s σ H vs us Q I r h
  obtain ⟨j, rfl, q⟩ := h
  obtain ⟨u1, rfl, rj⟩ := r.one
  obtain ⟨u, rfl⟩ := rj
  refine PySem.call_range_1 ⟨.ref s.heap.objs.size, upd H s.heap.objs.size (.rng 0 j), I.laid (t' := s.toks + 1 + 1) (fun b o e => Heap.get?_push_of_some _ e) (Nat.le_refl _) ?_, rfl, q _ (I.hok.fresh (Nat.le_refl _))⟩
  exact ⟨_, _, _, Heap.get?_push_size _ rfl⟩
def iRngV (te : TE) : TI := fun σ H R => te σ H fun x H1 => ∃ a lo hi, x = .ref a ∧ H1 a = some (.rng lo hi) ∧ (-(2 ^ 62) ≤ lo ∧ lo < 2 ^ 62 ∧ -(2 ^ 62) ≤ hi ∧ hi < 2 ^ 62) ∧ R (Itr lo (hi - lo).toNat) H1
theorem pi_rngV {e tg : Expr} {te : TE} (he : PE X e te) : PI X tg e (iRngV te) := by
  refine ⟨fun pins s σ H R I h => ?_⟩
  refine thn (he.run pins s σ H _ I h) fun v s1 ⟨x, H1, I1, r1, q1⟩ => ?_
  obtain ⟨a, lo, hi, rfl, ha, ⟨h1, h2, h3, h4⟩, q⟩ := q1
  cases r1
  obtain ⟨t, u, w, ho⟩ := I1.hok a _ ha
  refine wpAny_pyIter_range ho (small_one h1 h2 h3 h4) ?_
  refine ⟨s1.heap.objs.size, [s1.heap.objs.size], _, _, H1, rfl, I1.kept (t' := s1.toks) fun b o e => Heap.get?_push_of_some _ e, turn_range _ lo (hi - lo).toNat, ?_, fun b hb => ?_, q⟩
  · have e1 : lo + ((0 : Nat) : Int) * 1 = lo := by simp
    have e2 : (((hi - lo).toNat : Nat) : Int) - ((0 : Nat) : Int) = Builtin.Range.rangeSize lo hi 1 := by rw [rangeSize_one]; split <;> omega
    show IsRangeIter _ _ (lo + ((0 : Nat) : Int) * 1) ((((hi - lo).toNat : Nat) : Int) - ((0 : Nat) : Int)) 1
    rw [e1, e2]
    exact Heap.get?_push_size _ rfl
  · have e : b = s1.heap.objs.size := by simpa using hb
    subst e
    exact I1.fpOk (Nat.le_refl _) (I1.hok.fresh (Nat.le_refl _))
end
section
variable {X : Cx} {Γ : En} {W : WX} {A A1 A2 A' B B1 B2 : Slots} {a b e o tg : Expr} {es : List Expr} {p pos apos cpos p1 p2 p3 p4 : Pos} {i j : Int} {d d' : D} {ds dds ds0 ds1 ds2 es1 : List D} {sl r : Sl} {x m y f : Str} {q : Option Addr} {sts : List Stmt} {ou : Out}
/-- range(j) as a value -/
theorem jrng (hm : X.mg "range" = none) (ha : PA X [e] (JA X.K Γ A [.int j] A1)) (hg : Gl X "range" := by rfl) (he : starEach [e] X.env = (false, eval e X.env) :: starEach [] X.env := by rfl) : PE X (.Call (.Name "range" p) [e] [] pos) (JE X.K Γ A (.sh (.rng 0 j)) A1) :=
  jbT cr_range1 hm ha (fun S H Ms σ vs Q ok r k => by
    obtain ⟨v, rfl, rv⟩ := one_rd r
    exact ⟨j, by rw [int_of rv], fun p np => by
      obtain ⟨ok2, s2⟩ := ok.new (o := .rng 0 j) np
      exact k _ _ _ Ms s2 ok2 (.rng upd_same)⟩) (by decide +kernel) hg (by decide) (by decide) he (by rfl)
/-- .. walked -/
theorem jirv (h : PE X e (JE X.K Γ A (.sh (.rng i j)) A1)) (hb : -(2 ^ 62) ≤ i ∧ i < 2 ^ 62 ∧ -(2 ^ 62) ≤ j ∧ j < 2 ^ 62) : PI X tg e (JI X.K Γ A ((rng i (j - i).toNat).map .int) A1) :=
  piI (pi_rngV h) fun σ H R ⟨S, Ms, ok, k⟩ => ⟨S, Ms, ok, fun v S1 H1 M1 s1 ok1 r => by
    cases r with
    | rng h => exact ⟨_, i, j, rfl, ok1.sH _ _ h, hb, k _ S1 H1 M1 s1 ok1 (walks_r i _)⟩⟩
/-- zip of two tuples -/
def zp : List D → List D → List D := List.zipWith fun x y => D.tup [x, y]
theorem walks_z {K : PySem.W.Frag} {S : Hp} {a b : Addr} {vs ws : List V} {ds es : List D} (h1 : SqT K S a vs) (r1 : Rds K S vs ds) (h2 : SqT K S b ws) (r2 : Rds K S ws es) : Walks K S (RZ.ItzT K a b) (zp ds es) := fun i H e => by
  have hH1 := sqT_mono e h1
  have hH2 := sqT_mono e h2
  refine ⟨fun hl => ⟨vs, ws, hH1, hH2, ?_⟩, fun d hd => ?_⟩
  · rw [r1.len, r2.len]
    unfold zp at hl
    rw [List.length_zipWith] at hl
    omega
  · unfold zp at hd
    rw [List.getElem?_zipWith] at hd
    cases q1 : ds[i]? with
    | none => rw [q1] at hd; cases hd
    | some d1 =>
      cases q2 : es[i]? with
      | none => rw [q1, q2] at hd; cases hd
      | some d2 =>
        rw [q1, q2] at hd
        cases hd
        obtain ⟨v1, g1, g2⟩ := r1.get q1
        obtain ⟨v2, k1, k2⟩ := r2.get q2
        refine ⟨⟨vs, ws, v1, v2, hH1, hH2, g1, k1⟩, fun x H' ⟨Tt, y1, y2, e1, n, e2, z1, z2⟩ => .inr ⟨Tt, _, n, e2, fun S' s' q' => ?_⟩⟩
        have w1 := z1 vs hH1
        have w2 := z2 ws hH2
        rw [g1] at w1
        rw [k1] at w2
        cases w1; cases w2
        rw [e1]
        exact .tup (SqT.of q') (.cons (g2.mono s') (.cons (k2.mono s') .nil))
theorem jizT {e2 : Expr} {elts : List Expr} {kk : Nat} {tpos : Pos} (h : PA X [e, e2] (JA X.K Γ A [.tup ds, .tup ds1] A1)) (hm : X.mg "zip" = none) (hg : Gl X "zip" := by rfl) (hs : starEach [e, e2] X.env = (false, eval e X.env) :: starEach [e2] X.env := by rfl) (hpl : (backTo pos (starEach [e2] X.env)).any (·.1) = false := by rfl) :
    PI X (.Tuple elts kk tpos) (.Call (.Name "zip" p) [e, e2] [] pos) (JI X.K Γ A (zp ds ds1) A1) :=
  piI (RZ.pi_zipA hg hm h hs hpl) fun σ H R ⟨S, Ms, ok, k⟩ => ⟨S, Ms, ok, fun vs S1 H1 M1 s1 ok1 r => by
    obtain ⟨v, w, rfl, rv, rw'⟩ := two_rd r
    cases rv with
    | tup h1 r1 => cases rw' with
      | tup h2 r2 => exact ⟨_, _, _, _, rfl, .inr ⟨sqT_mono ok1.sH h1, sqT_mono ok1.sH h2, k _ S1 H1 M1 s1 ok1 (walks_z h1 r1 h2 r2)⟩⟩⟩
/-! ### statements -/
/-- targets = e -/
theorem junp (tgt : Tg) {tg : Expr} (he : PE X e (JE X.K Γ A (.sh d) A1)) (hg : PG X tg (tgt.g X.K)) (hf : tgt.fit d) (hs : swapsWithSole [tg] e pos.line X.env = pure false := by rfl) (hw : swappedStores [tg] e X.env = pure none := by rfl)
    (h1 : (assignEach [tg] X.env).map (·.2) = [assign tg X.env] := by rfl) : PS X (.Assign [tg] e pos) (JS X.K Γ W A (.nx (tgt.sl A1 d))) :=
  psI (ps_asg he hg hs hw h1) fun D σ H ⟨S, Ms, ok, k⟩ => ⟨S, Ms, ok, fun v S1 H1 M1 s1 ok1 r1 => tg_run ok1 r1 hf fun σ' ok' _ _ => k σ' S1 H1 M1 s1 ok'⟩
def putG (f : Str) (d : D) : List (Str × D) → List (Str × D)
  | [] => [(f, d)]
  | (g, x) :: r => if g = f then (g, d) :: r else (g, x) :: putG f d r
theorem Rfs.put {K : PySem.W.Frag} {S : Hp} {v : V} (h : Rd K S v d) : ∀ {fs gs}, Rfs K S fs gs → Rfs K S (putF f v fs) (putG f d gs)
  | _, _, .nil => .cons h .nil
  | _, _, .cons (x := g) r rs => by
    unfold putF putG
    by_cases e : g = f
    · rw [if_pos e, if_pos e]; exact .cons h rs
    · rw [if_neg e, if_neg e]; exact .cons r (Rfs.put h rs)
/-- self.f = e, self an instance in the making in the slot n -/
theorem jfset (n : Nat) {pa : Addr} {C : Addr} {gs : List (Str × D)} {pp : Pos} (he : PE X e (JE X.K Γ A (.sh d) A1)) (hn1 : A1[n]? = some (some (.oi pa C gs))) (c : Cls X.K C) (hno : NoAttr X.K C f) (hz : gs.length < 1000 := by exact Nat.le_of_ble_eq_true rfl) (hN : X.N[n]? = some y := by rfl)
    (hv : Vis X.env.scope y := by first | exact Or.inl rfl | exact Or.inr (Or.inl rfl) | exact Or.inr (Or.inr rfl)) (hd1 : (y == ("__debug__" : Str)) = false := by decide) (hcd : (y == ("__classdict__" : Str)) = false := by decide)
    (hs : swapsWith e (some (.Attribute (.Name y pp) f p1)) pos.line X.env = pure false := by rfl) :
    PS X (.Assign [.Attribute (.Name y pp) f p1] e pos) (JS X.K Γ W A (.nx (A1.set n (some (.oi pa C (putG f d gs)))))) :=
  psI (ps_fld (pe_var hN hv hd1 hcd) he hs) fun D σ H ⟨S, Ms, ok, k⟩ => ⟨S, Ms, ok, fun v S1 H1 M1 s1 ok1 r1 => by
    obtain ⟨u, h1, dx, fs, rfl, hne, hM, hD, rf⟩ := ok1.slot n _ hn1
    refine ⟨.ref pa, h1, pa, C, dx, fs, rfl, ok1.mH n _ _ hM, c, hno, ?_, ?_⟩
    · rw [rf.len]; exact hz
    · exact k σ S1 _ _ s1 (ok1.mut (a := .oi pa C (putG f d gs)) hM h1 ⟨dx, putF f v fs, rfl, hne, upd_same, by rw [upd_ne hne]; exact hD, rf.put r1⟩)⟩
/-- self.f, self an instance in the making in the slot n -/
theorem jfldO (n : Nat) {pa : Addr} {C : Addr} {gs : List (Str × D)} {pp : Pos} (hn : A[n]? = some (some (.oi pa C gs))) (c : Cls X.K C) (hno : NoAttr X.K C f) (hl : gs.lookup f = some d) (hN : X.N[n]? = some y := by rfl)
    (hv : Vis X.env.scope y := by first | exact Or.inl rfl | exact Or.inr (Or.inl rfl) | exact Or.inr (Or.inr rfl)) (hd1 : (y == ("__debug__" : Str)) = false := by decide) (hcd : (y == ("__classdict__" : Str)) = false := by decide)
    (hb : attributeBase (.Name y pp) f X.env (eval (.Name y pp) X.env) = eval (.Name y pp) X.env := by rfl) : PE X (.Attribute (.Name y pp) f pos) (JE X.K Γ A (.sh d) A) :=
  peI (pe_fld (pe_var hN hv hd1 hcd) hb) fun σ H Q ⟨S, Ms, ok, k⟩ => by
    obtain ⟨u, h1, dx, fs, rfl, hne, hM, hD, rf⟩ := ok.slot n _ hn
    obtain ⟨v, g1, g2⟩ := rf.look hl
    exact ⟨.ref pa, h1, pa, C, dx, fs, v, rfl, ok.mH n _ _ hM, c, hno, g1, k v S H Ms (Same.refl S) ok g2⟩
/-- while: τ the state, ψ what it goes down by -/
theorem jwhile {τ ρ : Type} {t : Expr} {body : List Stmt} (Af : τ → Slots) (A2f : τ → Slots) (exO : ρ → Out) (tst : τ → Bool) (step : τ → LR τ ρ) (ψ : τ → Nat) (Iv : τ → Prop) (fin : LR τ ρ) (hp : PassesOwn (model X.prog X.w) X.A X.env X.xe) (s0 : τ) (i0 : Iv s0) (hA : Wk A (Af s0))
    (run : ∀ s, Iv s → (tst s = true → (∀ s', step s = .go s' → Iv s' ∧ ψ s' < ψ s) ∧ ∀ r, step s = .ex r → fin = .ex r) ∧ (tst s = false → fin = .go s))
    (ht : ∀ s, Iv s → PT X t (JT X.K Γ (Af s) (tst s) (A2f s))) (hb : ∀ s, Iv s → tst s = true → ∃ o, PSs X body (JS X.K Γ W (A2f s) o) ∧ Turns Af exO o (step s))
    (hf : ∀ s, Iv s → tst s = false → Wk (A2f s) (Af s)) : PS X (.While t body [] pos) (JS X.K Γ W A (outL Af exO fin)) := by
  have htest : PT X t (fun σ H Q => ∃ u : TT, PT X t u ∧ u σ H Q) := ⟨fun pins sh σ H Q I ⟨u, h1, h2⟩ => h1.run pins sh σ H Q I h2⟩
  have hbody : PSs X body (fun d σ H => ∃ u : TS, PSs X body u ∧ u d σ H) := ⟨fun pins sh σ H d I ⟨u, h1, h2⟩ => h1.run pins sh σ H d I h2⟩
  exact
  psI (ps_while hp htest hbody) fun D σ H ⟨S, Ms, ok, k⟩ => by
    refine ⟨fun m σ H => ∃ s S1 Ms, Iv s ∧ ψ s = m ∧ Same S S1 ∧ OK X.K Γ (Af s) σ S1 H Ms, ⟨ψ s0, s0, S, Ms, i0, rfl, Same.refl S, ok.wk hA⟩, ?_⟩
    rintro m σ H ⟨s, S1, M1, is, rfl, s1, ok1⟩
    obtain ⟨hr, hfn⟩ := run s is
    refine ⟨_, ht s is, S1, M1, ok1, fun S2 H2 M2 s2 ok2 => ?_⟩
    cases h : tst s with
    | false =>
      refine L2.iteF ?_
      rw [hfn h] at k
      exact k σ S2 H2 M2 (s1.trans s2) (ok2.wk (hf s is h))
    | true =>
      refine L2.iteT ?_
      obtain ⟨hgo, hex⟩ := hr h
      obtain ⟨o, g1, g2⟩ := hb s is h
      refine ⟨fun σ' H' => ∃ s' S' Ms', Iv s' ∧ ψ s' < ψ s ∧ Same S S' ∧ OK X.K Γ (Af s') σ' S' H' Ms', fun σ' H' ⟨s', S', Ms', e1, e2, e3, e4⟩ => ⟨ψ s', e2, s', S', Ms', e1, rfl, e3, e4⟩, ?_⟩
      refine ⟨_, g1, S2, M2, ok2, ?_⟩
      have hk : ∀ r, step s = .ex r → Post X.K Γ W S (exO r) D := fun r e => by
        have q := k
        rw [hex r e] at q
        exact q
      generalize hst : step s = z at g2
      cases g2 with
      | nx wk => exact fun σ' S' H2 Ms' se ok' => ⟨_, S', Ms', (hgo _ hst).1, (hgo _ hst).2, (s1.trans s2).trans se, ok'.wk wk⟩
      | ct wk => exact fun σ' S' H2 Ms' se ok' => ⟨_, S', Ms', (hgo _ hst).1, (hgo _ hst).2, (s1.trans s2).trans se, ok'.wk wk⟩
      | bk e =>
        have k := hk _ hst
        rw [e] at k
        exact fun σ' S' H2 Ms' se ok' => k σ' S' H2 Ms' ((s1.trans s2).trans se) ok'
      | rt e =>
        have k := hk _ hst
        rw [e] at k
        exact fun v σ' S' H2 Ms' se ok' r => k v σ' S' H2 Ms' ((s1.trans s2).trans se) ok' r
      | er e =>
        have k := hk _ hst
        rw [e] at k
        exact fun c v σ' S' H2 Ms' se ok' r => k c v σ' S' H2 Ms' ((s1.trans s2).trans se) ok' r
end
end J
namespace J
open PySem L2
/-! ### shapes of slots -/
theorem Wk.of : ∀ {A B : Slots}, A.length = B.length → (∀ (i : Nat) (a : Sl), B[i]? = some (some a) → A[i]? = some (some a)) → Wk A B
  | [], [], _, _ => .nil
  | x :: A, none :: B, hl, h => .drop (Wk.of (by simpa using hl) fun i a e => by simpa using h (i + 1) a (by simpa using e))
  | x :: A, some b :: B, hl, h => by
    have := h 0 b (by simp)
    simp at this
    subst this
    exact .same (Wk.of (by simpa using hl) fun i a e => by simpa using h (i + 1) a (by simpa using e))
  | [], _ :: _, hl, _ => by simp at hl
  | _ :: _, [], hl, _ => by simp at hl
mutual
theorem sl_keep : ∀ {tg : Tg} {A : Slots} {d : D}, (tg.sl A d).length = A.length ∧ ∀ j, j ∉ tg.ix → (tg.sl A d)[j]? = A[j]?
  | .n i, A, d => by
    rw [Tg.sl, Tg.ix]
    exact ⟨List.length_set .., fun j hj => by rw [List.getElem?_set_ne]; intro z; subst z; exact hj List.mem_cons_self⟩
  | .tt l, A, .tup ds => by rw [Tg.sl, Tg.ix]; exact sls_keep
  | .tt l, A, .non => ⟨rfl, fun _ _ => rfl⟩
  | .tt l, A, .bl _ => ⟨rfl, fun _ _ => rfl⟩
  | .tt l, A, .int _ => ⟨rfl, fun _ _ => rfl⟩
  | .tt l, A, .str _ => ⟨rfl, fun _ _ => rfl⟩
  | .tt l, A, .lst _ => ⟨rfl, fun _ _ => rfl⟩
  | .tt l, A, .rng _ _ => ⟨rfl, fun _ _ => rfl⟩
  | .tt l, A, .exv _ _ _ => ⟨rfl, fun _ _ => rfl⟩
  | .tt l, A, .ins _ _ => ⟨rfl, fun _ _ => rfl⟩
theorem sls_keep : ∀ {l : Tgs} {A : Slots} {ds : List D}, (l.sl A ds).length = A.length ∧ ∀ j, j ∉ l.ix → (l.sl A ds)[j]? = A[j]?
  | .nil, A, ds => by rw [Tgs.sl]; exact ⟨rfl, fun _ _ => rfl⟩
  | .cons g l, A, [] => by rw [Tgs.sl]; exact ⟨rfl, fun _ _ => rfl⟩
  | .cons g l, A, d :: ds => by
    rw [Tgs.sl, Tgs.ix]
    obtain ⟨h1, h2⟩ := sl_keep (tg := g) (A := A) (d := d)
    obtain ⟨h3, h4⟩ := sls_keep (l := l) (A := g.sl A d) (ds := ds)
    exact ⟨h3.trans h1, fun j hj => by rw [List.mem_append, not_or] at hj; rw [h4 j hj.2, h2 j hj.1]⟩
end
theorem wk_sl {tg : Tg} {A : Slots} {vs : List Nat} {d : D} (h : ∀ i ∈ tg.ix, i ∈ vs) : Wk (tg.sl (wipeA A vs) d) (wipeA A vs) := by
  obtain ⟨h1, h2⟩ := sl_keep (tg := tg) (A := wipeA A vs) (d := d)
  exact .of h1 fun i a e => by rw [h2 i fun hm => (wipeA_at e).2 (h i hm)]; exact e
theorem wk_sl2 {tg : Tg} {A : Slots} {vs vs1 : List Nat} {d : D} (h : ∀ i ∈ tg.ix, i ∈ vs) (h1 : ∀ i ∈ vs1, i ∈ vs) : Wk (wipeA (tg.sl (wipeA A vs) d) vs1) (wipeA A vs) := by
  obtain ⟨g1, g2⟩ := sl_keep (tg := tg) (A := wipeA A vs) (d := d)
  refine .of (by rw [wipeA_len]; exact g1) fun i a e => ?_
  have hn := (wipeA_at e).2
  have : ∀ (us : List Nat) (B : Slots), i ∉ us → (wipeA B us)[i]? = B[i]? := fun us B => by
    induction us with
    | nil => intro _; rfl
    | cons u us ih =>
      intro hu
      show ((wipeA B us).set u none)[i]? = _
      rw [List.getElem?_set_ne (fun z => hu (by rw [z]; exact List.mem_cons_self)), ih (fun z => hu (List.mem_cons_of_mem _ z))]
  rw [this vs1 _ fun hm => hn (h1 i hm), g2 i fun hm => hn (h i hm)]
  exact e
theorem wipe_sub {σ : L2.St} {vs vs1 : List Nat} (h : ∀ i ∈ vs1, i ∈ vs) : wipe (wipe σ vs1) vs = wipe σ vs :=
  wipe_eq (wipe_length σ vs1) fun j hj => by rw [wipe_at, if_neg fun hm => hj (h j hm)]
/-! ### y = [.. for ..] on one line -/
section
variable {X : Cx} {Γ : En} {W : WX} {A A1 : Slots} {ifs : List Expr} {elt tgt iter : Expr} {scope : Scope} {pos spos : Pos} {y : Str}
theorem jsetLc {α τ : Type} (n : Nat) {py : Pos} (xs : List α) (enc : α → D) (tg : Tg) (own : List (Str × Nat)) (Af : τ → Slots) (f : τ → α → Option D × τ) (s0 : τ) (hN : X.N.Nodup) (hi : PI X tgt iter (JI X.K Γ A (xs.map enc) A1)) (hA : Wk A1 (Af s0)) (ok : BlkOk X.N X.env.scope scope own)
    (hg : blkP X scope fun Y => PG Y tgt (tg.g X.K)) (hl9 : ∀ s, (Af s).length ≤ 900) (hix : ∀ i ∈ tg.ix, i ∈ own.map (·.2)) (hf : ∀ x ∈ xs, tg.fit (enc x)) (hz : xs.length ≤ 100000)
    (hb : ∀ pre x post s, xs = pre ++ x :: post → (lcs f pre s0).2 = s → LcT (blkP X scope) X.K Af (own.map (·.2)) ifs elt (tg.sl (wipeA (Af s) (own.map (·.2))) (enc x)) (f s x)) (hn : n < (Af (lcs f xs s0).2).length)
    (hyl : X.env.scope.names.lookup y = some .local := by rfl) (hy : X.N[n]? = some y := by rfl) (hsw : swapsWith (.ListComp elt [⟨tgt, iter, ifs, 0⟩] scope pos) (some (.Name y py)) spos.line X.env = pure true := by rfl) (hc : X.calm = true := by rfl) (hs : ∀ x, foldedSetIterable iter X.env x = pure x := by intro _; rfl) :
    PS X (.Assign [.Name y py] (.ListComp elt [⟨tgt, iter, ifs, 0⟩] scope pos) spos) (JS X.K Γ W A (.nx ((wipeA (Af (lcs f xs s0).2) (own.map (·.2))).set n (some (.ol none (lcs f xs s0).1))))) :=
  psI (ps_setLc (i := n) hc hN hy hyl hsw hi ok hg (tt := fun σ H Q => ∃ u : TT, (blkP X scope fun Y => PTs Y ifs u) ∧ u σ H Q) (te := fun σ H Q => ∃ u : TE, (blkP X scope fun Y => PE Y elt u) ∧ u σ H Q)
    (fun s H C cl fp => ⟨fun pins sh σ H Q I ⟨u, h1, h2⟩ => (h1 s _ C cl fp).run pins sh σ H Q I h2⟩) (fun s H C cl fp => ⟨fun pins sh σ H Q I ⟨u, h1, h2⟩ => (h1 s _ C cl fp).run pins sh σ H Q I h2⟩) hs)
    fun D σ H ⟨S, Ms, ok0, k⟩ => by
    have q := lc_read (P := blkP X scope) (K := X.K) (Γ := Γ) (A := A) (elt := elt) (ifs := ifs) xs enc tg (own.map fun p => p.2) Af f s0 hA hl9 hix hf hz hb
    exact q σ H (fun x H1 => D.nx (σ.set n (some x)) H1) ⟨S, Ms, ok0, fun v S1 H1 M1 s1 ok1 r1 => k _ S1 H1 _ s1 (ok1.store r1 (by rw [wipeA_len]; exact hn) (by rw [wipeA_len]; exact Nat.le_trans (hl9 _) (by decide)))⟩
end
end J
namespace J
open PySem L2
/-! ### [.. for .. in .. for .. in ..] -/
def inn {β : Type} (c1 : β → Bool) (el : β → D) (l : List β) : List D := (l.filter c1).map el
def fm2 {α β : Type} (c : α → Bool) (ys : α → List β) (c1 : α → β → Bool) (el : α → β → D) (xs : List α) : List D := xs.flatMap fun x => if c x = true then inn (c1 x) (el x) (ys x) else []
theorem inn_app {β : Type} {c1 : β → Bool} {el : β → D} {l m : List β} : inn c1 el (l ++ m) = inn c1 el l ++ inn c1 el m := by unfold inn; rw [List.filter_append, List.map_append]
theorem fm2_app {α β : Type} {c : α → Bool} {ys : α → List β} {c1 : α → β → Bool} {el : α → β → D} {l m : List α} : fm2 c ys c1 el (l ++ m) = fm2 c ys c1 el l ++ fm2 c ys c1 el m := by unfold fm2; rw [List.flatMap_append]
theorem fm2_one {α β : Type} {c : α → Bool} {ys : α → List β} {c1 : α → β → Bool} {el : α → β → D} {x : α} : fm2 c ys c1 el [x] = if c x = true then inn (c1 x) (el x) (ys x) else [] := by unfold fm2; simp
section
variable {K : PySem.W.Frag} {Γ : En} {A A1 : Slots} {ifs ifs1 : List Expr} {elt tgt1 iter1 : Expr}
theorem lc2_read {α β : Type} {P : (Cx → Prop) → Prop} (xs : List α) (enc : α → D) (tg tg1 : Tg) (vs vs1 : List Nat) (c : α → Bool) (ys : α → List β) (enc1 : β → D) (c1 : α → β → Bool) (el : α → β → D) (hl9 : A1.length ≤ 900) (hix : ∀ i ∈ tg.ix, i ∈ vs) (hix1 : ∀ i ∈ tg1.ix, i ∈ vs1) (hv : ∀ i ∈ vs1, i ∈ vs) (hf : ∀ x ∈ xs, tg.fit (enc x))
    (hz : (fm2 c ys c1 el xs).length ≤ 100000)
    (hb : ∀ x ∈ xs, (∀ Γ, P fun Y => PTs Y ifs (JT K Γ (tg.sl (wipeA A1 vs) (enc x)) (c x) (tg.sl (wipeA A1 vs) (enc x)))) ∧ (c x = true → (∀ Γ, P fun Y => PI Y tgt1 iter1 (JI K Γ (tg.sl (wipeA A1 vs) (enc x)) ((ys x).map enc1) (tg.sl (wipeA A1 vs) (enc x)))) ∧
      ∀ y ∈ ys x, tg1.fit (enc1 y) ∧ (∀ Γ, P fun Y => PTs Y ifs1 (JT K Γ (tg1.sl (wipeA (tg.sl (wipeA A1 vs) (enc x)) vs1) (enc1 y)) (c1 x y) (tg1.sl (wipeA (tg.sl (wipeA A1 vs) (enc x)) vs1) (enc1 y)))) ∧
        (c1 x y = true → ∀ Γ, P fun Y => PE Y elt (JE K Γ (tg1.sl (wipeA (tg.sl (wipeA A1 vs) (enc x)) vs1) (enc1 y)) (.sh (el x y)) (tg1.sl (wipeA (tg.sl (wipeA A1 vs) (enc x)) vs1) (enc1 y)))))) :
    ∀ σ H Q, JE K Γ A (.ol none (fm2 c ys c1 el xs)) (wipeA A1 vs) σ H Q →
      tLc2 (JI K Γ A (xs.map enc) A1) (tg.g K) (fun σ H Q => ∃ u : TT, (P fun Y => PTs Y ifs u) ∧ u σ H Q) (fun σ H R => ∃ u : TI, (P fun Y => PI Y tgt1 iter1 u) ∧ u σ H R) (tg1.g K) (fun σ H Q => ∃ u : TT, (P fun Y => PTs Y ifs1 u) ∧ u σ H Q) (fun σ H Q => ∃ u : TE, (P fun Y => PE Y elt u) ∧ u σ H Q) vs vs1 σ H Q := by
  rintro σ H Q ⟨S, Ms, ok, k⟩
  refine ⟨S, Ms, ok, fun J S1 H1 M1 s1 ok1 w Dl nD => ?_⟩
  have len9 : (wipeA A1 vs).length ≤ 900 := by rw [wipeA_len]; exact hl9
  have n7 : ∀ {B : Slots}, B.length ≤ 900 → B[L7]? = none := fun h => List.getElem?_eq_none_iff.mpr (Nat.le_trans h (by decide))
  let R := fm2 c ys c1 el
  let G : List α → Hp → Prop := fun l H => ∃ S Ms acc, Same S1 S ∧ OK K Γ (wipeA A1 vs) (wipe σ vs) S H Ms ∧ Ms L7 = one Dl (.lst acc) ∧ Rds K S acc (R l)
  refine ⟨fun i m H => m = xs.length - i ∧ i ≤ xs.length ∧ G (xs.take i) H, ⟨xs.length, rfl, Nat.zero_le _, ?_⟩, ?_⟩
  · have ok2 := ok1.wipe vs
    exact ⟨S1, _, [], Same.refl S1, ok2.heaplet (k := L7) (M := one Dl (.lst [])) (.inl (n7 len9)) (fun b u e => by obtain ⟨rfl, rfl⟩ := one_at e; exact upd_same) (fun b u e => by obtain ⟨rfl, rfl⟩ := one_at e; exact .inl nD) (fun b u e _ => by rw [upd_ne (ne_of_none e nD)]; exact e), put_same, .nil⟩
  rintro i m H ⟨rfl, hi, S2, M2, acc, s2, ok2, e7, racc⟩
  rcases Nat.lt_or_ge i xs.length with hlt | hge
  · have hx : xs = xs.take i ++ xs[i] :: xs.drop (i + 1) := by rw [List.getElem_cons_drop, List.take_append_drop]
    have htk : xs.take (i + 1) = xs.take i ++ [xs[i]] := by rw [List.take_succ, List.getElem?_eq_getElem hlt]; rfl
    obtain ⟨hT, hC⟩ := hb xs[i] (List.getElem_mem hlt)
    obtain ⟨_, wy⟩ := w i H (s2.trans ok2.sH)
    obtain ⟨wg, wy⟩ := wy (enc xs[i]) (by rw [List.getElem?_map, List.getElem?_eq_getElem hlt]; rfl)
    refine .inr ⟨wg, G (xs.take (i + 1)), fun H' g => ⟨xs.length - (i + 1), by omega, rfl, hlt, g⟩, fun x H' y => ?_⟩
    generalize hxi : xs[i] = xi at *
    have all : ∀ S3, Same S1 S3 → OK K Γ (wipeA A1 vs) (wipe σ vs) S3 H' M2 → Rds K S3 acc (R (xs.take i)) → Rd K S3 x (enc xi) → tg.g K x (wipe σ vs) H' fun σ2 H2 => wipe σ2 vs = wipe σ vs ∧ (fun σ H Q => ∃ u : TT, (P fun Y => PTs Y ifs u) ∧ u σ H Q) σ2 H2 fun b H3 =>
        if b = true then (fun σ H R => ∃ u : TI, (P fun Y => PI Y tgt1 iter1 u) ∧ u σ H R) σ2 H3 fun J1 H4 => ∃ W1 : Nat → Nat → Hp → Prop, (∃ m, W1 0 m H4) ∧ ∀ j k H, W1 j k H →
          (J1.stop j H ∧ G (xs.take (i + 1)) H) ∨ (J1.go j H ∧ ∃ Nx1 : Hp → Prop, (∀ H', Nx1 H' → ∃ k', k' < k ∧ W1 (j + 1) k' H') ∧ ∀ x H', J1.yld j H x H' → tg1.g K x (wipe σ2 vs1) H' fun σ3 H5 => wipe σ3 vs1 = wipe σ2 vs1 ∧ (fun σ H Q => ∃ u : TT, (P fun Y => PTs Y ifs1 u) ∧ u σ H Q) σ3 H5 fun b H6 =>
            if b = true then (fun σ H Q => ∃ u : TE, (P fun Y => PE Y elt u) ∧ u σ H Q) σ3 H6 fun y H7 => ∃ acc, H7 Dl = some (.lst acc) ∧ acc.length < sizeLine ∧ Nx1 (upd H7 Dl (.lst (acc ++ [y]))) else Nx1 H6)
        else G (xs.take (i + 1)) H3 := by
      intro S3 s3 ok3 racc r3
      refine tg_run ok3 r3 (hf _ (hxi ▸ List.getElem_mem hlt)) fun σ2 ok4 hw hl => ?_
      have e2 : wipe σ2 vs = wipe σ vs := by rw [wipe_eq hl (hw vs hix), wipe_wipe]
      have l4 : (tg.sl (wipeA A1 vs) (enc xi)).length ≤ 900 := by rw [sl_keep.1]; exact len9
      refine ⟨e2, _, hT _, S3, _, ok4.into l4, fun S5 H5 M5 s5 ok5 => ?_⟩
      have ok6 := ok4.outof ok5 l4
      have e76 : put M5 L7 (M2 L7) L7 = one Dl (.lst acc) := by rw [put_same]; exact e7
      cases hcx : c xi with
      | false =>
        refine L2.iteF ?_
        refine ⟨S5, put M5 L7 (M2 L7), acc, s3.trans s5, ok6.resl (wk_sl hix) e2, e76, ?_⟩
        rw [htk]
        show Rds K S5 acc (fm2 c ys c1 el (xs.take i ++ [xi]))
        rw [fm2_app, fm2_one, if_neg (by rw [hcx]; decide), List.append_nil]
        exact racc.mono s5
      | true =>
        refine L2.iteT ?_
        obtain ⟨hI, hY⟩ := hC hcx
        refine ⟨_, hI _, S5, _, ok6.into l4, fun J1 S6 H6 M6 s6 ok7 w1 => ?_⟩
        have ok8 := ok6.outof ok7 l4
        have e78 : put M6 L7 (put M5 L7 (M2 L7) L7) L7 = one Dl (.lst acc) := by rw [put_same]; exact e76
        have l8 : (wipeA (tg.sl (wipeA A1 vs) (enc xi)) vs1).length ≤ 900 := by rw [wipeA_len]; exact l4
        let G1 : List β → Hp → Prop := fun l H => ∃ S Ms acc, Same S6 S ∧ OK K Γ (wipeA (tg.sl (wipeA A1 vs) (enc xi)) vs1) (wipe σ2 vs1) S H Ms ∧ Ms L7 = one Dl (.lst acc) ∧ Rds K S acc (R (xs.take i) ++ inn (c1 xi) (el xi) l)
        refine ⟨fun j m H => m = (ys xi).length - j ∧ j ≤ (ys xi).length ∧ G1 ((ys xi).take j) H, ⟨(ys xi).length, rfl, Nat.zero_le _, S6, _, acc, Same.refl S6, ok8.wipe vs1, e78, ?_⟩, ?_⟩
        · have : inn (c1 xi) (el xi) (List.take 0 (ys xi)) = [] := rfl
          rw [this, List.append_nil]
          exact racc.mono (s5.trans s6)
        rintro j m H ⟨rfl, hj, S9, M9, acc9, s9, ok9, e79, racc9⟩
        rcases Nat.lt_or_ge j (ys xi).length with jlt | jge
        · have jtk : (ys xi).take (j + 1) = (ys xi).take j ++ [(ys xi)[j]] := by rw [List.take_succ, List.getElem?_eq_getElem jlt]; rfl
          have hys : ys xi = (ys xi).take j ++ (ys xi)[j] :: (ys xi).drop (j + 1) := by rw [List.getElem_cons_drop, List.take_append_drop]
          obtain ⟨hfit, hT1, hE⟩ := hY (ys xi)[j] (List.getElem_mem jlt)
          obtain ⟨_, wz⟩ := w1 j H (s9.trans ok9.sH)
          obtain ⟨wg1, wz⟩ := wz (enc1 (ys xi)[j]) (by rw [List.getElem?_map, List.getElem?_eq_getElem jlt]; rfl)
          refine .inr ⟨wg1, G1 ((ys xi).take (j + 1)), fun H' g => ⟨(ys xi).length - (j + 1), by omega, rfl, jlt, g⟩, fun x1 H'' yy => ?_⟩
          have lacc : acc9.length < 100000 ∨ c1 xi (ys xi)[j] = false := by
            cases hcy : c1 xi (ys xi)[j] with
            | false => exact .inr rfl
            | true =>
              refine .inl ?_
              rw [racc9.len]
              have h2 : fm2 c ys c1 el xs = (R (xs.take i) ++ inn (c1 xi) (el xi) ((ys xi).take j)) ++ (el xi (ys xi)[j] :: inn (c1 xi) (el xi) ((ys xi).drop (j + 1))) ++ fm2 c ys c1 el (xs.drop (i + 1)) := by
                conv => lhs; rw [hx]
                rw [show xs.take i ++ xi :: xs.drop (i + 1) = xs.take i ++ ([xi] ++ xs.drop (i + 1)) from rfl, fm2_app, fm2_app, fm2_one, if_pos hcx]
                conv => lhs; rw [hys]
                rw [inn_app]
                have : inn (c1 xi) (el xi) ((ys xi)[j] :: (ys xi).drop (j + 1)) = el xi (ys xi)[j] :: inn (c1 xi) (el xi) ((ys xi).drop (j + 1)) := by
                  unfold inn; rw [List.filter_cons, if_pos hcy]; rfl
                rw [this]
                simp only [List.append_assoc]
                rfl
              rw [h2] at hz
              simp only [List.length_append, List.length_cons] at hz ⊢
              omega
          have all1 : ∀ S10, Same S6 S10 → OK K Γ (wipeA (tg.sl (wipeA A1 vs) (enc xi)) vs1) (wipe σ2 vs1) S10 H'' M9 → Rds K S10 acc9 (R (xs.take i) ++ inn (c1 xi) (el xi) ((ys xi).take j)) → Rd K S10 x1 (enc1 (ys xi)[j]) →
              tg1.g K x1 (wipe σ2 vs1) H'' fun σ3 H5 => wipe σ3 vs1 = wipe σ2 vs1 ∧ (fun σ H Q => ∃ u : TT, (P fun Y => PTs Y ifs1 u) ∧ u σ H Q) σ3 H5 fun b H6 =>
                if b = true then (fun σ H Q => ∃ u : TE, (P fun Y => PE Y elt u) ∧ u σ H Q) σ3 H6 fun y H7 => ∃ acc, H7 Dl = some (.lst acc) ∧ acc.length < sizeLine ∧ G1 ((ys xi).take (j + 1)) (upd H7 Dl (.lst (acc ++ [y]))) else G1 ((ys xi).take (j + 1)) H6 := by
            intro S10 s10 ok10 racc10 r10
            refine tg_run ok10 r10 hfit fun σ3 ok11 hw1 hl1 => ?_
            have e3 : wipe σ3 vs1 = wipe σ2 vs1 := by rw [wipe_eq hl1 (hw1 vs1 hix1), wipe_wipe]
            have l11 : (tg1.sl (wipeA (tg.sl (wipeA A1 vs) (enc xi)) vs1) (enc1 (ys xi)[j])).length ≤ 900 := by rw [sl_keep.1]; exact l8
            refine ⟨e3, _, hT1 _, S10, _, ok11.into l11, fun S12 H12 M12 s12 ok12 => ?_⟩
            have ok13 := ok11.outof ok12 l11
            have e713 : put M12 L7 (M9 L7) L7 = one Dl (.lst acc9) := by rw [put_same]; exact e79
            cases hcy : c1 xi (ys xi)[j] with
            | false =>
              refine L2.iteF ?_
              refine ⟨S12, _, acc9, s10.trans s12, ok13.resl (wk_sl hix1) e3, e713, ?_⟩
              rw [jtk, inn_app]
              have : inn (c1 xi) (el xi) [(ys xi)[j]] = [] := by unfold inn; rw [List.filter_cons, if_neg (by rw [hcy]; decide)]; rfl
              rw [this, List.append_nil]
              exact racc10.mono s12
            | true =>
              refine L2.iteT ?_
              refine ⟨_, hE hcy _, S12, _, ok13.into l11, fun v S14 H14 M14 s14 ok14 rv => ?_⟩
              have ok15 := ok13.outof ok14 l11
              have e715 : put M14 L7 (put M12 L7 (M9 L7) L7) L7 = one Dl (.lst acc9) := by rw [put_same]; exact e713
              have ok16 := ok15.resl (wk_sl hix1) e3
              have hD : put M14 L7 (put M12 L7 (M9 L7) L7) L7 Dl = some (.lst acc9) := by rw [e715]; exact one_same
              refine ⟨acc9, ok16.mH L7 Dl _ hD, ?_, ?_⟩
              · rcases lacc with h | h
                · exact Nat.lt_trans h (by decide)
                · rw [hcy] at h; cases h
              have ok17 := ok16.heaplet (k := L7) (M := one Dl (.lst (acc9 ++ [v]))) (H' := upd H14 Dl (.lst (acc9 ++ [v]))) (.inl (n7 l8)) (fun b u e => by obtain ⟨rfl, rfl⟩ := one_at e; exact upd_same) (fun b u e => by
                obtain ⟨rfl, rfl⟩ := one_at e; exact .inr ⟨_, hD⟩) (fun b u e n => by
                rw [e715] at n
                have hb : b ≠ Dl := fun z => by subst z; exact nofree one_same n
                rw [upd_ne hb]; exact e)
              refine ⟨S14, _, acc9 ++ [v], (s10.trans s12).trans s14, ok17, put_same, ?_⟩
              rw [jtk, inn_app]
              have : inn (c1 xi) (el xi) [(ys xi)[j]] = [el xi (ys xi)[j]] := by unfold inn; rw [List.filter_cons, if_pos hcy]; rfl
              rw [this, ← List.append_assoc]
              exact (racc10.mono (s12.trans s14)).app (.one rv)
          rcases wz x1 H'' yy with ⟨rfl, r⟩ | ⟨p, u, np, rfl, r⟩
          · exact all1 S9 s9 ok9 racc9 (r.mono s9)
          · obtain ⟨ok10, s10⟩ := ok9.new (o := u) np
            exact all1 _ (s9.trans s10) ok10 (racc9.mono s10) (r _ (s9.trans s10) upd_same)
        · have e : j = (ys xi).length := by omega
          subst e
          rw [List.take_length] at racc9
          refine .inl ⟨(w1 _ H (s9.trans ok9.sH)).1 (by rw [List.length_map]; exact Nat.le_refl _), S9, M9, acc9, ((s3.trans s5).trans s6).trans s9, ?_, e79, ?_⟩
          · exact ok9.resl (wk_sl2 hix hv) (by rw [wipe_sub hv]; exact e2)
          · rw [htk]
            show Rds K S9 acc9 (fm2 c ys c1 el (xs.take i ++ [xi]))
            rw [fm2_app, fm2_one, if_pos hcx]
            exact racc9
    rcases wy x H' y with ⟨rfl, r⟩ | ⟨p, u, np, rfl, r⟩
    · exact all S2 s2 ok2 racc (r.mono s2)
    · obtain ⟨ok3, s3⟩ := ok2.new (o := u) np
      exact all _ (s2.trans s3) ok3 (racc.mono s3) (r _ (s2.trans s3) upd_same)
  · have e : i = xs.length := by omega
    subst e
    rw [List.take_length] at racc
    refine .inl ⟨(w _ H (s2.trans ok2.sH)).1 (by rw [List.length_map]; exact Nat.le_refl _), ?_⟩
    have ok3 := ok2.unw.mv len9
    refine k (.ref Dl) S2 H _ (s1.trans s2) ok3 ⟨Dl, acc, fun _ z => (by cases z), rfl, ?_, racc⟩
    have e9 : put (put M2 T (M2 L7)) L7 emp T = M2 L7 := by rw [put_ne (by decide), put_same]
    rw [e9, e7]
    exact one_same
end
section
variable {X : Cx} {Γ : En} {W : WX} {A A1 : Slots} {ifs ifs1 : List Expr} {elt tgt iter tgt1 iter1 : Expr} {scope : Scope} {pos spos : Pos} {y : Str}
theorem jlc2 {α β : Type} (xs : List α) (enc : α → D) (tg tg1 : Tg) (own : List (Str × Nat)) (vs1 : List Nat) (c : α → Bool) (ys : α → List β) (enc1 : β → D) (c1 : α → β → Bool) (el : α → β → D) (hN : X.N.Nodup) (hi : PI X tgt iter (JI X.K Γ A (xs.map enc) A1)) (ok : BlkOk X.N X.env.scope scope own)
    (hg : blkP X scope fun Y => PG Y tgt (tg.g X.K)) (hg1 : blkP X scope fun Y => PG Y tgt1 (tg1.g X.K)) (hl9 : A1.length ≤ 900) (hix : ∀ i ∈ tg.ix, i ∈ own.map (·.2)) (hix1 : ∀ i ∈ tg1.ix, i ∈ vs1) (hv : ∀ i ∈ vs1, i ∈ own.map (·.2)) (hf : ∀ x ∈ xs, tg.fit (enc x)) (hz : (fm2 c ys c1 el xs).length ≤ 100000)
    (hb : ∀ x ∈ xs, (∀ Γ, blkP X scope fun Y => PTs Y ifs (JT X.K Γ (tg.sl (wipeA A1 (own.map (·.2))) (enc x)) (c x) (tg.sl (wipeA A1 (own.map (·.2))) (enc x)))) ∧ (c x = true → (∀ Γ, blkP X scope fun Y => PI Y tgt1 iter1 (JI X.K Γ (tg.sl (wipeA A1 (own.map (·.2))) (enc x)) ((ys x).map enc1) (tg.sl (wipeA A1 (own.map (·.2))) (enc x)))) ∧
      ∀ y ∈ ys x, tg1.fit (enc1 y) ∧ (∀ Γ, blkP X scope fun Y => PTs Y ifs1 (JT X.K Γ (tg1.sl (wipeA (tg.sl (wipeA A1 (own.map (·.2))) (enc x)) vs1) (enc1 y)) (c1 x y) (tg1.sl (wipeA (tg.sl (wipeA A1 (own.map (·.2))) (enc x)) vs1) (enc1 y)))) ∧
        (c1 x y = true → ∀ Γ, blkP X scope fun Y => PE Y elt (JE X.K Γ (tg1.sl (wipeA (tg.sl (wipeA A1 (own.map (·.2))) (enc x)) vs1) (enc1 y)) (.sh (el x y)) (tg1.sl (wipeA (tg.sl (wipeA A1 (own.map (·.2))) (enc x)) vs1) (enc1 y))))))
    (hc : X.calm = true := by rfl) (hs : ∀ x, foldedSetIterable iter X.env x = pure x := by intro _; rfl) (hs1 : ∀ env x, foldedSetIterable iter1 env x = pure x := by intro _ _; rfl) :
    PE X (.ListComp elt [⟨tgt, iter, ifs, 0⟩, ⟨tgt1, iter1, ifs1, 0⟩] scope pos) (JE X.K Γ A (.ol none (fm2 c ys c1 el xs)) (wipeA A1 (own.map (·.2)))) :=
  peI (pe_lc2 (vs1 := vs1) hc hN hi ok hv hg (tt := fun σ H Q => ∃ u : TT, (blkP X scope fun Y => PTs Y ifs u) ∧ u σ H Q) (wi1 := fun σ H R => ∃ u : TI, (blkP X scope fun Y => PI Y tgt1 iter1 u) ∧ u σ H R) (tt1 := fun σ H Q => ∃ u : TT, (blkP X scope fun Y => PTs Y ifs1 u) ∧ u σ H Q) (te := fun σ H Q => ∃ u : TE, (blkP X scope fun Y => PE Y elt u) ∧ u σ H Q)
    (fun s H C cl fp => ⟨fun pins sh σ H Q I ⟨u, h1, h2⟩ => (h1 s _ C cl fp).run pins sh σ H Q I h2⟩) (fun s H C cl fp => ⟨fun pins sh σ H Q I ⟨u, h1, h2⟩ => (h1 s _ C cl fp).run pins sh σ H Q I h2⟩) hg1
    (fun s H C cl fp => ⟨fun pins sh σ H Q I ⟨u, h1, h2⟩ => (h1 s _ C cl fp).run pins sh σ H Q I h2⟩) (fun s H C cl fp => ⟨fun pins sh σ H Q I ⟨u, h1, h2⟩ => (h1 s _ C cl fp).run pins sh σ H Q I h2⟩) hs hs1)
    (lc2_read xs enc tg tg1 (own.map (·.2)) vs1 c ys enc1 c1 el hl9 hix hix1 hv hf hz hb)
theorem jsetLc2 {α β : Type} (n : Nat) {py : Pos} (xs : List α) (enc : α → D) (tg tg1 : Tg) (own : List (Str × Nat)) (vs1 : List Nat) (c : α → Bool) (ys : α → List β) (enc1 : β → D) (c1 : α → β → Bool) (el : α → β → D) (hN : X.N.Nodup) (hi : PI X tgt iter (JI X.K Γ A (xs.map enc) A1)) (ok : BlkOk X.N X.env.scope scope own)
    (hg : blkP X scope fun Y => PG Y tgt (tg.g X.K)) (hg1 : blkP X scope fun Y => PG Y tgt1 (tg1.g X.K)) (hl9 : A1.length ≤ 900) (hix : ∀ i ∈ tg.ix, i ∈ own.map (·.2)) (hix1 : ∀ i ∈ tg1.ix, i ∈ vs1) (hv : ∀ i ∈ vs1, i ∈ own.map (·.2)) (hf : ∀ x ∈ xs, tg.fit (enc x)) (hz : (fm2 c ys c1 el xs).length ≤ 100000)
    (hb : ∀ x ∈ xs, (∀ Γ, blkP X scope fun Y => PTs Y ifs (JT X.K Γ (tg.sl (wipeA A1 (own.map (·.2))) (enc x)) (c x) (tg.sl (wipeA A1 (own.map (·.2))) (enc x)))) ∧ (c x = true → (∀ Γ, blkP X scope fun Y => PI Y tgt1 iter1 (JI X.K Γ (tg.sl (wipeA A1 (own.map (·.2))) (enc x)) ((ys x).map enc1) (tg.sl (wipeA A1 (own.map (·.2))) (enc x)))) ∧
      ∀ y ∈ ys x, tg1.fit (enc1 y) ∧ (∀ Γ, blkP X scope fun Y => PTs Y ifs1 (JT X.K Γ (tg1.sl (wipeA (tg.sl (wipeA A1 (own.map (·.2))) (enc x)) vs1) (enc1 y)) (c1 x y) (tg1.sl (wipeA (tg.sl (wipeA A1 (own.map (·.2))) (enc x)) vs1) (enc1 y)))) ∧
        (c1 x y = true → ∀ Γ, blkP X scope fun Y => PE Y elt (JE X.K Γ (tg1.sl (wipeA (tg.sl (wipeA A1 (own.map (·.2))) (enc x)) vs1) (enc1 y)) (.sh (el x y)) (tg1.sl (wipeA (tg.sl (wipeA A1 (own.map (·.2))) (enc x)) vs1) (enc1 y)))))) (hn : n < A1.length)
    (hyl : X.env.scope.names.lookup y = some .local := by rfl) (hy : X.N[n]? = some y := by rfl) (hsw : swapsWith (.ListComp elt [⟨tgt, iter, ifs, 0⟩, ⟨tgt1, iter1, ifs1, 0⟩] scope pos) (some (.Name y py)) spos.line X.env = pure true := by rfl)
    (hc : X.calm = true := by rfl) (hs : ∀ x, foldedSetIterable iter X.env x = pure x := by intro _; rfl) (hs1 : ∀ env x, foldedSetIterable iter1 env x = pure x := by intro _ _; rfl) :
    PS X (.Assign [.Name y py] (.ListComp elt [⟨tgt, iter, ifs, 0⟩, ⟨tgt1, iter1, ifs1, 0⟩] scope pos) spos) (JS X.K Γ W A (.nx ((wipeA A1 (own.map (·.2))).set n (some (.ol none (fm2 c ys c1 el xs)))))) :=
  psI (ps_setLc2 (i := n) (vs1 := vs1) hc hN hy hyl hsw hi ok hv hg (tt := fun σ H Q => ∃ u : TT, (blkP X scope fun Y => PTs Y ifs u) ∧ u σ H Q) (wi1 := fun σ H R => ∃ u : TI, (blkP X scope fun Y => PI Y tgt1 iter1 u) ∧ u σ H R) (tt1 := fun σ H Q => ∃ u : TT, (blkP X scope fun Y => PTs Y ifs1 u) ∧ u σ H Q) (te := fun σ H Q => ∃ u : TE, (blkP X scope fun Y => PE Y elt u) ∧ u σ H Q)
    (fun s H C cl fp => ⟨fun pins sh σ H Q I ⟨u, h1, h2⟩ => (h1 s _ C cl fp).run pins sh σ H Q I h2⟩) (fun s H C cl fp => ⟨fun pins sh σ H Q I ⟨u, h1, h2⟩ => (h1 s _ C cl fp).run pins sh σ H Q I h2⟩) hg1
    (fun s H C cl fp => ⟨fun pins sh σ H Q I ⟨u, h1, h2⟩ => (h1 s _ C cl fp).run pins sh σ H Q I h2⟩) (fun s H C cl fp => ⟨fun pins sh σ H Q I ⟨u, h1, h2⟩ => (h1 s _ C cl fp).run pins sh σ H Q I h2⟩) hs hs1)
    fun D σ H ⟨S, Ms, ok0, k⟩ => by
    have q := lc2_read (P := blkP X scope) (K := X.K) (Γ := Γ) (A := A) (elt := elt) (ifs := ifs) (ifs1 := ifs1) (tgt1 := tgt1) (iter1 := iter1) xs enc tg tg1 (own.map fun p => p.2) vs1 c ys enc1 c1 el hl9 hix hix1 hv hf hz hb
    exact q σ H (fun x H1 => D.nx (σ.set n (some x)) H1) ⟨S, Ms, ok0, fun v S1 H1 M1 s1 ok1 r1 => k _ S1 H1 _ s1 (ok1.store r1 (by rw [wipeA_len]; exact hn) (by rw [wipeA_len]; exact Nat.le_trans hl9 (by decide)))⟩
end
end J
namespace J
open PySem L2
/-! ### a def with *rest -/
def spStar (n : Nat) (sp : Sp) : Sp := fun vs H Q E => ∃ ws rest, vs = ws ++ rest ∧ ws.length = n ∧ rest.length ≤ sizeLine ∧ ∀ p, H p = Option.none → sp (ws ++ [V.ref p]) (upd H p (.tup rest)) Q E
section
variable {P : Program} {w : World} {K : PySem.W.Frag} {mg : Str → Option Value} {base : Heap}
theorem jdefS {ι : Type} {x qual pv : Str} {st : Stmt} {f : Addr} {fd : FuncData} {N ps : List Str} {k : Nat} (F : Fun K x qual st f fd) (Sc : FnScope N (ps ++ [pv]) (defScope st))
    (hbind : ∀ (kV doc pm : Value) (an : Option Addr) (cdv ct : Value) (us rest : List Value), us.length = ps.length → bindArgs (PySem.W.fnOf x qual (defArgs st) (defBody st) (defScope st) .none kV doc pm an cdv ct) ⟨us ++ rest, []⟩ = (newTuple rest >>= fun t => pure (ps.zip us ++ [(pv, t)])))
    (Pre : ι → Prop) (as : ι → List Sl) (out : ι → Out) (o : ι → Except Er (Sl × Slots)) (ho : ∀ i, Pre i → fin (as i) (out i) = o i) (hb : ∀ i A, out i ≠ .bk A) (hc : ∀ i A, out i ≠ .ct A)
    (body : ∀ (i : ι), Pre i → ∀ (cdv : Value) (A : Around) (outer : List Env) (s : Shared) (H : Hp) (E : XK) (Γ : En), Room k (A.deeper (PyProof.Rows.envOfC qual (defScope st) s.heap.objs.size f cdv)) →
      Takes (cxOf (L2.CX P w) P w K mg base N qual (defScope st) f cdv A outer s H E) (fun cls d _ H => E cls d H) →
      PSs (cxOf (L2.CX P w) P w K mg base N qual (defScope st) f cdv A outer s H E) (defBody st) (JS K Γ (fun cls d _ H => E cls d H) (slots0 N (as i)) (out i))) :
    FnR P w K mg base (L2.CX P w) (k + 1) f (spStar ps.length (spF K Pre as o)) := by
  obtain ⟨oc, od, kV, doc, pm, an, cdv, ct, osl, rfl, lk, hcd⟩ := F.ex
  refine StX.fn_star (ps := ps) (pv := pv) lk hcd Sc StX.cxUp (hbind kV doc pm an cdv ct) (fun A outer s H vs Q E hr h => ?_)
  obtain ⟨i, hp, S, Ms, ok, q⟩ := h
  refine ⟨_, body i hp cdv A outer s H E ⟨S, H, ownOf Ms⟩ hr (takes_of rfl rfl rfl rfl), S, Ms, ok_start ok, ?_⟩
  rw [← ho i hp] at q
  exact wish_ends rfl ok q (hb i) (hc i)
end
section
variable {X : Cx} {Γ : En} {W : WX} {A A1 A2 A' B B1 B2 : Slots} {a b e : Expr} {es : List Expr} {p pos apos : Pos} {d d' : D} {ds dds rs : List D} {sl r : Sl} {x m : Str} {f C : Addr} {fd : FuncData} {ps : List Str} {sp : Sp} {k n : Nat} {er : Er}
theorem pe_callR {CX : CXT} {E : XK} {t : TA} (F : FnR X.prog X.w X.K X.mg X.base CX k f sp) (hr : Room k X.A) (hg : Gl X x) (hm : X.mg x = some (.ref f)) (hk : PySem.W.keepIn X.K (.ref f) = true) (hx : Passes CX X E)
    (ha : PA X (e :: es) t) (hdb : (x == ("__debug__" : Str)) = false := by decide) (he : starEach (e :: es) X.env = (false, eval e X.env) :: starEach es X.env := by rfl) (hpl : (backTo pos (starEach es X.env)).any (·.1) = false := by rfl) :
    PE X (.Call (.Name x p) (e :: es) [] pos) (fun σ H Q => t σ H fun vs H1 => sp vs H1 Q E) := by
  refine ⟨fun pins s σ H Q I h => ?_⟩
  refine wpAny_Call_Name_kw (ld_glob I hg hm ?_ hdb)
  refine PySem.W.callWith_K (h₀ := X.base) I.ok.mod.kin hk (thn (ha.run pos pins s σ H _ I h) fun us s1 ⟨vs, H1, I1, r, q⟩ => ⟨I1.kIn, ?_⟩) he hpl
  exact wpAny_call (run_fnR F hr hx I1 r q)
theorem rds_split {K : PySem.W.Frag} {S : Hp} : ∀ {ds rs : List D} {vs : List V}, Rds K S vs (ds ++ rs) → ∃ v1 v2, vs = v1 ++ v2 ∧ Rds K S v1 ds ∧ Rds K S v2 rs
  | [], rs, vs, h => ⟨[], vs, rfl, .nil, h⟩
  | d :: ds, rs, _, .cons h r => by
    obtain ⟨v1, v2, rfl, h1, h2⟩ := rds_split (ds := ds) r
    exact ⟨_ :: v1, v2, rfl, .cons h h1, h2⟩
/-- f(.., *..), all data; ds the named arguments, rs the rest -/
theorem jcallS (ds rs : List D) (F : FnR X.prog X.w X.K X.mg X.base (L2.CX X.prog X.w) k f (spStar n sp)) (hr : Room k X.A) (hm : X.mg x = some (.ref f)) (hk : PySem.W.keepIn X.K (.ref f) = true) (ha : PA X (e :: es) (JA X.K Γ A (ds ++ rs) A1)) (hn : ds.length = n) (hz : rs.length ≤ 100000)
    (hs : ∀ vs H Q E, spJ X.K ((ds ++ [D.tup rs]).map Sl.sh) (.ok (r, B)) vs H Q E → sp vs H Q E) (hT : A1.length ≤ 900 := by exact Nat.le_of_ble_eq_true rfl) (hg : Gl X x := by rfl) (hdb : (x == ("__debug__" : Str)) = false := by decide)
    (he : starEach (e :: es) X.env = (false, eval e X.env) :: starEach es X.env := by rfl) (hpl : (backTo pos (starEach es X.env)).any (·.1) = false := by rfl) : PE X (.Call (.Name x p) (e :: es) [] pos) (JE X.K Γ A r A1) :=
  peI (pe_callR F hr hg hm hk passL ha hdb he hpl) fun σ H Q ⟨S, Ms, ok, kq⟩ => ⟨S, Ms, ok, fun vs S1 H1 M1 s1 ok1 r1 => by
    obtain ⟨v1, v2, rfl, h1, h2⟩ := rds_split r1
    refine ⟨v1, v2, rfl, by rw [h1.len]; exact hn, by rw [h2.len]; exact Nat.le_trans hz (by decide), fun q nq => ?_⟩
    obtain ⟨ok2, s2⟩ := ok1.new (o := .tup v2) nq
    exact meet ok2 ((h1.mono s2).app (.one (.tup (SqT.of upd_same) (h2.mono s2)))) hs hT fun v S' H' M' s' ok' rr => kq v S' H' M' ((s1.trans s2).trans s') ok' rr⟩
end
end J
namespace J
open PySem L2
def Out.fine : Out → Bool
  | .bk _ => false
  | .ct _ => false
  | _ => true
theorem fine_b {o : Out} (h : o.fine = true) : (∀ A, o ≠ .bk A) ∧ ∀ A, o ≠ .ct A := ⟨fun A e => (by subst e; cases h), fun A e => (by subst e; cases h)⟩
theorem Out.fine_ite {c : Bool} {a b : Out} (h1 : a.fine = true) (h2 : b.fine = true) : (if c then a else b).fine = true := by cases c <;> assumption
theorem fin_ite {c : Bool} {as : List Sl} {a b : Out} : fin as (if c then a else b) = if c then fin as a else fin as b := by cases c <;> rfl
section
variable {P : Program} {w : World} {K : PySem.W.Frag} {mg : Str → Option Value} {base : Heap}
/-- THE RULE for a def; the body's end is found -/
theorem jd {ι : Type} {x qual : Str} {st : Stmt} {f : Addr} {fd : FuncData} {N ps : List Str} {k : Nat} (F : Fun K x qual st f fd) (Sc : FnScope N ps (defScope st)) (Pre : ι → Prop) (as : ι → List Sl) (o : ι → Except Er (Sl × Slots)) (hl : ∀ i, (as i).length = ps.length)
    (body : ∀ (i : ι), Pre i → ∀ (cdv : Value) (A : Around) (outer : List Env) (s : Shared) (H : Hp) (E : XK) (Γ : En), Room k (A.deeper (PyProof.Rows.envOfC qual (defScope st) s.heap.objs.size f cdv)) →
      Takes (cxOf (L2.CX P w) P w K mg base N qual (defScope st) f cdv A outer s H E) (fun cls d _ H => E cls d H) →
      ∃ out, PSs (cxOf (L2.CX P w) P w K mg base N qual (defScope st) f cdv A outer s H E) (defBody st) (JS K Γ (fun cls d _ H => E cls d H) (slots0 N (as i)) out) ∧ fin (as i) out = o i ∧ out.fine = true) :
    FnOk P w K mg base (L2.CX P w) (k + 1) f fd ps (spF K Pre as o) := by
  refine F.okX Sc (fun vs H Q E h => ?_) (fun cdv A outer s H vs Q E hr h => ?_)
  · obtain ⟨i, _, S, Ms, ok, _⟩ := h
    have := ok.len
    rw [List.length_map, List.length_map] at this
    rw [this, hl i]
  · obtain ⟨i, hp, S, Ms, ok, q⟩ := h
    obtain ⟨out, hb, ho, hf⟩ := body i hp cdv A outer s H E ⟨S, H, ownOf Ms⟩ hr (takes_of rfl rfl rfl rfl)
    refine ⟨_, hb, S, Ms, ok_start ok, ?_⟩
    rw [← ho] at q
    exact wish_ends rfl ok q (fine_b hf).1 (fine_b hf).2
theorem jdS {ι : Type} {x qual pv : Str} {st : Stmt} {f : Addr} {fd : FuncData} {N ps : List Str} {k : Nat} (F : Fun K x qual st f fd) (Sc : FnScope N (ps ++ [pv]) (defScope st))
    (hbind : ∀ (kV doc pm : Value) (an : Option Addr) (cdv ct : Value) (us rest : List Value), us.length = ps.length → bindArgs (PySem.W.fnOf x qual (defArgs st) (defBody st) (defScope st) .none kV doc pm an cdv ct) ⟨us ++ rest, []⟩ = (newTuple rest >>= fun t => pure (ps.zip us ++ [(pv, t)])))
    (Pre : ι → Prop) (as : ι → List Sl) (o : ι → Except Er (Sl × Slots))
    (body : ∀ (i : ι), Pre i → ∀ (cdv : Value) (A : Around) (outer : List Env) (s : Shared) (H : Hp) (E : XK) (Γ : En), Room k (A.deeper (PyProof.Rows.envOfC qual (defScope st) s.heap.objs.size f cdv)) →
      Takes (cxOf (L2.CX P w) P w K mg base N qual (defScope st) f cdv A outer s H E) (fun cls d _ H => E cls d H) →
      ∃ out, PSs (cxOf (L2.CX P w) P w K mg base N qual (defScope st) f cdv A outer s H E) (defBody st) (JS K Γ (fun cls d _ H => E cls d H) (slots0 N (as i)) out) ∧ fin (as i) out = o i ∧ out.fine = true) :
    FnR P w K mg base (L2.CX P w) (k + 1) f (spStar ps.length (spF K Pre as o)) := by
  obtain ⟨oc, od, kV, doc, pm, an, cdv, ct, osl, rfl, lk, hcd⟩ := F.ex
  refine StX.fn_star (ps := ps) (pv := pv) lk hcd Sc StX.cxUp (hbind kV doc pm an cdv ct) (fun A outer s H vs Q E hr h => ?_)
  obtain ⟨i, hp, S, Ms, ok, q⟩ := h
  obtain ⟨out, hb, ho, hf⟩ := body i hp cdv A outer s H E ⟨S, H, ownOf Ms⟩ hr (takes_of rfl rfl rfl rfl)
  refine ⟨_, hb, S, Ms, ok_start ok, ?_⟩
  rw [← ho] at q
  exact wish_ends rfl ok q (fine_b hf).1 (fine_b hf).2
end
/-- a promise of the family is met -/
theorem spF_at {ι : Type} {K : PySem.W.Frag} {Pre : ι → Prop} {as : ι → List Sl} {o : ι → Except Er (Sl × Slots)} (i : ι) (h : Pre i) {bs : List Sl} {p : Except Er (Sl × Slots)} (e1 : bs = as i) (e2 : p = o i) : ∀ vs H Q E, spJ K bs p vs H Q E → spF K Pre as o vs H Q E :=
  fun vs H Q E q => ⟨i, h, by rw [← e1, ← e2]; exact q⟩
section
variable {X : Cx} {Γ : En} {A A1 A2 : Slots} {a b : Expr} {pos : Pos} {i j : Int}
theorem jadd (ha : PE X a (JE X.K Γ A (.sh (.int i)) A1)) (hb : PE X b (JE X.K Γ A1 (.sh (.int j)) A2)) : PE X (.BinOp a .Add b pos) (JE X.K Γ A (.sh (.int (i + j))) A2) := ji0 (g := fun i j => i + j) op_add ha hb
theorem jsub (ha : PE X a (JE X.K Γ A (.sh (.int i)) A1)) (hb : PE X b (JE X.K Γ A1 (.sh (.int j)) A2)) : PE X (.BinOp a .Sub b pos) (JE X.K Γ A (.sh (.int (i - j))) A2) := ji0 (g := fun i j => i - j) op_sub ha hb
theorem jand (ha : PE X a (JE X.K Γ A (.sh (.int i)) A1)) (hb : PE X b (JE X.K Γ A1 (.sh (.int j)) A2)) : PE X (.BinOp a .BitAnd b pos) (JE X.K Γ A (.sh (.int (Builtin.bitAnd i j))) A2) := ji0 (g := fun i j => Builtin.bitAnd i j) op_and ha hb
theorem jor (ha : PE X a (JE X.K Γ A (.sh (.int i)) A1)) (hb : PE X b (JE X.K Γ A1 (.sh (.int j)) A2)) : PE X (.BinOp a .BitOr b pos) (JE X.K Γ A (.sh (.int (Builtin.bitOr i j))) A2) := ji0 (g := fun i j => Builtin.bitOr i j) op_or ha hb
theorem jxor (ha : PE X a (JE X.K Γ A (.sh (.int i)) A1)) (hb : PE X b (JE X.K Γ A1 (.sh (.int j)) A2)) : PE X (.BinOp a .BitXor b pos) (JE X.K Γ A (.sh (.int (Builtin.bitXor i j))) A2) := ji0 (g := fun i j => Builtin.bitXor i j) op_xor ha hb
theorem jmul (ha : PE X a (JE X.K Γ A (.sh (.int i)) A1)) (hb : PE X b (JE X.K Γ A1 (.sh (.int j)) A2)) (hc : CMul i j) : PE X (.BinOp a .Mult b pos) (JE X.K Γ A (.sh (.int (i * j))) A2) := ji (g := fun i j => i * j) op_mul ha hb hc
theorem jshr (ha : PE X a (JE X.K Γ A (.sh (.int i)) A1)) (hb : PE X b (JE X.K Γ A1 (.sh (.int j)) A2)) (hc : 0 ≤ j) : PE X (.BinOp a .RShift b pos) (JE X.K Γ A (.sh (.int (i / 2 ^ j.toNat))) A2) := ji (g := fun i j => i / 2 ^ j.toNat) op_shr ha hb hc
theorem jshl (ha : PE X a (JE X.K Γ A (.sh (.int i)) A1)) (hb : PE X b (JE X.K Γ A1 (.sh (.int j)) A2)) (hc : CPow i j) : PE X (.BinOp a .LShift b pos) (JE X.K Γ A (.sh (.int (i * 2 ^ j.toNat))) A2) := ji (g := fun i j => i * 2 ^ j.toNat) op_shl ha hb hc
theorem jmod (ha : PE X a (JE X.K Γ A (.sh (.int i)) A1)) (hb : PE X b (JE X.K Γ A1 (.sh (.int j)) A2)) (hc : 0 < j) : PE X (.BinOp a .Mod b pos) (JE X.K Γ A (.sh (.int (i % j))) A2) := ji (g := fun i j => i % j) op_mod ha hb hc
theorem jfdiv (ha : PE X a (JE X.K Γ A (.sh (.int i)) A1)) (hb : PE X b (JE X.K Γ A1 (.sh (.int j)) A2)) (hc : CDiv i j) : PE X (.BinOp a .FloorDiv b pos) (JE X.K Γ A (.sh (.int (i / j))) A2) := ji (g := fun i j => i / j) op_fdiv ha hb hc
theorem jpow (ha : PE X a (JE X.K Γ A (.sh (.int i)) A1)) (hb : PE X b (JE X.K Γ A1 (.sh (.int j)) A2)) (hc : CPow i j) : PE X (.BinOp a .Pow b pos) (JE X.K Γ A (.sh (.int (i ^ j.toNat))) A2) := ji (g := fun i j => i ^ j.toNat) op_pow ha hb hc
theorem jfdivW (ha : PE X a (JE X.K Γ A (.sh (.int i)) A1)) (hb : PE X b (JE X.K Γ A1 (.sh (.int j)) A2)) (hc : CDivW i j) : PE X (.BinOp a .FloorDiv b pos) (JE X.K Γ A (.sh (.int (i / j))) A2) := ji (g := fun i j => i / j) op_fdivW ha hb hc
theorem jmulX (ha : PE X a (JE X.K Γ A (.sh (.int i)) A1)) (hb : PE X b (JE X.K Γ A1 (.sh (.int j)) A2)) (hc : CMulX i j) : PE X (.BinOp a .Mult b pos) (JE X.K Γ A (.sh (.int (i * j))) A2) := ji (g := fun i j => i * j) op_mulX ha hb hc
theorem jmulW (ha : PE X a (JE X.K Γ A (.sh (.int i)) A1)) (hb : PE X b (JE X.K Γ A1 (.sh (.int j)) A2)) (hc : CMulW i j) : PE X (.BinOp a .Mult b pos) (JE X.K Γ A (.sh (.int (i * j))) A2) := ji (g := fun i j => i * j) op_mulW ha hb hc
theorem jlt (ha : PE X a (JE X.K Γ A (.sh (.int i)) A1)) (hb : PE X b (JE X.K Γ A1 (.sh (.int j)) A2)) : PE X (.Compare a [.Lt] [b] pos) (JE X.K Γ A (.sh (.bl (decide (i < j)))) A2) := jc0 (g := fun i j => decide (i < j)) op_lt ha hb (nomark _)
theorem jtlt (ha : PE X a (JE X.K Γ A (.sh (.int i)) A1)) (hb : PE X b (JE X.K Γ A1 (.sh (.int j)) A2)) : PT X (.Compare a [.Lt] [b] pos) (JT X.K Γ A (decide (i < j)) A2) := jt0 (g := fun i j => decide (i < j)) op_lt ha hb (nomark _)
theorem jle (ha : PE X a (JE X.K Γ A (.sh (.int i)) A1)) (hb : PE X b (JE X.K Γ A1 (.sh (.int j)) A2)) : PE X (.Compare a [.LtE] [b] pos) (JE X.K Γ A (.sh (.bl (decide (i ≤ j)))) A2) := jc0 (g := fun i j => decide (i ≤ j)) op_le ha hb (nomark _)
theorem jtle (ha : PE X a (JE X.K Γ A (.sh (.int i)) A1)) (hb : PE X b (JE X.K Γ A1 (.sh (.int j)) A2)) : PT X (.Compare a [.LtE] [b] pos) (JT X.K Γ A (decide (i ≤ j)) A2) := jt0 (g := fun i j => decide (i ≤ j)) op_le ha hb (nomark _)
theorem jgt (ha : PE X a (JE X.K Γ A (.sh (.int i)) A1)) (hb : PE X b (JE X.K Γ A1 (.sh (.int j)) A2)) : PE X (.Compare a [.Gt] [b] pos) (JE X.K Γ A (.sh (.bl (decide (j < i)))) A2) := jc0 (g := fun i j => decide (j < i)) op_gt ha hb (nomark _)
theorem jtgt (ha : PE X a (JE X.K Γ A (.sh (.int i)) A1)) (hb : PE X b (JE X.K Γ A1 (.sh (.int j)) A2)) : PT X (.Compare a [.Gt] [b] pos) (JT X.K Γ A (decide (j < i)) A2) := jt0 (g := fun i j => decide (j < i)) op_gt ha hb (nomark _)
theorem jge (ha : PE X a (JE X.K Γ A (.sh (.int i)) A1)) (hb : PE X b (JE X.K Γ A1 (.sh (.int j)) A2)) : PE X (.Compare a [.GtE] [b] pos) (JE X.K Γ A (.sh (.bl (decide (j ≤ i)))) A2) := jc0 (g := fun i j => decide (j ≤ i)) op_ge ha hb (nomark _)
theorem jtge (ha : PE X a (JE X.K Γ A (.sh (.int i)) A1)) (hb : PE X b (JE X.K Γ A1 (.sh (.int j)) A2)) : PT X (.Compare a [.GtE] [b] pos) (JT X.K Γ A (decide (j ≤ i)) A2) := jt0 (g := fun i j => decide (j ≤ i)) op_ge ha hb (nomark _)
end
section
variable {X : Cx} {Γ : En} {A A1 : Slots} {c : Bool} {e : Expr}
theorem jts0 : PTs X [] (JT X.K Γ A true A) := ⟨fun pins s σ H Q I ⟨S, Ms, ok, k⟩ => pts_nil.run pins s σ H Q I (k S H Ms (Same.refl S) ok)⟩
theorem jts1 (h : PT X e (JT X.K Γ A c A1)) : PTs X [e] (JT X.K Γ A c A1) := pts_one h
end
end J
namespace J
open PySem L2
theorem lcs_cons {α τ : Type} {f : τ → α → Option D × τ} {x : α} {xs : List α} {s : τ} : lcs f (x :: xs) s = match f s x with | (some d, s') => (d :: (lcs f xs s').1, (lcs f xs s').2) | (none, s') => lcs f xs s' := rfl
theorem lcs_inn {α : Type} (c : α → Bool) (el : α → D) : ∀ (xs : List α), lcs (τ := Unit) (fun _ x => (if c x = true then some (el x) else none, ())) xs () = (inn c el xs, ())
  | [] => rfl
  | x :: xs => by
    have ih := lcs_inn c el xs
    rw [lcs_cons]
    unfold inn at ih ⊢
    cases h : c x with
    | true =>
      rw [List.filter_cons, if_pos h, if_pos rfl]
      show (el x :: (lcs _ xs ()).1, (lcs _ xs ()).2) = _
      rw [ih]; rfl
    | false =>
      rw [List.filter_cons, if_neg (c := c x = true) (by rw [h]; decide), if_neg (by decide)]
      exact ih
theorem mem_rng {lo x : Int} {n : Nat} : x ∈ rng lo n ↔ lo ≤ x ∧ x < lo + n := by
  unfold rng
  rw [List.mem_map]
  constructor
  · rintro ⟨k, hk, rfl⟩
    rw [List.mem_range] at hk
    omega
  · rintro ⟨h1, h2⟩
    exact ⟨(x - lo).toNat, by rw [List.mem_range]; omega, by omega⟩
theorem rng_len (lo : Int) (n : Nat) : (rng lo n).length = n := by unfold rng; rw [List.length_map, List.length_range]
theorem rng_at {lo : Int} {n i : Nat} (h : i < n) : (rng lo n)[i]? = some (lo + i) := by
  unfold rng
  rw [List.getElem?_map, List.getElem?_range h]; rfl
section
variable {X : Cx} {Γ : En} {W : WX} {A A1 : Slots} {ifs : List Expr} {elt tgt iter : Expr} {scope : Scope} {pos spos : Pos} {y : Str}
theorem lcT_pure {α : Type} {P : (Cx → Prop) → Prop} {K : PySem.W.Frag} {tg : Tg} {vs : List Nat} {enc : α → D} {c : α → Bool} {el : α → D} {x : α} (hl9 : A1.length ≤ 900) (hix : ∀ i ∈ tg.ix, i ∈ vs) (h1 : ∀ Γ, P fun Y => PTs Y ifs (JT K Γ (tg.sl (wipeA A1 vs) (enc x)) (c x) (tg.sl (wipeA A1 vs) (enc x))))
    (h2 : c x = true → ∀ Γ, P fun Y => PE Y elt (JE K Γ (tg.sl (wipeA A1 vs) (enc x)) (.sh (el x)) (tg.sl (wipeA A1 vs) (enc x)))) : LcT (τ := Unit) P K (fun _ => A1) vs ifs elt (tg.sl (wipeA A1 vs) (enc x)) (if c x = true then some (el x) else none, ()) := by
  have hl : (tg.sl (wipeA A1 vs) (enc x)).length ≤ 900 := by rw [sl_keep.1, wipeA_len]; exact hl9
  exact ⟨c x, _, h1, hl, fun h => ⟨by rw [h]; rfl, wk_sl hix⟩, fun h => ⟨el x, _, h2 h, hl, by rw [h]; rfl, wk_sl hix⟩⟩
/-- [elt for tgt in iter if ..], the slots stay -/
theorem jlcP {α : Type} (xs : List α) (enc : α → D) (tg : Tg) (own : List (Str × Nat)) (c : α → Bool) (el : α → D) (hN : X.N.Nodup) (hi : PI X tgt iter (JI X.K Γ A (xs.map enc) A1)) (ok : BlkOk X.N X.env.scope scope own) (hg : blkP X scope fun Y => PG Y tgt (tg.g X.K))
    (hf : ∀ x ∈ xs, tg.fit (enc x)) (hz : xs.length ≤ 100000) (hb : ∀ x ∈ xs, (∀ Γ, blkP X scope fun Y => PTs Y ifs (JT X.K Γ (tg.sl (wipeA A1 (own.map (·.2))) (enc x)) (c x) (tg.sl (wipeA A1 (own.map (·.2))) (enc x)))) ∧ (c x = true → ∀ Γ, blkP X scope fun Y => PE Y elt (JE X.K Γ (tg.sl (wipeA A1 (own.map (·.2))) (enc x)) (.sh (el x)) (tg.sl (wipeA A1 (own.map (·.2))) (enc x)))))
    (hl9 : A1.length ≤ 900 := by exact Nat.le_of_ble_eq_true rfl) (hix : ∀ i ∈ tg.ix, i ∈ own.map (·.2) := by decide) (hc : X.calm = true := by rfl) (hs : ∀ x, foldedSetIterable iter X.env x = pure x := by intro _; rfl) :
    PE X (.ListComp elt [⟨tgt, iter, ifs, 0⟩] scope pos) (JE X.K Γ A (.ol none (inn c el xs)) (wipeA A1 (own.map (·.2)))) := by
  have q := jlc (pos := pos) (elt := elt) (ifs := ifs) xs enc tg own (fun _ : Unit => A1) (fun _ x => (if c x = true then some (el x) else none, ())) () hN hi (Wk.refl _) ok hg (fun _ => hl9) hix hf hz (fun pre x post s h1 _ => by
    obtain ⟨g1, g2⟩ := hb x (by rw [h1]; simp)
    exact lcT_pure (P := blkP X scope) (K := X.K) hl9 hix g1 g2) hc hs
  rw [lcs_inn] at q
  exact q
theorem jsetLcP {α : Type} (n : Nat) {py : Pos} (xs : List α) (enc : α → D) (tg : Tg) (own : List (Str × Nat)) (c : α → Bool) (el : α → D) (hN : X.N.Nodup) (hi : PI X tgt iter (JI X.K Γ A (xs.map enc) A1)) (ok : BlkOk X.N X.env.scope scope own) (hg : blkP X scope fun Y => PG Y tgt (tg.g X.K))
    (hf : ∀ x ∈ xs, tg.fit (enc x)) (hz : xs.length ≤ 100000) (hb : ∀ x ∈ xs, (∀ Γ, blkP X scope fun Y => PTs Y ifs (JT X.K Γ (tg.sl (wipeA A1 (own.map (·.2))) (enc x)) (c x) (tg.sl (wipeA A1 (own.map (·.2))) (enc x)))) ∧ (c x = true → ∀ Γ, blkP X scope fun Y => PE Y elt (JE X.K Γ (tg.sl (wipeA A1 (own.map (·.2))) (enc x)) (.sh (el x)) (tg.sl (wipeA A1 (own.map (·.2))) (enc x)))))
    (hn : n < A1.length := by exact Nat.le_of_ble_eq_true rfl) (hl9 : A1.length ≤ 900 := by exact Nat.le_of_ble_eq_true rfl) (hix : ∀ i ∈ tg.ix, i ∈ own.map (·.2) := by decide)
    (hyl : X.env.scope.names.lookup y = some .local := by rfl) (hy : X.N[n]? = some y := by rfl) (hsw : swapsWith (.ListComp elt [⟨tgt, iter, ifs, 0⟩] scope pos) (some (.Name y py)) spos.line X.env = pure true := by rfl) (hc : X.calm = true := by rfl) (hs : ∀ x, foldedSetIterable iter X.env x = pure x := by intro _; rfl) :
    PS X (.Assign [.Name y py] (.ListComp elt [⟨tgt, iter, ifs, 0⟩] scope pos) spos) (JS X.K Γ W A (.nx ((wipeA A1 (own.map (·.2))).set n (some (.ol none (inn c el xs)))))) := by
  have q := jsetLc (W := W) (py := py) (spos := spos) (pos := pos) (elt := elt) (ifs := ifs) n xs enc tg own (fun _ : Unit => A1) (fun _ x => (if c x = true then some (el x) else none, ())) () hN hi (Wk.refl _) ok hg (fun _ => hl9) hix hf hz (fun pre x post s h1 _ => by
    obtain ⟨g1, g2⟩ := hb x (by rw [h1]; simp)
    exact lcT_pure (P := blkP X scope) (K := X.K) hl9 hix g1 g2) hn hyl hy hsw hc hs
  rw [lcs_inn] at q
  exact q
end
/-- the items with their places -/
def ix {α : Type} (l : List α) : List (Int × α) := (List.range l.length).zipWith (fun (i : Nat) (x : α) => ((i : Int), x)) l
theorem enm_ix {α : Type} (g : α → D) (l : List α) : enm (l.map g) = (ix l).map fun t => D.tup [.int t.1, g t.2] := by
  unfold enm ix
  rw [List.length_map, List.zipWith_map_right, List.map_zipWith]
theorem ix_len {α : Type} (l : List α) : (ix l).length = l.length := by unfold ix; simp
theorem ix_at {α : Type} {l : List α} {n : Nat} : (ix l)[n]? = (l[n]?).map fun x => ((n : Int), x) := by
  unfold ix
  rw [List.getElem?_zipWith]
  cases q : l[n]? with
  | none => cases (List.range l.length)[n]? <;> rfl
  | some x =>
    have hi : n < l.length := (List.getElem?_eq_some_iff.mp q).1
    rw [List.getElem?_range hi]; rfl
theorem ix_mem {α : Type} {l : List α} {t : Int × α} (h : t ∈ ix l) : ∃ n : Nat, t.1 = n ∧ l[n]? = some t.2 := by
  obtain ⟨n, hn⟩ := List.mem_iff_getElem?.mp h
  rw [ix_at] at hn
  cases q : l[n]? with
  | none => rw [q] at hn; cases hn
  | some x => rw [q] at hn; cases hn; exact ⟨n, rfl, q⟩
theorem ix_in {α : Type} {l : List α} {t : Int × α} (h : t ∈ ix l) : t.2 ∈ l := by
  obtain ⟨n, _, h⟩ := ix_mem h
  exact List.mem_of_getElem? h
theorem inn_true {β : Type} (el : β → D) (l : List β) : inn (fun _ => true) el l = l.map el := by unfold inn; rw [List.filter_eq_self.mpr (fun _ _ => rfl)]
section
variable {X : Cx} {Γ : En} {A A1 : Slots} {e : Expr} {p pos : Pos}
theorem jieM {α : Type} (g : α → D) (l : List α) {elts : List Expr} {kk : Nat} {tpos : Pos} (h : PA X [e] (JA X.K Γ A [.lst (l.map g)] A1)) (hm : X.mg "enumerate" = none) (hg : Gl X "enumerate" := by rfl) (hs : starEach [e] X.env = [(false, eval e X.env)] := by rfl) :
    PI X (.Tuple elts kk tpos) (.Call (.Name "enumerate" p) [e] [] pos) (JI X.K Γ A ((ix l).map fun t => D.tup [.int t.1, g t.2]) A1) := by
  rw [← enm_ix]; exact jie h hm hg hs
theorem jietM {α : Type} (g : α → D) (l : List α) {elts : List Expr} {kk : Nat} {tpos : Pos} (h : PA X [e] (JA X.K Γ A [.tup (l.map g)] A1)) (hm : X.mg "enumerate" = none) (hg : Gl X "enumerate" := by rfl) (hs : starEach [e] X.env = [(false, eval e X.env)] := by rfl) :
    PI X (.Tuple elts kk tpos) (.Call (.Name "enumerate" p) [e] [] pos) (JI X.K Γ A ((ix l).map fun t => D.tup [.int t.1, g t.2]) A1) := by
  rw [← enm_ix]; exact jiet h hm hg hs
end
/-- the item at i of a list, 0 <= i < its length -/
theorem atI_map {α : Type} {g : α → D} {l : List α} {i : Int} {x : α} (h0 : 0 ≤ i) (h : l[i.toNat]? = some x) : atI (l.map g) i = some (g x) := by
  have hl := (List.getElem?_eq_some_iff.mp h).1
  unfold atI ixN
  rw [List.length_map, if_pos h0, if_pos (show i < (l.length : Int) by omega), Option.bind_some, List.getElem?_map, h]; rfl
def gI (l : List Int) (i : Int) : Int := l.getD i.toNat 0
theorem gI_at {l : List Int} {i : Int} (h0 : 0 ≤ i) (h : i < l.length) : l[i.toNat]? = some (gI l i) := by
  unfold gI
  have : i.toNat < l.length := by omega
  rw [List.getD_eq_getElem?_getD, List.getElem?_eq_getElem this]; rfl
theorem atI_int {l : List Int} {i : Int} (h0 : 0 ≤ i) (h : i < l.length) : atI (l.map D.int) i = some (D.int (gI l i)) := atI_map h0 (gI_at h0 h)
section
variable {X : Cx} {Γ : En} {W : WX} {A A1 B : Slots} {ifs : List Expr} {elt tgt iter a b t : Expr} {scope : Scope} {pos spos : Pos} {y : Str}
theorem jIfI {c : Bool} {i j : Int} (ht : PT X t (JT X.K Γ A c A1)) (ha : c = true → PE X a (JE X.K Γ A1 (.sh (.int i)) B)) (hb : c = false → PE X b (JE X.K Γ A1 (.sh (.int j)) B)) : PE X (.IfExp t a b pos) (JE X.K Γ A (.sh (.int (if c = true then i else j))) B) := by
  have q := jIf (pos := pos) ht ha hb
  cases c <;> exact q
/-- .. the list told -/
theorem jlcQ {α : Type} (xs : List α) (enc : α → D) (tg : Tg) (own : List (Str × Nat)) (c : α → Bool) (el : α → D) (L : List D) (hL : inn c el xs = L) (hN : X.N.Nodup) (hi : PI X tgt iter (JI X.K Γ A (xs.map enc) A1)) (ok : BlkOk X.N X.env.scope scope own) (hg : blkP X scope fun Y => PG Y tgt (tg.g X.K))
    (hf : ∀ x ∈ xs, tg.fit (enc x)) (hz : xs.length ≤ 100000) (hb : ∀ x ∈ xs, (∀ Γ, blkP X scope fun Y => PTs Y ifs (JT X.K Γ (tg.sl (wipeA A1 (own.map (·.2))) (enc x)) (c x) (tg.sl (wipeA A1 (own.map (·.2))) (enc x)))) ∧ (c x = true → ∀ Γ, blkP X scope fun Y => PE Y elt (JE X.K Γ (tg.sl (wipeA A1 (own.map (·.2))) (enc x)) (.sh (el x)) (tg.sl (wipeA A1 (own.map (·.2))) (enc x)))))
    (hl9 : A1.length ≤ 900 := by exact Nat.le_of_ble_eq_true rfl) (hix : ∀ i ∈ tg.ix, i ∈ own.map (·.2) := by decide) (hc : X.calm = true := by rfl) (hs : ∀ x, foldedSetIterable iter X.env x = pure x := by intro _; rfl) :
    PE X (.ListComp elt [⟨tgt, iter, ifs, 0⟩] scope pos) (JE X.K Γ A (.ol none L) (wipeA A1 (own.map (·.2)))) := by
  subst hL
  exact jlcP xs enc tg own c el hN hi ok hg hf hz hb hl9 hix hc hs
theorem jsetLcQ {α : Type} (n : Nat) {py : Pos} (xs : List α) (enc : α → D) (tg : Tg) (own : List (Str × Nat)) (c : α → Bool) (el : α → D) (L : List D) (hL : inn c el xs = L) (hN : X.N.Nodup) (hi : PI X tgt iter (JI X.K Γ A (xs.map enc) A1)) (ok : BlkOk X.N X.env.scope scope own) (hg : blkP X scope fun Y => PG Y tgt (tg.g X.K))
    (hf : ∀ x ∈ xs, tg.fit (enc x)) (hz : xs.length ≤ 100000) (hb : ∀ x ∈ xs, (∀ Γ, blkP X scope fun Y => PTs Y ifs (JT X.K Γ (tg.sl (wipeA A1 (own.map (·.2))) (enc x)) (c x) (tg.sl (wipeA A1 (own.map (·.2))) (enc x)))) ∧ (c x = true → ∀ Γ, blkP X scope fun Y => PE Y elt (JE X.K Γ (tg.sl (wipeA A1 (own.map (·.2))) (enc x)) (.sh (el x)) (tg.sl (wipeA A1 (own.map (·.2))) (enc x)))))
    (hn : n < A1.length := by exact Nat.le_of_ble_eq_true rfl) (hl9 : A1.length ≤ 900 := by exact Nat.le_of_ble_eq_true rfl) (hix : ∀ i ∈ tg.ix, i ∈ own.map (·.2) := by decide)
    (hyl : X.env.scope.names.lookup y = some .local := by rfl) (hy : X.N[n]? = some y := by rfl) (hsw : swapsWith (.ListComp elt [⟨tgt, iter, ifs, 0⟩] scope pos) (some (.Name y py)) spos.line X.env = pure true := by rfl) (hc : X.calm = true := by rfl) (hs : ∀ x, foldedSetIterable iter X.env x = pure x := by intro _; rfl) :
    PS X (.Assign [.Name y py] (.ListComp elt [⟨tgt, iter, ifs, 0⟩] scope pos) spos) (JS X.K Γ W A (.nx ((wipeA A1 (own.map (·.2))).set n (some (.ol none L))))) := by
  subst hL
  exact jsetLcP n xs enc tg own c el hN hi ok hg hf hz hb hn hl9 hix hyl hy hsw hc hs
end
theorem inn_map {β α : Type} (g : β → α) (h : α → D) (l : List β) : inn (fun _ => true) (fun x => h (g x)) l = (l.map g).map h := by rw [inn_true, List.map_map]; rfl
section
variable {X : Cx} {Γ : En} {W : WX} {A A1 : Slots} {tgt iter : Expr} {pos : Pos} {body : List Stmt}
/-- no turn leaves the loop; the last state told -/
theorem jfor0F {α τ : Type} (xs : List α) (enc : α → D) (tg : Tg) (Af : τ → Slots) (f : τ → α → τ) (s0 sF : τ) (hF : xs.foldl f s0 = sF) (hp : PassesOwn (model X.prog X.w) X.A X.env X.xe) (hi : PI X tgt iter (JI X.K Γ A (xs.map enc) A1)) (hA : Wk A1 (Af s0)) (hg : PG X tgt (tg.g X.K))
    (hf : ∀ x ∈ xs, tg.fit (enc x)) (hb : ∀ pre x post, xs = pre ++ x :: post → ∃ B, PSs X body (JS X.K Γ W (tg.sl (Af (pre.foldl f s0)) (enc x)) (.nx B)) ∧ Wk B (Af (f (pre.foldl f s0) x))) (hc : X.calm = true := by rfl) (hs : ∀ x, foldedSetIterable iter X.env x = pure x := by intro _; rfl) :
    PS X (.For tgt iter body [] pos) (JS X.K Γ W A (.nx (Af sF))) := by
  subst hF
  exact jfor0 xs enc tg Af f s0 hp hi hA hg hf hb hc hs
end
section
variable {X : Cx} {Γ : En} {A A1 : Slots} {e tg : Expr} {p pos : Pos} {n : Nat}
theorem jirvN (h : PE X e (JE X.K Γ A (.sh (.rng 0 (n : Nat))) A1)) (hn : n ≤ 100000) : PI X tg e (JI X.K Γ A ((rng 0 n).map .int) A1) := by
  have q := jirv (tg := tg) h (by omega)
  rw [show ((n : Int) - 0).toNat = n by omega] at q; exact q
theorem jirN (h : PA X [e] (JA X.K Γ A [.int (n : Nat)] A1)) (hm : X.mg "range" = none) (hn : n ≤ 100000) (hg : Gl X "range" := by rfl) (hs : starEach [e] X.env = [(false, eval e X.env)] := by rfl) : PI X tg (.Call (.Name "range" p) [e] [] pos) (JI X.K Γ A ((rng 0 n).map .int) A1) := by
  have q := jir1 (tg := tg) (p := p) (pos := pos) h hm (by omega) hg hs
  rw [show ((n : Int)).toNat = n by omega] at q; exact q
end
theorem inn_fm {β α : Type} (c : β → Bool) (g : β → α) (h : α → D) (l : List β) : inn c (fun x => h (g x)) l = ((l.filter c).map g).map h := by unfold inn; rw [List.map_map]; rfl
theorem fm2_tt {α β γ : Type} (ys : α → List β) (g : α → β → γ) (h : γ → D) (xs : List α) : fm2 (fun _ => true) ys (fun _ _ => true) (fun a b => h (g a b)) xs = (xs.flatMap fun a => (ys a).map (g a)).map h := by
  unfold fm2
  rw [List.map_flatMap]
  congr 1
  funext a
  rw [if_pos rfl, inn_true, List.map_map]; rfl
theorem len_fm {α β : Type} {f : α → List β} {k : Nat} : ∀ {xs : List α}, (∀ x ∈ xs, (f x).length ≤ k) → (xs.flatMap f).length ≤ xs.length * k
  | [], _ => Nat.zero_le _
  | x :: xs, h => by
    rw [List.flatMap_cons, List.length_append, List.length_cons, Nat.succ_mul]
    have h1 := h x List.mem_cons_self
    have h2 := len_fm (xs := xs) fun y hy => h y (List.mem_cons_of_mem _ hy)
    omega
theorem keepP_oi {p C C' : Addr} {gs gs' : List (Str × D)} : keepP (.oi p C gs) (some (.oi p C' gs')) = some (.oi p C' gs') := by simp [keepP, Sl.pin]
theorem keepP_ol {p : Addr} {ds ds' : List D} : keepP (.ol (some p) ds) (some (.ol (some p) ds')) = some (.ol (some p) ds') := by simp [keepP, Sl.pin]
theorem keepP_sh {d : D} {b : Option Sl} : keepP (.sh d) b = none := rfl
section
variable {X : Cx} {Γ : En} {A A1 : Slots} {a : Expr} {pos : Pos} {i : Int}
theorem jNotI (ha : PE X a (JE X.K Γ A (.sh (.int i)) A1)) : PE X (.UnaryOp .Not a pos) (JE X.K Γ A (.sh (.bl (!(i != 0)))) A1) :=
  peI (pe_notT ha) fun σ H Q ⟨S, Ms, ok, k⟩ => ⟨S, Ms, ok, fun v S' H' M' s ok' r => by rw [int_of r]; exact ⟨_, rfl, k _ S' H' M' s ok' (.bl _)⟩⟩
end
end J
namespace J
open PySem L2
/-- a slot's list of one's own is handed on; the slot says nothing any more -/
theorem OK.hand {K : PySem.W.Frag} {Γ : En} {A : Slots} {σ : L2.St} {S H : Hp} {Ms : Nat → Hp} (ok : OK K Γ A σ S H Ms) {n : Nat} (hn : n < A.length) (hT : A.length ≤ 900) : OK K Γ (A.set n none) σ S H (put (put Ms T (Ms n)) n emp) := by
  have ok1 := ok.forget n
  have hnT : n ≠ T := fun z => by subst z; exact absurd hn (by show ¬ 1000 < _; omega)
  have src : ∀ i b u, put (put Ms T (Ms n)) n emp i b = some u → (i = T ∧ Ms n b = some u) ∨ (i ≠ T ∧ i ≠ n ∧ Ms i b = some u) := fun i b u e => by
    by_cases h1 : i = n
    · subst h1; rw [put_same] at e; cases e
    · rw [put_ne h1] at e
      by_cases h2 : i = T
      · subst h2; rw [put_same] at e; exact .inl ⟨rfl, e⟩
      · rw [put_ne h2] at e; exact .inr ⟨h2, h1, e⟩
  refine { ok1 with slot := fun i a e => ?_, mH := fun i b u e => ?_, mS := fun i b u e => ?_, dj := fun i j b u e ne => ?_, mN := fun i b u e => ?_ }
  · have hi : i ≠ n := fun z => by
      subst z
      rw [List.getElem?_set_self hn] at e; cases e
    have hiT : i ≠ T := fun z => by
      subst z
      rw [List.getElem?_eq_none_iff.mpr (by rw [List.length_set]; show A.length ≤ 1000; omega)] at e; cases e
    rw [put_ne hi, put_ne hiT]; exact ok1.slot i a e
  · rcases src i b u e with ⟨_, q⟩ | ⟨_, _, q⟩ <;> exact ok.mH _ b u q
  · rcases src i b u e with ⟨_, q⟩ | ⟨_, _, q⟩ <;> exact ok.mS _ b u q
  · cases q2 : put (put Ms T (Ms n)) n emp j b with
    | none => rfl
    | some w =>
      rcases src i b u e with ⟨h1, q⟩ | ⟨h1, h2, q⟩ <;> rcases src j b w q2 with ⟨g1, r⟩ | ⟨g1, g2, r⟩
      · exact (ne (h1.trans g1.symm)).elim
      · exact (nofree r (ok.dj n j b u q (Ne.symm g2))).elim
      · exact (nofree r (ok.dj i n b u q h2)).elim
      · exact (nofree r (ok.dj i j b u q ne)).elim
  · rcases src i b u e with ⟨_, q⟩ | ⟨_, _, q⟩ <;> exact ok.mN _ b u q
section
variable {X : Cx} {Γ : En} {A : Slots} {ds : List D} {q : Option Addr}
/-- y, a list of one's own, handed on -/
theorem jhand (n : Nat) {y : Str} {pos : Pos} (hn : A[n]? = some (some (.ol q ds))) (hT : A.length ≤ 900 := by exact Nat.le_of_ble_eq_true rfl) (hN : X.N[n]? = some y := by rfl) (hv : Vis X.env.scope y := by first | exact Or.inl rfl | exact Or.inr (Or.inl rfl) | exact Or.inr (Or.inr rfl)) (hd : (y == ("__debug__" : Str)) = false := by decide)
    (hcd : (y == ("__classdict__" : Str)) = false := by decide) : PE X (.Name y pos) (JE X.K Γ A (.ol none ds) (A.set n none)) :=
  peI (pe_var hN hv hd hcd) fun σ H Q ⟨S, Ms, ok, k⟩ => by
    obtain ⟨v, h1, p, vs, _, rfl, hM, r⟩ := ok.slot n _ hn
    have hl := (List.getElem?_eq_some_iff.mp hn).1
    have hnT : n ≠ T := fun z => by subst z; exact absurd hl (by show ¬ 1000 < _; omega)
    refine ⟨.ref p, h1, k _ S H _ (Same.refl S) (ok.hand hl hT) ⟨p, vs, fun _ z => (by cases z), rfl, ?_, r⟩⟩
    rw [put_ne (Ne.symm hnT), put_same]; exact hM
end
end J
namespace J
open PySem L2
section
variable {X : Cx} {Γ : En} {W : WX} {A A1 A2 B : Slots} {o1 o2 o : Out} {pos : Pos}
theorem Wk.trans : ∀ {A B C : Slots}, Wk A B → Wk B C → Wk A C
  | _, _, _, .nil, .nil => .nil
  | _, _, _, .same h, .same k => .same (h.trans k)
  | _, _, _, .same h, .drop k => .drop (h.trans k)
  | _, _, _, .drop h, .same k => .drop (h.trans k)
  | _, _, _, .drop h, .drop k => .drop (h.trans k)
/-- both ways go on, to what B says -/
theorem jifB {c : Bool} {t : Expr} {u v : List Stmt} (ht : PT X t (JT X.K Γ A c A1)) (hu : c = true → ∃ B1, PSs X u (JS X.K Γ W A1 (.nx B1)) ∧ Wk B1 B) (hv : c = false → ∃ B1, PSs X v (JS X.K Γ W A1 (.nx B1)) ∧ Wk B1 B) :
    PS X (.If t u v pos) (JS X.K Γ W A (.nx B)) := by
  have q := jif (pos := pos) (W := W) (o1 := .nx B) (o2 := .nx B) ht (fun h => by obtain ⟨B1, h1, h2⟩ := hu h; exact jwk h1 h2) (fun h => by obtain ⟨B1, h1, h2⟩ := hv h; exact jwk h1 h2)
  exact PS.jeq q (by cases c <;> rfl)
end
end J
namespace J
open PySem L2
section
variable {X : Cx} {Γ : En} {W : WX} {A A1 : Slots} {q : Option Addr} {ds : List D} {y n1 : Str} {T1 : String} {p p1 pos : Pos}
/-- isinstance(xs, T), xs a list of one's own -/
theorem jisiO {c : Bool} (n : Nat) {py : Pos} (hn : A[n]? = some (some (.ol q ds))) (hk : kitB "list" T1 = some c) (hmi : X.mg "isinstance" = none) (hm : X.mg n1 = none) (hN : X.N[n]? = some y := by rfl)
    (hv : Vis X.env.scope y := by first | exact Or.inl rfl | exact Or.inr (Or.inl rfl) | exact Or.inr (Or.inr rfl)) (hd1 : (y == ("__debug__" : Str)) = false := by decide) (hcd : (y == ("__classdict__" : Str)) = false := by decide)
    (hvb : bootBuiltins n1 = some (.type T1) := by decide +kernel) (hnn : n1 ≠ "__name__" := by decide) (hd : (n1 == ("__debug__" : Str)) = false := by decide)
    (hg : Gl X n1 := by rfl) (hgi : Gl X "isinstance" := by rfl) (hs : starEach [.Name y py, .Name n1 p1] X.env = (false, eval (.Name y py) X.env) :: starEach [.Name n1 p1] X.env := by rfl) :
    PE X (.Call (.Name "isinstance" p) [.Name y py, .Name n1 p1] [] pos) (JE X.K Γ A (.sh (.bl c)) A) :=
  peI (pe_callB (p := p) (pos := pos) call_isi hgi hmi (by decide +kernel) (pa_cons (pe_var hN hv hd1 hcd) (pa_cons (pe_bltn (v := .ty T1) (pos := p1) hg hm hvb rfl hnn hd) pa_nil (by rfl)) hs) (by decide) (by decide) hs (by rfl)) fun σ H Q ⟨S, Ms, ok, k⟩ => by
    obtain ⟨v, hv1, p0, vs0, h0, rfl, hM, rr⟩ := ok.slot n _ hn
    exact ⟨.ref p0, hv1, .ref p0, .ty T1, .type "list", .type T1, c, rfl, .ty T1, tyX_l (SqL.of (ok.mH n _ _ hM)), kit_ty hk, k _ S H Ms (Same.refl S) ok (.bl c)⟩
end
end J
namespace J
open PySem L2
section
variable {X : Cx} {Γ : En} {A A1 : Slots} {e : Expr} {c c' : Bool} {d d' : D}
theorem jtC (h : PT X e (JT X.K Γ A c A1)) (e1 : c = c') : PT X e (JT X.K Γ A c' A1) := e1 ▸ h
theorem jwC (h : PW X e (JT X.K Γ A c A1)) (e1 : c = c') : PW X e (JT X.K Γ A c' A1) := e1 ▸ h
theorem jeC (h : PE X e (JE X.K Γ A (.sh d) A1)) (e1 : d = d') : PE X e (JE X.K Γ A (.sh d') A1) := e1 ▸ h
theorem jeS {s s' : Sl} (h : PE X e (JE X.K Γ A s A1)) (e1 : s = s') : PE X e (JE X.K Γ A s' A1) := e1 ▸ h
end
end J
namespace J
open PySem L2
section
variable {X : Cx} {Γ : En} {A A1 : Slots} {e : Expr} {i : Int} {pos : Pos}
theorem jneg (h : PE X e (JE X.K Γ A (.sh (.int i)) A1)) : PE X (.UnaryOp .USub e pos) (JE X.K Γ A (.sh (.int (-i))) A1) :=
  peI (pe_un un_neg h) fun σ H Q ⟨S, Ms, ok, k⟩ => ⟨S, Ms, ok, fun v S1 H1 M1 s1 ok1 r1 => ⟨i, int_of r1, k _ S1 H1 M1 s1 ok1 (.int _)⟩⟩
end
end J
namespace Y
open PySem L2 J
def top (i : Nat) : Stmt := PySem.Challenge.pw_linemix_k05_single_ties_lead_up.main.body.getD i (.Pass ⟨0, 0, 0, 0⟩)
abbrev t__wall : Nat := 0
abbrev t_MixError : Nat := 2
abbrev t_BadNumber : Nat := 3
abbrev t_BadPlace : Nat := 4
abbrev t_BadSteps : Nat := 5
abbrev t_HasRing : Nat := 6
abbrev t_NotOpen : Nat := 7
abbrev t_NotHeld : Nat := 8
abbrev t_OtherSize : Nat := 9
abbrev t_places_in : Nat := 11
abbrev t_is_int : Nat := 13
abbrev t_is_at_least : Nat := 14
abbrev t_is_between : Nat := 15
abbrev t_check_number : Nat := 16
abbrev t_is_place : Nat := 18
abbrev t_place_of : Nat := 19
abbrev t_MOST_PLACES : Nat := 21
abbrev t__is_step : Nat := 22
abbrev t_steps_of : Nat := 23
abbrev t__followed : Nat := 24
abbrev t__upside_down : Nat := 25
abbrev t_Order : Nat := 26
abbrev t_tied : Nat := 28
abbrev t__is_single : Nat := 29
abbrev t_single_ties : Nat := 30
abbrev t_tie_path : Nat := 32
abbrev t_check_held : Nat := 31
abbrev t_untied : Nat := 33
abbrev t__law_draws : Nat := 35
abbrev t__law_take : Nat := 36
abbrev t__law_closed : Nat := 37
abbrev t__law_steps : Nat := 38
abbrev t__law_drawn_steps : Nat := 39
abbrev t__law_order : Nat := 40
abbrev t__law_pairs : Nat := 41
abbrev t__law_open : Nat := 42
abbrev t__law_refused : Nat := 43
abbrev t__law_single : Nat := 44
abbrev t__law_next : Nat := 45
abbrev t__law_holds : Nat := 46
abbrev t__law_walked : Nat := 47
abbrev t__law_taken_back : Nat := 48
abbrev t__law_large : Nat := 49
abbrev t_law : Nat := 50
end Y
namespace Y
open PySem L2 J
/-- names that the module leaves to the built-ins -/
structure Txt (mg : Str → Option Value) : Prop where
  len : mg "len" = none
  int : mg "int" = none
  bool : mg "bool" = none
  list : mg "list" = none
  tuple : mg "tuple" = none
  range : mg "range" = none
  isin : mg "isinstance" = none
  enum : mg "enumerate" = none
  sum : mg "sum" = none
  all : mg "all" = none
  zip : mg "zip" = none
  min : mg "min" = none
  sorted : mg "sorted" = none
section
variable {P : Program} {w : World} {K : PySem.W.Frag} {mg : Str → Option Value} {base : Heap}
/-! ### masks.places_in -/
abbrev sPlacesIn : Stmt := top t_places_in
abbrev nPlacesIn : List Str := ["mask", "place"]
theorem scPlacesIn : FnScope nPlacesIn ["mask"] (defScope sPlacesIn) := ⟨rfl, rfl, rfl, by decide +kernel, rfl, by decide +kernel, by decide +kernel⟩
def bit (m p : Int) : Bool := Builtin.bitAnd (m / 2 ^ p.toNat) 1 != 0
def placesIn (m : Int) : List Int := (rng 0 (Builtin.Int.intBits m)).filter (bit m)
theorem ok_placesIn {f : Addr} {fd : FuncData} (F : Fun K "places_in" "places_in" sPlacesIn f fd) (Tx : Txt mg) : FnOk P w K mg base (L2.CX P w) 1 f fd ["mask"]
    (spF K (fun m : Int => Builtin.Int.intBits m < 1000) (fun m => [.sh (.int m)]) (fun m => .ok (.sh (.tup ((placesIn m).map .int)), [none]))) := by
  refine jd F scPlacesIn _ _ _ (fun _ => rfl) (fun m hm cdv A outer s H E Γ hr tk => ⟨_, jlast (jret (jtupL Tx.tuple (jacons (jfrz (jlcP (rng 0 (Builtin.Int.intBits m)) D.int (.n 1) [("place", 1)] (bit m) D.int scPlacesIn.nd
    (jir1 (jacons (jbits (jvar 0 rfl)) janil) Tx.range ?b1) (blkOk_by (by show blkC nPlacesIn (defScope sPlacesIn) _ _ = true; decide +kernel)) (fun s H C cl fp => pg_name scPlacesIn.nd rfl (.inl rfl)) (fun _ _ => trivial) ?b2
    (fun x hx => ⟨fun Γ s H C cl fp => jts1 (jtI (jand (jshr (jvar 0 rfl) (jvar 1 rfl) (mem_rng.mp hx).1) jint)), fun _ Γ s H C cl fp => jvar 1 rfl⟩))) janil))), rfl, rfl⟩)
  case b1 => omega
  case b2 => rw [rng_len]; omega
/-! ### numbers -/
abbrev sIsInt : Stmt := top t_is_int
theorem scIsInt : FnScope ["value"] ["value"] (defScope sIsInt) := ⟨rfl, rfl, rfl, by decide +kernel, rfl, by decide +kernel, by decide +kernel⟩
inductive Scal : D → Prop
  | non : Scal .non
  | bl (b : Bool) : Scal (.bl b)
  | int (i : Int) : Scal (.int i)
def isI : D → Bool
  | .int _ => true
  | _ => false
theorem ok_isInt {f : Addr} {fd : FuncData} (F : Fun K "is_int" "is_int" sIsInt f fd) (Tx : Txt mg) : FnOk P w K mg base (L2.CX P w) 1 f fd ["value"]
    (spF K Scal (fun d => [.sh d]) (fun d => .ok (.sh (.bl (isI d)), [none]))) := by
  refine jd F scIsInt _ _ _ (fun _ => rfl) (fun d hd cdv A outer s H E Γ hr tk => ?_)
  cases hd with
  | non => exact ⟨_, jlast (jret (jAnd (c := false) (c' := false) (jisi (t := "NoneType") (T1 := "int") (jvar 0 rfl) rfl (by decide +kernel) Tx.isin Tx.int) (fun h => by cases h))), rfl, rfl⟩
  | bl b => exact ⟨_, jlast (jret (jAnd (c := true) (c' := false) (jisi (t := "bool") (T1 := "int") (jvar 0 rfl) rfl (by decide +kernel) Tx.isin Tx.int) (fun h => jOne (jNot (c := true) (jisi (t := "bool") (T1 := "bool") (jvar 0 rfl) rfl (by decide +kernel) Tx.isin Tx.bool))))), rfl, rfl⟩
  | int i => exact ⟨_, jlast (jret (jAnd (c := true) (c' := true) (jisi (t := "int") (T1 := "int") (jvar 0 rfl) rfl (by decide +kernel) Tx.isin Tx.int) (fun h => jOne (jNot (c := false) (jisi (t := "int") (T1 := "bool") (jvar 0 rfl) rfl (by decide +kernel) Tx.isin Tx.bool))))), rfl, rfl⟩
/-! ### places -/
abbrev sIsPlace : Stmt := top t_is_place
theorem scIsPlace : FnScope ["value", "size"] ["value", "size"] (defScope sIsPlace) := ⟨rfl, rfl, rfl, by decide +kernel, rfl, by decide +kernel, by decide +kernel⟩
def inR (i n : Int) : Bool := decide (0 ≤ i) && decide (i < n)
def isP (n : Int) : D → Bool
  | .int i => inR i n
  | _ => false
/-- a def that the module names -/
structure Nm (P : Program) (w : World) (K : PySem.W.Frag) (mg : Str → Option Value) (base : Heap) (x : Str) (ps : List Str) (k : Nat) (sp : Sp) : Prop where
  ex : ∃ f fd, FnOk P w K mg base (L2.CX P w) k f fd ps sp ∧ mg x = some (.ref f) ∧ PySem.W.keepIn K (.ref f) = true ∧ Binds K fd ps []
theorem Scal.cases' {d : D} (h : Scal d) : (∃ i, d = .int i) ∨ isI d = false := by
  cases h with
  | non => exact .inr rfl
  | bl b => exact .inr rfl
  | int i => exact .inl ⟨i, rfl⟩
abbrev spIsInt (K : PySem.W.Frag) : Sp := spF K Scal (fun d => [.sh d]) (fun d => .ok (.sh (.bl (isI d)), [none]))
abbrev spIsPlace (K : PySem.W.Frag) : Sp := spF K (fun i : D × Int => Scal i.1) (fun i => [.sh i.1, .sh (.int i.2)]) (fun i => .ok (.sh (.bl (isP i.2 i.1)), [none, none]))
theorem ok_isPlace {f : Addr} {fd : FuncData} (F : Fun K "is_place" "is_place" sIsPlace f fd) (nI : Nm P w K mg base "is_int" ["value"] 1 (spIsInt K)) : FnOk P w K mg base (L2.CX P w) 2 f fd ["value", "size"] (spIsPlace K) := by
  obtain ⟨fI, fdI, FI, mI, kI, bI⟩ := nI.ex
  refine jd F scIsPlace _ _ _ (fun _ => rfl) (fun i hd cdv A outer s H E Γ hr tk => ?_)
  obtain ⟨d, n⟩ := i
  rcases Scal.cases' hd with ⟨i, rfl⟩ | h
  · exact ⟨_, jlast (jret (jAnd (c := true) (c' := inR i n) (jcall FI hr mI kI bI (jacons (jvar 0 rfl) janil) (spF_at (.int i) hd rfl rfl)) (fun _ => jOne (jchain op_le op_lt jint (jvar 0 rfl) (jvar 1 rfl))))), rfl, rfl⟩
  · exact ⟨_, jlast (jret (jAnd (c := isI d) (c' := false) (jcall FI hr mI kI bI (jacons (jvar 0 rfl) janil) (spF_at d hd rfl rfl)) (fun z => by rw [h] at z; cases z))), by
      have e : isP n d = (isI d && false) := by
        rw [h]
        cases hd with
        | non => rfl
        | bl b => rfl
        | int i => cases h
      show _ = Except.ok (Sl.sh (.bl (isP n d)), _)
      rw [e]; rfl, rfl⟩
abbrev sPlaceOf : Stmt := top t_place_of
theorem scPlaceOf : FnScope ["value", "size", "name"] ["value", "size", "name"] (defScope sPlaceOf) := ⟨rfl, rfl, rfl, by decide +kernel, rfl, by decide +kernel, by decide +kernel⟩
abbrev spPlaceOf (K : PySem.W.Frag) (C : Addr) : Sp := spF K (fun i : D × Int × Str => Scal i.1) (fun i => [.sh i.1, .sh (.int i.2.1), .sh (.str i.2.2)]) (fun i => if (!isP i.2.1 i.1) = true then .error (exE C [("name", .str i.2.2)]) else .ok (.sh i.1, [none, none, none]))
/-- an own exception class -/
structure NmX (P : Program) (w : World) (K : PySem.W.Frag) (mg : Str → Option Value) (base : Heap) (x : Str) (C : Addr) (ns : List Str) : Prop where
  gl : mg x = some (.ref C)
  xc : Xc P w K mg base C ns 1
theorem ok_placeOf {f C : Addr} {fd : FuncData} (F : Fun K "place_of" "place_of" sPlaceOf f fd) (nP : Nm P w K mg base "is_place" ["value", "size"] 2 (spIsPlace K)) (nX : NmX P w K mg base "BadPlace" C ["name"]) : FnOk P w K mg base (L2.CX P w) 3 f fd ["value", "size", "name"] (spPlaceOf K C) := by
  obtain ⟨fI, fdI, FI, mI, kI, bI⟩ := nP.ex
  refine jd F scPlaceOf _ _ _ (fun _ => rfl) (fun i hd cdv A outer s H E Γ hr tk => ?_)
  obtain ⟨d, n, x⟩ := i
  exact ⟨_, jifx (c := !isP n d) (jtNot (jtB (jcall FI hr mI kI bI (jacons (jvar 0 rfl) (jacons (jvar 1 rfl) janil)) (spF_at (d, n) hd rfl rfl)))) (fun _ => jlast (jraise rfl tk nX.xc hr nX.gl (jacons (jvar 2 rfl) janil))) rfl (fun _ => jlast (jret (jvar 0 rfl))), by rw [fin_ite]; rfl, Out.fine_ite rfl rfl⟩
/-! ### numbers.is_at_least, check_number, where it takes the number -/
abbrev sAtLeast : Stmt := top t_is_at_least
theorem scAtLeast : FnScope ["value", "least"] ["value", "least"] (defScope sAtLeast) := ⟨rfl, rfl, rfl, by decide +kernel, rfl, by decide +kernel, by decide +kernel⟩
def atL (a : Int) : D → Bool
  | .int i => decide (a ≤ i)
  | _ => false
abbrev spAtLeast (K : PySem.W.Frag) : Sp := spF K (fun i : D × Int => Scal i.1) (fun i => [.sh i.1, .sh (.int i.2)]) (fun i => .ok (.sh (.bl (atL i.2 i.1)), [none, none]))
theorem ok_atLeast {f : Addr} {fd : FuncData} (F : Fun K "is_at_least" "is_at_least" sAtLeast f fd) (nI : Nm P w K mg base "is_int" ["value"] 1 (spIsInt K)) : FnOk P w K mg base (L2.CX P w) 2 f fd ["value", "least"] (spAtLeast K) := by
  obtain ⟨fI, fdI, FI, mI, kI, bI⟩ := nI.ex
  refine jd F scAtLeast _ _ _ (fun _ => rfl) (fun i hd cdv A outer s H E Γ hr tk => ?_)
  obtain ⟨d, n⟩ := i
  rcases Scal.cases' hd with ⟨i, rfl⟩ | h
  · exact ⟨_, jlast (jret (jAnd (c := true) (c' := decide (n ≤ i)) (jcall FI hr mI kI bI (jacons (jvar 0 rfl) janil) (spF_at (.int i) hd rfl rfl)) (fun _ => jOne (jge (jvar 0 rfl) (jvar 1 rfl))))), rfl, rfl⟩
  · exact ⟨_, jlast (jret (jAnd (c := isI d) (c' := false) (jcall FI hr mI kI bI (jacons (jvar 0 rfl) janil) (spF_at d hd rfl rfl)) (fun z => by rw [h] at z; cases z))), by
      have e : atL n d = (isI d && false) := by
        rw [h]
        cases hd with
        | non => rfl
        | bl b => rfl
        | int i => cases h
      show _ = Except.ok (Sl.sh (.bl (atL n d)), _)
      rw [e]; rfl, rfl⟩
abbrev sBetween : Stmt := top t_is_between
theorem scBetween : FnScope ["value", "least", "most"] ["value", "least", "most"] (defScope sBetween) := ⟨rfl, rfl, rfl, by decide +kernel, rfl, by decide +kernel, by decide +kernel⟩
abbrev spBetween (K : PySem.W.Frag) : Sp := spF K (fun i : Int × Int × Int => i.2.1 ≤ i.1 ∧ i.1 ≤ i.2.2) (fun i => [.sh (.int i.1), .sh (.int i.2.1), .sh (.int i.2.2)]) (fun _ => .ok (.sh (.bl true), [none, none, none]))
theorem ok_between {f : Addr} {fd : FuncData} (F : Fun K "is_between" "is_between" sBetween f fd) (nL : Nm P w K mg base "is_at_least" ["value", "least"] 2 (spAtLeast K)) : FnOk P w K mg base (L2.CX P w) 3 f fd ["value", "least", "most"] (spBetween K) := by
  obtain ⟨fI, fdI, FI, mI, kI, bI⟩ := nL.ex
  refine jd F scBetween _ _ _ (fun _ => rfl) (fun i hd cdv A outer s H E Γ hr tk => ?_)
  obtain ⟨v, a, b⟩ := i
  obtain ⟨h1, h2⟩ := hd
  have e1 : atL a (.int v) = true := decide_eq_true h1
  have e2 : decide (v ≤ b) = true := decide_eq_true h2
  exact ⟨_, jlast (jret (jAnd (c := true) (c' := true) (by rw [← e1]; exact jcall FI hr mI kI bI (jacons (jvar 0 rfl) (jacons (jvar 1 rfl) janil)) (spF_at ((.int v, a) : D × Int) (.int v) rfl rfl)) (fun _ => jOne (jOr (c := false) (c' := true) (jisN (d := .int b) (jvar 2 rfl)) (fun _ => by rw [← e2]; exact jOne (jle (jvar 0 rfl) (jvar 2 rfl))))))), rfl, rfl⟩
abbrev sCheck : Stmt := top t_check_number
theorem scCheck : FnScope ["value", "name", "least", "most"] ["value", "name", "least", "most"] (defScope sCheck) := ⟨rfl, rfl, rfl, by decide +kernel, rfl, by decide +kernel, by decide +kernel⟩
abbrev spCheck (K : PySem.W.Frag) : Sp := spF K (fun i : Int × Str × Int × Int => i.2.2.1 ≤ i.1 ∧ i.1 ≤ i.2.2.2) (fun i => [.sh (.int i.1), .sh (.str i.2.1), .sh (.int i.2.2.1), .sh (.int i.2.2.2)]) (fun i => .ok (.sh (.int i.1), [none, none, none, none]))
theorem ok_check {f : Addr} {fd : FuncData} (F : Fun K "check_number" "check_number" sCheck f fd) (nL : Nm P w K mg base "is_between" ["value", "least", "most"] 3 (spBetween K)) : FnOk P w K mg base (L2.CX P w) 4 f fd ["value", "name", "least", "most"] (spCheck K) := by
  obtain ⟨fI, fdI, FI, mI, kI, bI⟩ := nL.ex
  refine jd F scCheck _ _ _ (fun _ => rfl) (fun i hd cdv A outer s H E Γ hr tk => ?_)
  obtain ⟨v, x, a, b⟩ := i
  obtain ⟨h1, h2⟩ := hd
  exact ⟨_, jcons (jif (c := false) (o1 := .nx []) (jtNot (c := true) (jtB (jcall FI hr mI kI bI (jacons (jvar 0 rfl) (jacons (jvar 2 rfl) (jacons (jvar 3 rfl) janil))) (spF_at ((v, a, b) : Int × Int × Int) ⟨h1, h2⟩ rfl rfl)))) (fun z => by cases z) (fun _ => jnil)) (jlast (jret (jvar 0 rfl))), rfl, rfl⟩
end
end Y
namespace Y
open PySem L2 J
section
variable {P : Program} {w : World} {K : PySem.W.Frag} {mg : Str → Option Value} {base : Heap}
theorem kit_lt_t {K : PySem.W.Frag} : PySem.W.kitAny K (.type "tuple") [.type "list", .type "tuple"] = some true := kitAny_cons (b := false) (kit_ty (by decide +kernel)) (fun _ => kitAny_cons (b := true) (kit_ty (by decide +kernel)) (fun h => by cases h) (fun _ => rfl)) (fun h => by cases h)
theorem kit_lt_l {K : PySem.W.Frag} : PySem.W.kitAny K (.type "list") [.type "list", .type "tuple"] = some true := kitAny_cons (b := true) (kit_ty (by decide +kernel)) (fun h => by cases h) (fun _ => rfl)
abbrev Pr := Int × Int
def prD (p : Pr) : D := .tup [.int p.1, .int p.2]
/-- a step that an order of n places may be told -/
def okS (n : Int) (p : Pr) : Prop := inR p.1 n = true ∧ inR p.2 n = true ∧ p.1 ≠ p.2
/-! ### orders._is_step, for steps that are -/
abbrev sIsStep : Stmt := top t__is_step
abbrev nIsStep : List Str := ["value", "size", "low", "high"]
theorem scIsStep : FnScope nIsStep ["value", "size"] (defScope sIsStep) := ⟨rfl, rfl, rfl, by decide +kernel, rfl, by decide +kernel, by decide +kernel⟩
abbrev spIsStep (K : PySem.W.Frag) : Sp := spF K (fun i : Pr × Int => okS i.2 i.1) (fun i => [.sh (prD i.1), .sh (.int i.2)]) (fun i => .ok (.sh (.bl true), [none, none]))
theorem ok_isStep {f : Addr} {fd : FuncData} (F : Fun K "_is_step" "_is_step" sIsStep f fd) (Tx : Txt mg) (nP : Nm P w K mg base "is_place" ["value", "size"] 2 (spIsPlace K)) : FnOk P w K mg base (L2.CX P w) 3 f fd ["value", "size"] (spIsStep K) := by
  obtain ⟨fI, fdI, FI, mI, kI, bI⟩ := nP.ex
  refine jd F scIsStep _ _ _ (fun _ => rfl) (fun i hd cdv A outer s H E Γ hr tk => ?_)
  obtain ⟨⟨a, b⟩, n⟩ := i
  obtain ⟨h1, h2, h3⟩ := hd
  have e3 : (!decide (a = b)) = true := by simpa using h3
  exact ⟨_, jcons (jif (c := false) (o1 := .nx []) (PW.pt (jtOr (c := false) (c' := false) (jtNot (c := true) (jtB (jisi2 (d := prD (a, b)) (t := "tuple") (T1 := "list") (T2 := "tuple") (jvar 0 rfl) rfl kit_lt_t Tx.isin Tx.list Tx.tuple)))
      (fun _ => jtOr1 (jtneI (j := 2) (jlenT (ds := [.int a, .int b]) Tx.len (jacons (jvar 0 rfl) janil) (fun h => pe_callB call_len_seq (by rfl) Tx.len PySem.boot_len h)) jint)))) (fun z => by cases z) (fun _ => jnil))
    (jcons (junp (Tg.t [2, 3]) (d := prD (a, b)) (jvar 0 rfl) (pg_tup rfl (pgs_cons (pg_name scIsStep.nd rfl (.inl rfl)) (pgs_cons (pg_name scIsStep.nd rfl (.inl rfl)) pgs_nil))) ⟨_, rfl, _, _, rfl, trivial, _, _, rfl, trivial, rfl⟩)
      (jlast (jret (jAnd (c := true) (c' := true) (by rw [← h1]; exact jcall FI hr mI kI bI (jacons (jvar 2 rfl) (jacons (jvar 1 rfl) janil)) (spF_at (.int a, n) (.int a) rfl rfl))
        (fun _ => jAnd (c := true) (c' := true) (by rw [← h2]; exact jcall FI hr mI kI bI (jacons (jvar 3 rfl) (jacons (jvar 1 rfl) janil)) (spF_at (.int b, n) (.int b) rfl rfl)) (fun _ => jOne (by rw [← e3]; exact jneI (jvar 2 rfl) (jvar 3 rfl)))))))), rfl, rfl⟩
/-! ### orders.steps_of, for steps that are -/
abbrev sStepsOf : Stmt := top t_steps_of
abbrev nStepsOf : List Str := ["value", "size", "at", "step"]
theorem scStepsOf : FnScope nStepsOf ["value", "size"] (defScope sStepsOf) := ⟨rfl, rfl, rfl, by decide +kernel, rfl, by decide +kernel, by decide +kernel⟩
def seqD (b : Bool) (ds : List D) : D := if b then .lst ds else .tup ds
abbrev spStepsOf (K : PySem.W.Frag) : Sp := spF K (fun i : Bool × List Pr × Int => (∀ p ∈ i.2.1, okS i.2.2 p) ∧ i.2.1.length ≤ 1000) (fun i => [.sh (seqD i.1 (i.2.1.map prD)), .sh (.int i.2.2)]) (fun i => .ok (.sh (.tup (i.2.1.map prD)), [none, none]))
theorem ok_stepsOf {f : Addr} {fd : FuncData} (F : Fun K "steps_of" "steps_of" sStepsOf f fd) (Tx : Txt mg) (nS : Nm P w K mg base "_is_step" ["value", "size"] 3 (spIsStep K)) : FnOk P w K mg base (L2.CX P w) 4 f fd ["value", "size"] (spStepsOf K) := by
  obtain ⟨fI, fdI, FI, mI, kI, bI⟩ := nS.ex
  refine jd F scStepsOf _ _ _ (fun _ => rfl) (fun i hd cdv A outer s H E Γ hr tk => ?_)
  obtain ⟨b, sts, n⟩ := i
  obtain ⟨hd, hz⟩ := hd
  have hz' : sts.length ≤ 100000 := Nat.le_trans hz (by decide)
  cases b with
  | true =>
    exact ⟨_, jcons (jif (c := false) (o1 := .nx []) (jtNot (c := true) (jtB (jisi2 (d := .lst (sts.map prD)) (t := "list") (T1 := "list") (T2 := "tuple") (jvar 0 rfl) rfl kit_lt_l Tx.isin Tx.list Tx.tuple))) (fun z => by cases z) (fun _ => jnil))
      (jcons (jfor0 (ix sts) (fun t => D.tup [.int t.1, prD t.2]) (Tg.t [2, 3]) (fun _ : Unit => [some (.sh (.lst (sts.map prD))), some (.sh (.int n)), none, none]) (fun _ _ => ()) () (passes_of rfl) (jieM prD sts (jacons (jvar 0 rfl) janil) Tx.enum) (Wk.refl _)
        (pg_tup rfl (pgs_cons (pg_name scStepsOf.nd rfl (.inl rfl)) (pgs_cons (pg_name scStepsOf.nd rfl (.inl rfl)) pgs_nil))) (fun x _ => ⟨_, rfl, _, _, rfl, trivial, _, _, rfl, trivial, rfl⟩)
        (fun pre x post hx => ⟨_, jlast (jif (c := false) (o1 := .nx []) (jtNot (c := true) (jtB (jcall FI hr mI kI bI (jacons (jvar 3 rfl) (jacons (jvar 1 rfl) janil)) (spF_at (x.2, n) (hd x.2 (ix_in (by rw [hx]; simp))) rfl rfl)))) (fun z => by cases z) (fun _ => jnil)), by (repeat' (first | exact Wk.nil | refine Wk.same ?_ | refine Wk.drop ?_))⟩))
        (jlast (jret (jtupL Tx.tuple (jacons (jfrz (jlcP sts prD (.n 3) [("step", 3)] (fun _ => true) prD scStepsOf.nd (jil (jvar 0 rfl)) (blkOk_by (by show blkC nStepsOf (defScope sStepsOf) _ _ = true; decide +kernel)) (fun s H C cl fp => pg_name scStepsOf.nd rfl (.inl rfl)) (fun _ _ => trivial) hz'
          (fun x hx => ⟨fun Γ s H C cl fp => jts0, fun _ Γ s H C cl fp => jtupT Tx.tuple (jacons (jvar 3 rfl) janil)⟩))) janil))))), by show Except.ok (Sl.sh (D.tup (inn _ _ _)), _) = _; rw [inn_true]; rfl, rfl⟩
  | false =>
    exact ⟨_, jcons (jif (c := false) (o1 := .nx []) (jtNot (c := true) (jtB (jisi2 (d := .tup (sts.map prD)) (t := "tuple") (T1 := "list") (T2 := "tuple") (jvar 0 rfl) rfl kit_lt_t Tx.isin Tx.list Tx.tuple))) (fun z => by cases z) (fun _ => jnil))
      (jcons (jfor0 (ix sts) (fun t => D.tup [.int t.1, prD t.2]) (Tg.t [2, 3]) (fun _ : Unit => [some (.sh (.tup (sts.map prD))), some (.sh (.int n)), none, none]) (fun _ _ => ()) () (passes_of rfl) (jietM prD sts (jacons (jvar 0 rfl) janil) Tx.enum) (Wk.refl _)
        (pg_tup rfl (pgs_cons (pg_name scStepsOf.nd rfl (.inl rfl)) (pgs_cons (pg_name scStepsOf.nd rfl (.inl rfl)) pgs_nil))) (fun x _ => ⟨_, rfl, _, _, rfl, trivial, _, _, rfl, trivial, rfl⟩)
        (fun pre x post hx => ⟨_, jlast (jif (c := false) (o1 := .nx []) (jtNot (c := true) (jtB (jcall FI hr mI kI bI (jacons (jvar 3 rfl) (jacons (jvar 1 rfl) janil)) (spF_at (x.2, n) (hd x.2 (ix_in (by rw [hx]; simp))) rfl rfl)))) (fun z => by cases z) (fun _ => jnil)), by (repeat' (first | exact Wk.nil | refine Wk.same ?_ | refine Wk.drop ?_))⟩))
        (jlast (jret (jtupL Tx.tuple (jacons (jfrz (jlcP sts prD (.n 3) [("step", 3)] (fun _ => true) prD scStepsOf.nd (jit (jvar 0 rfl)) (blkOk_by (by show blkC nStepsOf (defScope sStepsOf) _ _ = true; decide +kernel)) (fun s H C cl fp => pg_name scStepsOf.nd rfl (.inl rfl)) (fun _ _ => trivial) hz'
          (fun x hx => ⟨fun Γ s H C cl fp => jts0, fun _ Γ s H C cl fp => jtupT Tx.tuple (jacons (jvar 3 rfl) janil)⟩))) janil))))), by show Except.ok (Sl.sh (D.tup (inn _ _ _)), _) = _; rw [inn_true]; rfl, rfl⟩
end
end Y
namespace Y
open PySem L2 J
section
variable {P : Program} {w : World} {K : PySem.W.Frag} {mg : Str → Option Value} {base : Heap}
/-! ### orders._followed, for steps without a ring -/
abbrev sFollowed : Stmt := top t__followed
abbrev nFollowed : List Str := ["size", "steps", "unders", "at", "low", "high", "gain", "place", "mask"]
theorem scFollowed : FnScope nFollowed ["size", "steps"] (defScope sFollowed) := ⟨rfl, rfl, rfl, by decide +kernel, rfl, by decide +kernel, by decide +kernel⟩
def stepU (un : List Int) (p : Pr) : List Int := un.map fun m => if bit m p.1 = true then Builtin.bitOr m (gI un p.2) else m
def unders0 (n : Int) : List Int := (rng 0 n.toNat).map fun p => 1 * 2 ^ p.toNat
def unders (n : Int) (sts : List Pr) : List Int := sts.foldl stepU (unders0 n)
def aboves (n : Int) (sts : List Pr) : List Int := (ix (unders n sts)).map fun t => Builtin.bitXor t.2 (1 * 2 ^ t.1.toNat)
/-- no step closes a ring -/
def noRing (n : Int) (sts : List Pr) : Prop := ∀ pre p post, sts = pre ++ p :: post → bit (gI (unders n pre) p.2) p.1 = false
theorem unders_len (n : Int) (sts : List Pr) : (unders n sts).length = n.toNat := by
  unfold unders
  have : ∀ (sts : List Pr) (un : List Int), (sts.foldl stepU un).length = un.length := fun sts => by
    induction sts with
    | nil => intro un; rfl
    | cons p r ih => intro un; rw [List.foldl_cons, ih]; unfold stepU; rw [List.length_map]
  rw [this]; unfold unders0; rw [List.length_map, rng_len]
theorem unders_app (n : Int) (a b : List Pr) : unders n (a ++ b) = b.foldl stepU (unders n a) := by unfold unders; rw [List.foldl_append]
theorem fold_ix {τ α : Type} (f : τ → α → τ) (l : List α) (s : τ) : (ix l).foldl (fun s x => f s x.2) s = l.foldl f s := by
  have h : (ix l).map (·.2) = l := by
    refine List.ext_getElem? fun n => ?_
    rw [List.getElem?_map, ix_at]
    cases l[n]? <;> rfl
  conv => rhs; rw [← h, List.foldl_map]
theorem cpow1 {p : Int} (h0 : 0 ≤ p) (h1 : p < 1000) : CPow 1 p := ⟨h0, by omega, by decide⟩
theorem okS_in {n : Int} {p : Pr} (h : okS n p) : (0 ≤ p.1 ∧ p.1 < n) ∧ 0 ≤ p.2 ∧ p.2 < n := by
  obtain ⟨h1, h2, _⟩ := h
  unfold inR at h1 h2
  rw [Bool.and_eq_true, decide_eq_true_eq, decide_eq_true_eq] at h1 h2
  exact ⟨h1, h2⟩
theorem ix_snd {α : Type} (l : List α) : (ix l).map (·.2) = l := by
  refine List.ext_getElem? fun n => ?_
  rw [List.getElem?_map, ix_at]
  cases l[n]? <;> rfl
theorem ix_split {α : Type} {l : List α} {pre post : List (Int × α)} {x : Int × α} (h : ix l = pre ++ x :: post) : l = pre.map (·.2) ++ x.2 :: post.map (·.2) := by
  rw [← ix_snd l, h, List.map_append, List.map_cons]
theorem foldU (n : Int) (pre : List (Int × Pr)) : pre.foldl (fun un x => stepU un x.2) (unders0 n) = unders n (pre.map (·.2)) := by unfold unders; rw [List.foldl_map]
abbrev spFollowed (K : PySem.W.Frag) : Sp := spF K (fun i : Int × List Pr => (0 ≤ i.1 ∧ i.1 ≤ 16) ∧ (∀ p ∈ i.2, okS i.1 p) ∧ i.2.length ≤ 1000 ∧ noRing i.1 i.2) (fun i => [.sh (.int i.1), .sh (.tup (i.2.map prD))]) (fun i => .ok (.sh (.tup ((aboves i.1 i.2).map .int)), [none, none]))
theorem ok_followed {f : Addr} {fd : FuncData} (F : Fun K "_followed" "_followed" sFollowed f fd) (Tx : Txt mg) : FnOk P w K mg base (L2.CX P w) 1 f fd ["size", "steps"] (spFollowed K) := by
  refine jd F scFollowed _ _ _ (fun _ => rfl) (fun i hd cdv A outer s H E Γ hr tk => ?_)
  obtain ⟨n, sts⟩ := i
  obtain ⟨⟨hn0, hn1⟩, hok, hz, hring⟩ := hd
  refine ⟨_, jcons (jsetLcQ 2 (rng 0 n.toNat) D.int (.n 7) [("place", 7)] (fun _ => true) (fun p => .int (1 * 2 ^ p.toNat)) ((unders0 n).map .int) (inn_map _ _ _) scFollowed.nd (jir1 (jacons (jvar 0 rfl) janil) Tx.range ?b1) (blkOk_by (by show blkC nFollowed (defScope sFollowed) _ _ = true; decide +kernel)) (fun s H C cl fp => pg_name scFollowed.nd rfl (by first | exact Or.inl rfl | exact Or.inr rfl)) (fun _ _ => trivial) ?b2
      (fun x hx => ⟨fun Γ s H C cl fp => jts0, fun _ Γ s H C cl fp => jshl jint (jvar 7 rfl) (cpow1 (mem_rng.mp hx).1 (by have := (mem_rng.mp hx).2; omega))⟩))
    (jcons (jfor0F (ix sts) (fun t => D.tup [.int t.1, prD t.2]) (Tg.tt (.cons (.n 3) (.cons (Tg.t [4, 5]) .nil))) (fun un : List Int => [some (.sh (.int n)), some (.sh (.tup (sts.map prD))), some (.ol none (un.map .int)), none, none, none, none, none, none]) (fun un x => stepU un x.2) (unders0 n) (unders n sts) (fold_ix stepU sts (unders0 n)) (passes_of rfl) (jietM prD sts (jacons (jvar 1 rfl) janil) Tx.enum) (by (repeat' (first | exact Wk.nil | refine Wk.same ?_ | refine Wk.drop ?_)))
        (pg_tup rfl (pgs_cons (pg_name scFollowed.nd rfl (by first | exact Or.inl rfl | exact Or.inr rfl)) (pgs_cons (pg_tup rfl (pgs_cons (pg_name scFollowed.nd rfl (by first | exact Or.inl rfl | exact Or.inr rfl)) (pgs_cons (pg_name scFollowed.nd rfl (by first | exact Or.inl rfl | exact Or.inr rfl)) pgs_nil))) pgs_nil))) (fun x _ => ⟨_, rfl, _, _, rfl, trivial, _, _, rfl, ⟨_, rfl, _, _, rfl, trivial, _, _, rfl, trivial, rfl⟩, rfl⟩)
        (fun pre x post hx => ?turn))
      (jfzS 2 rfl (jlast (jret (jtupL Tx.tuple (jacons (jfrz (jlcQ (ix (unders n sts)) (fun t => D.tup [.int t.1, .int t.2]) (Tg.t [7, 8]) [("place", 7), ("mask", 8)] (fun _ => true) (fun t => .int (Builtin.bitXor t.2 (1 * 2 ^ t.1.toNat))) ((aboves n sts).map .int) (inn_map _ _ _) scFollowed.nd (jieM D.int (unders n sts) (jacons (jvar 2 rfl) janil) Tx.enum) (blkOk_by (by show blkC nFollowed (defScope sFollowed) _ _ = true; decide +kernel))
        (fun s H C cl fp => pg_tup rfl (pgs_cons (pg_name scFollowed.nd rfl (by first | exact Or.inl rfl | exact Or.inr rfl)) (pgs_cons (pg_name scFollowed.nd rfl (by first | exact Or.inl rfl | exact Or.inr rfl)) pgs_nil))) (fun x _ => ⟨_, rfl, _, _, rfl, trivial, _, _, rfl, trivial, rfl⟩) ?b3
        (fun x hx => ⟨fun Γ s H C cl fp => jts0, fun _ Γ s H C cl fp => jxor (jvar 8 rfl) (jshl jint (jvar 7 rfl) ?b4)⟩))) janil)))))), rfl, rfl⟩
  case b1 => omega
  case b2 => rw [rng_len]; omega
  case b3 => rw [ix_len, unders_len]; omega
  case b4 =>
    obtain ⟨k, h1, h2⟩ := ix_mem hx
    have := (List.getElem?_eq_some_iff.mp h2).1
    rw [unders_len] at this
    exact cpow1 (by omega) (by omega)
  case turn =>
    obtain ⟨t, p⟩ := x
    have hp : p ∈ sts := ix_in (t := (t, p)) (by rw [hx]; simp)
    obtain ⟨⟨a0, a1⟩, b0, b1⟩ := okS_in (hok p hp)
    obtain ⟨lo, hi⟩ := p
    dsimp only at a0 a1 b0 b1
    have hsp := ix_split hx
    have hbit : bit (gI (unders n (pre.map (·.2))) hi) lo = false := hring _ (lo, hi) _ hsp
    rw [foldU]
    generalize hU : unders n (pre.map (·.2)) = un at hbit
    have hlen : (un.length : Int) = n := by rw [← hU, unders_len]; omega
    have hbl : hi < (un.length : Int) := by omega
    have hl2 : un.length ≤ 100000 := by have h16 : n ≤ 16 := hn1; omega
    refine ⟨_, jfzS 2 rfl (jcons (jif (c := false) (o1 := .nx []) (by rw [← hbit]; exact jtI (jand (jshr (jixL (jvar 2 rfl) (jvar 5 rfl) (atI_int b0 hbl)) (jvar 4 rfl) a0) jint)) (fun z => by cases z) (fun _ => jnil))
      (jcons (jset 6 (jixL (jvar 2 rfl) (jvar 5 rfl) (atI_int b0 hbl)) scFollowed.nd)
        (jlast (jsetLcQ 2 un D.int (.n 8) [("mask", 8)] (fun _ => true) (fun m => .int (if bit m lo = true then Builtin.bitOr m (gI un hi) else m)) ((stepU un (lo, hi)).map .int) (inn_map _ _ _) scFollowed.nd (jil (jvar 2 rfl)) (blkOk_by (by show blkC nFollowed (defScope sFollowed) _ _ = true; decide +kernel)) (fun s H C cl fp => pg_name scFollowed.nd rfl (by first | exact Or.inl rfl | exact Or.inr rfl)) (fun _ _ => trivial) hl2
          (fun m hm => ⟨fun Γ s H C cl fp => jts0, fun _ Γ s H C cl fp => jIfI (c := bit m lo) (jtI (jand (jshr (jvar 8 rfl) (jvar 4 rfl) a0) jint)) (fun _ => jor (jvar 8 rfl) (jvar 6 rfl)) (fun _ => jvar 8 rfl)⟩))))), by (repeat' (first | exact Wk.nil | refine Wk.same ?_ | refine Wk.drop ?_))⟩
end
end Y
namespace Y
open PySem L2 J
section
variable {P : Program} {w : World} {K : PySem.W.Frag} {mg : Str → Option Value} {base : Heap}
/-! ### orders._upside_down -/
abbrev sUp : Stmt := top t__upside_down
abbrev nUp : List Str := ["masks", "places", "high", "low"]
theorem scUp : FnScope nUp ["masks"] (defScope sUp) := ⟨rfl, rfl, rfl, by decide +kernel, rfl, by decide +kernel, by decide +kernel⟩
def below1 (as : List Int) (hi : Int) : Int := (((rng 0 as.length).filter fun lo => bit (gI as lo) hi).map fun lo => 1 * 2 ^ lo.toNat).sum
def belows (as : List Int) : List Int := (rng 0 as.length).map (below1 as)
abbrev spUp (K : PySem.W.Frag) : Sp := spF K (fun as : List Int => as.length ≤ 16) (fun as => [.sh (.tup (as.map .int))]) (fun as => .ok (.sh (.tup ((belows as).map .int)), [none]))
theorem ok_up {f : Addr} {fd : FuncData} (F : Fun K "_upside_down" "_upside_down" sUp f fd) (Tx : Txt mg) : FnOk P w K mg base (L2.CX P w) 1 f fd ["masks"] (spUp K) := by
  refine jd F scUp _ _ _ (fun _ => rfl) (fun as hd cdv A outer s H E Γ hr tk => ?_)
  have e0 : ((as.map D.int).length : Nat) = as.length := List.length_map ..
  have hl : as.length ≤ 100000 := by have : as.length ≤ 16 := hd; omega
  have hb : -(2 ^ 62) ≤ (0 : Int) ∧ (0 : Int) < 2 ^ 62 ∧ -(2 ^ 62) ≤ ((as.length : Nat) : Int) ∧ ((as.length : Nat) : Int) < 2 ^ 62 := by omega
  refine ⟨_, jcons (jset 1 (jrng (j := (as.length : Nat)) Tx.range (jacons (by rw [← e0]; exact jlenT Tx.len (jacons (jvar 0 rfl) janil) (fun h => pe_callB call_len_seq (by rfl) Tx.len PySem.boot_len h)) janil)) scUp.nd)
    (jlast (jret (jtupL Tx.tuple (jacons (jfrz (jlcQ (rng 0 as.length) D.int (.n 2) [("high", 2)] (fun _ => true) (fun hi => .int (below1 as hi)) ((belows as).map .int) (inn_map _ _ _) scUp.nd (jirvN (jvar 1 rfl) hl) (blkOk_by (by show blkC nUp (defScope sUp) _ _ = true; decide +kernel))
      (fun s H C cl fp => pg_name scUp.nd rfl (by first | exact Or.inl rfl | exact Or.inr rfl)) (fun _ _ => trivial) (by rw [rng_len]; omega) (fun hi hhi => ⟨fun Γ s H C cl fp => jts0, fun _ Γ s H C cl fp => ?el⟩))) janil)))), rfl, rfl⟩
  case el =>
    refine jsum (by rfl) Tx.sum (jacons (jfrz (jlcQ (rng 0 as.length) D.int (.n 3) [("low", 3)] (fun lo => bit (gI as lo) hi) (fun lo => .int (1 * 2 ^ lo.toNat)) ((((rng 0 as.length).filter fun lo => bit (gI as lo) hi).map fun lo => 1 * 2 ^ lo.toNat).map .int) ?l1 scUp.nd (jirvN (jvar 1 rfl) hl) (blkOk_by ?blk)
      (fun s H C cl fp => pg_name scUp.nd rfl (by first | exact Or.inl rfl | exact Or.inr rfl)) (fun _ _ => trivial) (by rw [rng_len]; exact hl) (fun lo hlo => ⟨fun Γ s H C cl fp => jts1 (jtI (jand (jshr (jixT (jvar 0 rfl) (jvar 3 rfl) ?a1) (jvar 2 rfl) (mem_rng.mp hhi).1) jint)), fun _ Γ s H C cl fp => jshl jint (jvar 3 rfl) ?cp⟩))) janil)
    case l1 => exact inn_fm _ _ _ _
    case blk => rfl
    case a1 => exact atI_int (mem_rng.mp hlo).1 (by have := (mem_rng.mp hlo).2; omega)
    case cp => exact cpow1 (mem_rng.mp hlo).1 (by have := (mem_rng.mp hlo).2; have : as.length ≤ 16 := hd; omega)
end
end Y
namespace J
open PySem L2
/-- a def whose parameters have defaults -/
structure FunD (K : PySem.W.Frag) (x qual : Str) (st : Stmt) (f : Addr) (fd : FuncData) : Prop where
  ex : ∃ (oc : Value) (od : Option Addr) (dV kV doc pm : Value) (an : Option Addr) (cdv ct : Value) (osl : Array (Option Value)),
    fd = PySem.W.fnOf x qual (defArgs st) (defBody st) (defScope st) dV kV doc pm an cdv ct ∧ K.lookup f = some ⟨oc, od, .func fd, osl⟩ ∧ PySem.W.codeIn K cdv qual = true
theorem jdD {P : Program} {w : World} {K : PySem.W.Frag} {mg : Str → Option Value} {base : Heap} {ι : Type} {x qual : Str} {st : Stmt} {f : Addr} {fd : FuncData} {N ps : List Str} {k : Nat} (F : FunD K x qual st f fd) (Sc : FnScope N ps (defScope st)) (Pre : ι → Prop) (as : ι → List Sl) (o : ι → Except Er (Sl × Slots)) (hl : ∀ i, (as i).length = ps.length)
    (body : ∀ (i : ι), Pre i → ∀ (cdv : Value) (A : Around) (outer : List Env) (s : Shared) (H : Hp) (E : XK) (Γ : En), Room k (A.deeper (PyProof.Rows.envOfC qual (defScope st) s.heap.objs.size f cdv)) →
      Takes (cxOf (L2.CX P w) P w K mg base N qual (defScope st) f cdv A outer s H E) (fun cls d _ H => E cls d H) →
      ∃ out, PSs (cxOf (L2.CX P w) P w K mg base N qual (defScope st) f cdv A outer s H E) (defBody st) (JS K Γ (fun cls d _ H => E cls d H) (slots0 N (as i)) out) ∧ fin (as i) out = o i ∧ out.fine = true) :
    FnOk P w K mg base (L2.CX P w) (k + 1) f fd ps (spF K Pre as o) := by
  obtain ⟨oc, od, dV, kV, doc, pm, an, cdv, ct, osl, rfl, lk, hcd⟩ := F.ex
  refine fn_of lk hcd Sc (fun vs H Q E h => ?_) (fun A outer s H vs Q E hr h => ?_)
  · obtain ⟨i, _, S, Ms, ok, _⟩ := h
    have := ok.len
    rw [List.length_map, List.length_map] at this
    rw [this, hl i]
  · obtain ⟨i, hp, S, Ms, ok, q⟩ := h
    obtain ⟨out, hb, ho, hf⟩ := body i hp cdv A outer s H E ⟨S, H, ownOf Ms⟩ hr (takes_of rfl rfl rfl rfl)
    refine ⟨_, hb, S, Ms, ok_start ok, ?_⟩
    rw [← ho] at q
    exact wish_ends rfl ok q (fine_b hf).1 (fine_b hf).2
end J
namespace Y
open PySem L2 J
def ordB (i : Nat) : Stmt := match top t_Order with
  | .ClassDef _ _ _ b _ _ _ _ _ _ _ => b.getD i (.Pass ⟨0, 0, 0, 0⟩)
  | _ => .Pass ⟨0, 0, 0, 0⟩
section
variable {P : Program} {w : World} {K : PySem.W.Frag} {mg : Str → Option Value} {base : Heap} {C : Addr}
/-! ### Order.__init__ -/
abbrev sInit : Stmt := ordB 0
abbrev nInit : List Str := ["self", "size", "steps", "low", "high"]
theorem scInit : FnScope nInit ["self", "size", "steps"] (defScope sInit) := ⟨rfl, rfl, rfl, by decide +kernel, rfl, by decide +kernel, by decide +kernel⟩
def stepsIn (n : Int) (ab : List Int) : List Pr := (rng 0 n.toNat).flatMap fun lo => (placesIn (gI ab lo)).map fun hi => (lo, hi)
/-- what an order of n places, its steps told so, holds -/
def ordF (n : Int) (sts : List Pr) : List (Str × D) := [("size", .int n), ("aboves", .tup ((aboves n sts).map .int)), ("belows", .tup ((belows (aboves n sts)).map .int)), ("_steps", .tup ((stepsIn n (aboves n sts)).map prD))]
def preO (n : Int) (sts : List Pr) : Prop := (1 ≤ n ∧ n ≤ 16) ∧ (∀ p ∈ sts, okS n p) ∧ sts.length ≤ 1000 ∧ noRing n sts
abbrev spInit (K : PySem.W.Frag) (C : Addr) : Sp := spF K (fun i : Addr × Int × Bool × List Pr => preO i.2.1 i.2.2.2) (fun i => [.oi i.1 C [], .sh (.int i.2.1), .sh (seqD i.2.2.1 (i.2.2.2.map prD))]) (fun i => .ok (.sh .non, [some (.oi i.1 C (ordF i.2.1 i.2.2.2)), none, none]))
/-- what the class at C must be -/
structure OrdC (K : PySem.W.Frag) (C : Addr) : Prop where
  cls : Cls K C
  size : NoAttr K C "size"
  aboves : NoAttr K C "aboves"
  belows : NoAttr K C "belows"
  steps : NoAttr K C "_steps"
theorem aboves_len (n : Int) (sts : List Pr) : (aboves n sts).length = n.toNat := by unfold aboves; rw [List.length_map, ix_len, unders_len]
theorem placesIn_len (m : Int) : (placesIn m).length ≤ Builtin.Int.intBits m := by
  unfold placesIn
  exact Nat.le_trans (List.length_filter_le _ _) (by rw [rng_len]; exact Nat.le_refl _)
theorem stepsIn_len {n : Int} {ab : List Int} (hn : n ≤ 16) (h : ∀ lo, Builtin.Int.intBits (gI ab lo) ≤ 16) : (stepsIn n ab).length ≤ 256 := by
  unfold stepsIn
  refine Nat.le_trans (len_fm (k := 16) fun lo _ => ?_) ?_
  · rw [List.length_map]; exact Nat.le_trans (placesIn_len _) (h lo)
  · rw [rng_len]; omega
theorem ok_init {f : Addr} {fd : FuncData} (F : FunD K "__init__" "Order.__init__" sInit f fd) (Tx : Txt mg) (hC : OrdC K C) {tm : Tok} (hM : mg "MOST_PLACES" = some (.int 16 tm)) (hB : ∀ n sts, preO n sts → ∀ lo, Builtin.Int.intBits (gI (aboves n sts) lo) ≤ 16)
    (nC : Nm P w K mg base "check_number" ["value", "name", "least", "most"] 4 (spCheck K)) (nF : Nm P w K mg base "_followed" ["size", "steps"] 1 (spFollowed K)) (nS : Nm P w K mg base "steps_of" ["value", "size"] 4 (spStepsOf K))
    (nU : Nm P w K mg base "_upside_down" ["masks"] 1 (spUp K)) (nP : Nm P w K mg base "places_in" ["mask"] 1 (spF K (fun m : Int => Builtin.Int.intBits m < 1000) (fun m => [.sh (.int m)]) (fun m => .ok (.sh (.tup ((placesIn m).map .int)), [none])))) :
    FnOk P w K mg base (L2.CX P w) 5 f fd ["self", "size", "steps"] (spInit K C) := by
  obtain ⟨f1, fd1, F1, m1, k1, b1⟩ := nC.ex
  obtain ⟨f2, fd2, F2, m2, k2, b2⟩ := nF.ex
  obtain ⟨f3, fd3, F3, m3, k3, b3⟩ := nS.ex
  obtain ⟨f4, fd4, F4, m4, k4, b4⟩ := nU.ex
  obtain ⟨f5, fd5, F5, m5, k5, b5⟩ := nP.ex
  refine jdD F scInit _ _ _ (fun _ => rfl) (fun i hd cdv A outer s H E Γ hr tk => ?_)
  obtain ⟨p, n, b, sts⟩ := i
  have hpre : preO n sts := hd
  obtain ⟨⟨hn0, hn1⟩, hok, hz, hring⟩ := hpre
  refine ⟨_, jcons (jfset 0 (jcall F1 (hr.mono (by decide)) m1 k1 b1 (jacons (jvar 1 rfl) (jacons jstr (jacons jint (jacons (jglob hM) janil)))) (spF_at ((n, "size", 1, 16) : Int × Str × Int × Int) (And.intro hn0 hn1) rfl rfl)) rfl hC.cls hC.size)
    (jcons (jfset 0 (jcall F2 (hr.mono (by decide)) m2 k2 b2 (jacons (jvar 1 rfl) (jacons (jcall F3 hr m3 k3 b3 (jacons (jvar 2 rfl) (jacons (jvar 1 rfl) janil)) (spF_at (b, sts, n) (And.intro hok hz) rfl rfl)) janil)) (spF_at (n, sts) (And.intro (And.intro (by omega) hn1) (And.intro hok (And.intro hz hring))) rfl rfl)) rfl hC.cls hC.aboves)
    (jcons (jfset 0 (jcall F4 (hr.mono (by decide)) m4 k4 b4 (jacons (jfldO 0 rfl hC.cls hC.aboves rfl) janil) (spF_at (aboves n sts) (by rw [aboves_len]; omega) rfl rfl)) rfl hC.cls hC.belows)
    (jlast (jfset 0 (jtupL Tx.tuple (jacons (jfrz (jlc2 (rng 0 n.toNat) D.int (.n 3) (.n 4) [("low", 3), ("high", 4)] [4] (fun _ => true) (fun lo => placesIn (gI (aboves n sts) lo)) D.int (fun _ _ => true) (fun lo hi => prD (lo, hi)) scInit.nd (jir1 (jacons (jvar 1 rfl) janil) Tx.range ?b1) (blkOk_by (by show blkC nInit (defScope sInit) _ _ = true; decide +kernel))
      (fun s H C cl fp => pg_name scInit.nd rfl (by first | exact Or.inl rfl | exact Or.inr rfl)) (fun s H C cl fp => pg_name scInit.nd rfl (by first | exact Or.inl rfl | exact Or.inr rfl)) (Nat.le_of_ble_eq_true rfl) (by decide) (by decide) (by decide) (fun _ _ => trivial) ?b2
      (fun lo hlo => ⟨fun Γ s H C cl fp => jts0, fun _ => ⟨fun Γ s H C cl fp => jit (jcall F5 (hr.mono (by decide)) m5 k5 b5 (jacons (jixT (jfldO 0 rfl hC.cls hC.aboves rfl) (jvar 3 rfl) ?a1) janil) (spF_at (gI (aboves n sts) lo) ?c1 rfl rfl)), fun hi hhi => ⟨trivial, fun Γ s H C cl fp => jts0, fun _ Γ s H C cl fp => jtup (jacons (jvar 3 rfl) (jacons (jvar 4 rfl) janil))⟩⟩⟩))) janil)) rfl hC.cls hC.steps)))), ?e1, rfl⟩
  case b1 => omega
  case b2 => rw [fm2_tt (g := fun lo hi => (lo, hi)) (h := prD), List.length_map]; exact Nat.le_trans (stepsIn_len hn1 (hB n sts hd)) (by decide)
  case a1 =>
    refine atI_int (mem_rng.mp hlo).1 ?_
    have := (mem_rng.mp hlo).2
    rw [aboves_len]; omega
  case c1 => exact Nat.lt_of_le_of_lt (hB n sts hd lo) (by decide)
  case e1 =>
    rw [fm2_tt (g := fun lo hi => (lo, hi)) (h := prD)]
    show Except.ok (Sl.sh .non, [keepP (.oi p C []) (some (.oi p C (ordF n sts))), keepP (.sh _) _, keepP (.sh _) _]) = _
    rw [keepP_oi]; rfl
end
end Y
namespace Y
open PySem L2 J
structure O where
  n : Int
  ab : List Int
  be : List Int
  st : List Pr
def O.fs (o : O) : List (Str × D) := [("size", .int o.n), ("aboves", .tup (o.ab.map .int)), ("belows", .tup (o.be.map .int)), ("_steps", .tup (o.st.map prD))]
def O.d (C : Addr) (o : O) : D := .ins C o.fs
def mkO (n : Int) (sts : List Pr) : O := ⟨n, aboves n sts, belows (aboves n sts), stepsIn n (aboves n sts)⟩
/-- what every order keeps -/
structure O.Ok (o : O) : Prop where
  n0 : 1 ≤ o.n
  n1 : o.n ≤ 16
  ab : (o.ab.length : Int) = o.n
  be : (o.be.length : Int) = o.n
  st : ∀ p ∈ o.st, okS o.n p
  len : o.st.length ≤ 256
section
variable {P : Program} {w : World} {K : PySem.W.Frag} {mg : Str → Option Value} {base : Heap} {C CB CO : Addr}
abbrev spStepsTold (K : PySem.W.Frag) (C : Addr) : Sp := spF K (fun _ : O => True) (fun o => [.sh (o.d C)]) (fun o => .ok (.sh (.tup (o.st.map prD)), [none]))
theorem scTold : FnScope ["self"] ["self"] (defScope (ordB 2)) := ⟨rfl, rfl, rfl, by decide +kernel, rfl, by decide +kernel, by decide +kernel⟩
theorem ok_stepsTold {f : Addr} {fd : FuncData} (F : Fun K "steps_told" "Order.steps_told" (ordB 2) f fd) (hC : OrdC K C) : FnOk P w K mg base (L2.CX P w) 1 f fd ["self"] (spStepsTold K C) :=
  jd F scTold _ _ _ (fun _ => rfl) (fun o _ cdv A outer s H E Γ hr tk => ⟨_, jlast (jret (jfld (gs := o.fs) (jvar 0 rfl) hC.cls hC.steps rfl)), rfl, rfl⟩)
/-! next_steps -/
def isNext (o : O) (p : Pr) : Bool := !(Builtin.bitAnd (gI o.ab p.1) (gI o.be p.2) != 0)
def nextSteps (o : O) : List Pr := o.st.filter (isNext o)
abbrev nNext : List Str := ["self", "low", "high"]
theorem scNext : FnScope nNext ["self"] (defScope (ordB 3)) := ⟨rfl, rfl, rfl, by decide +kernel, rfl, by decide +kernel, by decide +kernel⟩
abbrev spNext (K : PySem.W.Frag) (C : Addr) : Sp := spF K O.Ok (fun o => [.sh (o.d C)]) (fun o => .ok (.sh (.tup ((nextSteps o).map prD)), [none]))
theorem ok_next {f : Addr} {fd : FuncData} (F : Fun K "next_steps" "Order.next_steps" (ordB 3) f fd) (Tx : Txt mg) (hC : OrdC K C) : FnOk P w K mg base (L2.CX P w) 1 f fd ["self"] (spNext K C) := by
  refine jd F scNext _ _ _ (fun _ => rfl) (fun o ho cdv A outer s H E Γ hr tk => ?_)
  refine ⟨_, jlast (jret (jtupL Tx.tuple (jacons (jfrz (jlcP o.st prD (Tg.t [1, 2]) [("low", 1), ("high", 2)] (isNext o) prD scNext.nd (jit (jfld (gs := o.fs) (jvar 0 rfl) hC.cls hC.steps rfl)) (blkOk_by (by show blkC nNext (defScope (ordB 3)) _ _ = true; decide +kernel))
    (fun s H C cl fp => pg_tup rfl (pgs_cons (pg_name scNext.nd rfl (by first | exact Or.inl rfl | exact Or.inr rfl)) (pgs_cons (pg_name scNext.nd rfl (by first | exact Or.inl rfl | exact Or.inr rfl)) pgs_nil))) (fun x _ => ⟨_, rfl, _, _, rfl, trivial, _, _, rfl, trivial, rfl⟩) (Nat.le_trans ho.len (by decide))
    (fun p hp => ⟨fun Γ s H C cl fp => jts1 (jtNot (jtI (jand (jixT (jfld (gs := o.fs) (jvar 0 rfl) hC.cls hC.aboves rfl) (jvar 1 rfl) ?a1) (jixT (jfld (gs := o.fs) (jvar 0 rfl) hC.cls hC.belows rfl) (jvar 2 rfl) ?a2)))), fun _ Γ s H C cl fp => jtup (jacons (jvar 1 rfl) (jacons (jvar 2 rfl) janil))⟩))) janil))), rfl, rfl⟩
  case a1 => obtain ⟨⟨h1, h2⟩, h3, h4⟩ := okS_in (ho.st p hp); exact atI_int h1 (by rw [ho.ab]; exact h2)
  case a2 => obtain ⟨⟨h1, h2⟩, h3, h4⟩ := okS_in (ho.st p hp); exact atI_int h3 (by rw [ho.be]; exact h4)
/-! are_open -/
def isOpen (o : O) (x y : Int) : Bool := !decide (x = y) && !bit (Builtin.bitOr (gI o.ab x) (gI o.be x)) y
abbrev nOpen : List Str := ["self", "x", "y", "low", "high"]
theorem scOpen : FnScope nOpen ["self", "x", "y"] (defScope (ordB 6)) := ⟨rfl, rfl, rfl, by decide +kernel, rfl, by decide +kernel, by decide +kernel⟩
abbrev spOpen (K : PySem.W.Frag) (C : Addr) : Sp := spF K (fun i : O × Int × Int => i.1.Ok ∧ inR i.2.1 i.1.n = true ∧ inR i.2.2 i.1.n = true) (fun i => [.sh (i.1.d C), .sh (.int i.2.1), .sh (.int i.2.2)]) (fun i => .ok (.sh (.bl (isOpen i.1 i.2.1 i.2.2)), [none, none, none]))
theorem inR_iff {i n : Int} : inR i n = true ↔ 0 ≤ i ∧ i < n := by unfold inR; rw [Bool.and_eq_true, decide_eq_true_eq, decide_eq_true_eq]
theorem placeOf_at {K : PySem.W.Frag} {x n : Int} {nm : Str} (h : inR x n = true) : ∀ vs H Q E, spJ K [.sh (.int x), .sh (.int n), .sh (.str nm)] (.ok (.sh (.int x), [none, none, none])) vs H Q E → spPlaceOf K CB vs H Q E :=
  spF_at ((.int x, n, nm) : D × Int × Str) (.int x) rfl (by show _ = (if (!inR x n) = true then _ else _); rw [h]; rfl)
theorem ok_open {f : Addr} {fd : FuncData} (F : Fun K "are_open" "Order.are_open" (ordB 6) f fd) (hC : OrdC K C) (nP : Nm P w K mg base "place_of" ["value", "size", "name"] 3 (spPlaceOf K CB)) : FnOk P w K mg base (L2.CX P w) 4 f fd ["self", "x", "y"] (spOpen K C) := by
  obtain ⟨f1, fd1, F1, m1, k1, b1⟩ := nP.ex
  refine jd F scOpen _ _ _ (fun _ => rfl) (fun i hd cdv A outer s H E Γ hr tk => ?_)
  obtain ⟨o, x, y⟩ := i
  obtain ⟨ho, hx, hy⟩ := hd
  have hx' := inR_iff.mp hx
  refine ⟨_, jcons (jset 3 (jcall F1 hr m1 k1 b1 (jacons (jvar 1 rfl) (jacons (jfld (gs := o.fs) (jvar 0 rfl) hC.cls hC.size rfl) (jacons jstr janil))) (placeOf_at hx)) scOpen.nd)
    (jcons (jset 4 (jcall F1 hr m1 k1 b1 (jacons (jvar 2 rfl) (jacons (jfld (gs := o.fs) (jvar 0 rfl) hC.cls hC.size rfl) (jacons jstr janil))) (placeOf_at hy)) scOpen.nd)
    (jlast (jret (jAnd (c := !decide (x = y)) (c' := !bit (Builtin.bitOr (gI o.ab x) (gI o.be x)) y) (jneI (jvar 3 rfl) (jvar 4 rfl)) (fun _ => jOne (jNotI (jand (jshr (jor (jixT (jfld (gs := o.fs) (jvar 0 rfl) hC.cls hC.aboves rfl) (jvar 3 rfl) ?a1) (jixT (jfld (gs := o.fs) (jvar 0 rfl) hC.cls hC.belows rfl) (jvar 3 rfl) ?a2)) (jvar 4 rfl) (inR_iff.mp hy).1) jint))))))), rfl, rfl⟩
  case a1 => exact atI_int hx'.1 (by rw [ho.ab]; exact hx'.2)
  case a2 => exact atI_int hx'.1 (by rw [ho.be]; exact hx'.2)
end
end Y
namespace Y
open PySem L2 J
/-! ### pairs compared -/
theorem pd_pr (p : Pr) : (prD p).pd = .tuple [.int p.1, .int p.2] := by unfold prD; simp [D.pd, D.pds]
theorem deq_pr (p q : Pr) : deq (prD p) (prD q) = decide (p = q) := by
  unfold deq
  rw [pd_pr, pd_pr]
  obtain ⟨a, b⟩ := p
  obtain ⟨c, d⟩ := q
  simp [PyData.eqv, PyData.eqvAll, Bool.decide_and]
  rfl
theorem pds_eqv : ∀ (a b : List Pr), PyData.eqvAll (D.pds (a.map prD)) (D.pds (b.map prD)) = decide (a = b)
  | [], [] => by simp [D.pds, PyData.eqvAll]
  | [], _ :: _ => by simp [D.pds, PyData.eqvAll]
  | _ :: _, [] => by simp [D.pds, PyData.eqvAll]
  | p :: a, q :: b => by
    rw [List.map_cons, List.map_cons, D.pds, D.pds, PyData.eqvAll, pds_eqv a b]
    have := deq_pr p q
    unfold deq at this
    rw [this]
    by_cases h1 : p = q <;> by_cases h2 : a = b <;> simp [h1, h2]
theorem deq_tprs (a b : List Pr) : deq (.tup (a.map prD)) (.tup (b.map prD)) = decide (a = b) := by unfold deq; rw [D.pd, D.pd, PyData.eqv, pds_eqv]
theorem deq_lprs (a b : List Pr) : deq (.lst (a.map prD)) (.lst (b.map prD)) = decide (a = b) := by unfold deq; rw [D.pd, D.pd, PyData.eqv, pds_eqv]
theorem any_prs (a : List Pr) (p : Pr) : ((a.map prD).any fun z => deq z (prD p)) = decide (p ∈ a) := by
  induction a with
  | nil => simp
  | cons q a ih =>
    rw [List.map_cons, List.any_cons, ih, deq_pr]
    by_cases h : q = p
    · subst h; simp
    · have h' : p ≠ q := fun z => h z.symm
      simp [h, h']
theorem pln_prs : ∀ (a : List Pr), D.plns (a.map prD) = true
  | [] => rfl
  | p :: a => by rw [List.map_cons, D.plns, pln_prs a]; unfold prD; simp [D.pln, D.plns]
theorem dep_prs : ∀ (a : List Pr), PyData.depthAll (D.pds (a.map prD)) ≤ 1
  | [] => by simp [D.pds, PyData.depthAll]
  | p :: a => by
    rw [List.map_cons, D.pds, PyData.depthAll, pd_pr]
    have := dep_prs a
    simp [PyData.depth, PyData.depthAll]
    omega
theorem cmp_tprs (a : List Pr) : Cmp (.tup (a.map prD)) := ⟨by rw [D.pln]; exact pln_prs a, by rw [D.pd, PyData.depth]; have := dep_prs a; omega⟩
theorem cmp_lprs (a : List Pr) : Cmp (.lst (a.map prD)) := ⟨by rw [D.pln]; exact pln_prs a, by rw [D.pd, PyData.depth]; have := dep_prs a; omega⟩
theorem cmp_pr (p : Pr) : Cmp (prD p) := ⟨by unfold prD; simp [D.pln, D.plns], by rw [pd_pr]; simp [PyData.depth, PyData.depthAll]⟩
theorem _root_.L2.Room.u64 {k : Nat} {A : Around} (r : Room k A) : A.units + 64 < cLine := by have := r.un; omega
theorem _root_.L2.Room.u65 {k : Nat} {A : Around} (r : Room k A) : A.units + 65 < cLine := by have := r.un; omega
section
variable {X : Cx} {Γ : En} {A A1 A2 : Slots} {a b : Expr} {pos : Pos} {p q : Pr} {l m : List Pr}
theorem jinTP (hu : X.A.units + 65 < cLine) (ha : PE X a (JE X.K Γ A (.sh (prD p)) A1)) (hb : PE X b (JE X.K Γ A1 (.sh (.tup (l.map prD))) A2)) (hm : behindInMarks .In b = false := by rfl) : PE X (.Compare a [.In] [b] pos) (JE X.K Γ A (.sh (.bl (decide (p ∈ l)))) A2) := by
  rw [← any_prs]; exact jinT hu ha hb (cmp_pr p) (cmp_tprs l) hm
theorem jtinTP (hu : X.A.units + 65 < cLine) (ha : PE X a (JE X.K Γ A (.sh (prD p)) A1)) (hb : PE X b (JE X.K Γ A1 (.sh (.tup (l.map prD))) A2)) (hm : behindInMarks .In b = false := by rfl) : PT X (.Compare a [.In] [b] pos) (JT X.K Γ A (decide (p ∈ l)) A2) := by
  rw [← any_prs]; exact jtinT hu ha hb (cmp_pr p) (cmp_tprs l) hm
theorem jinLP (hu : X.A.units + 65 < cLine) (ha : PE X a (JE X.K Γ A (.sh (prD p)) A1)) (hb : PE X b (JE X.K Γ A1 (.sh (.lst (l.map prD))) A2)) (hm : behindInMarks .In b = false := by rfl) : PE X (.Compare a [.In] [b] pos) (JE X.K Γ A (.sh (.bl (decide (p ∈ l)))) A2) := by
  rw [← any_prs]; exact jinL hu ha hb (cmp_pr p) (cmp_lprs l) hm
theorem jtinLP (hu : X.A.units + 65 < cLine) (ha : PE X a (JE X.K Γ A (.sh (prD p)) A1)) (hb : PE X b (JE X.K Γ A1 (.sh (.lst (l.map prD))) A2)) (hm : behindInMarks .In b = false := by rfl) : PT X (.Compare a [.In] [b] pos) (JT X.K Γ A (decide (p ∈ l)) A2) := by
  rw [← any_prs]; exact jtinL hu ha hb (cmp_pr p) (cmp_lprs l) hm
theorem jniTP (hu : X.A.units + 65 < cLine) (ha : PE X a (JE X.K Γ A (.sh (prD p)) A1)) (hb : PE X b (JE X.K Γ A1 (.sh (.tup (l.map prD))) A2)) (hm : behindInMarks .NotIn b = false := by rfl) : PE X (.Compare a [.NotIn] [b] pos) (JE X.K Γ A (.sh (.bl (!decide (p ∈ l)))) A2) := by
  rw [← any_prs]; exact jniT hu ha hb (cmp_pr p) (cmp_tprs l) hm
theorem jtniTP (hu : X.A.units + 65 < cLine) (ha : PE X a (JE X.K Γ A (.sh (prD p)) A1)) (hb : PE X b (JE X.K Γ A1 (.sh (.tup (l.map prD))) A2)) (hm : behindInMarks .NotIn b = false := by rfl) : PT X (.Compare a [.NotIn] [b] pos) (JT X.K Γ A (!decide (p ∈ l)) A2) := by
  rw [← any_prs]; exact jtniT hu ha hb (cmp_pr p) (cmp_tprs l) hm
theorem jniLP (hu : X.A.units + 65 < cLine) (ha : PE X a (JE X.K Γ A (.sh (prD p)) A1)) (hb : PE X b (JE X.K Γ A1 (.sh (.lst (l.map prD))) A2)) (hm : behindInMarks .NotIn b = false := by rfl) : PE X (.Compare a [.NotIn] [b] pos) (JE X.K Γ A (.sh (.bl (!decide (p ∈ l)))) A2) := by
  rw [← any_prs]; exact jniL hu ha hb (cmp_pr p) (cmp_lprs l) hm
theorem jtniLP (hu : X.A.units + 65 < cLine) (ha : PE X a (JE X.K Γ A (.sh (prD p)) A1)) (hb : PE X b (JE X.K Γ A1 (.sh (.lst (l.map prD))) A2)) (hm : behindInMarks .NotIn b = false := by rfl) : PT X (.Compare a [.NotIn] [b] pos) (JT X.K Γ A (!decide (p ∈ l)) A2) := by
  rw [← any_prs]; exact jtniL hu ha hb (cmp_pr p) (cmp_lprs l) hm
theorem jeqTP (hu : X.A.units + 64 < cLine) (ha : PE X a (JE X.K Γ A (.sh (.tup (l.map prD))) A1)) (hb : PE X b (JE X.K Γ A1 (.sh (.tup (m.map prD))) A2)) : PE X (.Compare a [.Eq] [b] pos) (JE X.K Γ A (.sh (.bl (decide (l = m)))) A2) := by
  rw [← deq_tprs]; exact jeqD hu ha hb (cmp_tprs l) (cmp_tprs m)
theorem jteqTP (hu : X.A.units + 64 < cLine) (ha : PE X a (JE X.K Γ A (.sh (.tup (l.map prD))) A1)) (hb : PE X b (JE X.K Γ A1 (.sh (.tup (m.map prD))) A2)) : PT X (.Compare a [.Eq] [b] pos) (JT X.K Γ A (decide (l = m)) A2) := by
  rw [← deq_tprs]; exact jteqD hu ha hb (cmp_tprs l) (cmp_tprs m)
theorem jeqLP (hu : X.A.units + 64 < cLine) (ha : PE X a (JE X.K Γ A (.sh (.lst (l.map prD))) A1)) (hb : PE X b (JE X.K Γ A1 (.sh (.lst (m.map prD))) A2)) : PE X (.Compare a [.Eq] [b] pos) (JE X.K Γ A (.sh (.bl (decide (l = m)))) A2) := by
  rw [← deq_lprs]; exact jeqD hu ha hb (cmp_lprs l) (cmp_lprs m)
theorem jteqLP (hu : X.A.units + 64 < cLine) (ha : PE X a (JE X.K Γ A (.sh (.lst (l.map prD))) A1)) (hb : PE X b (JE X.K Γ A1 (.sh (.lst (m.map prD))) A2)) : PT X (.Compare a [.Eq] [b] pos) (JT X.K Γ A (decide (l = m)) A2) := by
  rw [← deq_lprs]; exact jteqD hu ha hb (cmp_lprs l) (cmp_lprs m)
theorem jneTP (hu : X.A.units + 64 < cLine) (ha : PE X a (JE X.K Γ A (.sh (.tup (l.map prD))) A1)) (hb : PE X b (JE X.K Γ A1 (.sh (.tup (m.map prD))) A2)) : PE X (.Compare a [.NotEq] [b] pos) (JE X.K Γ A (.sh (.bl (!decide (l = m)))) A2) := by
  rw [← deq_tprs]; exact jneD hu ha hb (cmp_tprs l) (cmp_tprs m)
theorem jtneTP (hu : X.A.units + 64 < cLine) (ha : PE X a (JE X.K Γ A (.sh (.tup (l.map prD))) A1)) (hb : PE X b (JE X.K Γ A1 (.sh (.tup (m.map prD))) A2)) : PT X (.Compare a [.NotEq] [b] pos) (JT X.K Γ A (!decide (l = m)) A2) := by
  rw [← deq_tprs]; exact jtneD hu ha hb (cmp_tprs l) (cmp_tprs m)
theorem jneLP (hu : X.A.units + 64 < cLine) (ha : PE X a (JE X.K Γ A (.sh (.lst (l.map prD))) A1)) (hb : PE X b (JE X.K Γ A1 (.sh (.lst (m.map prD))) A2)) : PE X (.Compare a [.NotEq] [b] pos) (JE X.K Γ A (.sh (.bl (!decide (l = m)))) A2) := by
  rw [← deq_lprs]; exact jneD hu ha hb (cmp_lprs l) (cmp_lprs m)
theorem jtneLP (hu : X.A.units + 64 < cLine) (ha : PE X a (JE X.K Γ A (.sh (.lst (l.map prD))) A1)) (hb : PE X b (JE X.K Γ A1 (.sh (.lst (m.map prD))) A2)) : PT X (.Compare a [.NotEq] [b] pos) (JT X.K Γ A (!decide (l = m)) A2) := by
  rw [← deq_lprs]; exact jtneD hu ha hb (cmp_lprs l) (cmp_lprs m)
theorem jeqPr (hu : X.A.units + 64 < cLine) (ha : PE X a (JE X.K Γ A (.sh (prD p)) A1)) (hb : PE X b (JE X.K Γ A1 (.sh (prD q)) A2)) : PE X (.Compare a [.Eq] [b] pos) (JE X.K Γ A (.sh (.bl (decide (p = q)))) A2) := by
  rw [← deq_pr]; exact jeqD hu ha hb (cmp_pr p) (cmp_pr q)
theorem jteqPr (hu : X.A.units + 64 < cLine) (ha : PE X a (JE X.K Γ A (.sh (prD p)) A1)) (hb : PE X b (JE X.K Γ A1 (.sh (prD q)) A2)) : PT X (.Compare a [.Eq] [b] pos) (JT X.K Γ A (decide (p = q)) A2) := by
  rw [← deq_pr]; exact jteqD hu ha hb (cmp_pr p) (cmp_pr q)
theorem jnePr (hu : X.A.units + 64 < cLine) (ha : PE X a (JE X.K Γ A (.sh (prD p)) A1)) (hb : PE X b (JE X.K Γ A1 (.sh (prD q)) A2)) : PE X (.Compare a [.NotEq] [b] pos) (JE X.K Γ A (.sh (.bl (!decide (p = q)))) A2) := by
  rw [← deq_pr]; exact jneD hu ha hb (cmp_pr p) (cmp_pr q)
theorem jtnePr (hu : X.A.units + 64 < cLine) (ha : PE X a (JE X.K Γ A (.sh (prD p)) A1)) (hb : PE X b (JE X.K Γ A1 (.sh (prD q)) A2)) : PT X (.Compare a [.NotEq] [b] pos) (JT X.K Γ A (!decide (p = q)) A2) := by
  rw [← deq_pr]; exact jtneD hu ha hb (cmp_pr p) (cmp_pr q)
end
section
variable {P : Program} {w : World} {K : PySem.W.Frag} {mg : Str → Option Value} {base : Heap} {C CB CO : Addr}
theorem zp_map {α β : Type} (g : α → D) (h : β → D) (l : List α) (m : List β) : zp (l.map g) (m.map h) = (l.zip m).map fun t => D.tup [g t.1, h t.2] := by
  unfold zp
  rw [List.zipWith_map, List.zip, List.map_zipWith]
/-! holds -/
def keepsM (t : Int × Int) : Bool := decide (Builtin.bitOr t.1 t.2 = t.1)
def holdsB (o o' : O) : Bool := ((o.ab.zip o'.ab).map keepsM).all id
abbrev nHolds : List Str := ["self", "other", "mine", "theirs"]
theorem scHolds : FnScope nHolds ["self", "other"] (defScope (ordB 12)) := ⟨rfl, rfl, rfl, by decide +kernel, rfl, by decide +kernel, by decide +kernel⟩
abbrev spHolds (K : PySem.W.Frag) (C CO : Addr) : Sp := spF K (fun i : O × O => i.1.Ok) (fun i => [.sh (i.1.d C), .sh (i.2.d C)]) (fun i => if (!decide (i.2.n = i.1.n)) = true then .error (exE CO [("size", .int i.2.n)]) else .ok (.sh (.bl (holdsB i.1 i.2)), [none, none]))
theorem ok_holds {f : Addr} {fd : FuncData} (F : Fun K "holds" "Order.holds" (ordB 12) f fd) (Tx : Txt mg) (hC : OrdC K C) (nX : NmX P w K mg base "OtherSize" CO ["size"]) : FnOk P w K mg base (L2.CX P w) 3 f fd ["self", "other"] (spHolds K C CO) := by
  refine jd F scHolds _ _ _ (fun _ => rfl) (fun i hd cdv A outer s H E Γ hr tk => ?_)
  obtain ⟨o, o'⟩ := i
  have ho : o.Ok := hd
  refine ⟨_, jifx (c := !decide (o'.n = o.n)) (jtneI (jfld (gs := o'.fs) (jvar 1 rfl) hC.cls hC.size rfl) (jfld (gs := o.fs) (jvar 0 rfl) hC.cls hC.size rfl)) (fun _ => jlast (jraise rfl tk nX.xc hr nX.gl (jacons (jfld (gs := o'.fs) (jvar 1 rfl) hC.cls hC.size rfl) janil))) rfl (fun _ => jlast (jret (jall rfl Tx.all
    (jacons (jfrz (jlcQ (o.ab.zip o'.ab) (fun t => D.tup [.int t.1, .int t.2]) (Tg.t [2, 3]) [("mine", 2), ("theirs", 3)] (fun _ => true) (fun t => .bl (keepsM t)) (((o.ab.zip o'.ab).map keepsM).map .bl) (inn_map _ _ _) scHolds.nd
      (by rw [← zp_map D.int D.int]; exact jizT (jacons (jfld (gs := o.fs) (jvar 0 rfl) hC.cls hC.aboves rfl) (jacons (jfld (gs := o'.fs) (jvar 1 rfl) hC.cls hC.aboves rfl) janil)) Tx.zip) (blkOk_by (by show blkC nHolds (defScope (ordB 12)) _ _ = true; decide +kernel))
      (fun s H C cl fp => pg_tup rfl (pgs_cons (pg_name scHolds.nd rfl (by first | exact Or.inl rfl | exact Or.inr rfl)) (pgs_cons (pg_name scHolds.nd rfl (by first | exact Or.inl rfl | exact Or.inr rfl)) pgs_nil))) (fun x _ => ⟨_, rfl, _, _, rfl, trivial, _, _, rfl, trivial, rfl⟩) ?b1
      (fun t ht => ⟨fun Γ s H C cl fp => jts0, fun _ Γ s H C cl fp => jeqI (jor (jvar 2 rfl) (jvar 3 rfl)) (jvar 2 rfl)⟩))) janil)))), by rw [fin_ite]; rfl, Out.fine_ite rfl rfl⟩
  case b1 =>
    rw [List.length_zip]
    have h1 := ho.ab
    have h2 := ho.n1
    omega
/-! __eq__, __contains__, __len__ -/
def eqO (o o' : O) : Bool := decide (o.n = o'.n) && decide (o.st = o'.st)
theorem scEq : FnScope ["self", "other"] ["self", "other"] (defScope (ordB 15)) := ⟨rfl, rfl, rfl, by decide +kernel, rfl, by decide +kernel, by decide +kernel⟩
abbrev spEq (K : PySem.W.Frag) (C : Addr) : Sp := spF K (fun _ : O × O => True) (fun i => [.sh (i.1.d C), .sh (i.2.d C)]) (fun i => .ok (.sh (.bl (eqO i.1 i.2)), [none, none]))
theorem ok_eq {f : Addr} {fd : FuncData} (F : Fun K "__eq__" "Order.__eq__" (ordB 15) f fd) (Tx : Txt mg) (hC : OrdC K C) (hI : C8.InsC K C) (hg : mg "Order" = some (.ref C)) : FnOk P w K mg base (L2.CX P w) 1 f fd ["self", "other"] (spEq K C) := by
  refine jd F scEq _ _ _ (fun _ => rfl) (fun i hd cdv A outer s H E Γ hr tk => ?_)
  obtain ⟨o, o'⟩ := i
  refine ⟨_, jlast (jret (jAnd (c := true) (c' := eqO o o') (jisO (gs := o'.fs) hI (jvar 1 rfl) Tx.isin hg) (fun _ => jAnd (c := decide (o.n = o'.n)) (c' := decide (o.st = o'.st)) (jeqI (jfld (gs := o.fs) (jvar 0 rfl) hC.cls hC.size rfl) (jfld (gs := o'.fs) (jvar 1 rfl) hC.cls hC.size rfl))
    (fun _ => jOne (jeqTP hr.u64 (jfld (gs := o.fs) (jvar 0 rfl) hC.cls hC.steps rfl) (jfld (gs := o'.fs) (jvar 1 rfl) hC.cls hC.steps rfl)))))), rfl, rfl⟩
theorem scCont : FnScope ["self", "x"] ["self", "x"] (defScope (ordB 16)) := ⟨rfl, rfl, rfl, by decide +kernel, rfl, by decide +kernel, by decide +kernel⟩
abbrev spCont (K : PySem.W.Frag) (C : Addr) : Sp := spF K (fun _ : O × Pr => True) (fun i => [.sh (i.1.d C), .sh (prD i.2)]) (fun i => .ok (.sh (.bl (decide (i.2 ∈ i.1.st))), [none, none]))
theorem ok_cont {f : Addr} {fd : FuncData} (F : Fun K "__contains__" "Order.__contains__" (ordB 16) f fd) (hC : OrdC K C) : FnOk P w K mg base (L2.CX P w) 1 f fd ["self", "x"] (spCont K C) := by
  refine jd F scCont _ _ _ (fun _ => rfl) (fun i hd cdv A outer s H E Γ hr tk => ?_)
  obtain ⟨o, p⟩ := i
  refine ⟨_, jlast (jret (jinTP (p := p) hr.u65 (jvar 1 rfl) (jfld (gs := o.fs) (jvar 0 rfl) hC.cls hC.steps rfl))), rfl, rfl⟩
theorem scLen : FnScope ["self"] ["self"] (defScope (ordB 17)) := ⟨rfl, rfl, rfl, by decide +kernel, rfl, by decide +kernel, by decide +kernel⟩
abbrev spLen (K : PySem.W.Frag) (C : Addr) : Sp := spF K (fun _ : O => True) (fun o => [.sh (o.d C)]) (fun o => .ok (.sh (.int (o.ab.length : Nat)), [none]))
theorem ok_len {f : Addr} {fd : FuncData} (F : Fun K "__len__" "Order.__len__" (ordB 17) f fd) (Tx : Txt mg) (hC : OrdC K C) : FnOk P w K mg base (L2.CX P w) 1 f fd ["self"] (spLen K C) := by
  refine jd F scLen _ _ _ (fun _ => rfl) (fun o hd cdv A outer s H E Γ hr tk => ?_)
  refine ⟨_, jlast (jret (jlenT Tx.len (jacons (jfld (gs := o.fs) (jvar 0 rfl) hC.cls hC.aboves rfl) janil) (fun h => pe_callB call_len_seq (by rfl) Tx.len PySem.boot_len h))), by rw [List.length_map]; rfl, rfl⟩
end
end Y
namespace Y
open PySem L2 J
section
variable {X : Cx} {Γ : En} {A A1 : Slots} {e tg : Expr}
theorem jirvZ {n : Int} (h : PE X e (JE X.K Γ A (.sh (.rng 0 n)) A1)) (h0 : 0 ≤ n) (hn : n ≤ 100000) : PI X tg e (JI X.K Γ A ((rng 0 n.toNat).map .int) A1) := by
  have q := jirv (tg := tg) h (by omega)
  rw [show (n - 0).toNat = n.toNat by omega] at q; exact q
end
theorem inR_rng {x n : Int} (h : x ∈ rng 0 n.toNat) : inR x n = true := by
  have h := mem_rng.mp h
  exact inR_iff.mpr ⟨h.1, by omega⟩
theorem fm2_tc {α β γ : Type} (ys : α → List β) (c1 : α → β → Bool) (g : α → β → γ) (h : γ → D) (xs : List α) : fm2 (fun _ => true) ys c1 (fun a b => h (g a b)) xs = (xs.flatMap fun a => ((ys a).filter (c1 a)).map (g a)).map h := by
  unfold fm2
  rw [List.map_flatMap]
  congr 1
  funext a
  rw [if_pos rfl, inn_fm]
section
variable {P : Program} {w : World} {K : PySem.W.Frag} {mg : Str → Option Value} {base : Heap} {C CB CO CN : Addr}
/-! __iter__ -/
theorem scIter : FnScope ["self"] ["self"] (defScope (ordB 18)) := ⟨rfl, rfl, rfl, by decide +kernel, rfl, by decide +kernel, by decide +kernel⟩
theorem ok_iter {f : Addr} {fd : FuncData} (F : Fun K "__iter__" "Order.__iter__" (ordB 18) f fd) (hm : mg "iter" = none) (hC : OrdC K C) : FnOk P w K mg base (L2.CX P w) 1 f fd ["self"] (spIt K C "_steps") := by
  refine F.okX scIter (fun vs H Q E h => ?_) (fun cdv A outer s H vs Q E hr h => ?_)
  · obtain ⟨a, dx, fs, t, zs, rfl, _⟩ := h; rfl
  · obtain ⟨a, dx, fs, t, zs, rfl, ha, hl, ht, q⟩ := h
    exact ⟨_, pss_one (ps_ret (pe_callB call_iterT (by rfl) hm (by decide +kernel) (pa_cons (pe_fld (pe_var (i := 0) rfl (by first | exact Or.inl rfl | exact Or.inr (Or.inl rfl)) (by decide) (by decide)) (by rfl)) pa_nil (by rfl)))), .ref a, rfl, a, C, dx, fs, .ref t, rfl, ha, hC.cls, hC.steps, hl, t, zs, rfl, ht, q⟩
/-! ### ties -/
/-- a method of the class at C -/
structure NmM (P : Program) (w : World) (K : PySem.W.Frag) (mg : Str → Option Value) (base : Heap) (C : Addr) (m : Str) (ps : List Str) (k : Nat) (sp : Sp) : Prop where
  ex : ∃ f fd, FnOk P w K mg base (L2.CX P w) k f fd ps sp ∧ Meth K C m f ∧ Binds K fd ps []
def keepsB (o : O) (lo hi : Int) : Bool := decide (Builtin.bitOr (gI o.be lo) (gI o.be hi) = gI o.be hi) && decide (Builtin.bitOr (gI o.ab hi) (gI o.ab lo) = gI o.ab lo)
def isSingle (o : O) (lo hi : Int) : Bool := isOpen o lo hi && keepsB o lo hi
abbrev sSingle : Stmt := top t__is_single
abbrev nSingle : List Str := ["order", "low", "high", "keeps_below", "keeps_above"]
theorem scSingle : FnScope nSingle ["order", "low", "high"] (defScope sSingle) := ⟨rfl, rfl, rfl, by decide +kernel, rfl, by decide +kernel, by decide +kernel⟩
abbrev spSingle (K : PySem.W.Frag) (C : Addr) : Sp := spF K (fun i : O × Int × Int => i.1.Ok ∧ inR i.2.1 i.1.n = true ∧ inR i.2.2 i.1.n = true) (fun i => [.sh (i.1.d C), .sh (.int i.2.1), .sh (.int i.2.2)]) (fun i => .ok (.sh (.bl (isSingle i.1 i.2.1 i.2.2)), [none, none, none]))
theorem ok_single {f : Addr} {fd : FuncData} (F : Fun K "_is_single" "_is_single" sSingle f fd) (hC : OrdC K C) (nO : NmM P w K mg base C "are_open" ["self", "x", "y"] 4 (spOpen K C)) : FnOk P w K mg base (L2.CX P w) 5 f fd ["order", "low", "high"] (spSingle K C) := by
  obtain ⟨f1, fd1, F1, m1, b1⟩ := nO.ex
  refine jd F scSingle _ _ _ (fun _ => rfl) (fun i hd cdv A outer s H E Γ hr tk => ?_)
  obtain ⟨o, x, y⟩ := i
  obtain ⟨ho, hx, hy⟩ := hd
  have hx' := inR_iff.mp hx
  have hy' := inR_iff.mp hy
  have bx : atI (o.be.map D.int) x = some (.int (gI o.be x)) := atI_int hx'.1 (by rw [ho.be]; exact hx'.2)
  have by' : atI (o.be.map D.int) y = some (.int (gI o.be y)) := atI_int hy'.1 (by rw [ho.be]; exact hy'.2)
  have ax : atI (o.ab.map D.int) x = some (.int (gI o.ab x)) := atI_int hx'.1 (by rw [ho.ab]; exact hx'.2)
  have ay : atI (o.ab.map D.int) y = some (.int (gI o.ab y)) := atI_int hy'.1 (by rw [ho.ab]; exact hy'.2)
  refine ⟨_, jifx (c := !isOpen o x y) (jtNot (jtB (jmeth (gs := o.fs) (jvar 0 rfl) hC.cls m1 F1 hr b1 rfl (jacons (jvar 1 rfl) (jacons (jvar 2 rfl) janil)) (spF_at (o, x, y) (And.intro ho (And.intro hx hy)) rfl rfl) (Nat.le_of_ble_eq_true rfl) (fun he ha => pe_meth he hC.cls m1 F1 hr b1 .nil passL ha)))) (fun _ => jlast (jret jbl)) rfl
    (fun _ => jcons (jset 3 (jeqI (jor (jixT (jfld (gs := o.fs) (jvar 0 rfl) hC.cls hC.belows rfl) (jvar 1 rfl) bx) (jixT (jfld (gs := o.fs) (jvar 0 rfl) hC.cls hC.belows rfl) (jvar 2 rfl) by')) (jixT (jfld (gs := o.fs) (jvar 0 rfl) hC.cls hC.belows rfl) (jvar 2 rfl) by')) scSingle.nd)
      (jcons (jset 4 (jeqI (jor (jixT (jfld (gs := o.fs) (jvar 0 rfl) hC.cls hC.aboves rfl) (jvar 2 rfl) ay) (jixT (jfld (gs := o.fs) (jvar 0 rfl) hC.cls hC.aboves rfl) (jvar 1 rfl) ax)) (jixT (jfld (gs := o.fs) (jvar 0 rfl) hC.cls hC.aboves rfl) (jvar 1 rfl) ax)) scSingle.nd)
        (jlast (jret (jAnd (jvar 3 rfl) (fun _ => jOne (jvar 4 rfl))))))), ?_, Out.fine_ite rfl rfl⟩
  show _ = Except.ok (Sl.sh (.bl (isSingle o x y)), _)
  rw [fin_ite]
  unfold isSingle
  cases isOpen o x y <;> rfl
/-! single_ties -/
def singles (o : O) : List Pr := (rng 0 o.n.toNat).flatMap fun lo => ((rng 0 o.n.toNat).filter (isSingle o lo)).map fun hi => (lo, hi)
abbrev sSingles : Stmt := top t_single_ties
abbrev nSingles : List Str := ["order", "places", "low", "high"]
theorem scSingles : FnScope nSingles ["order"] (defScope sSingles) := ⟨rfl, rfl, rfl, by decide +kernel, rfl, by decide +kernel, by decide +kernel⟩
abbrev spSingles (K : PySem.W.Frag) (C : Addr) : Sp := spF K O.Ok (fun o => [.sh (o.d C)]) (fun o => .ok (.sh (.tup ((singles o).map prD)), [none]))
theorem singles_len {o : O} (ho : o.Ok) : (singles o).length ≤ 256 := by
  have h1 := ho.n1
  have h2 : o.n.toNat ≤ 16 := by omega
  unfold singles
  refine Nat.le_trans (len_fm (k := 16) fun lo _ => ?_) ?_
  · rw [List.length_map]; exact Nat.le_trans (List.length_filter_le _ _) (by rw [rng_len]; exact h2)
  · rw [rng_len]; omega
theorem ok_singles {f : Addr} {fd : FuncData} (F : Fun K "single_ties" "single_ties" sSingles f fd) (Tx : Txt mg) (hC : OrdC K C) (nS : Nm P w K mg base "_is_single" ["order", "low", "high"] 5 (spSingle K C)) : FnOk P w K mg base (L2.CX P w) 6 f fd ["order"] (spSingles K C) := by
  obtain ⟨f1, fd1, F1, m1, k1, b1⟩ := nS.ex
  refine jd F scSingles _ _ _ (fun _ => rfl) (fun o ho cdv A outer s H E Γ hr tk => ?_)
  have h0 := ho.n0
  have h1 := ho.n1
  refine ⟨_, jcons (jset 1 (jrng Tx.range (jacons (jfld (gs := o.fs) (jvar 0 rfl) hC.cls hC.size rfl) janil)) scSingles.nd)
    (jlast (jret (jtupL Tx.tuple (jacons (jfrz (jlc2 (rng 0 o.n.toNat) D.int (.n 2) (.n 3) [("low", 2), ("high", 3)] [3] (fun _ => true) (fun _ => rng 0 o.n.toNat) D.int (isSingle o) (fun lo hi => prD (lo, hi)) scSingles.nd (jirvZ (jvar 1 rfl) (by omega) (by omega)) (blkOk_by (by show blkC nSingles (defScope sSingles) _ _ = true; decide +kernel))
      (fun s H C cl fp => pg_name scSingles.nd rfl (by first | exact Or.inl rfl | exact Or.inr rfl)) (fun s H C cl fp => pg_name scSingles.nd rfl (by first | exact Or.inl rfl | exact Or.inr rfl)) (Nat.le_of_ble_eq_true rfl) (by decide) (by decide) (by decide) (fun _ _ => trivial) ?b2
      (fun lo hlo => ⟨fun Γ s H C cl fp => jts0, fun _ => ⟨fun Γ s H C cl fp => jirvZ (jvar 1 rfl) (by omega) (by omega), fun hi hhi => ⟨trivial, fun Γ s H C cl fp => jts1 (jtB (jcall F1 hr m1 k1 b1 (jacons (jvar 0 rfl) (jacons (jvar 2 rfl) (jacons (jvar 3 rfl) janil))) (spF_at (o, lo, hi) (And.intro ho (And.intro ?r1 ?r2)) rfl rfl))), fun _ Γ s H C cl fp => jtup (jacons (jvar 2 rfl) (jacons (jvar 3 rfl) janil))⟩⟩⟩))) janil)))), ?e1, rfl⟩
  case b2 =>
    rw [fm2_tc (g := fun lo hi => (lo, hi)) (h := prD), List.length_map]
    exact Nat.le_trans (singles_len ho) (by decide)
  case r1 => exact inR_rng hlo
  case r2 => exact inR_rng hhi
  case e1 => rw [fm2_tc (g := fun lo hi => (lo, hi)) (h := prD)]; rfl
end
end Y
namespace Y
open PySem L2 J
section
variable {P : Program} {w : World} {K : PySem.W.Frag} {mg : Str → Option Value} {base : Heap} {C CB CO CN CH : Addr}
/-- the class at C, made -/
structure NmC (P : Program) (w : World) (K : PySem.W.Frag) (mg : Str → Option Value) (base : Heap) (C : Addr) : Prop where
  gl : mg "Order" = some (.ref C)
  ex : ∃ fi fd, Mk K C fi ∧ FnOk P w K mg base (L2.CX P w) 5 fi fd ["self", "size", "steps"] (spInit K C) ∧ Binds K fd ["self", "size", "steps"] []
theorem init_at {n : Int} {b : Bool} {sts : List Pr} {ds : List D} (h : preO n sts) (e : ds = [.int n, seqD b (sts.map prD)]) : ∀ p vs H Q E, spJ K (.oi p C [] :: (ds ++ []).map Sl.sh) (.ok (.sh .non, some (.oi p C (mkO n sts).fs) :: (fun _ : Addr => [none, none]) p)) vs H Q E → spInit K C vs H Q E := fun p => by
  subst e
  exact spF_at (p, n, b, sts) h rfl rfl
/-! tied, one step -/
abbrev sTied : Stmt := top t_tied
abbrev nTied : List Str := ["order", "steps", "result", "low", "high"]
theorem scTied : FnScope nTied ((["order"] : List Str) ++ ([("steps" : Str)] : List Str)) (defScope sTied) := ⟨rfl, rfl, rfl, by decide +kernel, rfl, by decide +kernel, by decide +kernel⟩
/-- p may be told to o -/
structure Ties (o : O) (p : Pr) : Prop where
  ok : o.Ok
  ps : okS o.n p
  op : isOpen o p.1 p.2 = true
  pre : preO o.n (o.st ++ [p])
def tie1 (o : O) (p : Pr) : O := mkO o.n (o.st ++ [p])
abbrev spTied (K : PySem.W.Frag) (C : Addr) : Sp := spF K (fun i : O × Pr => Ties i.1 i.2) (fun i => [.sh (i.1.d C), .sh (.tup [prD i.2])]) (fun i => .ok (.sh ((tie1 i.1 i.2).d C), [none, none]))
theorem ok_tied {f : Addr} {fd : FuncData} (F : Fun K "tied" "tied" sTied f fd) (hC : OrdC K C) (nT : Nm P w K mg base "steps_of" ["value", "size"] 4 (spStepsOf K)) (nO : NmM P w K mg base C "are_open" ["self", "x", "y"] 4 (spOpen K C)) (nM : NmM P w K mg base C "steps_told" ["self"] 1 (spStepsTold K C)) (nC : NmC P w K mg base C) : FnR P w K mg base (L2.CX P w) 7 f (spStar 1 (spTied K C)) := by
  obtain ⟨f1, fd1, F1, m1, k1, b1⟩ := nT.ex
  obtain ⟨f2, fd2, F2, m2, b2⟩ := nO.ex
  obtain ⟨f3, fd3, F3, m3, b3⟩ := nM.ex
  obtain ⟨fi, fdi, Mi, Fi, bi⟩ := nC.ex
  refine jdS (ps := ["order"]) (pv := "steps") F scTied (fun kV doc pm an cdv ct => StX.bind_star1 (B := fun us => bindArgs (PySem.W.fnOf "tied" "tied" (defArgs sTied) (defBody sTied) (defScope sTied) .none kV doc pm an cdv ct) ⟨us, []⟩) (p1 := "order") (pv := "steps") (fun a => by rfl) (fun a r rs => by rfl)) _ _ _ (fun i hd cdv A outer s H E Γ hr tk => ?_)
  obtain ⟨o, p⟩ := i
  obtain ⟨ho, hp, hop, hpre⟩ := hd
  obtain ⟨⟨a0, a1⟩, b0, b1'⟩ := okS_in hp
  obtain ⟨lo, hi⟩ := p
  have hx : inR lo o.n = true := inR_iff.mpr ⟨a0, a1⟩
  have hy : inR hi o.n = true := inR_iff.mpr ⟨b0, b1'⟩
  refine ⟨_, jcons (jset 2 (jvar 0 rfl) scTied.nd) (jcons (jfor0F [(lo, hi)] prD (Tg.t [3, 4]) (fun r : O => [some (.sh (o.d C)), some (.sh (.tup [prD (lo, hi)])), some (.sh (r.d C)), none, none]) tie1 o (tie1 o (lo, hi)) rfl (passes_of rfl)
      (jit (ds := [(lo, hi)].map prD) (jcall F1 (hr.mono (by decide)) m1 k1 b1 (jacons (jvar 1 rfl) (jacons (jfld (gs := o.fs) (jvar 0 rfl) hC.cls hC.size rfl) janil)) (spF_at ((false, [(lo, hi)], o.n) : Bool × List Pr × Int) ⟨fun q hq => by rw [List.mem_singleton.mp hq]; exact hp, Nat.le_of_ble_eq_true rfl⟩ rfl rfl))) (Wk.refl _)
      (pg_tup rfl (pgs_cons (pg_name scTied.nd rfl (by first | exact Or.inl rfl | exact Or.inr rfl)) (pgs_cons (pg_name scTied.nd rfl (by first | exact Or.inl rfl | exact Or.inr rfl)) pgs_nil))) (fun x _ => ⟨_, rfl, _, _, rfl, trivial, _, _, rfl, trivial, rfl⟩) (fun pre x post hx' => ?turn)) (jlast (jret (jvar 2 rfl)))), rfl, rfl⟩
  have h1 : pre = [] ∧ x = (lo, hi) := by
    cases pre with
    | nil => simp at hx'; exact ⟨rfl, hx'.1.symm⟩
    | cons q r => simp at hx'
  obtain ⟨rfl, rfl⟩ := h1
  refine ⟨_, jcons (jif (c := false) (o1 := .nx []) (jtNot (c := true) (jtB (by rw [← hop]; exact jmeth (gs := o.fs) (jvar 2 rfl) hC.cls m2 F2 (hr.mono (by decide)) b2 rfl (jacons (jvar 3 rfl) (jacons (jvar 4 rfl) janil)) (spF_at (o, lo, hi) (And.intro ho (And.intro hx hy)) rfl rfl) (Nat.le_of_ble_eq_true rfl) (fun he ha => pe_meth he hC.cls m2 F2 (hr.mono (by decide)) b2 .nil passL ha)))) (fun z => by cases z) (fun _ => jnil))
    (jlast (jset 2 (jmake (gs := (tie1 o (lo, hi)).fs) Mi Fi hr nC.gl bi .nil (fun _ => .nil) (jacons (jfld (gs := o.fs) (jvar 2 rfl) hC.cls hC.size rfl) (jacons (jcatT (ds := o.st.map prD) (ds1 := [prD (lo, hi)]) (jmeth0 (gs := o.fs) (jvar 2 rfl) rfl (spF_at o trivial rfl rfl) (Nat.le_of_ble_eq_true rfl) (fun he => pe_meth0 he hC.cls m3 F3 (hr.mono (by decide)) b3 .nil passL)) (jtup (jacons (jtup (jacons (jvar 3 rfl) (jacons (jvar 4 rfl) janil))) janil)) ?len) janil))
      (init_at (b := false) (sts := o.st ++ [(lo, hi)]) hpre (by show [D.int o.n, D.tup (o.st.map prD ++ [prD (lo, hi)])] = [D.int o.n, D.tup ((o.st ++ [(lo, hi)]).map prD)]; rw [List.map_append]; rfl))) scTied.nd)), by (repeat' (first | exact Wk.nil | refine Wk.same ?_ | refine Wk.drop ?_))⟩
  case len =>
    rw [List.length_map]
    have h256 : o.st.length ≤ 256 := ho.len
    exact Nat.le_trans (Nat.add_le_add_right h256 1) (by decide)
end
end Y
namespace Y
open PySem L2 J
section
variable {P : Program} {w : World} {K : PySem.W.Frag} {mg : Str → Option Value} {base : Heap} {C CB CO CN CH : Addr}
/-! tie_path -/
def ahead (r o' : O) : List Pr := (singles r).filter fun p => decide (p ∈ o'.st)
inductive Run (o' : O) : O → List Pr → Prop
  | done {r : O} : eqO r o' = true → Run o' r []
  | step {r : O} {p : Pr} {ps rest : List Pr} : eqO r o' = false → ahead r o' = p :: rest → Ties r p → Run o' (tie1 r p) ps → Run o' r (p :: ps)
def lack (o o' : O) : Option Pr := o.st.find? fun p => !decide (p ∈ o'.st)
theorem loop_cons {α τ ρ : Type} {step : τ → α → LR τ ρ} {x : α} {xs : List α} {s : τ} : loop step (x :: xs) s = match step s x with | .go s' => loop step xs s' | .ex r => .ex r := rfl
def stepL (o' : O) : Unit → Pr → LR Unit Pr := fun _ p => if p ∈ o'.st then LR.go () else LR.ex p
theorem loop_lack (o' : O) : ∀ (l : List Pr), loop (stepL o') l () = match l.find? (fun p => !decide (p ∈ o'.st)) with | some p => .ex p | none => .go ()
  | [] => rfl
  | p :: l => by
    rw [List.find?_cons, loop_cons]
    unfold stepL
    by_cases h : p ∈ o'.st
    · rw [if_pos h, show (!decide (p ∈ o'.st)) = false by simpa using h]
      exact loop_lack o' l
    · rw [if_neg h, show (!decide (p ∈ o'.st)) = true by simpa using h]
abbrev sHeld : Stmt := top t_check_held
abbrev nHeld : List Str := ["order", "other", "low", "high"]
theorem scHeld : FnScope nHeld ["order", "other"] (defScope sHeld) := ⟨rfl, rfl, rfl, by decide +kernel, rfl, by decide +kernel, by decide +kernel⟩
def outHeld (CO CH : Addr) (o o' : O) : Except Er (Sl × Slots) :=
  if (!decide (o'.n = o.n)) = true then .error (exE CO [("size", .int o'.n)]) else match lack o o' with
    | some p => .error (exE CH [("high", .int p.2), ("low", .int p.1)])
    | none => .ok (.sh .non, [none, none])
abbrev spHeld (K : PySem.W.Frag) (C CO CH : Addr) : Sp := spF K (fun _ : O × O => True) (fun i => [.sh (i.1.d C), .sh (i.2.d C)]) (fun i => outHeld CO CH i.1 i.2)
theorem ok_held {f : Addr} {fd : FuncData} (F : Fun K "check_held" "check_held" sHeld f fd) (hC : OrdC K C)
    (nM : NmM P w K mg base C "steps_told" ["self"] 1 (spStepsTold K C)) (nI : NmM P w K mg base C "__contains__" ["self", "x"] 1 (spCont K C))
    (nO : NmX P w K mg base "OtherSize" CO ["size"]) (nH : NmX P w K mg base "NotHeld" CH ["low", "high"]) : FnOk P w K mg base (L2.CX P w) 3 f fd ["order", "other"] (spHeld K C CO CH) := by
  obtain ⟨f1, fd1, F1, m1, b1⟩ := nM.ex
  obtain ⟨f2, fd2, F2, m2, b2⟩ := nI.ex
  refine jd F scHeld _ _ _ (fun _ => rfl) (fun i hd cdv A outer s H E Γ hr tk => ?_)
  obtain ⟨o, o'⟩ := i
  have rest : o'.n = o.n → ∃ out, PSs (cxOf (L2.CX P w) P w K mg base nHeld "check_held" (defScope sHeld) f cdv A outer s H E) ((defBody sHeld).drop 1) (JS K Γ (fun cls d _ H => E cls d H) (slots0 nHeld [.sh (o.d C), .sh (o'.d C)]) out) ∧
      fin [.sh (o.d C), .sh (o'.d C)] out = (match lack o o' with | some p => .error (exE CH [("high", .int p.2), ("low", .int p.1)]) | none => .ok (.sh .non, [none, none])) ∧ out.fine = true := fun hn => by
    have for1 : ∀ {pos : Pos} {tgt iter : Expr} {bd : List Stmt}, PI (cxOf (L2.CX P w) P w K mg base nHeld "check_held" (defScope sHeld) f cdv A outer s H E) tgt iter (JI K Γ (slots0 nHeld [.sh (o.d C), .sh (o'.d C)]) (o.st.map prD) (slots0 nHeld [.sh (o.d C), .sh (o'.d C)])) →
        PG (cxOf (L2.CX P w) P w K mg base nHeld "check_held" (defScope sHeld) f cdv A outer s H E) tgt ((Tg.t [2, 3]).g K) →
        (∀ p : Pr, ∃ out, PSs (cxOf (L2.CX P w) P w K mg base nHeld "check_held" (defScope sHeld) f cdv A outer s H E) bd (JS K Γ (fun cls d _ H => E cls d H) ((Tg.t [2, 3]).sl (slots0 nHeld [.sh (o.d C), .sh (o'.d C)]) (prD p)) out) ∧
          Turns (fun _ : Unit => slots0 nHeld [.sh (o.d C), .sh (o'.d C)]) (fun p : Pr => .er (exE CH [("high", .int p.2), ("low", .int p.1)]) ((Tg.t [2, 3]).sl (slots0 nHeld [.sh (o.d C), .sh (o'.d C)]) (prD p))) out (stepL o' () p)) →
        (∀ x, foldedSetIterable iter (cxOf (L2.CX P w) P w K mg base nHeld "check_held" (defScope sHeld) f cdv A outer s H E).env x = pure x) →
        PS (cxOf (L2.CX P w) P w K mg base nHeld "check_held" (defScope sHeld) f cdv A outer s H E) (.For tgt iter bd [] pos) (JS K Γ (fun cls d _ H => E cls d H) (slots0 nHeld [.sh (o.d C), .sh (o'.d C)]) (match lack o o' with | some p => .er (exE CH [("high", .int p.2), ("low", .int p.1)]) ((Tg.t [2, 3]).sl (slots0 nHeld [.sh (o.d C), .sh (o'.d C)]) (prD p)) | none => .nx (slots0 nHeld [.sh (o.d C), .sh (o'.d C)]))) := fun {pos tgt iter bd} hi hg hb hs => by
      have q := jfor (pos := pos) o.st prD (Tg.t [2, 3]) (fun _ : Unit => slots0 nHeld [.sh (o.d C), .sh (o'.d C)]) (fun p : Pr => .er (exE CH [("high", .int p.2), ("low", .int p.1)]) ((Tg.t [2, 3]).sl (slots0 nHeld [.sh (o.d C), .sh (o'.d C)]) (prD p))) (stepL o') () (passes_of rfl) hi (Wk.refl _) hg (fun x _ => ⟨_, rfl, _, _, rfl, trivial, _, _, rfl, trivial, rfl⟩) (fun pre x post _ _ _ => hb x) rfl hs
      rw [loop_lack] at q
      unfold lack
      cases h : o.st.find? (fun p => !decide (p ∈ o'.st)) with
      | none => rw [h] at q; exact q
      | some p => rw [h] at q; exact q
    cases hl : lack o o' with
    | some p =>
      refine ⟨_, jlast (PS.jeq (for1 (jit (jmeth0 (gs := o.fs) (jvar 0 rfl) rfl (spF_at o trivial rfl rfl) (Nat.le_of_ble_eq_true rfl) (fun he => pe_meth0 he hC.cls m1 F1 (hr.mono (by decide)) b1 .nil passL))) (pg_tup rfl (pgs_cons (pg_name scHeld.nd rfl (by first | exact Or.inl rfl | exact Or.inr rfl)) (pgs_cons (pg_name scHeld.nd rfl (by first | exact Or.inl rfl | exact Or.inr rfl)) pgs_nil))) (fun p => ?turn) (fun _ => rfl)) (by rw [hl])), rfl, rfl⟩
      case turn =>
        by_cases h : p ∈ o'.st
        · have hb : (!decide (p ∈ o'.st)) = false := by simpa using h
          refine ⟨_, jlast (jif (c := false) (o1 := .nx []) (by rw [← hb]; exact jtownIn (g := Bool.not) (c := decide (p ∈ o'.st)) (gs := o'.fs) (op_niO F2 (hr.mono (by decide)) m2.at_ m2.fn b2) (by rfl) (jtup (jacons (jvar 2 rfl) (jacons (jvar 3 rfl) janil))) (jvar 1 rfl) (spF_at (o', p) trivial rfl rfl)) (fun z => by cases z) (fun _ => jnil)), ?_⟩
          unfold stepL
          rw [if_pos h]
          exact .nx (by (repeat' (first | exact Wk.nil | refine Wk.same ?_ | refine Wk.drop ?_)))
        · have hb : (!decide (p ∈ o'.st)) = true := by simpa using h
          refine ⟨_, jlast (jif (c := true) (o2 := .nx []) (by rw [← hb]; exact jtownIn (g := Bool.not) (c := decide (p ∈ o'.st)) (gs := o'.fs) (op_niO F2 (hr.mono (by decide)) m2.at_ m2.fn b2) (by rfl) (jtup (jacons (jvar 2 rfl) (jacons (jvar 3 rfl) janil))) (jvar 1 rfl) (spF_at (o', p) trivial rfl rfl)) (fun _ => jlast (jraise rfl tk nH.xc (hr.mono (by decide)) nH.gl (jacons (jvar 2 rfl) (jacons (jvar 3 rfl) janil)))) (fun z => by cases z)), ?_⟩
          unfold stepL
          rw [if_neg h]
          exact .er rfl
    | none =>
      refine ⟨_, jlast (PS.jeq (for1 (jit (jmeth0 (gs := o.fs) (jvar 0 rfl) rfl (spF_at o trivial rfl rfl) (Nat.le_of_ble_eq_true rfl) (fun he => pe_meth0 he hC.cls m1 F1 (hr.mono (by decide)) b1 .nil passL))) (pg_tup rfl (pgs_cons (pg_name scHeld.nd rfl (by first | exact Or.inl rfl | exact Or.inr rfl)) (pgs_cons (pg_name scHeld.nd rfl (by first | exact Or.inl rfl | exact Or.inr rfl)) pgs_nil))) (fun p => ?turn) (fun _ => rfl)) (by rw [hl])), rfl, rfl⟩
      case turn =>
        by_cases h : p ∈ o'.st
        · have hb : (!decide (p ∈ o'.st)) = false := by simpa using h
          refine ⟨_, jlast (jif (c := false) (o1 := .nx []) (by rw [← hb]; exact jtownIn (g := Bool.not) (c := decide (p ∈ o'.st)) (gs := o'.fs) (op_niO F2 (hr.mono (by decide)) m2.at_ m2.fn b2) (by rfl) (jtup (jacons (jvar 2 rfl) (jacons (jvar 3 rfl) janil))) (jvar 1 rfl) (spF_at (o', p) trivial rfl rfl)) (fun z => by cases z) (fun _ => jnil)), ?_⟩
          unfold stepL
          rw [if_pos h]
          exact .nx (by (repeat' (first | exact Wk.nil | refine Wk.same ?_ | refine Wk.drop ?_)))
        · have hb : (!decide (p ∈ o'.st)) = true := by simpa using h
          refine ⟨_, jlast (jif (c := true) (o2 := .nx []) (by rw [← hb]; exact jtownIn (g := Bool.not) (c := decide (p ∈ o'.st)) (gs := o'.fs) (op_niO F2 (hr.mono (by decide)) m2.at_ m2.fn b2) (by rfl) (jtup (jacons (jvar 2 rfl) (jacons (jvar 3 rfl) janil))) (jvar 1 rfl) (spF_at (o', p) trivial rfl rfl)) (fun _ => jlast (jraise rfl tk nH.xc (hr.mono (by decide)) nH.gl (jacons (jvar 2 rfl) (jacons (jvar 3 rfl) janil)))) (fun z => by cases z)), ?_⟩
          unfold stepL
          rw [if_neg h]
          exact .er rfl
  by_cases hn : o'.n = o.n
  · obtain ⟨out, h1, h2, h3⟩ := rest hn
    have e0 : (!decide (o'.n = o.n)) = false := by simpa using hn
    refine ⟨out, jcons (jif (c := false) (o1 := .nx []) (by rw [← e0]; exact jtneI (jfld (gs := o'.fs) (jvar 1 rfl) hC.cls hC.size rfl) (jfld (gs := o.fs) (jvar 0 rfl) hC.cls hC.size rfl)) (fun z => by cases z) (fun _ => jnil)) h1, ?_, h3⟩
    show _ = outHeld CO CH o o'
    unfold outHeld
    rw [e0]; exact h2
  · have e0 : (!decide (o'.n = o.n)) = true := by simpa using hn
    refine ⟨_, jexit (jif (c := true) (o2 := .nx []) (by rw [← e0]; exact jtneI (jfld (gs := o'.fs) (jvar 1 rfl) hC.cls hC.size rfl) (jfld (gs := o.fs) (jvar 0 rfl) hC.cls hC.size rfl)) (fun _ => jlast (jraise rfl tk nO.xc (hr.mono (by decide)) nO.gl (jacons (jfld (gs := o'.fs) (jvar 1 rfl) hC.cls hC.size rfl) janil))) (fun z => by cases z)) rfl, ?_, rfl⟩
    show _ = outHeld CO CH o o'
    unfold outHeld
    rw [e0]; rfl
abbrev sPath : Stmt := top t_tie_path
abbrev nPath : List Str := ["order", "other", "path", "reached", "ahead", "step"]
theorem scPath : FnScope nPath ["order", "other"] (defScope sPath) := ⟨rfl, rfl, rfl, by decide +kernel, rfl, by decide +kernel, by decide +kernel⟩
def outPath (CO CH : Addr) (o o' : O) (ps : List Pr) : Except Er (Sl × Slots) :=
  if (!decide (o'.n = o.n)) = true then .error (exE CO [("size", .int o'.n)]) else match lack o o' with
    | some p => .error (exE CH [("high", .int p.2), ("low", .int p.1)])
    | none => .ok (.ol none (ps.map prD), [none, none])
abbrev spPath (K : PySem.W.Frag) (C CO CH : Addr) : Sp := spF K (fun i : O × O × List Pr => i.1.Ok ∧ i.2.2.length ≤ 256 ∧ (i.2.1.n = i.1.n → lack i.1 i.2.1 = none → Run i.2.1 i.1 i.2.2)) (fun i => [.sh (i.1.d C), .sh (i.2.1.d C)]) (fun i => outPath CO CH i.1 i.2.1 i.2.2)
theorem Run.tst {r o' : O} {ps : List Pr} (h : Run o' r ps) : (eqO r o' = true → ps = []) ∧ (eqO r o' = false → ∃ p qs rest, ps = p :: qs ∧ ahead r o' = p :: rest ∧ Ties r p ∧ Run o' (tie1 r p) qs) := by
  cases h with
  | done e => exact ⟨fun _ => rfl, fun z => (by rw [e] at z; cases z)⟩
  | step e a t q => exact ⟨fun z => (by rw [e] at z; cases z), fun _ => ⟨_, _, _, rfl, a, t, q⟩⟩
theorem ok_path {f : Addr} {fd : FuncData} (F : Fun K "tie_path" "tie_path" sPath f fd) (hC : OrdC K C) (hne : PySem.W.findIn K (.ref C) "__ne__" = some (some (.builtin "object.__ne__")))
    (nM : NmM P w K mg base C "steps_told" ["self"] 1 (spStepsTold K C)) (nI : NmM P w K mg base C "__contains__" ["self", "x"] 1 (spCont K C)) (nE : NmM P w K mg base C "__eq__" ["self", "other"] 1 (spEq K C))
    (nS : Nm P w K mg base "single_ties" ["order"] 6 (spSingles K C)) (nT : ∃ ft, FnR P w K mg base (L2.CX P w) 7 ft (spStar 1 (spTied K C)) ∧ mg "tied" = some (.ref ft) ∧ PySem.W.keepIn K (.ref ft) = true)
    (nH : Nm P w K mg base "check_held" ["order", "other"] 3 (spHeld K C CO CH)) : FnOk P w K mg base (L2.CX P w) 8 f fd ["order", "other"] (spPath K C CO CH) := by
  obtain ⟨f2, fd2, F2, m2, b2⟩ := nI.ex
  obtain ⟨f3, fd3, F3, m3, b3⟩ := nE.ex
  obtain ⟨f4, fd4, F4, m4, k4, b4⟩ := nS.ex
  obtain ⟨f5, F5, m5, k5⟩ := nT
  obtain ⟨f6, fd6, F6, m6, k6, b6⟩ := nH.ex
  refine jd F scPath _ _ _ (fun _ => rfl) (fun i hd cdv A outer s H E Γ hr tk => ?_)
  obtain ⟨o, o', ps⟩ := i
  obtain ⟨ho, hlen, hrun⟩ := hd
  by_cases hn : o'.n = o.n
  case neg =>
    have e0 : (!decide (o'.n = o.n)) = true := by simpa using hn
    refine ⟨_, jexit (jexprX (er := exE CO [("size", .int o'.n)]) (jcallX tk F6 (hr.mono (by decide)) m6 k6 b6 (jacons (jvar 0 rfl) (jacons (jvar 1 rfl) janil)) (spF_at (o, o') trivial rfl (by show _ = outHeld CO CH o o'; unfold outHeld; rw [e0]; rfl)))) rfl, ?_, rfl⟩
    show _ = outPath CO CH o o' ps
    unfold outPath
    rw [e0]; rfl
  have e0 : (!decide (o'.n = o.n)) = false := by simpa using hn
  cases hl : lack o o' with
  | some p =>
    refine ⟨_, jexit (jexprX (er := exE CH [("high", .int p.2), ("low", .int p.1)]) (jcallX tk F6 (hr.mono (by decide)) m6 k6 b6 (jacons (jvar 0 rfl) (jacons (jvar 1 rfl) janil)) (spF_at (o, o') trivial rfl (by show _ = outHeld CO CH o o'; unfold outHeld; rw [e0, hl]; rfl)))) rfl, ?_, rfl⟩
    show _ = outPath CO CH o o' ps
    unfold outPath
    rw [e0, hl]; rfl
  | none =>
      have hR := hrun hn hl
      let Af : List Pr × O → Slots := fun s => [some (.sh (o.d C)), some (.sh (o'.d C)), some (.ol none (s.1.map prD)), some (.sh (s.2.d C)), none, none]
      let stepW : List Pr × O → LR (List Pr × O) Unit := fun s => match ahead s.2 o' with | p :: _ => .go (s.1 ++ [p], tie1 s.2 p) | [] => .ex ()
      refine ⟨_, jcons (jexpr (jcall F6 (hr.mono (by decide)) m6 k6 b6 (jacons (jvar 0 rfl) (jacons (jvar 1 rfl) janil)) (spF_at (o, o') trivial rfl (by show _ = outHeld CO CH o o'; unfold outHeld; rw [e0, hl]; rfl))))
        (jcons (jset 2 (jlstO janil) scPath.nd) (jcons (jset 3 (jvar 0 rfl) scPath.nd)
          (jcons (jwhile (ρ := Unit) Af Af (fun _ => .nx []) (fun s => !eqO s.2 o') stepW (fun s => ps.length - s.1.length) (fun s => (∃ qs, Run o' s.2 qs ∧ s.1 ++ qs = ps) ∧ s.2 = s.1.foldl tie1 o) (.go (ps, ps.foldl tie1 o)) (passes_of rfl) ([], o) ⟨⟨ps, hR, rfl⟩, rfl⟩ (by (repeat' (first | exact Wk.nil | refine Wk.same ?_ | refine Wk.drop ?_))) ?run
            (fun s _ => jtown2 (g := Bool.not) (c := eqO s.2 o') (gs := s.2.fs) (gs' := o'.fs) (op_neO F3 (hr.mono (by decide)) m3.at_ hne hC.cls.po m3.fn b3) (by rfl) (jvar 3 rfl) (jvar 1 rfl) (spF_at (s.2, o') trivial rfl rfl)) ?body (fun s _ _ => Wk.refl _)) (jlast (jret (jhand 2 rfl)))))), (by show _ = outPath CO CH o o' ps; unfold outPath; rw [e0, hl]; rfl), rfl⟩
      case run =>
        rintro s ⟨⟨qs, h1, h2⟩, h3⟩
        refine ⟨fun ht => ?_, fun ht => ?_⟩
        · have he : eqO s.2 o' = false := by simpa using ht
          obtain ⟨p, qs', rest', e1, e2, e3, e4⟩ := h1.tst.2 he
          have hst : stepW s = .go (s.1 ++ [p], tie1 s.2 p) := by show (match ahead s.2 o' with | p :: _ => LR.go (s.1 ++ [p], tie1 s.2 p) | [] => .ex ()) = _; rw [e2]
          refine ⟨fun s' hs' => ?_, fun r hs' => by rw [hst] at hs'; cases hs'⟩
          rw [hst] at hs'
          cases hs'
          subst e1
          refine ⟨⟨⟨qs', e4, by rw [List.append_assoc]; exact h2⟩, by show tie1 s.2 p = (s.1 ++ [p]).foldl tie1 o; rw [List.foldl_append, ← h3]; rfl⟩, ?_⟩
          show ps.length - (s.1 ++ [p]).length < ps.length - s.1.length
          rw [← h2, List.length_append, List.length_append, List.length_cons, List.length_singleton]
          omega
        · have he : eqO s.2 o' = true := by simpa using ht
          have e1 := h1.tst.1 he
          subst e1
          rw [List.append_nil] at h2
          obtain ⟨s1, s2⟩ := s
          dsimp only at h2 h3
          subst h2
          rw [h3]
      case body =>
        rintro s ⟨⟨qs, h1, h2⟩, h3⟩ ht
        have he : eqO s.2 o' = false := by simpa using ht
        obtain ⟨p, qs', rest', e1, e2, e3, e4⟩ := h1.tst.2 he
        have hst : stepW s = .go (s.1 ++ [p], tie1 s.2 p) := by show (match ahead s.2 o' with | p :: _ => LR.go (s.1 ++ [p], tie1 s.2 p) | [] => .ex ()) = _; rw [e2]
        have hl1 : s.1.length < 100000 := by
          have : s.1.length ≤ ps.length := by rw [← h2, List.length_append]; omega
          have h256 : ps.length ≤ 256 := hlen
          omega
        rw [hst]
        refine ⟨_, jcons (jsetLcQ 4 (singles s.2) prD (.n 5) [("step", 5)] (fun p => decide (p ∈ o'.st)) prD ((p :: rest').map prD) (by rw [← e2]; rfl) scPath.nd (jit (jcall F4 (hr.mono (by decide)) m4 k4 b4 (jacons (jvar 3 rfl) janil) (spF_at s.2 e3.ok rfl rfl))) (blkOk_by (by show blkC nPath (defScope sPath) _ _ = true; decide +kernel))
            (fun s H C cl fp => pg_name scPath.nd rfl (by first | exact Or.inl rfl | exact Or.inr rfl)) (fun _ _ => trivial) (Nat.le_trans (singles_len e3.ok) (by decide)) (fun p hp => ⟨fun Γ s H C cl fp => jts1 (jtownIn (g := id) (c := decide (p ∈ o'.st)) (gs := o'.fs) (op_inO F2 (hr.mono (by decide)) m2.at_ m2.fn b2) (by rfl) (jvar 5 rfl) (jvar 1 rfl) (spF_at (o', p) trivial rfl rfl)), fun _ Γ s H C cl fp => jvar 5 rfl⟩))
          (jcons (jappend 2 (q := none) (d := prD p) rfl (jixO 4 rfl jint rfl (atI_map (l := p :: rest') (by decide) rfl)) rfl (by rw [List.length_map]; exact hl1) (h := fun h => pe_bm PySem.F.plainAttrs_list PySem.F.slot_list_append PySem.F.type_list_append mt_append (pe_var (i := 2) rfl (by first | exact Or.inl rfl | exact Or.inr (Or.inl rfl)) (by decide) (by decide)) h))
            (jlast (jset 3 (jcallS [s.2.d C] [prD p] F5 hr m5 k5 (jacons (jvar 3 rfl) (jacons (jixO 4 rfl jint rfl (atI_map (l := p :: rest') (by decide) rfl)) janil)) rfl (Nat.le_of_ble_eq_true rfl) (spF_at (s.2, p) e3 rfl rfl)) scPath.nd))), .nx ?_⟩
        show Wk _ [some (.sh (o.d C)), some (.sh (o'.d C)), some (.ol none ((s.1 ++ [p]).map prD)), some (.sh ((tie1 s.2 p).d C)), none, none]
        rw [List.map_append]
        (repeat' (first | exact Wk.nil | refine Wk.same ?_ | refine Wk.drop ?_))
end
end Y
namespace Y
open PySem L2 J
section
variable {P : Program} {w : World} {K : PySem.W.Frag} {mg : Str → Option Value} {base : Heap} {C CB CO CN CH : Addr}
/-! untied -/
abbrev sUntied : Stmt := top t_untied
abbrev nUntied : List Str := ["order", "u", "v", "low", "high", "step"]
theorem scUntied : FnScope nUntied ["order", "u", "v"] (defScope sUntied) := ⟨rfl, rfl, rfl, by decide +kernel, rfl, by decide +kernel, by decide +kernel⟩
def without (o : O) (p : Pr) : List Pr := o.st.filter fun q => !decide (q = p)
def iD : D → Int
  | .int i => i
  | _ => 0
def outUntied (C CB CN : Addr) (o : O) (u v : D) : Except Er (Sl × Slots) :=
  if isP o.n u = false then .error (exE CB [("name", .str "u")]) else if isP o.n v = false then .error (exE CB [("name", .str "v")])
  else if (iD u, iD v) ∈ nextSteps o then .ok (.sh ((mkO o.n (without o (iD u, iD v))).d C), [none, none, none]) else .error (exE CN [("high", v), ("low", u)])
abbrev spUntied (K : PySem.W.Frag) (C CB CN : Addr) : Sp := spF K (fun i : O × D × D => i.1.Ok ∧ Scal i.2.1 ∧ Scal i.2.2 ∧ ∀ x y, i.2.1 = .int x → i.2.2 = .int y → (x, y) ∈ nextSteps i.1 → preO i.1.n (without i.1 (x, y))) (fun i => [.sh (i.1.d C), .sh i.2.1, .sh i.2.2]) (fun i => outUntied C CB CN i.1 i.2.1 i.2.2)
theorem isP_int {n : Int} {d : D} (h : isP n d = true) : ∃ x, d = .int x ∧ inR x n = true := by
  cases d <;> first | exact ⟨_, rfl, h⟩ | cases h
theorem placeOf_no {K : PySem.W.Frag} {d : D} {n : Int} {nm : Str} (hs : Scal d) (h : isP n d = false) : ∀ vs H Q E, spJ K [.sh d, .sh (.int n), .sh (.str nm)] (.error (exE CB [("name", .str nm)])) vs H Q E → spPlaceOf K CB vs H Q E :=
  spF_at ((d, n, nm) : D × Int × Str) hs rfl (by show _ = (if (!isP n d) = true then _ else _); rw [h]; rfl)
theorem ok_untied {f : Addr} {fd : FuncData} (F : Fun K "untied" "untied" sUntied f fd) (hC : OrdC K C) (nP : Nm P w K mg base "place_of" ["value", "size", "name"] 3 (spPlaceOf K CB)) (nN : NmM P w K mg base C "next_steps" ["self"] 1 (spNext K C)) (nM : NmM P w K mg base C "steps_told" ["self"] 1 (spStepsTold K C))
    (nC : NmC P w K mg base C) (nX : NmX P w K mg base "NotOpen" CN ["low", "high"]) : FnOk P w K mg base (L2.CX P w) 7 f fd ["order", "u", "v"] (spUntied K C CB CN) := by
  obtain ⟨f1, fd1, F1, m1, k1, b1⟩ := nP.ex
  obtain ⟨f2, fd2, F2, m2, b2⟩ := nN.ex
  obtain ⟨f3, fd3, F3, m3, b3⟩ := nM.ex
  obtain ⟨fi, fdi, Mi, Fi, bi⟩ := nC.ex
  refine jd F scUntied _ _ _ (fun _ => rfl) (fun i hd cdv A outer s H E Γ hr tk => ?_)
  obtain ⟨o, u, v⟩ := i
  obtain ⟨ho, hu, hv, hw⟩ := hd
  show ∃ out, _ ∧ fin [.sh (o.d C), .sh u, .sh v] out = outUntied C CB CN o u v ∧ _
  unfold outUntied
  cases h1 : isP o.n u with
  | false =>
    exact ⟨_, jexit (jsetX 3 (jcallX tk F1 (hr.mono (by decide)) m1 k1 b1 (jacons (jvar 1 rfl) (jacons (jfld (gs := o.fs) (jvar 0 rfl) hC.cls hC.size rfl) (jacons jstr janil))) (placeOf_no hu h1)) scUntied.nd) rfl, rfl, rfl⟩
  | true =>
    obtain ⟨x, rfl, hx⟩ := isP_int h1
    cases h2 : isP o.n v with
    | false =>
      exact ⟨_, jcons (jset 3 (jcall F1 (hr.mono (by decide)) m1 k1 b1 (jacons (jvar 1 rfl) (jacons (jfld (gs := o.fs) (jvar 0 rfl) hC.cls hC.size rfl) (jacons jstr janil))) (placeOf_at hx)) scUntied.nd)
        (jexit (jsetX 4 (jcallX tk F1 (hr.mono (by decide)) m1 k1 b1 (jacons (jvar 2 rfl) (jacons (jfld (gs := o.fs) (jvar 0 rfl) hC.cls hC.size rfl) (jacons jstr janil))) (placeOf_no hv h2)) scUntied.nd) rfl), rfl, rfl⟩
    | true =>
      obtain ⟨y, rfl, hy⟩ := isP_int h2
      rw [if_neg (by decide), if_neg (by decide)]
      show ∃ out, _ ∧ _ = (if (x, y) ∈ nextSteps o then _ else _) ∧ _
      by_cases h3 : (x, y) ∈ nextSteps o
      · rw [if_pos h3]
        have e3 : (!decide ((x, y) ∈ nextSteps o)) = false := by simpa using h3
        refine ⟨_, jcons (jset 3 (jcall F1 (hr.mono (by decide)) m1 k1 b1 (jacons (jvar 1 rfl) (jacons (jfld (gs := o.fs) (jvar 0 rfl) hC.cls hC.size rfl) (jacons jstr janil))) (placeOf_at hx)) scUntied.nd)
          (jcons (jset 4 (jcall F1 (hr.mono (by decide)) m1 k1 b1 (jacons (jvar 2 rfl) (jacons (jfld (gs := o.fs) (jvar 0 rfl) hC.cls hC.size rfl) (jacons jstr janil))) (placeOf_at hy)) scUntied.nd)
          (jcons (jif (c := false) (o1 := .nx []) (by rw [← e3]; exact jtniTP (p := (x, y)) hr.u65 (jtup (jacons (jvar 3 rfl) (jacons (jvar 4 rfl) janil))) (jmeth0 (gs := o.fs) (jvar 0 rfl) rfl (spF_at o ho rfl rfl) (Nat.le_of_ble_eq_true rfl) (fun he => pe_meth0 he hC.cls m2 F2 (hr.mono (by decide)) b2 .nil passL))) (fun z => by cases z) (fun _ => jnil))
          (jlast (jret (jmake (gs := (mkO o.n (without o (x, y))).fs) Mi Fi hr nC.gl bi .nil (fun _ => .nil) (jacons (jfld (gs := o.fs) (jvar 0 rfl) hC.cls hC.size rfl) (jacons (jfrz (jlcQ o.st prD (.n 5) [("step", 5)] (fun q => !decide (q = (x, y))) prD ((without o (x, y)).map prD) rfl scUntied.nd
            (jit (jmeth0 (gs := o.fs) (jvar 0 rfl) rfl (spF_at o trivial rfl rfl) (Nat.le_of_ble_eq_true rfl) (fun he => pe_meth0 he hC.cls m3 F3 (hr.mono (by decide)) b3 .nil passL))) (blkOk_by (by show blkC nUntied (defScope sUntied) _ _ = true; decide +kernel)) (fun s H C cl fp => pg_name scUntied.nd rfl (by first | exact Or.inl rfl | exact Or.inr rfl)) (fun _ _ => trivial) (Nat.le_trans ho.len (by decide))
            (fun q hq => ⟨fun Γ s H C cl fp => jts1 (jtnePr (p := q) (q := (x, y)) (by exact hr.u64) (jvar 5 rfl) (jtup (jacons (jvar 3 rfl) (jacons (jvar 4 rfl) janil)))), fun _ Γ s H C cl fp => jvar 5 rfl⟩))) janil))
            (init_at (b := true) (sts := without o (x, y)) (hw x y rfl rfl h3) rfl)))))), rfl, rfl⟩
      · rw [if_neg h3]
        have e3 : (!decide ((x, y) ∈ nextSteps o)) = true := by simpa using h3
        exact ⟨_, jcons (jset 3 (jcall F1 (hr.mono (by decide)) m1 k1 b1 (jacons (jvar 1 rfl) (jacons (jfld (gs := o.fs) (jvar 0 rfl) hC.cls hC.size rfl) (jacons jstr janil))) (placeOf_at hx)) scUntied.nd)
          (jcons (jset 4 (jcall F1 (hr.mono (by decide)) m1 k1 b1 (jacons (jvar 2 rfl) (jacons (jfld (gs := o.fs) (jvar 0 rfl) hC.cls hC.size rfl) (jacons jstr janil))) (placeOf_at hy)) scUntied.nd)
          (jexit (jif (c := true) (o2 := .nx []) (by rw [← e3]; exact jtniTP (p := (x, y)) hr.u65 (jtup (jacons (jvar 3 rfl) (jacons (jvar 4 rfl) janil))) (jmeth0 (gs := o.fs) (jvar 0 rfl) rfl (spF_at o ho rfl rfl) (Nat.le_of_ble_eq_true rfl) (fun he => pe_meth0 he hC.cls m2 F2 (hr.mono (by decide)) b2 .nil passL)))
            (fun _ => jlast (jraise rfl tk nX.xc (hr.mono (by decide)) nX.gl (jacons (jvar 3 rfl) (jacons (jvar 4 rfl) janil)))) (fun z => by cases z)) rfl)), rfl, rfl⟩
end
end Y
namespace Y
open PySem L2 J
section
variable {P : Program} {w : World} {K : PySem.W.Frag} {mg : Str → Option Value} {base : Heap} {C CB CO CN CH : Addr}
/-! ### the law's own functions -/
def take (bag : List Int) (m : Int) : Int × List Int := if (decide (((bag.length : Nat) : Int) = 0) || decide (m < 1)) = true then (0, bag) else (bag.getLastD 0 % m, bag.dropLast)
abbrev sTake : Stmt := top t__law_take
theorem scTake : FnScope ["_law_bag", "_law_many"] ["_law_bag", "_law_many"] (defScope sTake) := ⟨rfl, rfl, rfl, by decide +kernel, rfl, by decide +kernel, by decide +kernel⟩
abbrev spTake (K : PySem.W.Frag) : Sp := spF K (fun _ : Addr × List Int × Int => True) (fun i => [.ol (some i.1) (i.2.1.map .int), .sh (.int i.2.2)]) (fun i => .ok (.sh (.int (take i.2.1 i.2.2).1), [some (.ol (some i.1) ((take i.2.1 i.2.2).2.map .int)), none]))
theorem last_split {bag : List Int} (h : bag ≠ []) : bag.map D.int = bag.dropLast.map D.int ++ [D.int (bag.getLastD 0)] := by
  have e : bag = bag.dropLast ++ [bag.getLastD 0] := by
    have e1 : bag.getLastD 0 = bag.getLast h := by
      cases bag with
      | nil => exact absurd rfl h
      | cons a l => simp [List.getLastD, List.getLast]
    rw [e1]; exact (List.dropLast_concat_getLast h).symm
  conv => lhs; rw [e]
  rw [List.map_append]; rfl
theorem ok_take {f : Addr} {fd : FuncData} (F : Fun K "_law_take" "_law_take" sTake f fd) (Tx : Txt mg) : FnOk P w K mg base (L2.CX P w) 1 f fd ["_law_bag", "_law_many"] (spTake K) := by
  refine jd F scTake _ _ _ (fun _ => rfl) (fun i _ cdv A outer s H E Γ hr tk => ?_)
  obtain ⟨p, bag, m⟩ := i
  have el : ((bag.map D.int).length : Int) = (bag.length : Int) := by rw [List.length_map]
  have key : ∀ c : Bool, (decide (((bag.map D.int).length : Int) = 0) || decide (m < 1)) = c → ∃ out, PSs (cxOf (L2.CX P w) P w K mg base ["_law_bag", "_law_many"] "_law_take" (defScope sTake) f cdv A outer s H E) (defBody sTake) (JS K Γ (fun cls d _ H => E cls d H) (slots0 ["_law_bag", "_law_many"] [.ol (some p) (bag.map .int), .sh (.int m)]) out) ∧
      fin [.ol (some p) (bag.map .int), .sh (.int m)] out = .ok (.sh (.int (take bag m).1), [some (.ol (some p) ((take bag m).2.map .int)), none]) ∧ out.fine = true := fun c hc => by
    cases c with
    | true =>
      refine ⟨_, jexit (jif (c := true) (o2 := .nx []) (by rw [← hc]; exact PW.pt (jtOr (jteqI (jlenO 0 rfl (hp := fun h => pe_callB call_len_seq (by rfl) Tx.len PySem.boot_len h)) jint) fun _ => jtOr1 (jtlt (jvar 1 rfl) jint))) (fun _ => jlast (jret jint)) (fun z => by cases z)) rfl, ?_, rfl⟩
      rw [el] at hc
      unfold take
      rw [if_pos hc]
      show Except.ok (Sl.sh (.int 0), [keepP (.ol (some p) _) (some (.ol (some p) _)), _]) = _
      rw [keepP_ol]; rfl
    | false =>
      have hc' := hc
      rw [Bool.or_eq_false_iff, decide_eq_false_iff_not, decide_eq_false_iff_not] at hc'
      have hne : bag ≠ [] := fun z => by subst z; exact hc'.1 rfl
      have hm : (0 : Int) < m := by omega
      have es := last_split hne
      refine ⟨_, jcons (jif (c := false) (o1 := .nx []) (by rw [← hc]; exact PW.pt (jtOr (jteqI (jlenO 0 rfl (hp := fun h => pe_callB call_len_seq (by rfl) Tx.len PySem.boot_len h)) jint) fun _ => jtOr1 (jtlt (jvar 1 rfl) jint))) (fun z => by cases z) (fun _ => jnil))
        (jlast (jret (jmod (jintI Tx.int (jacons (jpop 0 (q := some p) (ds := bag.dropLast.map .int) (d := .int (bag.getLastD 0)) (by rw [← es]; rfl) (h := fun h => pe_bm0 PySem.F.plainAttrs_list PySem.F.slot_list_pop PySem.F.type_list_pop mt_pop h)) janil) (hp := fun h => pe_callTy call_int1 (by rfl) Tx.int (by decide +kernel) h)) (jvar 1 rfl) hm))), ?_, rfl⟩
      rw [el] at hc
      unfold take
      rw [if_neg (by rw [hc]; decide)]
      show Except.ok (Sl.sh (.int _), [keepP (.ol (some p) _) (some (.ol (some p) _)), _]) = _
      rw [keepP_ol]; rfl
  exact key _ rfl
/-! _law_steps: the steps of a table -/
def mD (m : List (List Bool)) : D := .lst (m.map fun r => .lst (r.map .bl))
def cell (m : List (List Bool)) (x y : Int) : Bool := (m.getD x.toNat []).getD y.toNat false
/-- a table of n rows and columns -/
def sq (n : Nat) (m : List (List Bool)) : Prop := m.length = n ∧ ∀ r ∈ m, r.length = n
theorem sq_row {n : Nat} {m : List (List Bool)} (h : sq n m) {x : Int} (h0 : 0 ≤ x) (h1 : x < n) : ∃ r, m[x.toNat]? = some r ∧ r.length = n ∧ ∀ y, cell m x y = r.getD y.toNat false := by
  have hx : x.toNat < m.length := by rw [h.1]; omega
  refine ⟨m[x.toNat], List.getElem?_eq_getElem hx, h.2 _ (List.getElem_mem hx), fun y => ?_⟩
  unfold cell
  have e : m.getD x.toNat [] = m[x.toNat] := by rw [List.getD_eq_getElem?_getD, List.getElem?_eq_getElem hx]; rfl
  rw [e]
theorem sq_cell {n : Nat} {m : List (List Bool)} (h : sq n m) {x y : Int} (h0 : 0 ≤ x) (h1 : x < n) (g0 : 0 ≤ y) (g1 : y < n) : ∃ r : List Bool, atI (m.map fun (r : List Bool) => D.lst (r.map D.bl)) x = some (D.lst (r.map D.bl)) ∧ atI (r.map D.bl) y = some (.bl (cell m x y)) := by
  obtain ⟨r, e1, e2, e3⟩ := sq_row h h0 h1
  have hy : y.toNat < r.length := by rw [e2]; omega
  refine ⟨r, atI_map (g := fun (r : List Bool) => D.lst (r.map D.bl)) h0 e1, ?_⟩
  rw [e3]
  refine atI_map g0 ?_
  rw [List.getD_eq_getElem?_getD, List.getElem?_eq_getElem hy]; rfl
end
end Y
namespace Y
open PySem L2 J
section
variable {P : Program} {w : World} {K : PySem.W.Frag} {mg : Str → Option Value} {base : Heap} {C CB CO CN CH : Addr}
def rowM (m : List (List Bool)) (n : Nat) (x : Int) : List Pr := ((rng 0 n).filter (cell m x)).map fun y => (x, y)
def stepsM (m : List (List Bool)) (n : Nat) : List Pr := (rng 0 n).flatMap (rowM m n)
abbrev sSteps : Stmt := top t__law_steps
abbrev nSteps : List Str := ["_law_below", "_law_steps_here", "_law_x", "_law_y"]
theorem scSteps : FnScope nSteps ["_law_below"] (defScope sSteps) := ⟨rfl, rfl, rfl, by decide +kernel, rfl, by decide +kernel, by decide +kernel⟩
abbrev spSteps (K : PySem.W.Frag) : Sp := spF K (fun i : List (List Bool) × Nat => sq i.2 i.1 ∧ i.2 ≤ 16) (fun i => [.sh (mD i.1)]) (fun i => .ok (.ol none ((stepsM i.1 i.2).map prD), [none]))
theorem fold_row (m : List (List Bool)) (x : Int) : ∀ (l : List Int) (acc : List Pr), l.foldl (fun acc y => if cell m x y = true then acc ++ [(x, y)] else acc) acc = acc ++ (l.filter (cell m x)).map fun y => (x, y)
  | [], acc => by simp
  | y :: l, acc => by
    rw [List.foldl_cons, fold_row m x l, List.filter_cons]
    cases h : cell m x y
    · rw [if_neg (by decide), if_neg (by decide)]
    · rw [if_pos rfl, if_pos rfl, List.map_cons, List.append_assoc]; rfl
theorem fold_rows (m : List (List Bool)) (n : Nat) : ∀ (l : List Int) (acc : List Pr), l.foldl (fun acc x => acc ++ rowM m n x) acc = acc ++ l.flatMap (rowM m n)
  | [], acc => by simp
  | x :: l, acc => by rw [List.foldl_cons, fold_rows m n l, List.flatMap_cons, List.append_assoc]
theorem rowM_len (m : List (List Bool)) (n : Nat) (x : Int) : (rowM m n x).length ≤ n := by
  unfold rowM
  rw [List.length_map]
  exact Nat.le_trans (List.length_filter_le _ _) (by rw [rng_len]; exact Nat.le_refl _)
theorem ok_steps {f : Addr} {fd : FuncData} (F : Fun K "_law_steps" "_law_steps" sSteps f fd) (Tx : Txt mg) : FnOk P w K mg base (L2.CX P w) 1 f fd ["_law_below"] (spSteps K) := by
  refine jd F scSteps _ _ _ (fun _ => rfl) (fun i hd cdv A outer s H E Γ hr tk => ?_)
  obtain ⟨m, n⟩ := i
  obtain ⟨hm, hn⟩ := hd
  have hml : (m.map fun (r : List Bool) => D.lst (r.map D.bl)).length = n := by rw [List.length_map]; exact hm.1
  have hl9 : n ≤ 100000 := by have : n ≤ 16 := hn; omega
  let Af : List Pr → Slots := fun acc => [some (.sh (mD m)), some (.ol none (acc.map prD)), none, none]
  refine ⟨_, jcons (jset 1 (jlstO janil) scSteps.nd) (jcons (jfor0F (rng 0 n) D.int (.n 2) Af (fun acc x => acc ++ rowM m n x) [] (stepsM m n) (by rw [fold_rows]; rfl) (passes_of rfl)
      (jirN (n := n) (jacons (by rw [← hml]; exact jlenL Tx.len (jacons (jvar 0 rfl) janil) (fun h => pe_callB call_len_seq (by rfl) Tx.len PySem.boot_len h)) janil) Tx.range hl9) (by (repeat' (first | exact Wk.nil | refine Wk.same ?_ | refine Wk.drop ?_))) (pg_name scSteps.nd rfl (by first | exact Or.inl rfl | exact Or.inr rfl)) (fun _ _ => trivial) (fun pre x post hx => ?turn)) (jlast (jret (jhand 1 rfl)))), rfl, rfl⟩
  have hxm : x ∈ rng 0 n := by rw [hx]; simp
  have hx' := mem_rng.mp hxm
  have hpre : (pre.foldl (fun acc x => acc ++ rowM m n x) []).length ≤ 256 := by
    rw [fold_rows, List.nil_append]
    have h1 : pre.length ≤ n := by
      have := congrArg List.length hx
      rw [rng_len, List.length_append, List.length_cons] at this
      omega
    have h2 := len_fm (f := rowM m n) (k := n) (xs := pre) fun y _ => rowM_len m n y
    have h16 : n ≤ 16 := hn
    refine Nat.le_trans h2 (Nat.le_trans (Nat.mul_le_mul h1 (Nat.le_refl _)) ?_)
    exact Nat.le_trans (Nat.mul_le_mul h16 h16) (by decide)
  generalize pre.foldl (fun acc x => acc ++ rowM m n x) [] = acc at hpre
  refine ⟨_, jlast (jfor0F (rng 0 n) D.int (.n 3) (fun acc : List Pr => [some (.sh (mD m)), some (.ol none (acc.map prD)), some (.sh (.int x)), none]) (fun acc y => if cell m x y = true then acc ++ [(x, y)] else acc) acc (acc ++ rowM m n x) (fold_row m x _ _) (passes_of rfl)
      (jirN (n := n) (jacons (by rw [← hml]; exact jlenL Tx.len (jacons (jvar 0 rfl) janil) (fun h => pe_callB call_len_seq (by rfl) Tx.len PySem.boot_len h)) janil) Tx.range hl9) (by (repeat' (first | exact Wk.nil | refine Wk.same ?_ | refine Wk.drop ?_))) (pg_name scSteps.nd rfl (by first | exact Or.inl rfl | exact Or.inr rfl)) (fun _ _ => trivial) (fun pre2 y post2 hy => ?turn2)), by (repeat' (first | exact Wk.nil | refine Wk.same ?_ | refine Wk.drop ?_))⟩
  have hym : y ∈ rng 0 n := by rw [hy]; simp
  have hy' := mem_rng.mp hym
  obtain ⟨r, e1, e2⟩ := sq_cell hm hx'.1 (by omega) hy'.1 (by omega)
  have hacc : (pre2.foldl (fun acc y => if cell m x y = true then acc ++ [(x, y)] else acc) acc).length ≤ 512 := by
    rw [fold_row, List.length_append, List.length_map]
    have h1 : (pre2.filter (cell m x)).length ≤ pre2.length := List.length_filter_le _ _
    have h2 : pre2.length ≤ n := by
      have := congrArg List.length hy
      rw [rng_len, List.length_append, List.length_cons] at this
      omega
    have h16 : n ≤ 16 := hn
    omega
  generalize pre2.foldl (fun acc y => if cell m x y = true then acc ++ [(x, y)] else acc) acc = acc2 at hacc
  cases hc : cell m x y with
  | true =>
    rw [hc] at e2
    refine ⟨_, jlast (jif (c := true) (o2 := .nx []) (jtB (jixL (jixL (jvar 0 rfl) (jvar 2 rfl) e1) (jvar 3 rfl) e2)) (fun _ => jlast (jappend 1 (q := none) (d := prD (x, y)) rfl (jtup (jacons (jvar 2 rfl) (jacons (jvar 3 rfl) janil))) rfl (by rw [List.length_map]; omega) (h := fun h => pe_bm PySem.F.plainAttrs_list PySem.F.slot_list_append PySem.F.type_list_append mt_append (pe_var (i := 1) rfl (by first | exact Or.inl rfl | exact Or.inr (Or.inl rfl)) (by decide) (by decide)) h))) (fun z => by cases z)), ?_⟩
    rw [if_pos rfl]
    show Wk _ [some (.sh (mD m)), some (.ol none ((acc2 ++ [(x, y)]).map prD)), some (.sh (.int x)), none]
    rw [List.map_append]
    (repeat' (first | exact Wk.nil | refine Wk.same ?_ | refine Wk.drop ?_))
  | false =>
    rw [hc] at e2
    refine ⟨_, jlast (jif (c := false) (o1 := .nx []) (jtB (jixL (jixL (jvar 0 rfl) (jvar 2 rfl) e1) (jvar 3 rfl) e2)) (fun z => by cases z) (fun _ => jnil)), ?_⟩
    rw [if_neg (by decide)]
    (repeat' (first | exact Wk.nil | refine Wk.same ?_ | refine Wk.drop ?_))
end
end Y
namespace Y
open PySem L2 J
section
variable {P : Program} {w : World} {K : PySem.W.Frag} {mg : Str → Option Value} {base : Heap} {C CB CO CN CH : Addr}
def pcond (m : List (List Bool)) (x y : Int) : Bool := !decide (x = y) && !cell m x y
def rowP (m : List (List Bool)) (n : Nat) (x : Int) : List Pr := ((rng 0 n).filter (pcond m x)).map fun y => (x, y)
def pairsM (m : List (List Bool)) (n : Nat) : List Pr := (rng 0 n).flatMap (rowP m n)
theorem fold_rowP (c : Int → Bool) (x : Int) : ∀ (l : List Int) (acc : List Pr), l.foldl (fun acc y => if c y = true then acc ++ [(x, y)] else acc) acc = acc ++ (l.filter c).map fun y => (x, y)
  | [], acc => by simp
  | y :: l, acc => by
    rw [List.foldl_cons, fold_rowP c x l, List.filter_cons]
    cases h : c y
    · rw [if_neg (by decide), if_neg (by decide)]
    · rw [if_pos rfl, if_pos rfl, List.map_cons, List.append_assoc]; rfl
theorem fold_fm {α β : Type} (g : α → List β) : ∀ (l : List α) (acc : List β), l.foldl (fun acc x => acc ++ g x) acc = acc ++ l.flatMap g
  | [], acc => by simp
  | x :: l, acc => by rw [List.foldl_cons, fold_fm g l, List.flatMap_cons, List.append_assoc]
theorem rowP_len (m : List (List Bool)) (n : Nat) (x : Int) : (rowP m n x).length ≤ n := by
  unfold rowP
  rw [List.length_map]
  exact Nat.le_trans (List.length_filter_le _ _) (by rw [rng_len]; exact Nat.le_refl _)
abbrev sPairs : Stmt := top t__law_pairs
abbrev nPairs : List Str := ["_law_size", "_law_below", "_law_pairs_here", "_law_x", "_law_y"]
theorem scPairs : FnScope nPairs ["_law_size", "_law_below"] (defScope sPairs) := ⟨rfl, rfl, rfl, by decide +kernel, rfl, by decide +kernel, by decide +kernel⟩
abbrev spPairs (K : PySem.W.Frag) : Sp := spF K (fun i : List (List Bool) × Nat => sq i.2 i.1 ∧ i.2 ≤ 16) (fun i => [.sh (.int (i.2 : Nat)), .sh (mD i.1)]) (fun i => .ok (.ol none ((pairsM i.1 i.2).map prD), [none, none]))
theorem ok_pairs {f : Addr} {fd : FuncData} (F : Fun K "_law_pairs" "_law_pairs" sPairs f fd) (Tx : Txt mg) : FnOk P w K mg base (L2.CX P w) 1 f fd ["_law_size", "_law_below"] (spPairs K) := by
  refine jd F scPairs _ _ _ (fun _ => rfl) (fun i hd cdv A outer s H E Γ hr tk => ?_)
  obtain ⟨m, n⟩ := i
  obtain ⟨hm, hn⟩ := hd
  have hl9 : n ≤ 100000 := by have : n ≤ 16 := hn; omega
  have h16 : n ≤ 16 := hn
  refine ⟨_, jcons (jset 2 (jlstO janil) scPairs.nd) (jcons (jfor0F (rng 0 n) D.int (.n 3) (fun acc : List Pr => [some (.sh (.int (n : Nat))), some (.sh (mD m)), some (.ol none (acc.map prD)), none, none]) (fun acc x => acc ++ rowP m n x) [] (pairsM m n) (by rw [fold_fm]; rfl) (passes_of rfl)
      (jirN (n := n) (jacons (jvar 0 rfl) janil) Tx.range hl9) (by (repeat' (first | exact Wk.nil | refine Wk.same ?_ | refine Wk.drop ?_))) (pg_name scPairs.nd rfl (by first | exact Or.inl rfl | exact Or.inr rfl)) (fun _ _ => trivial) (fun pre x post hx => ?turn)) (jlast (jret (jhand 2 rfl)))), rfl, rfl⟩
  have hxm : x ∈ rng 0 n := by rw [hx]; simp
  have hx' := mem_rng.mp hxm
  have hpre : (pre.foldl (fun acc x => acc ++ rowP m n x) []).length ≤ 256 := by
    rw [fold_fm, List.nil_append]
    have h1 : pre.length ≤ n := by
      have := congrArg List.length hx
      rw [rng_len, List.length_append, List.length_cons] at this
      omega
    have h2 := len_fm (f := rowP m n) (k := n) (xs := pre) fun y _ => rowP_len m n y
    refine Nat.le_trans h2 (Nat.le_trans (Nat.mul_le_mul h1 (Nat.le_refl _)) ?_)
    exact Nat.le_trans (Nat.mul_le_mul h16 h16) (by decide)
  generalize pre.foldl (fun acc x => acc ++ rowP m n x) [] = acc at hpre
  refine ⟨_, jlast (jfor0F (rng 0 n) D.int (.n 4) (fun acc : List Pr => [some (.sh (.int (n : Nat))), some (.sh (mD m)), some (.ol none (acc.map prD)), some (.sh (.int x)), none]) (fun acc y => if pcond m x y = true then acc ++ [(x, y)] else acc) acc (acc ++ rowP m n x) (fold_rowP (pcond m x) x _ _) (passes_of rfl)
      (jirN (n := n) (jacons (jvar 0 rfl) janil) Tx.range hl9) (by (repeat' (first | exact Wk.nil | refine Wk.same ?_ | refine Wk.drop ?_))) (pg_name scPairs.nd rfl (by first | exact Or.inl rfl | exact Or.inr rfl)) (fun _ _ => trivial) (fun pre2 y post2 hy => ?turn2)), by (repeat' (first | exact Wk.nil | refine Wk.same ?_ | refine Wk.drop ?_))⟩
  have hym : y ∈ rng 0 n := by rw [hy]; simp
  have hy' := mem_rng.mp hym
  obtain ⟨r, e1, e2⟩ := sq_cell hm hx'.1 (by omega) hy'.1 (by omega)
  have hacc : (pre2.foldl (fun acc y => if pcond m x y = true then acc ++ [(x, y)] else acc) acc).length ≤ 512 := by
    rw [fold_rowP, List.length_append, List.length_map]
    have h1 : (pre2.filter (pcond m x)).length ≤ pre2.length := List.length_filter_le _ _
    have h2 : pre2.length ≤ n := by
      have := congrArg List.length hy
      rw [rng_len, List.length_append, List.length_cons] at this
      omega
    omega
  generalize pre2.foldl (fun acc y => if pcond m x y = true then acc ++ [(x, y)] else acc) acc = acc2 at hacc
  cases hc : pcond m x y with
  | true =>
    refine ⟨_, jlast (jif (c := true) (o2 := .nx []) (by rw [← hc]; exact PW.pt (jtAnd (jtneI (jvar 3 rfl) (jvar 4 rfl)) (fun _ => jtAnd1 (jtNot (jtB (jixL (jixL (jvar 1 rfl) (jvar 3 rfl) e1) (jvar 4 rfl) e2)))))) (fun _ => jlast (jappend 2 (q := none) (d := prD (x, y)) rfl (jtup (jacons (jvar 3 rfl) (jacons (jvar 4 rfl) janil))) rfl (by rw [List.length_map]; omega) (h := fun h => pe_bm PySem.F.plainAttrs_list PySem.F.slot_list_append PySem.F.type_list_append mt_append (pe_var (i := 2) rfl (by first | exact Or.inl rfl | exact Or.inr (Or.inl rfl)) (by decide) (by decide)) h))) (fun z => by cases z)), ?_⟩
    rw [if_pos rfl]
    show Wk _ [some (.sh (.int (n : Nat))), some (.sh (mD m)), some (.ol none ((acc2 ++ [(x, y)]).map prD)), some (.sh (.int x)), none]
    rw [List.map_append]
    (repeat' (first | exact Wk.nil | refine Wk.same ?_ | refine Wk.drop ?_))
  | false =>
    refine ⟨_, jlast (jif (c := false) (o1 := .nx []) (by rw [← hc]; exact PW.pt (jtAnd (jtneI (jvar 3 rfl) (jvar 4 rfl)) (fun _ => jtAnd1 (jtNot (jtB (jixL (jixL (jvar 1 rfl) (jvar 3 rfl) e1) (jvar 4 rfl) e2)))))) (fun z => by cases z) (fun _ => jnil)), ?_⟩
    rw [if_neg (by decide)]
    (repeat' (first | exact Wk.nil | refine Wk.same ?_ | refine Wk.drop ?_))
/-! _law_open -/
def openM (m : List (List Bool)) (n : Nat) : List Pr := (pairsM m n).filter fun p => !cell m p.2 p.1
abbrev sOpenL : Stmt := top t__law_open
abbrev nOpenL : List Str := ["_law_size", "_law_below", "_law_pair"]
theorem scOpenL : FnScope nOpenL ["_law_size", "_law_below"] (defScope sOpenL) := ⟨rfl, rfl, rfl, by decide +kernel, rfl, by decide +kernel, by decide +kernel⟩
abbrev spOpenL (K : PySem.W.Frag) : Sp := spF K (fun i : List (List Bool) × Nat => sq i.2 i.1 ∧ i.2 ≤ 16) (fun i => [.sh (.int (i.2 : Nat)), .sh (mD i.1)]) (fun i => .ok (.ol none ((openM i.1 i.2).map prD), [none, none]))
theorem pairsM_in {m : List (List Bool)} {n : Nat} {p : Pr} (h : p ∈ pairsM m n) : (0 ≤ p.1 ∧ p.1 < n) ∧ 0 ≤ p.2 ∧ p.2 < n := by
  unfold pairsM at h
  obtain ⟨x, hx, h⟩ := List.mem_flatMap.mp h
  unfold rowP at h
  obtain ⟨y, hy, rfl⟩ := List.mem_map.mp h
  have hx := mem_rng.mp hx
  have hy := mem_rng.mp (List.mem_filter.mp hy).1
  exact ⟨⟨hx.1, by omega⟩, hy.1, by omega⟩
theorem pairsM_len {m : List (List Bool)} {n : Nat} (hn : n ≤ 16) : (pairsM m n).length ≤ 256 := by
  unfold pairsM
  refine Nat.le_trans (len_fm (k := n) fun x _ => rowP_len m n x) ?_
  rw [rng_len]
  exact Nat.le_trans (Nat.mul_le_mul hn hn) (by decide)
theorem ok_openL {f : Addr} {fd : FuncData} (F : Fun K "_law_open" "_law_open" sOpenL f fd) (nP : Nm P w K mg base "_law_pairs" ["_law_size", "_law_below"] 1 (spPairs K)) : FnOk P w K mg base (L2.CX P w) 2 f fd ["_law_size", "_law_below"] (spOpenL K) := by
  obtain ⟨f1, fd1, F1, m1, k1, b1⟩ := nP.ex
  refine jd F scOpenL _ _ _ (fun _ => rfl) (fun i hd cdv A outer s H E Γ hr tk => ?_)
  obtain ⟨m, n⟩ := i
  have hd' := hd
  obtain ⟨hm, hn⟩ := hd
  refine ⟨_, jlast (jret (jlcP (pairsM m n) prD (.n 2) [("_law_pair", 2)] (fun p => !cell m p.2 p.1) prD scOpenL.nd (jil (jfrz (jcall F1 hr m1 k1 b1 (jacons (jvar 0 rfl) (jacons (jvar 1 rfl) janil)) (spF_at (m, n) hd' rfl rfl)))) (blkOk_by (by show blkC nOpenL (defScope sOpenL) _ _ = true; decide +kernel))
    (fun s H C cl fp => pg_name scOpenL.nd rfl (by first | exact Or.inl rfl | exact Or.inr rfl)) (fun _ _ => trivial) (Nat.le_trans (pairsM_len hn) (by decide)) (fun p hp => ⟨fun Γ s H C cl fp => jts1 (jtNot (jtB ?tst)), fun _ Γ s H C cl fp => jvar 2 rfl⟩))), rfl, rfl⟩
  obtain ⟨⟨a0, a1⟩, c0, c1⟩ := pairsM_in hp
  obtain ⟨r, e1, e2⟩ := sq_cell hm c0 c1 a0 a1
  exact jixL (jixL (jvar 1 rfl) (jixT (ds := [.int p.1, .int p.2]) (jvar 2 rfl) jint rfl) e1) (jixT (ds := [.int p.1, .int p.2]) (jvar 2 rfl) jint rfl) e2
end
end Y
namespace Y
open PySem L2 J
section
variable {P : Program} {w : World} {K : PySem.W.Frag} {mg : Str → Option Value} {base : Heap} {C CB CO CN CH : Addr}
/-! _law_closed -/
def bD (m : List (List Bool)) : List (List D) := m.map fun r => r.map D.bl
def mset (m : List (List Bool)) (x y : Int) : List (List Bool) := m.set x.toNat ((m.getD x.toNat []).set y.toNat true)
def closeY (n : Nat) (mid x : Int) (m : List (List Bool)) : List (List Bool) := (rng 0 n).foldl (fun m y => if cell m mid y = true then mset m x y else m) m
def closeX (n : Nat) (mid : Int) (m : List (List Bool)) : List (List Bool) := (rng 0 n).foldl (fun m x => if cell m x mid = true then closeY n mid x m else m) m
def told (n : Nat) (sts : List Pr) : List (List Bool) := sts.foldl (fun m p => mset m p.1 p.2) (List.replicate n (List.replicate n false))
def closedM (n : Nat) (sts : List Pr) : List (List Bool) := (rng 0 n).foldl (fun m mid => closeX n mid m) (told n sts)
theorem fold_inv {α τ : Type} {f : τ → α → τ} {Pp : τ → Prop} : ∀ {l : List α} {s : τ}, Pp s → (∀ s x, x ∈ l → Pp s → Pp (f s x)) → Pp (l.foldl f s)
  | [], _, h, _ => h
  | x :: l, s, h, k => fold_inv (l := l) (k s x List.mem_cons_self h) fun s y hy => k s y (List.mem_cons_of_mem _ hy)
theorem sq_set {n : Nat} {m : List (List Bool)} (h : sq n m) (x y : Int) : sq n (mset m x y) := by
  unfold mset
  refine ⟨by rw [List.length_set]; exact h.1, fun r hr => ?_⟩
  rcases List.mem_or_eq_of_mem_set hr with z | z
  · exact h.2 r z
  · subst z
    rw [List.length_set]
    by_cases hx : x.toNat < m.length
    · rw [List.getD_eq_getElem?_getD, List.getElem?_eq_getElem hx]; exact h.2 _ (List.getElem_mem hx)
    · exfalso
      rw [List.set_eq_of_length_le (by omega)] at hr
      have e : m.getD x.toNat [] = [] := by rw [List.getD_eq_getElem?_getD, List.getElem?_eq_none_iff.mpr (by omega)]; rfl
      rw [e] at hr
      have hn := h.2 _ hr
      have : n ≤ x.toNat := by rw [← h.1]; omega
      simp at hn
      subst hn
      have := h.1
      rw [List.length_eq_zero_iff] at this
      subst this
      cases hr
theorem sq_closeY {n : Nat} {mid x : Int} {m : List (List Bool)} (h : sq n m) : sq n (closeY n mid x m) := fold_inv h fun s y _ hs => by
  split
  · exact sq_set hs _ _
  · exact hs
theorem sq_closeX {n : Nat} {mid : Int} {m : List (List Bool)} (h : sq n m) : sq n (closeX n mid m) := fold_inv h fun s x _ hs => by
  split
  · exact sq_closeY hs
  · exact hs
theorem sq_told (n : Nat) (sts : List Pr) : sq n (told n sts) := fold_inv ⟨List.length_replicate .., fun r hr => by rw [(List.mem_replicate.mp hr).2, List.length_replicate]⟩ fun s p _ hs => sq_set hs _ _
theorem bD_at {n : Nat} {m : List (List Bool)} (h : sq n m) {x y : Int} (h0 : 0 ≤ x) (h1 : x < n) (g0 : 0 ≤ y) (g1 : y < n) : ∃ r : List Bool, (bD m)[x.toNat]? = some (r.map D.bl) ∧ x.toNat < (bD m).length ∧ y.toNat < (r.map D.bl).length ∧ atI (r.map D.bl) y = some (.bl (cell m x y)) ∧
    (bD m).set x.toNat ((r.map D.bl).set y.toNat (.bl true)) = bD (mset m x y) := by
  obtain ⟨r, e1, e2, e3⟩ := sq_row h h0 h1
  have hy : y.toNat < r.length := by rw [e2]; omega
  have hx : x.toNat < m.length := (List.getElem?_eq_some_iff.mp e1).1
  have er : m.getD x.toNat [] = r := by rw [List.getD_eq_getElem?_getD, e1]; rfl
  refine ⟨r, by unfold bD; rw [List.getElem?_map, e1]; rfl, by unfold bD; rw [List.length_map]; exact hx, by rw [List.length_map]; exact hy, ?_, ?_⟩
  · rw [e3]
    refine atI_map g0 ?_
    rw [List.getD_eq_getElem?_getD, List.getElem?_eq_getElem hy]; rfl
  · unfold bD mset
    rw [er, List.map_set, List.map_set]
abbrev sClosed : Stmt := top t__law_closed
abbrev nClosed : List Str := ["_law_size", "_law_steps_here", "_law_below", "_law_x", "_law_y", "_law_step", "_law_mid"]
theorem scClosed : FnScope nClosed ["_law_size", "_law_steps_here"] (defScope sClosed) := ⟨rfl, rfl, rfl, by decide +kernel, rfl, by decide +kernel, by decide +kernel⟩
abbrev spClosed (K : PySem.W.Frag) : Sp := spF K (fun i : Nat × List Pr => i.1 ≤ 16 ∧ i.2.length ≤ 1000 ∧ ∀ p ∈ i.2, (0 ≤ p.1 ∧ p.1 < i.1) ∧ 0 ≤ p.2 ∧ p.2 < i.1) (fun i => [.sh (.int (i.1 : Nat)), .sh (.lst (i.2.map prD))]) (fun i => .ok (.sh (mD (closedM i.1 i.2)), [none, none]))
theorem mD_frz (m : List (List Bool)) : (Sl.oll (bD m)).frz = mD m := by show D.lst ((m.map fun r => r.map D.bl).map D.lst) = _; rw [List.map_map]; rfl
theorem fold_app {α β : Type} (c : β) : ∀ (l : List α) (acc : List β), l.foldl (fun m _ => m ++ [c]) acc = acc ++ List.replicate l.length c
  | [], acc => by simp
  | x :: l, acc => by rw [List.foldl_cons, fold_app c l, List.length_cons, List.replicate_succ, List.append_assoc]; rfl
theorem ok_closed {f : Addr} {fd : FuncData} (F : Fun K "_law_closed" "_law_closed" sClosed f fd) (Tx : Txt mg) : FnOk P w K mg base (L2.CX P w) 1 f fd ["_law_size", "_law_steps_here"] (spClosed K) := by
  refine jd F scClosed _ _ _ (fun _ => rfl) (fun i hd cdv A outer s H E Γ hr tk => ?_)
  obtain ⟨n, sts⟩ := i
  obtain ⟨hn, hz, hst⟩ := hd
  have hl9 : n ≤ 100000 := by have : n ≤ 16 := hn; omega
  let Af : List (List Bool) → Slots := fun m => [some (.sh (.int (n : Nat))), some (.sh (.lst (sts.map prD))), some (.oll (bD m)), none, none, none, none]
  refine ⟨_, jcons (jset 2 (jlstO janil) scClosed.nd) (jas_oll 2 rfl (jcons (jfor0F (rng 0 n) D.int (.n 3) Af (fun m _ => m ++ [List.replicate n false]) [] (List.replicate n (List.replicate n false)) ?f0 (passes_of rfl) (jirN (n := n) (jacons (jvar 0 rfl) janil) Tx.range hl9) (by (repeat' (first | exact Wk.nil | refine Wk.same ?_ | refine Wk.drop ?_))) (pg_name scClosed.nd rfl (by first | exact Or.inl rfl | exact Or.inr rfl)) (fun _ _ => trivial) (fun pre x post hx => ?t0))
    (jcons (jfor0F sts prD (.n 5) Af (fun m p => mset m p.1 p.2) (List.replicate n (List.replicate n false)) (told n sts) rfl (passes_of rfl) (jil (jvar 1 rfl)) (by (repeat' (first | exact Wk.nil | refine Wk.same ?_ | refine Wk.drop ?_))) (pg_name scClosed.nd rfl (by first | exact Or.inl rfl | exact Or.inr rfl)) (fun _ _ => trivial) (fun pre x post hx => ?t1))
    (jcons (jfor0F (rng 0 n) D.int (.n 6) Af (fun m mid => closeX n mid m) (told n sts) (closedM n sts) rfl (passes_of rfl) (jirN (n := n) (jacons (jvar 0 rfl) janil) Tx.range hl9) (by (repeat' (first | exact Wk.nil | refine Wk.same ?_ | refine Wk.drop ?_))) (pg_name scClosed.nd rfl (by first | exact Or.inl rfl | exact Or.inr rfl)) (fun _ _ => trivial) (fun pre x post hx => ?t2))
    (jfzS 2 rfl (jlast (jret (jvar 2 rfl)))))))), ?e1, rfl⟩
  case f0 => rw [fold_app, rng_len]; rfl
  case e1 =>
    show Except.ok (Sl.sh (Sl.oll (bD (closedM n sts))).frz, _) = _
    rw [mD_frz]; rfl
  case t0 =>
    rw [fold_app, List.nil_append]
    have hpl : pre.length ≤ n := by
      have := congrArg List.length hx
      rw [rng_len, List.length_append, List.length_cons] at this
      omega
    generalize hm : List.replicate pre.length (List.replicate n false) = m
    have hml : (bD m).length < 100000 := by unfold bD; rw [List.length_map, ← hm, List.length_replicate]; omega
    refine ⟨_, jlast (jappendL 2 (ds := (List.replicate n false).map .bl) rfl (jlcQ (rng 0 n) D.int (.n 4) [("_law_y", 4)] (fun _ => true) (fun _ => .bl false) ((List.replicate n false).map .bl) (by rw [inn_map (fun _ => false) D.bl, List.map_const', rng_len]) scClosed.nd (jirN (n := n) (jacons (jvar 0 rfl) janil) Tx.range hl9) (blkOk_by (by show blkC nClosed (defScope sClosed) _ _ = true; decide +kernel))
      (fun s H C cl fp => pg_name scClosed.nd rfl (by first | exact Or.inl rfl | exact Or.inr rfl)) (fun _ _ => trivial) (by rw [rng_len]; exact hl9) (fun x hx => ⟨fun Γ s H C cl fp => jts0, fun _ Γ s H C cl fp => jbl⟩)) rfl hml (h := fun h => pe_bm PySem.F.plainAttrs_list PySem.F.slot_list_append PySem.F.type_list_append mt_append (pe_var (i := 2) rfl (by first | exact Or.inl rfl | exact Or.inr (Or.inl rfl)) (by decide) (by decide)) h)), ?_⟩
    show Wk _ [some (.sh (.int (n : Nat))), some (.sh (.lst (sts.map prD))), some (.oll (bD (m ++ [List.replicate n false]))), none, none, none, none]
    unfold bD
    rw [List.map_append]
    (repeat' (first | exact Wk.nil | refine Wk.same ?_ | refine Wk.drop ?_))
  case t1 =>
    have hp := hst x (by rw [hx]; simp)
    have hsq : sq n (pre.foldl (fun m p => mset m p.1 p.2) (List.replicate n (List.replicate n false))) := sq_told n pre
    generalize pre.foldl (fun m p => mset m p.1 p.2) (List.replicate n (List.replicate n false)) = m at hsq
    obtain ⟨a, b⟩ := x
    obtain ⟨⟨a0, a1⟩, c0, c1⟩ := hp
    obtain ⟨r, b1, b2, b3, b4, b5⟩ := bD_at hsq a0 a1 c0 c1
    have ea : a = (a.toNat : Int) := (Int.toNat_of_nonneg a0).symm
    have eb : b = (b.toNat : Int) := (Int.toNat_of_nonneg c0).symm
    refine ⟨_, jlast (jsetOO 2 (k := a.toNat) (jn := b.toNat) (d := .bl true) jbl (jq 2 rfl (jpixT (ds := [.int a, .int b]) (jpvar 5 rfl) jpint rfl) ea b2) (jpixT (ds := [.int a, .int b]) (jpvar 5 rfl) jpint rfl) rfl b1 eb b3 (hg := fun ho hi => pg_sub ho hi set_list)), ?_⟩
    show Wk _ [some (.sh (.int (n : Nat))), some (.sh (.lst (sts.map prD))), some (.oll (bD (mset m a b))), none, none, none, none]
    rw [← b5]
    (repeat' (first | exact Wk.nil | refine Wk.same ?_ | refine Wk.drop ?_))
  case t2 =>
    have hsq : sq n (pre.foldl (fun m mid => closeX n mid m) (told n sts)) := fold_inv (sq_told n sts) fun s y _ hs => sq_closeX hs
    generalize pre.foldl (fun m mid => closeX n mid m) (told n sts) = m0 at hsq
    have hxm : x ∈ rng 0 n := by rw [hx]; simp
    have hmid := mem_rng.mp hxm
    have i1 : x < (n : Int) := by omega
    refine ⟨_, jlast (jfor0F (rng 0 n) D.int (.n 3) (fun m : List (List Bool) => [some (.sh (.int (n : Nat))), some (.sh (.lst (sts.map prD))), some (.oll (bD m)), none, none, none, some (.sh (.int x))]) (fun m z => if cell m z x = true then closeY n x z m else m) m0 (closeX n x m0) rfl (passes_of rfl) (jirN (n := n) (jacons (jvar 0 rfl) janil) Tx.range hl9) (by (repeat' (first | exact Wk.nil | refine Wk.same ?_ | refine Wk.drop ?_))) (pg_name scClosed.nd rfl (by first | exact Or.inl rfl | exact Or.inr rfl)) (fun _ _ => trivial) (fun pre1 z post1 hz1 => ?tx)), by (repeat' (first | exact Wk.nil | refine Wk.same ?_ | refine Wk.drop ?_))⟩
    have hsq1 : sq n (pre1.foldl (fun m z => if cell m z x = true then closeY n x z m else m) m0) := fold_inv hsq fun s y _ hs => by
      split
      · exact sq_closeY hs
      · exact hs
    generalize pre1.foldl (fun m z => if cell m z x = true then closeY n x z m else m) m0 = m1 at hsq1
    have hzm : z ∈ rng 0 n := by rw [hz1]; simp
    have hz2 := mem_rng.mp hzm
    have i2 : z < (n : Int) := by omega
    obtain ⟨r, b1, b2, b3, b4, b5⟩ := bD_at hsq1 hz2.1 i2 hmid.1 i1
    have ez : z = (z.toNat : Int) := (Int.toNat_of_nonneg hz2.1).symm
    have ex : x = (x.toNat : Int) := (Int.toNat_of_nonneg hmid.1).symm
    cases hc : cell m1 z x with
    | false =>
      rw [hc] at b4
      refine ⟨_, jlast (jif (c := false) (o1 := .nx []) (jtB (jixOO 2 (jq 2 rfl (jpvar 3 rfl) ez b2) (jpvar 6 rfl) rfl b1 b4)) (fun h => by cases h) (fun _ => jnil)), ?_⟩
      rw [if_neg (by decide)]
      (repeat' (first | exact Wk.nil | refine Wk.same ?_ | refine Wk.drop ?_))
    | true =>
      rw [hc] at b4
      refine ⟨_, jlast (jif (c := true) (o2 := .nx []) (jtB (jixOO 2 (jq 2 rfl (jpvar 3 rfl) ez b2) (jpvar 6 rfl) rfl b1 b4)) (fun _ => jlast (jfor0F (rng 0 n) D.int (.n 4) (fun m : List (List Bool) => [some (.sh (.int (n : Nat))), some (.sh (.lst (sts.map prD))), some (.oll (bD m)), some (.sh (.int z)), none, none, some (.sh (.int x))]) (fun m v => if cell m x v = true then mset m z v else m) m1 (closeY n x z m1) rfl (passes_of rfl) (jirN (n := n) (jacons (jvar 0 rfl) janil) Tx.range hl9) (by (repeat' (first | exact Wk.nil | refine Wk.same ?_ | refine Wk.drop ?_))) (pg_name scClosed.nd rfl (by first | exact Or.inl rfl | exact Or.inr rfl)) (fun _ _ => trivial) (fun pre2 v post2 hv1 => ?ty))) (fun h => by cases h)), ?_⟩
      case ty =>
        have hsq2 : sq n (pre2.foldl (fun m v => if cell m x v = true then mset m z v else m) m1) := fold_inv hsq1 fun s y _ hs => by
          split
          · exact sq_set hs _ _
          · exact hs
        generalize pre2.foldl (fun m v => if cell m x v = true then mset m z v else m) m1 = m2 at hsq2
        have hvm : v ∈ rng 0 n := by rw [hv1]; simp
        have hv2 := mem_rng.mp hvm
        have i3 : v < (n : Int) := by omega
        have ev : v = (v.toNat : Int) := (Int.toNat_of_nonneg hv2.1).symm
        obtain ⟨r1, g1, g2, g3, g4, g5⟩ := bD_at hsq2 hmid.1 i1 hv2.1 i3
        obtain ⟨r2, q1, q2, q3, q4, q5⟩ := bD_at hsq2 hz2.1 i2 hv2.1 i3
        cases hd : cell m2 x v with
        | false =>
          rw [hd] at g4
          refine ⟨_, jlast (jif (c := false) (o1 := .nx []) (jtB (jixOO 2 (jq 2 rfl (jpvar 6 rfl) ex g2) (jpvar 4 rfl) rfl g1 g4)) (fun h => by cases h) (fun _ => jnil)), ?_⟩
          rw [if_neg (by decide)]
          (repeat' (first | exact Wk.nil | refine Wk.same ?_ | refine Wk.drop ?_))
        | true =>
          rw [hd] at g4
          refine ⟨_, jlast (jif (c := true) (o2 := .nx []) (jtB (jixOO 2 (jq 2 rfl (jpvar 6 rfl) ex g2) (jpvar 4 rfl) rfl g1 g4)) (fun _ => jlast (jsetOO 2 (k := z.toNat) (jn := v.toNat) (d := .bl true) jbl (jq 2 rfl (jpvar 3 rfl) ez q2) (jpvar 4 rfl) rfl q1 ev q3 (hg := fun ho hi => pg_sub ho hi set_list))) (fun h => by cases h)), ?_⟩
          rw [if_pos rfl]
          show Wk _ [some (.sh (.int (n : Nat))), some (.sh (.lst (sts.map prD))), some (.oll (bD (mset m2 z v))), some (.sh (.int z)), none, none, some (.sh (.int x))]
          rw [← q5]
          (repeat' (first | exact Wk.nil | refine Wk.same ?_ | refine Wk.drop ?_))
      rw [if_pos rfl]
      (repeat' (first | exact Wk.nil | refine Wk.same ?_ | refine Wk.drop ?_))
end
end Y
namespace Y
open PySem L2 J
section
variable {P : Program} {w : World} {K : PySem.W.Frag} {mg : Str → Option Value} {base : Heap} {C CB CO CN CH : Addr}
theorem fold_if {α : Type} (c : α → Bool) : ∀ (l acc : List α), l.foldl (fun acc p => if c p = true then acc ++ [p] else acc) acc = acc ++ l.filter c
  | [], acc => by simp
  | p :: l, acc => by
    rw [List.foldl_cons, fold_if c l, List.filter_cons]
    cases h : c p
    · rw [if_neg (by decide), if_neg (by decide)]
    · rw [if_pos rfl, if_pos rfl, List.append_assoc]; rfl
theorem openM_len {m : List (List Bool)} {n : Nat} (hn : n ≤ 16) : (openM m n).length ≤ 256 := Nat.le_trans (List.length_filter_le _ _) (pairsM_len hn)
theorem openM_in {m : List (List Bool)} {n : Nat} {p : Pr} (h : p ∈ openM m n) : (0 ≤ p.1 ∧ p.1 < n) ∧ 0 ≤ p.2 ∧ p.2 < n := pairsM_in (List.mem_filter.mp h).1
theorem stepsM_len {m : List (List Bool)} {n : Nat} (hn : n ≤ 16) : (stepsM m n).length ≤ 256 := by
  unfold stepsM
  refine Nat.le_trans (len_fm (k := n) fun x _ => rowM_len m n x) ?_
  rw [rng_len]
  exact Nat.le_trans (Nat.mul_le_mul hn hn) (by decide)
theorem stepsM_in {m : List (List Bool)} {n : Nat} {p : Pr} (h : p ∈ stepsM m n) : (0 ≤ p.1 ∧ p.1 < n) ∧ 0 ≤ p.2 ∧ p.2 < n := by
  unfold stepsM at h
  obtain ⟨x, hx, h⟩ := List.mem_flatMap.mp h
  unfold rowM at h
  obtain ⟨y, hy, rfl⟩ := List.mem_map.mp h
  have hx := mem_rng.mp hx
  have hy := mem_rng.mp (List.mem_filter.mp hy).1
  exact ⟨⟨hx.1, by omega⟩, hy.1, by omega⟩
theorem sq_closedM (n : Nat) (sts : List Pr) : sq n (closedM n sts) := fold_inv (sq_told n sts) fun s y _ hs => sq_closeX hs
/-! _law_single -/
def grownM (m : List (List Bool)) (n : Nat) (p : Pr) : List (List Bool) := closedM n (stepsM m n ++ [p])
def scond (m : List (List Bool)) (n : Nat) (p : Pr) : Bool := decide ((((stepsM (grownM m n p) n).map prD).length : Int) = (((stepsM m n).map prD).length : Int) + 1)
def singleM (m : List (List Bool)) (n : Nat) : List Pr := (openM m n).filter (scond m n)
abbrev sSingleL : Stmt := top t__law_single
abbrev nSingleL : List Str := ["_law_many", "_law_below", "_law_found", "_law_pair", "_law_grown"]
theorem scSingleL : FnScope nSingleL ["_law_many", "_law_below"] (defScope sSingleL) := ⟨rfl, rfl, rfl, by decide +kernel, rfl, by decide +kernel, by decide +kernel⟩
abbrev spSingleL (K : PySem.W.Frag) : Sp := spF K (fun i : List (List Bool) × Nat => sq i.2 i.1 ∧ i.2 ≤ 16) (fun i => [.sh (.int (i.2 : Nat)), .sh (mD i.1)]) (fun i => .ok (.ol none ((singleM i.1 i.2).map prD), [none, none]))
theorem ok_singleL {f : Addr} {fd : FuncData} (F : Fun K "_law_single" "_law_single" sSingleL f fd) (Tx : Txt mg) (nO : Nm P w K mg base "_law_open" ["_law_size", "_law_below"] 2 (spOpenL K)) (nC : Nm P w K mg base "_law_closed" ["_law_size", "_law_steps_here"] 1 (spClosed K)) (nS : Nm P w K mg base "_law_steps" ["_law_below"] 1 (spSteps K)) :
    FnOk P w K mg base (L2.CX P w) 3 f fd ["_law_many", "_law_below"] (spSingleL K) := by
  obtain ⟨f1, fd1, F1, m1, k1, b1⟩ := nO.ex
  obtain ⟨f2, fd2, F2, m2, k2, b2⟩ := nC.ex
  obtain ⟨f3, fd3, F3, m3, k3, b3⟩ := nS.ex
  refine jd F scSingleL _ _ _ (fun _ => rfl) (fun i hd cdv A outer s H E Γ hr tk => ?_)
  obtain ⟨m, n⟩ := i
  have hd' := hd
  obtain ⟨hm, hn⟩ := hd
  refine ⟨_, jcons (jset 2 (jlstO janil) scSingleL.nd) (jcons (jfor0F (openM m n) prD (.n 3) (fun acc : List Pr => [some (.sh (.int (n : Nat))), some (.sh (mD m)), some (.ol none (acc.map prD)), none, none]) (fun acc p => if scond m n p = true then acc ++ [p] else acc) [] (singleM m n) (fold_if _ _ _) (passes_of rfl)
      (jil (jfrz (jcall F1 hr m1 k1 b1 (jacons (jvar 0 rfl) (jacons (jvar 1 rfl) janil)) (spF_at (m, n) hd' rfl rfl)))) (by (repeat' (first | exact Wk.nil | refine Wk.same ?_ | refine Wk.drop ?_))) (pg_name scSingleL.nd rfl (by first | exact Or.inl rfl | exact Or.inr rfl)) (fun _ _ => trivial) (fun pre p post hx => ?turn)) (jlast (jret (jhand 2 rfl)))), rfl, rfl⟩
  have hpm : p ∈ openM m n := by rw [hx]; simp
  have hacc : (pre.foldl (fun acc p => if scond m n p = true then acc ++ [p] else acc) []).length ≤ 256 := by
    rw [fold_if, List.nil_append]
    have h1 : (pre.filter (scond m n)).length ≤ pre.length := List.length_filter_le _ _
    have h2 : pre.length ≤ (openM m n).length := by rw [hx, List.length_append]; omega
    have h3 : (openM m n).length ≤ 256 := openM_len hn
    omega
  generalize pre.foldl (fun acc p => if scond m n p = true then acc ++ [p] else acc) [] = acc at hacc
  have hs256 : (stepsM m n).length ≤ 256 := stepsM_len hn
  have hin : ∀ q ∈ stepsM m n ++ [p], (0 ≤ q.1 ∧ q.1 < (n : Int)) ∧ 0 ≤ q.2 ∧ q.2 < (n : Int) := fun q hq => by
    rcases List.mem_append.mp hq with h | h
    · exact stepsM_in h
    · rw [List.mem_singleton.mp h]; exact openM_in hpm
  have hsg : sq n (grownM m n p) := sq_closedM n _
  refine ⟨_, jcons (jset 4 (jcall F2 (hr.mono (by decide)) m2 k2 b2 (jacons (jvar 0 rfl) (jacons (jfrz (jcatL (ds := (stepsM m n).map prD) (ds1 := [prD p]) (jfrz (jcall F3 (hr.mono (by decide)) m3 k3 b3 (jacons (jvar 1 rfl) janil) (spF_at (m, n) hd' rfl rfl))) (jlst (jacons (jvar 3 rfl) janil)) (by rw [List.length_map]; exact Nat.le_trans (Nat.add_le_add_right hs256 1) (by decide)))) janil))
      (spF_at ((n, stepsM m n ++ [p]) : Nat × List Pr) (And.intro hn (And.intro (by rw [List.length_append]; exact Nat.le_trans (Nat.add_le_add_right hs256 1) (by decide)) hin)) (by show [Sl.sh (.int (n : Nat)), Sl.sh (.lst ((stepsM m n).map prD ++ [prD p]))] = [Sl.sh (.int (n : Nat)), Sl.sh (.lst ((stepsM m n ++ [p]).map prD))]; rw [List.map_append]; rfl) rfl)) scSingleL.nd)
    (jlast (jifB (c := scond m n p) (B := [some (.sh (.int (n : Nat))), some (.sh (mD m)), some (.ol none ((if scond m n p = true then acc ++ [p] else acc).map prD)), none, none])
      (jteqI (jlenL Tx.len (jacons (jfrz (jcall F3 (hr.mono (by decide)) m3 k3 b3 (jacons (jvar 4 rfl) janil) (spF_at (grownM m n p, n) (And.intro hsg hn) rfl rfl))) janil) (fun h => pe_callB call_len_seq (by rfl) Tx.len PySem.boot_len h)) (jadd (jlenL Tx.len (jacons (jfrz (jcall F3 (hr.mono (by decide)) m3 k3 b3 (jacons (jvar 1 rfl) janil) (spF_at (m, n) hd' rfl rfl))) janil) (fun h => pe_callB call_len_seq (by rfl) Tx.len PySem.boot_len h)) jint))
      (fun hc => ⟨_, jlast (jappend 2 (q := none) (d := prD p) rfl (jvar 3 rfl) rfl (by rw [List.length_map]; omega) (h := fun h => pe_bm PySem.F.plainAttrs_list PySem.F.slot_list_append PySem.F.type_list_append mt_append (pe_var (i := 2) rfl (by first | exact Or.inl rfl | exact Or.inr (Or.inl rfl)) (by decide) (by decide)) h)), by rw [if_pos hc, List.map_append]; (repeat' (first | exact Wk.nil | refine Wk.same ?_ | refine Wk.drop ?_))⟩) (fun hc => ⟨_, jnil, by rw [hc, if_neg (by decide)]; (repeat' (first | exact Wk.nil | refine Wk.same ?_ | refine Wk.drop ?_))⟩))), Wk.refl _⟩
end
end Y
namespace Y
open PySem L2 J
section
variable {P : Program} {w : World} {K : PySem.W.Frag} {mg : Str → Option Value} {base : Heap} {C CB CO CN CH : Addr}
/-! _law_next -/
def between (m : List (List Bool)) (n : Nat) (p : Pr) : List Int := (rng 0 n).filter fun z => cell m p.1 z && cell m z p.2
def ncond (m : List (List Bool)) (n : Nat) (p : Pr) : Bool := decide ((((between m n p).map D.int).length : Int) = 0)
def nextM (m : List (List Bool)) (n : Nat) : List Pr := (stepsM m n).filter (ncond m n)
abbrev sNextL : Stmt := top t__law_next
abbrev nNextL : List Str := ["_law_many", "_law_below", "_law_found", "_law_step", "_law_between", "_law_z"]
theorem scNextL : FnScope nNextL ["_law_many", "_law_below"] (defScope sNextL) := ⟨rfl, rfl, rfl, by decide +kernel, rfl, by decide +kernel, by decide +kernel⟩
abbrev spNextL (K : PySem.W.Frag) : Sp := spF K (fun i : List (List Bool) × Nat => sq i.2 i.1 ∧ i.2 ≤ 16) (fun i => [.sh (.int (i.2 : Nat)), .sh (mD i.1)]) (fun i => .ok (.ol none ((nextM i.1 i.2).map prD), [none, none]))
theorem ok_nextL {f : Addr} {fd : FuncData} (F : Fun K "_law_next" "_law_next" sNextL f fd) (Tx : Txt mg) (nS : Nm P w K mg base "_law_steps" ["_law_below"] 1 (spSteps K)) :
    FnOk P w K mg base (L2.CX P w) 2 f fd ["_law_many", "_law_below"] (spNextL K) := by
  obtain ⟨f3, fd3, F3, m3, k3, b3⟩ := nS.ex
  refine jd F scNextL _ _ _ (fun _ => rfl) (fun i hd cdv A outer s H E Γ hr tk => ?_)
  obtain ⟨m, n⟩ := i
  have hd' := hd
  obtain ⟨hm, hn⟩ := hd
  have hl9 : n ≤ 100000 := by have : n ≤ 16 := hn; omega
  refine ⟨_, jcons (jset 2 (jlstO janil) scNextL.nd) (jcons (jfor0F (stepsM m n) prD (.n 3) (fun acc : List Pr => [some (.sh (.int (n : Nat))), some (.sh (mD m)), some (.ol none (acc.map prD)), none, none, none]) (fun acc p => if ncond m n p = true then acc ++ [p] else acc) [] (nextM m n) (fold_if _ _ _) (passes_of rfl)
      (jil (jfrz (jcall F3 (hr.mono (by decide)) m3 k3 b3 (jacons (jvar 1 rfl) janil) (spF_at (m, n) hd' rfl rfl)))) (by (repeat' (first | exact Wk.nil | refine Wk.same ?_ | refine Wk.drop ?_))) (pg_name scNextL.nd rfl (by first | exact Or.inl rfl | exact Or.inr rfl)) (fun _ _ => trivial) (fun pre p post hx => ?turn)) (jlast (jret (jhand 2 rfl)))), rfl, rfl⟩
  have hpm : p ∈ stepsM m n := by rw [hx]; simp
  have hacc : (pre.foldl (fun acc p => if ncond m n p = true then acc ++ [p] else acc) []).length ≤ 256 := by
    rw [fold_if, List.nil_append]
    have h1 : (pre.filter (ncond m n)).length ≤ pre.length := List.length_filter_le _ _
    have h2 : pre.length ≤ (stepsM m n).length := by rw [hx, List.length_append]; omega
    have h3 : (stepsM m n).length ≤ 256 := stepsM_len hn
    omega
  generalize pre.foldl (fun acc p => if ncond m n p = true then acc ++ [p] else acc) [] = acc at hacc
  obtain ⟨⟨a0, a1⟩, c0, c1⟩ := stepsM_in hpm
  refine ⟨_, jcons (jsetLcQ 4 (rng 0 n) D.int (.n 5) [("_law_z", 5)] (fun z => cell m p.1 z && cell m z p.2) D.int ((between m n p).map .int) rfl scNextL.nd (jirN (n := n) (jacons (jvar 0 rfl) janil) Tx.range hl9) (blkOk_by (by show blkC nNextL (defScope sNextL) _ _ = true; decide +kernel)) (fun s H C cl fp => pg_name scNextL.nd rfl (by first | exact Or.inl rfl | exact Or.inr rfl)) (fun _ _ => trivial) (by rw [rng_len]; exact hl9) (fun z hz => ?el))
    (jlast (jifB (c := ncond m n p) (B := [some (.sh (.int (n : Nat))), some (.sh (mD m)), some (.ol none ((if ncond m n p = true then acc ++ [p] else acc).map prD)), none, none, none])
      (jteqI (jlenO 4 rfl (hp := fun h => pe_callB call_len_seq (by rfl) Tx.len PySem.boot_len h)) jint)
      (fun hc => ⟨_, jlast (jappend 2 (q := none) (d := prD p) rfl (jvar 3 rfl) rfl (by rw [List.length_map]; omega) (h := fun h => pe_bm PySem.F.plainAttrs_list PySem.F.slot_list_append PySem.F.type_list_append mt_append (pe_var (i := 2) rfl (by first | exact Or.inl rfl | exact Or.inr (Or.inl rfl)) (by decide) (by decide)) h)), by rw [if_pos hc, List.map_append]; (repeat' (first | exact Wk.nil | refine Wk.same ?_ | refine Wk.drop ?_))⟩) (fun hc => ⟨_, jnil, by rw [hc, if_neg (by decide)]; (repeat' (first | exact Wk.nil | refine Wk.same ?_ | refine Wk.drop ?_))⟩))), Wk.refl _⟩
  have hz' := mem_rng.mp hz
  obtain ⟨r1, e1, e2⟩ := sq_cell hm a0 a1 hz'.1 (by omega)
  obtain ⟨r2, g1, g2⟩ := sq_cell hm hz'.1 (by omega) c0 c1
  exact ⟨fun Γ s H C cl fp => jts1 (PW.pt (jtAnd (jtB (jixL (jixL (jvar 1 rfl) (jixT (ds := [.int p.1, .int p.2]) (jvar 3 rfl) jint rfl) e1) (jvar 5 rfl) e2)) (fun _ => jtAnd1 (jtB (jixL (jixL (jvar 1 rfl) (jvar 5 rfl) g1) (jixT (ds := [.int p.1, .int p.2]) (jvar 3 rfl) jint rfl) g2))))), fun _ Γ s H C cl fp => jvar 5 rfl⟩
/-! _law_holds -/
abbrev sHoldsL : Stmt := top t__law_holds
abbrev nHoldsL : List Str := ["_law_order_here", "_law_other", "_law_due", "_law_told"]
theorem scHoldsL : FnScope nHoldsL ["_law_order_here", "_law_other", "_law_due"] (defScope sHoldsL) := ⟨rfl, rfl, rfl, by decide +kernel, rfl, by decide +kernel, by decide +kernel⟩
theorem deq_bl (a b : Bool) : deq (.bl a) (.bl b) = decide (a = b) := by cases a <;> cases b <;> decide
theorem cmp_bl (a : Bool) : Cmp (.bl a) := ⟨rfl, by show PyData.depth (.bool a) ≤ 64; simp [PyData.depth]⟩
abbrev spHoldsL (K : PySem.W.Frag) (C : Addr) : Sp := spF K (fun i : O × O × Bool => i.1.Ok ∧ i.2.1.n = i.1.n) (fun i => [.sh (i.1.d C), .sh (i.2.1.d C), .sh (.bl i.2.2)]) (fun i => .ok (.sh (.bl (decide (holdsB i.1 i.2.1 = i.2.2))), [none, none, none]))
theorem ok_holdsL {f : Addr} {fd : FuncData} (F : Fun K "_law_holds" "_law_holds" sHoldsL f fd) (Tx : Txt mg) (hC : OrdC K C) (nH : NmM P w K mg base C "holds" ["self", "other"] 3 (spHolds K C CO)) :
    FnOk P w K mg base (L2.CX P w) 4 f fd ["_law_order_here", "_law_other", "_law_due"] (spHoldsL K C) := by
  obtain ⟨f2, fd2, F2, m2, b2⟩ := nH.ex
  refine jd F scHoldsL _ _ _ (fun _ => rfl) (fun i hd cdv A outer s H E Γ hr tk => ?_)
  obtain ⟨o, o', due⟩ := i
  obtain ⟨ho, hn⟩ := hd
  have hn' : (!decide (o'.n = o.n)) = false := by simpa using hn
  exact ⟨_, jcons (jset 3 (jmeth (gs := o.fs) (jvar 0 rfl) hC.cls m2 F2 hr b2 rfl (jacons (jvar 1 rfl) janil) (spF_at (o, o') ho rfl (by show Except.ok (Sl.sh (.bl (holdsB o o')), _) = (if (!decide (o'.n = o.n)) = true then _ else _); rw [hn', if_neg (by decide)])) (Nat.le_of_ble_eq_true rfl) (fun he ha => pe_meth he hC.cls m2 F2 hr b2 .nil passL ha)) scHoldsL.nd)
    (jlast (jret (jAnd (c := true) (c' := decide (holdsB o o' = due)) (jisi (d := .bl (holdsB o o')) (t := "bool") (T1 := "bool") (jvar 3 rfl) rfl (by decide +kernel) Tx.isin Tx.bool) (fun _ => jOne (by rw [← deq_bl]; exact jeqD hr.u64 (jvar 3 rfl) (jvar 2 rfl) (cmp_bl _) (cmp_bl _)))))), rfl, rfl⟩
end
end Y
namespace Y
open PySem L2 J
section
variable {P : Program} {w : World} {K : PySem.W.Frag} {mg : Str → Option Value} {base : Heap} {C CB CO CN CH CM : Addr}
/-- an error class that is caught, and what is read of it -/
structure ErC (K : PySem.W.Frag) (mg : Str → Option Value) (x : Str) (C : Addr) (fs : List Str) : Prop where
  gl : mg x = some (.ref C)
  exc : ExcC K C
  xf : XfC K C
  no : ∀ f ∈ fs, PySem.W.findIn K (.ref C) f = some none
/-- what the four classes are to one another -/
structure Ers (K : PySem.W.Frag) (mg : Str → Option Value) (CH CN CO CB CM : Addr) : Prop where
  h : ErC K mg "NotHeld" CH ["low", "high"]
  n : ErC K mg "NotOpen" CN ["low", "high"]
  o : ErC K mg "OtherSize" CO ["size"]
  b : ErC K mg "BadPlace" CB ["name"]
  m : mg "MixError" = some (.ref CM)
  hh : PySem.W.exmOne K (.ref CH) (.ref CH) = some true
  nh : PySem.W.exmOne K (.ref CN) (.ref CH) = some false
  nn : PySem.W.exmOne K (.ref CN) (.ref CN) = some true
  oh : PySem.W.exmOne K (.ref CO) (.ref CH) = some false
  on : PySem.W.exmOne K (.ref CO) (.ref CN) = some false
  oo : PySem.W.exmOne K (.ref CO) (.ref CO) = some true
  bh : PySem.W.exmOne K (.ref CB) (.ref CH) = some false
  bn : PySem.W.exmOne K (.ref CB) (.ref CN) = some false
  bo : PySem.W.exmOne K (.ref CB) (.ref CO) = some false
  bb : PySem.W.exmOne K (.ref CB) (.ref CB) = some true
  kh : PySem.W.kitOne K (.ref CH) (.ref CN) = some false
  kn : PySem.W.kitOne K (.ref CN) (.ref CH) = some false
  ko : PySem.W.kitOne K (.ref CO) (.ref CH) = some false
  kb : PySem.W.kitOne K (.ref CB) (.ref CN) = some false
  mh : PySem.W.kitOne K (.ref CH) (.ref CM) = some true
  mn : PySem.W.kitOne K (.ref CN) (.ref CM) = some true
  mo : PySem.W.kitOne K (.ref CO) (.ref CM) = some true
  mb : PySem.W.kitOne K (.ref CB) (.ref CM) = some true
inductive Ask where
  | path (o o' : O) (ps : List Pr)
  | unt (o : O) (u v : D)
  | hld (o o' : O)
def Ask.args (C : Addr) : Ask → List Sl
  | .path o o' _ => [.sh (o.d C), .sh (o'.d C), .sh (.int 0), .sh (.int 0), .sh (.int 0)]
  | .unt o u v => [.sh (o.d C), .sh .non, .sh u, .sh v, .sh (.int 1)]
  | .hld o o' => [.sh (o.d C), .sh (o'.d C), .sh (.int 0), .sh (.int 0), .sh (.int 2)]
def Ask.pre : Ask → Prop
  | .path o o' ps => o.Ok ∧ ps.length ≤ 256 ∧ (o'.n = o.n → lack o o' = none → Run o' o ps)
  | .unt o u v => o.Ok ∧ Scal u ∧ Scal v ∧ ∀ x y, u = .int x → v = .int y → (x, y) ∈ nextSteps o → preO o.n (without o (x, y))
  | .hld o _ => o.Ok
def why (x : Str) (a b : D) : D := .tup [.str x, a, b, .bl false, .bl true]
def Ask.ans : Ask → D
  | .path o o' _ => if (!decide (o'.n = o.n)) = true then why "OtherSize" (.int o'.n) (.int 0) else match lack o o' with
    | some p => why "NotHeld" (.int p.1) (.int p.2)
    | none => .non
  | .unt o u v => if isP o.n u = false then why "BadPlace" (.str "u") (.int 0) else if isP o.n v = false then why "BadPlace" (.str "v") (.int 0)
    else if (iD u, iD v) ∈ nextSteps o then .non else why "NotOpen" u v
  | .hld o o' => if (!decide (o'.n = o.n)) = true then why "OtherSize" (.int o'.n) (.int 0) else .non
abbrev sRef : Stmt := top t__law_refused
abbrev nRef : List Str := ["_law_order_here", "_law_other", "_law_u", "_law_v", "_law_word", "_law_why", "e"]
theorem scRef : FnScope nRef ["_law_order_here", "_law_other", "_law_u", "_law_v", "_law_word"] (defScope sRef) := ⟨rfl, rfl, rfl, by decide +kernel, rfl, by decide +kernel, by decide +kernel⟩
abbrev spRef (K : PySem.W.Frag) (C : Addr) : Sp := spF K Ask.pre (Ask.args C) (fun i => .ok (.sh i.ans, [none, none, none, none, none]))
theorem names_of {X : Cx} {x : Str} {C : Addr} {fs : List Str} (e : ErC K X.mg x C fs) (hg : Gl X x := by rfl) (hd : (x == ("__debug__" : Str)) = false := by decide) : Names X x (.ref C) := ⟨hg, hd, .inl e.gl⟩
abbrev trB : List Stmt := match defBody sRef with
  | _ :: Stmt.Try b _ _ _ _ :: _ => b
  | _ => []
theorem ok_refused {f : Addr} {fd : FuncData} (F : Fun K "_law_refused" "_law_refused" sRef f fd) (Tx : Txt mg) (hC : OrdC K C) (eh : Ers K mg CH CN CO CB CM) (nP : Nm P w K mg base "tie_path" ["order", "other"] 8 (spPath K C CO CH)) (nU : Nm P w K mg base "untied" ["order", "u", "v"] 7 (spUntied K C CB CN)) (nH : NmM P w K mg base C "holds" ["self", "other"] 3 (spHolds K C CO)) :
    FnOk P w K mg base (L2.CX P w) 9 f fd ["_law_order_here", "_law_other", "_law_u", "_law_v", "_law_word"] (spRef K C) := by
  obtain ⟨f1, fd1, F1, m1, k1, b1⟩ := nP.ex
  obtain ⟨f2, fd2, F2, m2, k2, b2⟩ := nU.ex
  obtain ⟨f3, fd3, F3, m3, b3⟩ := nH.ex
  refine jd F scRef _ _ _ (fun i => by cases i <;> rfl) (fun i hd cdv A outer s H E Γ hr tk => ?_)
  cases i with
  | path o o' ps =>
    show ∃ out, _ ∧ fin _ out = Except.ok (Sl.sh (Ask.path o o' ps).ans, _) ∧ _
    dsimp only [Ask.ans]
    by_cases hn : o'.n = o.n
    · have e0 : (!decide (o'.n = o.n)) = false := by simpa using hn
      rw [e0, if_neg (by decide)]
      cases hl : lack o o' with
      | none =>
        have hb : ∀ (W : WX) (pn : List (Addr × Obj)) (xe : Value → Shared → Prop), Takes ((cxOf (L2.CX P w) P w K mg base nRef "_law_refused" (defScope sRef) f cdv A outer s H E).tr pn xe) W → PSs ((cxOf (L2.CX P w) P w K mg base nRef "_law_refused" (defScope sRef) f cdv A outer s H E).tr pn xe) trB (JS K Γ W ((slots0 nRef (Ask.args C (Ask.path o o' ps))).set 5 (some (.sh .non))) (.nx ((slots0 nRef (Ask.args C (Ask.path o o' ps))).set 5 (some (.sh .non))))) := fun W pn xe tk' => jlast (jif (c := decide ((0 : Int) = 0)) (o2 := .nx []) (jteqI (jvar 4 rfl) jint) (fun _ => jlast (jexpr (jcall F1 (hr.mono (by decide)) m1 k1 b1 (jacons (jvar 0 rfl) (jacons (jvar 1 rfl) janil)) (spF_at (o, o', ps) hd rfl (by show _ = outPath CO CH o o' ps; unfold outPath; rw [e0, if_neg (by decide), hl]))))) (fun z => absurd z (by decide)))
        exact ⟨_, jcons (jset 5 jnon scRef.nd) (jcons (jtry0 (i := 6) hb (fun e B z => by cases z)
          (Hn.cons (names_of eh.h) (Hn.cons (names_of eh.n) (Hn.cons (names_of eh.o) (Hn.cons (names_of eh.b) .nil)))) tk scRef.nd) (jlast (jret (jvar 5 rfl)))), rfl, rfl⟩
      | some p =>
        have hb : ∀ (W : WX) (pn : List (Addr × Obj)) (xe : Value → Shared → Prop), Takes ((cxOf (L2.CX P w) P w K mg base nRef "_law_refused" (defScope sRef) f cdv A outer s H E).tr pn xe) W → PSs ((cxOf (L2.CX P w) P w K mg base nRef "_law_refused" (defScope sRef) f cdv A outer s H E).tr pn xe) trB (JS K Γ W ((slots0 nRef (Ask.args C (Ask.path o o' ps))).set 5 (some (.sh .non))) (.er (exE CH [("high", .int p.2), ("low", .int p.1)]) ((slots0 nRef (Ask.args C (Ask.path o o' ps))).set 5 (some (.sh .non))))) := fun W pn xe tk' => jlast (jif (c := decide ((0 : Int) = 0)) (o2 := .nx []) (jteqI (jvar 4 rfl) jint) (fun _ => jlast (jexprX (jcallX tk' F1 (hr.mono (by decide)) m1 k1 b1 (jacons (jvar 0 rfl) (jacons (jvar 1 rfl) janil)) (spF_at (o, o', ps) hd rfl (by show _ = outPath CO CH o o' ps; unfold outPath; rw [e0, if_neg (by decide), hl]))))) (fun z => absurd z (by decide)))
        exact ⟨_, jcons (jset 5 jnon scRef.nd) (jcons (jtryE (i := 6) (oh := .nx ((slots0 nRef (Ask.args C (Ask.path o o' ps))).set 5 (some (.sh (why "NotHeld" (.int p.1) (.int p.2)))))) hb
          (Hj.take (names_of eh.h) eh.hh (fun a dd oe pn hz hf => jwk (jlast (jset 5 (jtup (jacons jstr (jacons (jxf eh.h.xf (eh.h.no "low" (by simp)) hz hf (jvar 6 rfl) rfl) (jacons (jxf eh.h.xf (eh.h.no "high" (by simp)) hz hf (jvar 6 rfl) rfl) (jacons (jisX eh.h.exc hz hf (jvar 6 rfl) eh.n.gl eh.kh Tx.isin) (jacons (jisX eh.h.exc hz hf (jvar 6 rfl) eh.m eh.mh Tx.isin) janil)))))) scRef.nd)) (by (repeat' (first | exact Wk.nil | refine Wk.same ?_ | refine Wk.drop ?_)))) (Hn.cons (names_of eh.n) (Hn.cons (names_of eh.o) (Hn.cons (names_of eh.b) .nil)))) tk scRef.nd) (jlast (jret (jvar 5 rfl)))), rfl, rfl⟩
    · have e0 : (!decide (o'.n = o.n)) = true := by simpa using hn
      rw [if_pos e0]
      have hb : ∀ (W : WX) (pn : List (Addr × Obj)) (xe : Value → Shared → Prop), Takes ((cxOf (L2.CX P w) P w K mg base nRef "_law_refused" (defScope sRef) f cdv A outer s H E).tr pn xe) W → PSs ((cxOf (L2.CX P w) P w K mg base nRef "_law_refused" (defScope sRef) f cdv A outer s H E).tr pn xe) trB (JS K Γ W ((slots0 nRef (Ask.args C (Ask.path o o' ps))).set 5 (some (.sh .non))) (.er (exE CO [("size", .int o'.n)]) ((slots0 nRef (Ask.args C (Ask.path o o' ps))).set 5 (some (.sh .non))))) := fun W pn xe tk' => jlast (jif (c := decide ((0 : Int) = 0)) (o2 := .nx []) (jteqI (jvar 4 rfl) jint) (fun _ => jlast (jexprX (jcallX tk' F1 (hr.mono (by decide)) m1 k1 b1 (jacons (jvar 0 rfl) (jacons (jvar 1 rfl) janil)) (spF_at (o, o', ps) hd rfl (by show _ = outPath CO CH o o' ps; unfold outPath; rw [if_pos e0]))))) (fun z => absurd z (by decide)))
      exact ⟨_, jcons (jset 5 jnon scRef.nd) (jcons (jtryE (i := 6) (oh := .nx ((slots0 nRef (Ask.args C (Ask.path o o' ps))).set 5 (some (.sh (why "OtherSize" (.int o'.n) (.int 0)))))) hb
          (Hj.skip (names_of eh.h) eh.oh (Hj.skip (names_of eh.n) eh.on (Hj.take (names_of eh.o) eh.oo (fun a dd oe pn hz hf => jwk (jlast (jset 5 (jtup (jacons jstr (jacons (jxf eh.o.xf (eh.o.no "size" (by simp)) hz hf (jvar 6 rfl) rfl) (jacons jint (jacons (jisX eh.o.exc hz hf (jvar 6 rfl) eh.h.gl eh.ko Tx.isin) (jacons (jisX eh.o.exc hz hf (jvar 6 rfl) eh.m eh.mo Tx.isin) janil)))))) scRef.nd)) (by (repeat' (first | exact Wk.nil | refine Wk.same ?_ | refine Wk.drop ?_)))) (Hn.cons (names_of eh.b) .nil)))) tk scRef.nd) (jlast (jret (jvar 5 rfl)))), rfl, rfl⟩
  | unt o u v =>
    show ∃ out, _ ∧ fin _ out = Except.ok (Sl.sh (Ask.unt o u v).ans, _) ∧ _
    dsimp only [Ask.ans]
    have hd0 := hd
    obtain ⟨ho, hu, hv, hw⟩ := hd0
    cases h1 : isP o.n u with
    | false =>
      rw [if_pos rfl]
      have hb : ∀ (W : WX) (pn : List (Addr × Obj)) (xe : Value → Shared → Prop), Takes ((cxOf (L2.CX P w) P w K mg base nRef "_law_refused" (defScope sRef) f cdv A outer s H E).tr pn xe) W → PSs ((cxOf (L2.CX P w) P w K mg base nRef "_law_refused" (defScope sRef) f cdv A outer s H E).tr pn xe) trB (JS K Γ W ((slots0 nRef (Ask.args C (Ask.unt o u v))).set 5 (some (.sh .non))) (.er (exE CB [("name", .str "u")]) ((slots0 nRef (Ask.args C (Ask.unt o u v))).set 5 (some (.sh .non))))) := fun W pn xe tk' => jlast (jif (c := decide ((1 : Int) = 0)) (o1 := .nx []) (jteqI (jvar 4 rfl) jint) (fun z => absurd z (by decide)) (fun _ => jlast (jif (c := decide ((1 : Int) = 1)) (o2 := .nx []) (jteqI (jvar 4 rfl) jint) (fun _ => jlast (jexprX (jcallX tk' F2 (hr.mono (by decide)) m2 k2 b2 (jacons (jvar 0 rfl) (jacons (jvar 2 rfl) (jacons (jvar 3 rfl) janil))) (spF_at (o, u, v) hd rfl (by show _ = outUntied C CB CN o u v; unfold outUntied; rw [if_pos h1]))))) (fun z => absurd z (by decide)))))
      exact ⟨_, jcons (jset 5 jnon scRef.nd) (jcons (jtryE (i := 6) (oh := .nx ((slots0 nRef (Ask.args C (Ask.unt o u v))).set 5 (some (.sh (why "BadPlace" (.str "u") (.int 0)))))) hb
          (Hj.skip (names_of eh.h) eh.bh (Hj.skip (names_of eh.n) eh.bn (Hj.skip (names_of eh.o) eh.bo (Hj.take (names_of eh.b) eh.bb (fun a dd oe pn hz hf => jwk (jlast (jset 5 (jtup (jacons jstr (jacons (jxf eh.b.xf (eh.b.no "name" (by simp)) hz hf (jvar 6 rfl) rfl) (jacons jint (jacons (jisX eh.b.exc hz hf (jvar 6 rfl) eh.n.gl eh.kb Tx.isin) (jacons (jisX eh.b.exc hz hf (jvar 6 rfl) eh.m eh.mb Tx.isin) janil)))))) scRef.nd)) (by (repeat' (first | exact Wk.nil | refine Wk.same ?_ | refine Wk.drop ?_)))) .nil)))) tk scRef.nd) (jlast (jret (jvar 5 rfl)))), rfl, rfl⟩
    | true =>
      rw [if_neg (by decide)]
      cases h2 : isP o.n v with
      | false =>
        rw [if_pos rfl]
        have hb : ∀ (W : WX) (pn : List (Addr × Obj)) (xe : Value → Shared → Prop), Takes ((cxOf (L2.CX P w) P w K mg base nRef "_law_refused" (defScope sRef) f cdv A outer s H E).tr pn xe) W → PSs ((cxOf (L2.CX P w) P w K mg base nRef "_law_refused" (defScope sRef) f cdv A outer s H E).tr pn xe) trB (JS K Γ W ((slots0 nRef (Ask.args C (Ask.unt o u v))).set 5 (some (.sh .non))) (.er (exE CB [("name", .str "v")]) ((slots0 nRef (Ask.args C (Ask.unt o u v))).set 5 (some (.sh .non))))) := fun W pn xe tk' => jlast (jif (c := decide ((1 : Int) = 0)) (o1 := .nx []) (jteqI (jvar 4 rfl) jint) (fun z => absurd z (by decide)) (fun _ => jlast (jif (c := decide ((1 : Int) = 1)) (o2 := .nx []) (jteqI (jvar 4 rfl) jint) (fun _ => jlast (jexprX (jcallX tk' F2 (hr.mono (by decide)) m2 k2 b2 (jacons (jvar 0 rfl) (jacons (jvar 2 rfl) (jacons (jvar 3 rfl) janil))) (spF_at (o, u, v) hd rfl (by show _ = outUntied C CB CN o u v; unfold outUntied; rw [if_neg (by rw [h1]; decide), if_pos h2]))))) (fun z => absurd z (by decide)))))
        exact ⟨_, jcons (jset 5 jnon scRef.nd) (jcons (jtryE (i := 6) (oh := .nx ((slots0 nRef (Ask.args C (Ask.unt o u v))).set 5 (some (.sh (why "BadPlace" (.str "v") (.int 0)))))) hb
          (Hj.skip (names_of eh.h) eh.bh (Hj.skip (names_of eh.n) eh.bn (Hj.skip (names_of eh.o) eh.bo (Hj.take (names_of eh.b) eh.bb (fun a dd oe pn hz hf => jwk (jlast (jset 5 (jtup (jacons jstr (jacons (jxf eh.b.xf (eh.b.no "name" (by simp)) hz hf (jvar 6 rfl) rfl) (jacons jint (jacons (jisX eh.b.exc hz hf (jvar 6 rfl) eh.n.gl eh.kb Tx.isin) (jacons (jisX eh.b.exc hz hf (jvar 6 rfl) eh.m eh.mb Tx.isin) janil)))))) scRef.nd)) (by (repeat' (first | exact Wk.nil | refine Wk.same ?_ | refine Wk.drop ?_)))) .nil)))) tk scRef.nd) (jlast (jret (jvar 5 rfl)))), rfl, rfl⟩
      | true =>
        rw [if_neg (by decide)]
        by_cases h3 : (iD u, iD v) ∈ nextSteps o
        · rw [if_pos h3]
          have hb : ∀ (W : WX) (pn : List (Addr × Obj)) (xe : Value → Shared → Prop), Takes ((cxOf (L2.CX P w) P w K mg base nRef "_law_refused" (defScope sRef) f cdv A outer s H E).tr pn xe) W → PSs ((cxOf (L2.CX P w) P w K mg base nRef "_law_refused" (defScope sRef) f cdv A outer s H E).tr pn xe) trB (JS K Γ W ((slots0 nRef (Ask.args C (Ask.unt o u v))).set 5 (some (.sh .non))) (.nx ((slots0 nRef (Ask.args C (Ask.unt o u v))).set 5 (some (.sh .non))))) := fun W pn xe tk' => jlast (jif (c := decide ((1 : Int) = 0)) (o1 := .nx []) (jteqI (jvar 4 rfl) jint) (fun z => absurd z (by decide)) (fun _ => jlast (jif (c := decide ((1 : Int) = 1)) (o2 := .nx []) (jteqI (jvar 4 rfl) jint) (fun _ => jlast (jexpr (jcall F2 (hr.mono (by decide)) m2 k2 b2 (jacons (jvar 0 rfl) (jacons (jvar 2 rfl) (jacons (jvar 3 rfl) janil))) (spF_at (o, u, v) hd rfl (by show _ = outUntied C CB CN o u v; unfold outUntied; rw [if_neg (by rw [h1]; decide), if_neg (by rw [h2]; decide), if_pos h3]))))) (fun z => absurd z (by decide)))))
          exact ⟨_, jcons (jset 5 jnon scRef.nd) (jcons (jtry0 (i := 6) hb (fun e B z => by cases z)
            (Hn.cons (names_of eh.h) (Hn.cons (names_of eh.n) (Hn.cons (names_of eh.o) (Hn.cons (names_of eh.b) .nil)))) tk scRef.nd) (jlast (jret (jvar 5 rfl)))), rfl, rfl⟩
        · rw [if_neg h3]
          have hb : ∀ (W : WX) (pn : List (Addr × Obj)) (xe : Value → Shared → Prop), Takes ((cxOf (L2.CX P w) P w K mg base nRef "_law_refused" (defScope sRef) f cdv A outer s H E).tr pn xe) W → PSs ((cxOf (L2.CX P w) P w K mg base nRef "_law_refused" (defScope sRef) f cdv A outer s H E).tr pn xe) trB (JS K Γ W ((slots0 nRef (Ask.args C (Ask.unt o u v))).set 5 (some (.sh .non))) (.er (exE CN [("high", v), ("low", u)]) ((slots0 nRef (Ask.args C (Ask.unt o u v))).set 5 (some (.sh .non))))) := fun W pn xe tk' => jlast (jif (c := decide ((1 : Int) = 0)) (o1 := .nx []) (jteqI (jvar 4 rfl) jint) (fun z => absurd z (by decide)) (fun _ => jlast (jif (c := decide ((1 : Int) = 1)) (o2 := .nx []) (jteqI (jvar 4 rfl) jint) (fun _ => jlast (jexprX (jcallX tk' F2 (hr.mono (by decide)) m2 k2 b2 (jacons (jvar 0 rfl) (jacons (jvar 2 rfl) (jacons (jvar 3 rfl) janil))) (spF_at (o, u, v) hd rfl (by show _ = outUntied C CB CN o u v; unfold outUntied; rw [if_neg (by rw [h1]; decide), if_neg (by rw [h2]; decide), if_neg h3]))))) (fun z => absurd z (by decide)))))
          exact ⟨_, jcons (jset 5 jnon scRef.nd) (jcons (jtryE (i := 6) (oh := .nx ((slots0 nRef (Ask.args C (Ask.unt o u v))).set 5 (some (.sh (why "NotOpen" u v))))) hb
            (Hj.skip (names_of eh.h) eh.nh (Hj.take (names_of eh.n) eh.nn (fun a dd oe pn hz hf => jwk (jlast (jset 5 (jtup (jacons jstr (jacons (jxf eh.n.xf (eh.n.no "low" (by simp)) hz hf (jvar 6 rfl) rfl) (jacons (jxf eh.n.xf (eh.n.no "high" (by simp)) hz hf (jvar 6 rfl) rfl) (jacons (jisX eh.n.exc hz hf (jvar 6 rfl) eh.h.gl eh.kn Tx.isin) (jacons (jisX eh.n.exc hz hf (jvar 6 rfl) eh.m eh.mn Tx.isin) janil)))))) scRef.nd)) (by (repeat' (first | exact Wk.nil | refine Wk.same ?_ | refine Wk.drop ?_)))) (Hn.cons (names_of eh.o) (Hn.cons (names_of eh.b) .nil)))) tk scRef.nd) (jlast (jret (jvar 5 rfl)))), rfl, rfl⟩
  | hld o o' =>
    show ∃ out, _ ∧ fin _ out = Except.ok (Sl.sh (Ask.hld o o').ans, _) ∧ _
    dsimp only [Ask.ans]
    by_cases hn : o'.n = o.n
    · have e0 : (!decide (o'.n = o.n)) = false := by simpa using hn
      rw [e0, if_neg (by decide)]
      have hb : ∀ (W : WX) (pn : List (Addr × Obj)) (xe : Value → Shared → Prop), Takes ((cxOf (L2.CX P w) P w K mg base nRef "_law_refused" (defScope sRef) f cdv A outer s H E).tr pn xe) W → PSs ((cxOf (L2.CX P w) P w K mg base nRef "_law_refused" (defScope sRef) f cdv A outer s H E).tr pn xe) trB (JS K Γ W ((slots0 nRef (Ask.args C (Ask.hld o o'))).set 5 (some (.sh .non))) (.nx ((slots0 nRef (Ask.args C (Ask.hld o o'))).set 5 (some (.sh .non))))) := fun W pn xe tk' => jlast (jif (c := decide ((2 : Int) = 0)) (o1 := .nx []) (jteqI (jvar 4 rfl) jint) (fun z => absurd z (by decide)) (fun _ => jlast (jif (c := decide ((2 : Int) = 1)) (o1 := .nx []) (jteqI (jvar 4 rfl) jint) (fun z => absurd z (by decide)) (fun _ => jlast (jexpr (jmeth (gs := o.fs) (jvar 0 rfl) hC.cls m3 F3 (hr.mono (by decide)) b3 rfl (jacons (jvar 1 rfl) janil) (spF_at (o, o') hd rfl (by show _ = (if (!decide (o'.n = o.n)) = true then _ else _); rw [e0, if_neg (by decide)])) (Nat.le_of_ble_eq_true rfl) (fun he ha => pe_meth he hC.cls m3 F3 (hr.mono (by decide)) b3 .nil passL ha)))))))
      exact ⟨_, jcons (jset 5 jnon scRef.nd) (jcons (jtry0 (i := 6) hb (fun e B z => by cases z)
          (Hn.cons (names_of eh.h) (Hn.cons (names_of eh.n) (Hn.cons (names_of eh.o) (Hn.cons (names_of eh.b) .nil)))) tk scRef.nd) (jlast (jret (jvar 5 rfl)))), rfl, rfl⟩
    · have e0 : (!decide (o'.n = o.n)) = true := by simpa using hn
      rw [if_pos e0]
      have hb : ∀ (W : WX) (pn : List (Addr × Obj)) (xe : Value → Shared → Prop), Takes ((cxOf (L2.CX P w) P w K mg base nRef "_law_refused" (defScope sRef) f cdv A outer s H E).tr pn xe) W → PSs ((cxOf (L2.CX P w) P w K mg base nRef "_law_refused" (defScope sRef) f cdv A outer s H E).tr pn xe) trB (JS K Γ W ((slots0 nRef (Ask.args C (Ask.hld o o'))).set 5 (some (.sh .non))) (.er (exE CO [("size", .int o'.n)]) ((slots0 nRef (Ask.args C (Ask.hld o o'))).set 5 (some (.sh .non))))) := fun W pn xe tk' => jlast (jif (c := decide ((2 : Int) = 0)) (o1 := .nx []) (jteqI (jvar 4 rfl) jint) (fun z => absurd z (by decide)) (fun _ => jlast (jif (c := decide ((2 : Int) = 1)) (o1 := .nx []) (jteqI (jvar 4 rfl) jint) (fun z => absurd z (by decide)) (fun _ => jlast (jexprX (jmethX (gs := o.fs) (jvar 0 rfl) rfl (jacons (jvar 1 rfl) janil) (spF_at (o, o') hd rfl (by show _ = (if (!decide (o'.n = o.n)) = true then _ else _); rw [if_pos e0])) (fun he ha => pe_methAt he hC.cls m3 F3 (hr.mono (by decide)) b3 (passAt tk') ha)))))))
      exact ⟨_, jcons (jset 5 jnon scRef.nd) (jcons (jtryE (i := 6) (oh := .nx ((slots0 nRef (Ask.args C (Ask.hld o o'))).set 5 (some (.sh (why "OtherSize" (.int o'.n) (.int 0)))))) hb
          (Hj.skip (names_of eh.h) eh.oh (Hj.skip (names_of eh.n) eh.on (Hj.take (names_of eh.o) eh.oo (fun a dd oe pn hz hf => jwk (jlast (jset 5 (jtup (jacons jstr (jacons (jxf eh.o.xf (eh.o.no "size" (by simp)) hz hf (jvar 6 rfl) rfl) (jacons jint (jacons (jisX eh.o.exc hz hf (jvar 6 rfl) eh.h.gl eh.ko Tx.isin) (jacons (jisX eh.o.exc hz hf (jvar 6 rfl) eh.m eh.mo Tx.isin) janil)))))) scRef.nd)) (by (repeat' (first | exact Wk.nil | refine Wk.same ?_ | refine Wk.drop ?_)))) (Hn.cons (names_of eh.b) .nil)))) tk scRef.nd) (jlast (jret (jvar 5 rfl)))), rfl, rfl⟩
end
end Y
namespace Y
open PySem L2 J PyProof.Rows PySem.W
/-! ### bits of masks -/
theorem bit_nat (a i : Nat) : bit (a : Int) (i : Int) = a.testBit i := by
  unfold bit
  have e : (a : Int) / 2 ^ ((i : Int)).toNat = ((a / 2 ^ i : Nat) : Int) := by
    rw [Int.toNat_natCast]; norm_cast
  rw [e]
  have := os_band (a / 2 ^ i) 1
  rw [show ((1 : Nat) : Int) = 1 from rfl] at this
  rw [this, Nat.testBit_eq_decide_div_mod_eq, Nat.and_one_is_mod]
  have h3 : a / 2 ^ i % 2 = 0 ∨ a / 2 ^ i % 2 = 1 := by omega
  rcases h3 with h | h <;> rw [h] <;> rfl
theorem and_nat (a b : Nat) : Builtin.bitAnd (a : Int) (b : Int) = ((a &&& b : Nat) : Int) := os_band a b
theorem or_nat (a b : Nat) : Builtin.bitOr (a : Int) (b : Int) = ((a ||| b : Nat) : Int) := by
  rw [bitOr_and, and_nat]
  have := nat_or_add_and a b
  omega
theorem xor_nat (a b : Nat) : Builtin.bitXor (a : Int) (b : Int) = ((a ^^^ b : Nat) : Int) := by
  unfold Builtin.bitXor
  rw [or_nat, and_nat]
  have h1 := nat_or_add_and (a ^^^ b) (a &&& b)
  have h2 : (a ^^^ b) ||| (a &&& b) = a ||| b := Nat.eq_of_testBit_eq fun i => by
    rw [Nat.testBit_or, Nat.testBit_xor, Nat.testBit_and, Nat.testBit_or]
    cases a.testBit i <;> cases b.testBit i <;> rfl
  have h3 : (a ^^^ b) &&& (a &&& b) = 0 := Nat.eq_of_testBit_eq fun i => by
    rw [Nat.testBit_and, Nat.testBit_xor, Nat.testBit_and, Nat.zero_testBit]
    cases a.testBit i <;> cases b.testBit i <;> rfl
  rw [h2, h3] at h1
  omega
/-- a mask: below 2 ^ n -/
structure Msk (n : Nat) (m : Int) : Prop where
  ex : ∃ a : Nat, m = (a : Int) ∧ a < 2 ^ n
theorem Msk.or {n : Nat} {a b : Int} (ha : Msk n a) (hb : Msk n b) : Msk n (Builtin.bitOr a b) := by
  obtain ⟨a, rfl, h1⟩ := ha.ex
  obtain ⟨b, rfl, h2⟩ := hb.ex
  exact ⟨_, or_nat a b, Nat.or_lt_two_pow h1 h2⟩
theorem Msk.xor {n : Nat} {a b : Int} (ha : Msk n a) (hb : Msk n b) : Msk n (Builtin.bitXor a b) := by
  obtain ⟨a, rfl, h1⟩ := ha.ex
  obtain ⟨b, rfl, h2⟩ := hb.ex
  exact ⟨_, xor_nat a b, Nat.xor_lt_two_pow h1 h2⟩
theorem msk0 {n : Nat} : Msk n 0 := ⟨0, rfl, Nat.two_pow_pos n⟩
theorem msk_pow {n : Nat} {x : Int} (h0 : 0 ≤ x) (h1 : x < n) : Msk n (1 * 2 ^ x.toNat) :=
  ⟨2 ^ x.toNat, by rw [Int.one_mul]; norm_cast, Nat.pow_lt_pow_right (by decide) (by omega)⟩
theorem Msk.bit_or {n : Nat} {a b x : Int} (ha : Msk n a) (hb : Msk n b) (h0 : 0 ≤ x) : bit (Builtin.bitOr a b) x = (bit a x || bit b x) := by
  obtain ⟨a, rfl, h1⟩ := ha.ex
  obtain ⟨b, rfl, h2⟩ := hb.ex
  obtain ⟨i, rfl⟩ := Int.eq_ofNat_of_zero_le h0
  rw [or_nat, bit_nat, bit_nat, bit_nat, Nat.testBit_or]
theorem Msk.bit_xor {n : Nat} {a b x : Int} (ha : Msk n a) (hb : Msk n b) (h0 : 0 ≤ x) : bit (Builtin.bitXor a b) x = (bit a x ^^ bit b x) := by
  obtain ⟨a, rfl, h1⟩ := ha.ex
  obtain ⟨b, rfl, h2⟩ := hb.ex
  obtain ⟨i, rfl⟩ := Int.eq_ofNat_of_zero_le h0
  rw [xor_nat, bit_nat, bit_nat, bit_nat, Nat.testBit_xor]
theorem Msk.bit_and {n : Nat} {a b x : Int} (ha : Msk n a) (hb : Msk n b) (h0 : 0 ≤ x) : bit (Builtin.bitAnd a b) x = (bit a x && bit b x) := by
  obtain ⟨a, rfl, h1⟩ := ha.ex
  obtain ⟨b, rfl, h2⟩ := hb.ex
  obtain ⟨i, rfl⟩ := Int.eq_ofNat_of_zero_le h0
  rw [and_nat, bit_nat, bit_nat, bit_nat, Nat.testBit_and]
theorem bit_pow {x y : Int} (hx : 0 ≤ x) (hy : 0 ≤ y) : bit (1 * 2 ^ x.toNat) y = decide (x = y) := by
  obtain ⟨i, rfl⟩ := Int.eq_ofNat_of_zero_le hx
  obtain ⟨j, rfl⟩ := Int.eq_ofNat_of_zero_le hy
  have e : (1 : Int) * 2 ^ ((i : Int)).toNat = ((2 ^ i : Nat) : Int) := by rw [Int.one_mul, Int.toNat_natCast]; norm_cast
  rw [e, bit_nat, Nat.testBit_two_pow]
  by_cases h : i = j
  · subst h; simp
  · have h' : ¬ (i : Int) = (j : Int) := by omega
    rw [decide_eq_false h, decide_eq_false h']
theorem bit_zero {x : Int} (hx : 0 ≤ x) : bit 0 x = false := by
  obtain ⟨i, rfl⟩ := Int.eq_ofNat_of_zero_le hx
  have := bit_nat 0 i
  rw [show ((0 : Nat) : Int) = 0 from rfl] at this
  rw [this, Nat.zero_testBit]
theorem Msk.out {n : Nat} {a x : Int} (ha : Msk n a) (h : (n : Int) ≤ x) : bit a x = false := by
  obtain ⟨a, rfl, h1⟩ := ha.ex
  obtain ⟨i, rfl⟩ := Int.eq_ofNat_of_zero_le (a := x) (by omega)
  rw [bit_nat]
  exact Nat.testBit_lt_two_pow (Nat.lt_of_lt_of_le h1 (Nat.pow_le_pow_right (by decide) (by omega)))
theorem Msk.ext {n : Nat} {a b : Int} (ha : Msk n a) (hb : Msk n b) (h : ∀ x : Int, 0 ≤ x → x < n → bit a x = bit b x) : a = b := by
  have ha' := ha
  have hb' := hb
  obtain ⟨a, rfl, h1⟩ := ha.ex
  obtain ⟨b, rfl, h2⟩ := hb.ex
  have : a = b := Nat.eq_of_testBit_eq fun i => by
    by_cases hi : i < n
    · have := h (i : Int) (by omega) (by omega)
      rwa [bit_nat, bit_nat] at this
    · have e1 := ha'.out (x := (i : Int)) (by omega)
      have e2 := hb'.out (x := (i : Int)) (by omega)
      rw [bit_nat] at e1 e2
      rw [e1, e2]
  rw [this]
theorem Msk.bits {n : Nat} {a : Int} (ha : Msk n a) : Builtin.Int.intBits a ≤ n := by
  obtain ⟨a, rfl, h1⟩ := ha.ex
  unfold Builtin.Int.intBits
  split
  · omega
  · rename_i h
    have h0 : a ≠ 0 := fun z => by subst z; simp at h
    rw [Int.natAbs_natCast]
    have := (Nat.log2_lt h0).mpr h1
    omega
theorem Msk.ne0 {n : Nat} {a : Int} (ha : Msk n a) : (a != 0) = true ↔ ∃ x : Int, 0 ≤ x ∧ x < n ∧ bit a x = true := by
  constructor
  · intro h
    by_cases q : ∃ x : Int, 0 ≤ x ∧ x < n ∧ bit a x = true
    · exact q
    · exfalso
      have : a = 0 := ha.ext msk0 fun x h0 h1 => by
        rw [bit_zero h0]
        cases hb : bit a x
        · rfl
        · exact (q ⟨x, h0, h1, hb⟩).elim
      subst this
      simp at h
  · rintro ⟨x, h0, h1, hb⟩
    cases hz : (a != 0)
    · have : a = 0 := by simpa using hz
      subst this
      rw [bit_zero h0] at hb; cases hb
    · rfl
/-- the sum of the powers of a row of places -/
theorem sum_pow {n : Nat} : ∀ (l : List Int), l.Nodup → (∀ x ∈ l, 0 ≤ x ∧ x < n) → Msk n ((l.map fun x => 1 * 2 ^ x.toNat).sum) ∧ ∀ y : Int, 0 ≤ y → bit ((l.map fun x => 1 * 2 ^ x.toNat).sum) y = decide (y ∈ l)
  | [], _, _ => ⟨msk0, fun y hy => by show bit 0 y = _; rw [bit_zero hy]; simp⟩
  | x :: l, hnd, h => by
    obtain ⟨h1, h2⟩ := sum_pow l (List.nodup_cons.mp hnd).2 fun y hy => h y (List.mem_cons_of_mem _ hy)
    obtain ⟨x0, x1⟩ := h x List.mem_cons_self
    have hp := msk_pow (n := n) x0 x1
    rw [List.map_cons, List.sum_cons]
    have hz : Builtin.bitAnd (1 * 2 ^ x.toNat) ((l.map fun x => 1 * 2 ^ x.toNat).sum) = 0 := by
      have hm : Msk n (Builtin.bitAnd (1 * 2 ^ x.toNat) ((l.map fun x => 1 * 2 ^ x.toNat).sum)) := by
        obtain ⟨a, e1, q1⟩ := hp.ex
        obtain ⟨b, e2, q2⟩ := h1.ex
        rw [e1, e2]
        exact ⟨_, and_nat a b, Nat.lt_of_le_of_lt Nat.and_le_left q1⟩
      refine hm.ext msk0 fun y y0 y1 => ?_
      rw [hp.bit_and h1 y0, bit_zero y0, h2 y y0, bit_pow x0 y0]
      by_cases e : x = y
      · subst e; simp [(List.nodup_cons.mp hnd).1]
      · simp [e]
    have ho : Builtin.bitOr (1 * 2 ^ x.toNat) ((l.map fun x => 1 * 2 ^ x.toNat).sum) = 1 * 2 ^ x.toNat + (l.map fun x => 1 * 2 ^ x.toNat).sum := by rw [bitOr_and, hz]; omega
    rw [← ho]
    refine ⟨hp.or h1, fun y y0 => ?_⟩
    rw [hp.bit_or h1 y0, h2 y y0, bit_pow x0 y0]
    by_cases e : x = y
    · subst e; simp
    · have e' : ¬ y = x := fun z => e z.symm
      simp [e, e']
end Y
namespace Y
open PySem L2 J PyProof.Rows PySem.W
/-! ### ways along steps -/
inductive Pth (sts : List Pr) : Int → Int → Prop
  | refl (x : Int) : Pth sts x x
  | step {x y z : Int} : Pth sts x y → (y, z) ∈ sts → Pth sts x z
theorem Pth.trans {sts : List Pr} {x y z : Int} (h : Pth sts x y) (k : Pth sts y z) : Pth sts x z := by
  induction k with
  | refl => exact h
  | step _ m ih => exact .step ih m
theorem Pth.mono {sts sts' : List Pr} (s : ∀ p ∈ sts, p ∈ sts') {x y : Int} (h : Pth sts x y) : Pth sts' x y := by
  induction h with
  | refl => exact .refl _
  | step _ m ih => exact .step ih (s _ m)
theorem Pth.one {sts : List Pr} {x y : Int} (h : (x, y) ∈ sts) : Pth sts x y := .step (.refl x) h
theorem pth_snoc {pre : List Pr} {p : Pr} {x y : Int} : Pth (pre ++ [p]) x y ↔ Pth pre x y ∨ (Pth pre x p.1 ∧ Pth pre p.2 y) := by
  constructor
  · intro h
    induction h with
    | refl => exact .inl (.refl _)
    | step _ m ih =>
      rcases List.mem_append.mp m with m | m
      · rcases ih with h | ⟨h1, h2⟩
        · exact .inl (.step h m)
        · exact .inr ⟨h1, .step h2 m⟩
      · have e := List.mem_singleton.mp m
        subst e
        rcases ih with h | ⟨h1, h2⟩
        · exact .inr ⟨h, .refl _⟩
        · exact .inr ⟨h1, .refl _⟩
  · have s : ∀ q ∈ pre, q ∈ pre ++ [p] := fun q hq => List.mem_append.mpr (.inl hq)
    rintro (h | ⟨h1, h2⟩)
    · exact h.mono s
    · exact ((h1.mono s).step (z := p.2) (List.mem_append.mpr (.inr List.mem_cons_self))).trans (h2.mono s)
theorem snoc_ind {α : Type} {Q : List α → Prop} (h0 : Q []) (h : ∀ l a, Q l → Q (l ++ [a])) (l : List α) : Q l := by
  have key : ∀ m : List α, Q m.reverse := fun m => by
    induction m with
    | nil => exact h0
    | cons a m ih => rw [List.reverse_cons]; exact h _ _ ih
  have := key l.reverse
  rwa [List.reverse_reverse] at this
/-- x is a place -/
abbrev In (n : Nat) (x : Int) : Prop := 0 ≤ x ∧ x < (n : Int)
abbrev InS (n : Nat) (sts : List Pr) : Prop := ∀ p ∈ sts, In n p.1 ∧ In n p.2
theorem gI_map {l : List Int} {g : Int → Int} {x : Int} (h0 : 0 ≤ x) (h : x < l.length) : gI (l.map g) x = g (gI l x) := by
  unfold gI
  have hx : x.toNat < l.length := by omega
  rw [List.getD_eq_getElem?_getD, List.getD_eq_getElem?_getD, List.getElem?_map, List.getElem?_eq_getElem hx]; rfl
theorem gI_mapA {α : Type} {l : List α} {g : α → Int} {x : Int} {a : α} (h : l[x.toNat]? = some a) : gI (l.map g) x = g a := by
  unfold gI
  rw [List.getD_eq_getElem?_getD, List.getElem?_map, h]; rfl
theorem gI_rng {n : Nat} {g : Int → Int} {x : Int} (h : In n x) : gI ((rng 0 n).map g) x = g x := by
  refine gI_mapA ?_
  rw [rng_at (by omega)]
  congr 1; omega
theorem nat_toNat (n : Nat) : ((n : Int)).toNat = n := Int.toNat_natCast n
theorem gI_stepU {un : List Int} {p : Pr} {x : Int} (h0 : 0 ≤ x) (h : x < un.length) : gI (stepU un p) x = if bit (gI un x) p.1 = true then Builtin.bitOr (gI un x) (gI un p.2) else gI un x := by
  unfold stepU; rw [gI_map h0 h]
structure Uok (n : Nat) (sts : List Pr) (un : List Int) : Prop where
  len : un.length = n
  msk : ∀ x, In n x → Msk n (gI un x)
  bit : ∀ x y, In n x → In n y → (Y.bit (gI un x) y = true ↔ Pth sts x y)
theorem unders_ok (n : Nat) : ∀ sts : List Pr, InS n sts → Uok n sts (unders n sts) := by
  refine snoc_ind ?_ ?_
  · intro _
    show Uok n [] (unders0 n)
    unfold unders0
    rw [nat_toNat]
    refine ⟨by rw [List.length_map, rng_len], fun x hx => by rw [gI_rng hx]; exact msk_pow hx.1 hx.2, fun x y hx hy => ?_⟩
    rw [gI_rng hx, bit_pow hx.1 hy.1, decide_eq_true_eq]
    constructor
    · rintro rfl; exact .refl _
    · intro h
      cases h with
      | refl => rfl
      | step _ m => cases m
  · intro pre p ih hin
    have ih := ih fun q hq => hin q (List.mem_append.mpr (.inl hq))
    obtain ⟨p1, p2⟩ := hin p (List.mem_append.mpr (.inr List.mem_cons_self))
    rw [unders_app]
    show Uok n (pre ++ [p]) (stepU (unders n pre) p)
    have hl := ih.len
    have hin' : ∀ x, In n x → x < ((unders n pre).length : Int) := fun x hx => by rw [hl]; exact hx.2
    refine ⟨by unfold stepU; rw [List.length_map, hl], fun x hx => ?_, fun x y hx hy => ?_⟩
    · rw [gI_stepU hx.1 (hin' x hx)]
      split
      · exact (ih.msk x hx).or (ih.msk _ p2)
      · exact ih.msk x hx
    · rw [gI_stepU hx.1 (hin' x hx), pth_snoc]
      by_cases hb : Y.bit (gI (unders n pre) x) p.1 = true
      · rw [if_pos hb, (ih.msk x hx).bit_or (ih.msk _ p2) hy.1, Bool.or_eq_true, ih.bit x y hx hy, ih.bit _ y p2 hy]
        have := (ih.bit x p.1 hx p1).mp hb
        constructor
        · rintro (h | h)
          · exact .inl h
          · exact .inr ⟨this, h⟩
        · rintro (h | h)
          · exact .inl h
          · exact .inr h.2
      · rw [if_neg hb, ih.bit x y hx hy]
        constructor
        · exact .inl
        · rintro (h | h)
          · exact h
          · exact (hb ((ih.bit x p.1 hx p1).mpr h.1)).elim
theorem gI_aboves {n : Nat} {sts : List Pr} {x : Int} (hx : In n x) : gI (aboves n sts) x = Builtin.bitXor (gI (unders n sts) x) (1 * 2 ^ x.toNat) := by
  unfold aboves
  have hl := unders_len n sts
  rw [nat_toNat] at hl
  have h1 : (unders n sts)[x.toNat]? = some (gI (unders n sts) x) := gI_at hx.1 (by rw [hl]; exact hx.2)
  have : (ix (unders n sts))[x.toNat]? = some ((x.toNat : Int), gI (unders n sts) x) := by rw [ix_at, h1]; rfl
  rw [gI_mapA this]
  dsimp only
  rw [nat_toNat]
structure Aok (n : Nat) (sts : List Pr) : Prop where
  msk : ∀ x, In n x → Msk n (gI (aboves n sts) x)
  bit : ∀ x y, In n x → In n y → (Y.bit (gI (aboves n sts) x) y = true ↔ Pth sts x y ∧ x ≠ y)
theorem aboves_ok {n : Nat} {sts : List Pr} (hin : InS n sts) : Aok n sts := by
  have u := unders_ok n sts hin
  refine ⟨fun x hx => by rw [gI_aboves hx]; exact (u.msk x hx).xor (msk_pow hx.1 hx.2), fun x y hx hy => ?_⟩
  rw [gI_aboves hx, (u.msk x hx).bit_xor (msk_pow hx.1 hx.2) hy.1, bit_pow hx.1 hy.1]
  by_cases e : x = y
  · subst e
    have := (u.bit x x hx hx).mpr (.refl x)
    rw [this]; simp
  · rw [decide_eq_false e, Bool.xor_false, u.bit x y hx hy]
    exact ⟨fun h => ⟨h, e⟩, fun h => h.1⟩
theorem rng_nodup (lo : Int) (n : Nat) : (rng lo n).Nodup := by
  unfold rng
  rw [List.nodup_iff_pairwise_ne, List.pairwise_map]
  refine List.Pairwise.imp ?_ List.nodup_range
  intro a b h z
  have : a ≠ b := h
  omega
structure Bok (n : Nat) (sts : List Pr) : Prop where
  msk : ∀ x, In n x → Msk n (gI (belows (aboves n sts)) x)
  bit : ∀ x y, In n x → In n y → (Y.bit (gI (belows (aboves n sts)) x) y = true ↔ Pth sts y x ∧ y ≠ x)
theorem belows_ok {n : Nat} {sts : List Pr} (hin : InS n sts) : Bok n sts := by
  have a := aboves_ok hin
  have hl : (aboves n sts).length = n := by rw [aboves_len, nat_toNat]
  have key : ∀ x, In n x → gI (belows (aboves n sts)) x = (((rng 0 n).filter fun lo => Y.bit (gI (aboves n sts) lo) x).map fun lo => 1 * 2 ^ lo.toNat).sum := fun x hx => by
    unfold belows
    rw [hl, gI_rng hx]
    unfold below1
    rw [hl]
  have hs := fun x => sum_pow (n := n) ((rng 0 n).filter fun lo => Y.bit (gI (aboves n sts) lo) x) ((rng_nodup 0 n).filter _) fun y hy => by
    have := mem_rng.mp (List.mem_filter.mp hy).1
    omega
  refine ⟨fun x hx => by rw [key x hx]; exact (hs x).1, fun x y hx hy => ?_⟩
  rw [key x hx, (hs x).2 y hy.1, decide_eq_true_eq, List.mem_filter, mem_rng]
  constructor
  · rintro ⟨_, h⟩; exact (a.bit y x hy hx).mp h
  · intro h; exact ⟨by omega, (a.bit y x hy hx).mpr h⟩
/-! ### all pairs of places -/
def allP (n : Nat) : List Pr := (rng 0 n).flatMap fun x => (rng 0 n).map fun y => (x, y)
theorem mem_allP {n : Nat} {p : Pr} : p ∈ allP n ↔ In n p.1 ∧ In n p.2 := by
  unfold allP
  rw [List.mem_flatMap]
  constructor
  · rintro ⟨x, hx, h⟩
    obtain ⟨y, hy, rfl⟩ := List.mem_map.mp h
    have := mem_rng.mp hx
    have := mem_rng.mp hy
    dsimp only; omega
  · rintro ⟨h1, h2⟩
    exact ⟨p.1, mem_rng.mpr (by omega), List.mem_map.mpr ⟨p.2, mem_rng.mpr (by omega), rfl⟩⟩
theorem fm_filter {α β : Type} (xs : List α) (ys : List β) (c : α → β → Bool) : (xs.flatMap fun x => (ys.filter (c x)).map fun y => (x, y)) = (xs.flatMap fun x => ys.map fun y => (x, y)).filter fun p => c p.1 p.2 := by
  induction xs with
  | nil => rfl
  | cons x xs ih =>
    rw [List.flatMap_cons, List.flatMap_cons, List.filter_append, ih]
    congr 1
    rw [List.filter_map]
    rfl
theorem rng_app {lo : Int} {a b : Nat} : rng lo (a + b) = rng lo a ++ rng (lo + a) b := by
  unfold rng
  rw [List.range_add, List.map_append, List.map_map]
  congr 1
  refine List.map_congr_left fun k _ => ?_
  show lo + ((a + k : Nat) : Int) = lo + a + k
  omega
theorem placesIn_eq {n : Nat} {m : Int} (h : Msk n m) : placesIn m = (rng 0 n).filter (bit m) := by
  unfold placesIn
  have hb := h.bits
  have h2 : Msk (Builtin.Int.intBits m) m := by
    obtain ⟨a, rfl, h1⟩ := h.ex
    refine ⟨a, rfl, ?_⟩
    unfold Builtin.Int.intBits
    split
    · rename_i q
      have : a = 0 := by simpa using q
      subst this; decide
    · rename_i q
      have h0 : a ≠ 0 := fun z => by subst z; simp at q
      rw [Int.natAbs_natCast]
      exact Nat.lt_log2_self
  have e : n = Builtin.Int.intBits m + (n - Builtin.Int.intBits m) := by omega
  conv => rhs; rw [e, rng_app, List.filter_append]
  have : (rng (0 + (Builtin.Int.intBits m : Nat)) (n - Builtin.Int.intBits m)).filter (bit m) = [] := by
    rw [List.filter_eq_nil_iff]
    intro x hx
    have := (mem_rng.mp hx).1
    rw [h2.out (by omega)]
    decide
  rw [this, List.append_nil]
theorem stepsIn_eq {n : Nat} {ab : List Int} (h : ∀ x, In n x → Msk n (gI ab x)) : stepsIn n ab = (allP n).filter fun p => bit (gI ab p.1) p.2 := by
  unfold stepsIn allP
  rw [nat_toNat, ← fm_filter (rng 0 n) (rng 0 n) fun x y => bit (gI ab x) y]
  have : ∀ (l : List Int), (∀ x ∈ l, In n x) → (l.flatMap fun lo => (placesIn (gI ab lo)).map fun hi => (lo, hi)) = l.flatMap fun x => ((rng 0 n).filter (bit (gI ab x))).map fun y => (x, y) := fun l => by
    induction l with
    | nil => intro _; rfl
    | cons x l ih =>
      intro hl
      rw [List.flatMap_cons, List.flatMap_cons, ih fun y hy => hl y (List.mem_cons_of_mem _ hy), placesIn_eq (h x (hl x List.mem_cons_self))]
  exact this _ fun x hx => by have := mem_rng.mp hx; omega
end Y
namespace Y
open PySem L2 J PyProof.Rows PySem.W
/-! ### tables -/
theorem cell_mset {n : Nat} {m : List (List Bool)} (h : sq n m) {a b x y : Int} (ha : In n a) (hb : In n b) (hx : In n x) (hy : In n y) : cell (mset m a b) x y = (decide (x = a) && decide (y = b) || cell m x y) := by
  obtain ⟨r, e1, e2, e3⟩ := sq_row h ha.1 ha.2
  have er : m.getD a.toNat [] = r := by rw [List.getD_eq_getElem?_getD, e1]; rfl
  have hal : a.toNat < m.length := (List.getElem?_eq_some_iff.mp e1).1
  unfold mset
  rw [er]
  by_cases hxa : x = a
  · subst hxa
    unfold cell
    have : (m.set x.toNat (r.set y.toNat true)).getD x.toNat [] = r.set y.toNat true := by
      rw [List.getD_eq_getElem?_getD, List.getElem?_set_self hal]; rfl
    have g : (m.set x.toNat (r.set b.toNat true)).getD x.toNat [] = r.set b.toNat true := by
      rw [List.getD_eq_getElem?_getD, List.getElem?_set_self hal]; rfl
    rw [g, er]
    by_cases hyb : y = b
    · subst hyb
      rw [List.getD_eq_getElem?_getD, List.getElem?_set_self (by rw [e2]; omega)]
      simp
    · rw [List.getD_eq_getElem?_getD, List.getElem?_set_ne (by omega), decide_eq_true rfl, decide_eq_false hyb, Bool.and_false, Bool.false_or, List.getD_eq_getElem?_getD]
  · unfold cell
    have g : (m.set a.toNat (r.set b.toNat true)).getD x.toNat [] = m.getD x.toNat [] := by
      rw [List.getD_eq_getElem?_getD, List.getElem?_set_ne (by omega), ← List.getD_eq_getElem?_getD]
    rw [g, decide_eq_false hxa, Bool.false_and, Bool.false_or]
theorem cell_told {n : Nat} : ∀ sts : List Pr, InS n sts → ∀ x y, In n x → In n y → (cell (told n sts) x y = true ↔ (x, y) ∈ sts) := by
  refine snoc_ind ?_ ?_
  · intro _ x y hx hy
    show cell (List.replicate n (List.replicate n false)) x y = true ↔ _
    unfold cell
    have g : (List.replicate n (List.replicate n false)).getD x.toNat [] = List.replicate n false := by
      rw [List.getD_eq_getElem?_getD, List.getElem?_replicate, if_pos (by omega)]; rfl
    rw [g, List.getD_eq_getElem?_getD, List.getElem?_replicate, if_pos (by omega)]
    simp
  · intro pre p ih hin x y hx hy
    have ih := ih (fun q hq => hin q (List.mem_append.mpr (.inl hq))) x y hx hy
    obtain ⟨p1, p2⟩ := hin p (List.mem_append.mpr (.inr List.mem_cons_self))
    have e : told n (pre ++ [p]) = mset (told n pre) p.1 p.2 := by unfold told; rw [List.foldl_append]; rfl
    rw [e, cell_mset (sq_told n pre) p1 p2 hx hy, Bool.or_eq_true, ih, Bool.and_eq_true, decide_eq_true_eq, decide_eq_true_eq, List.mem_append, List.mem_singleton]
    constructor
    · rintro (⟨h1, h2⟩ | h)
      · exact .inr (Prod.ext h1 h2)
      · exact .inl h
    · rintro (h | h)
      · exact .inr h
      · subst h; exact .inl ⟨rfl, rfl⟩
/-- one row takes in another one -/
theorem cell_closeY {n : Nat} {mid z : Int} (hm : In n mid) (hz : In n z) : ∀ (l : List Int) (m : List (List Bool)), (∀ y ∈ l, In n y) → sq n m → cell m z mid = true →
    ∀ x y, In n x → In n y → cell (l.foldl (fun m y => if cell m mid y = true then mset m z y else m) m) x y = (cell m x y || (decide (x = z) && decide (y ∈ l) && cell m mid y))
  | [], m, _, _, _, x, y, _, _ => by simp
  | v :: l, m, hl, hs, hc, x, y, hx, hy => by
    rw [List.foldl_cons]
    have hv := hl v List.mem_cons_self
    have hs' : sq n (if cell m mid v = true then mset m z v else m) := by split; exact sq_set hs _ _; exact hs
    have key : ∀ x y, In n x → In n y → cell (if cell m mid v = true then mset m z v else m) x y = (cell m x y || (decide (x = z) && decide (y = v) && cell m mid v)) := fun x y hx hy => by
      by_cases h : cell m mid v = true
      · rw [if_pos h, cell_mset hs hz hv hx hy, h, Bool.and_true, Bool.or_comm]
      · rw [if_neg h]
        have : cell m mid v = false := by simpa using h
        rw [this, Bool.and_false, Bool.or_false]
    have hc' : cell (if cell m mid v = true then mset m z v else m) z mid = true := by rw [key z mid hz hm, hc, Bool.true_or]
    rw [cell_closeY hm hz l _ (fun y hy => hl y (List.mem_cons_of_mem _ hy)) hs' hc' x y hx hy, key x y hx hy, key mid y hm hy]
    by_cases hyv : y = v
    · subst hyv
      by_cases hxz : x = z
      · subst hxz
        by_cases hmx : mid = x
        · subst hmx
          cases cell m mid y <;> simp
        · cases cell m mid y <;> simp [hmx]
      · simp [hxz]
    · by_cases hxz : x = z
      · subst hxz
        simp [hyv]
      · simp [hxz]
theorem cell_closeX {n : Nat} {mid : Int} (hm : In n mid) : ∀ (l : List Int) (m : List (List Bool)), (∀ y ∈ l, In n y) → sq n m →
    ∀ x y, In n x → In n y → cell (l.foldl (fun m x => if cell m x mid = true then closeY n mid x m else m) m) x y = (cell m x y || (decide (x ∈ l) && cell m x mid && cell m mid y))
  | [], m, _, _, x, y, _, _ => by simp
  | v :: l, m, hl, hs, x, y, hx, hy => by
    rw [List.foldl_cons]
    have hv := hl v List.mem_cons_self
    have hs' : sq n (if cell m v mid = true then closeY n mid v m else m) := by split; exact sq_closeY hs; exact hs
    have key : ∀ x y, In n x → In n y → cell (if cell m v mid = true then closeY n mid v m else m) x y = (cell m x y || (decide (x = v) && cell m v mid && cell m mid y)) := fun x y hx hy => by
      by_cases h : cell m v mid = true
      · rw [if_pos h, h]
        unfold closeY
        rw [cell_closeY hm hv (rng 0 n) m (fun y hy => by have := mem_rng.mp hy; omega) hs h x y hx hy]
        have : y ∈ rng 0 n := mem_rng.mpr (by omega)
        simp [this]
      · rw [if_neg h]
        have : cell m v mid = false := by simpa using h
        rw [this, Bool.and_false, Bool.false_and, Bool.or_false]
    rw [cell_closeX hm l _ (fun y hy => hl y (List.mem_cons_of_mem _ hy)) hs' x y hx hy, key x y hx hy, key x mid hx hm, key mid y hm hy]
    by_cases hxv : x = v
    · subst hxv
      by_cases hmx : mid = x
      · subst hmx
        cases cell m mid mid <;> cases cell m mid y <;> simp
      · cases cell m x mid <;> cases cell m mid y <;> cases cell m x y <;> simp [hmx]
    · by_cases hmv : mid = v
      · subst hmv
        cases cell m x mid <;> cases cell m mid mid <;> cases cell m mid y <;> cases cell m x y <;> simp [hxv]
      · simp [hxv, hmv]
/-- from x to y, what lies between in l -/
inductive Via (sts : List Pr) (l : List Int) : Int → Int → Prop
  | one {x y : Int} : (x, y) ∈ sts → Via sts l x y
  | join {x z y : Int} : Via sts l x z → z ∈ l → Via sts l z y → Via sts l x y
theorem Via.mono {sts : List Pr} {l l' : List Int} (s : ∀ z ∈ l, z ∈ l') {x y : Int} (h : Via sts l x y) : Via sts l' x y := by
  induction h with
  | one m => exact .one m
  | join _ m _ i1 i2 => exact .join i1 (s _ m) i2
theorem via_snoc {sts : List Pr} {l : List Int} {k x y : Int} : Via sts (l ++ [k]) x y ↔ Via sts l x y ∨ (Via sts l x k ∧ Via sts l k y) := by
  constructor
  · intro h
    induction h with
    | one m => exact .inl (.one m)
    | join _ m _ i1 i2 =>
      rcases List.mem_append.mp m with m | m
      · rcases i1 with a | ⟨a, b⟩ <;> rcases i2 with c | ⟨c, d⟩
        · exact .inl (.join a m c)
        · exact .inr ⟨.join a m c, d⟩
        · exact .inr ⟨a, .join b m c⟩
        · exact .inr ⟨a, d⟩
      · have e := List.mem_singleton.mp m
        subst e
        rcases i1 with a | ⟨a, b⟩ <;> rcases i2 with c | ⟨c, d⟩
        · exact .inr ⟨a, c⟩
        · exact .inr ⟨a, d⟩
        · exact .inr ⟨a, c⟩
        · exact .inr ⟨a, d⟩
  · have s : ∀ q ∈ l, q ∈ l ++ [k] := fun q hq => List.mem_append.mpr (.inl hq)
    rintro (h | ⟨h1, h2⟩)
    · exact h.mono s
    · exact .join (h1.mono s) (List.mem_append.mpr (.inr List.mem_cons_self)) (h2.mono s)
theorem cell_closed0 {n : Nat} {sts : List Pr} (hin : InS n sts) : ∀ l : List Int, (∀ z ∈ l, In n z) → sq n (l.foldl (fun m mid => closeX n mid m) (told n sts)) ∧ ∀ x y, In n x → In n y → (cell (l.foldl (fun m mid => closeX n mid m) (told n sts)) x y = true ↔ Via sts l x y) := by
  refine snoc_ind ?_ ?_
  · intro _
    refine ⟨sq_told n sts, fun x y hx hy => ?_⟩
    show cell (told n sts) x y = true ↔ _
    rw [cell_told sts hin x y hx hy]
    constructor
    · exact .one
    · intro h
      cases h with
      | one m => exact m
      | join _ m _ => cases m
  · intro l k ih hl
    obtain ⟨hs, ih⟩ := ih fun z hz => hl z (List.mem_append.mpr (.inl hz))
    have hk := hl k (List.mem_append.mpr (.inr List.mem_cons_self))
    rw [List.foldl_append]
    show sq n (closeX n k _) ∧ ∀ x y, In n x → In n y → (cell (closeX n k _) x y = true ↔ _)
    refine ⟨sq_closeX hs, fun x y hx hy => ?_⟩
    generalize l.foldl (fun m mid => closeX n mid m) (told n sts) = m at hs ih
    show cell ((rng 0 n).foldl (fun m x => if cell m x k = true then closeY n k x m else m) m) x y = true ↔ _
    rw [cell_closeX hk (rng 0 n) _ (fun y hy => by have := mem_rng.mp hy; omega) hs x y hx hy, via_snoc, ← ih x y hx hy, ← ih x k hx hk, ← ih k y hk hy]
    have : x ∈ rng 0 n := mem_rng.mpr (by omega)
    rw [decide_eq_true this, Bool.true_and, Bool.or_eq_true, Bool.and_eq_true]
/-- at least one step from x to y -/
def Psv (sts : List Pr) (x y : Int) : Prop := ∃ z, Pth sts x z ∧ (z, y) ∈ sts
theorem Psv.pth {sts : List Pr} {x y : Int} (h : Psv sts x y) : Pth sts x y := by obtain ⟨z, h1, h2⟩ := h; exact .step h1 h2
theorem Pth.pos {sts : List Pr} {x y : Int} (h : Pth sts x y) : x = y ∨ Psv sts x y := by
  cases h with
  | refl => exact .inl rfl
  | step h m => exact .inr ⟨_, h, m⟩
theorem Psv.trans {sts : List Pr} {x y z : Int} (h : Psv sts x y) (k : Psv sts y z) : Psv sts x z := by
  obtain ⟨w, k1, k2⟩ := k; exact ⟨w, h.pth.trans k1, k2⟩
theorem Psv.trl {sts : List Pr} {x y z : Int} (h : Pth sts x y) (k : Psv sts y z) : Psv sts x z := by
  obtain ⟨w, k1, k2⟩ := k; exact ⟨w, h.trans k1, k2⟩
theorem Psv.trr {sts : List Pr} {x y z : Int} (h : Psv sts x y) (k : Pth sts y z) : Psv sts x z := by
  rcases k.pos with rfl | k
  · exact h
  · exact h.trans k
theorem via_pos {n : Nat} {sts : List Pr} (hin : InS n sts) {x y : Int} : Via sts (rng 0 n) x y ↔ Psv sts x y := by
  constructor
  · intro h
    induction h with
    | one m => exact ⟨_, .refl _, m⟩
    | join _ _ _ i1 i2 => exact i1.trans i2
  · rintro ⟨z, h, m⟩
    induction h generalizing y with
    | refl => exact .one m
    | step h m' ih => exact .join (ih m') (mem_rng.mpr (by have := (hin _ m).1; dsimp only at this; omega)) (.one m)
theorem cell_closed {n : Nat} {sts : List Pr} (hin : InS n sts) {x y : Int} (hx : In n x) (hy : In n y) : cell (closedM n sts) x y = true ↔ Psv sts x y := by
  rw [← via_pos hin]
  exact (cell_closed0 hin (rng 0 n) (fun z hz => by have := mem_rng.mp hz; omega)).2 x y hx hy
end Y
namespace Y
open PySem L2 J PyProof.Rows PySem.W
theorem stepsM_eq (m : List (List Bool)) (n : Nat) : stepsM m n = (allP n).filter fun p => cell m p.1 p.2 := fm_filter _ _ _
theorem pairsM_eq (m : List (List Bool)) (n : Nat) : pairsM m n = (allP n).filter fun p => pcond m p.1 p.2 := fm_filter _ _ _
theorem mem_stepsM {m : List (List Bool)} {n : Nat} {p : Pr} : p ∈ stepsM m n ↔ (In n p.1 ∧ In n p.2) ∧ cell m p.1 p.2 = true := by
  rw [stepsM_eq, List.mem_filter, mem_allP]
theorem mem_openM {m : List (List Bool)} {n : Nat} {p : Pr} : p ∈ openM m n ↔ (In n p.1 ∧ In n p.2) ∧ p.1 ≠ p.2 ∧ cell m p.1 p.2 = false ∧ cell m p.2 p.1 = false := by
  unfold openM
  rw [List.mem_filter, pairsM_eq, List.mem_filter, mem_allP]
  unfold pcond
  simp only [Bool.and_eq_true, Bool.not_eq_true', decide_eq_false_iff_not, ne_eq]
  constructor
  · rintro ⟨⟨h1, h2, h3⟩, h4⟩; exact ⟨h1, h2, h3, h4⟩
  · rintro ⟨h1, h2, h3, h4⟩; exact ⟨⟨h1, h2, h3⟩, h4⟩
theorem stepsM_S (m : List (List Bool)) (n : Nat) : InS n (stepsM m n) := fun p hp => (mem_stepsM.mp hp).1
/-- a table of an order -/
structure Tab (n : Nat) (m : List (List Bool)) : Prop where
  n1 : 1 ≤ n
  n16 : n ≤ 16
  sq : sq n m
  irr : ∀ x, In n x → cell m x x = false
  tr : ∀ x y z, In n x → In n y → In n z → cell m x y = true → cell m y z = true → cell m x z = true
def Acy (sts : List Pr) : Prop := ∀ x, ¬ Psv sts x x
theorem Psv.inl {n : Nat} {sts : List Pr} (hin : InS n sts) {x y : Int} (h : Psv sts x y) : In n x ∧ In n y := by
  obtain ⟨z, h1, h2⟩ := h
  refine ⟨?_, (hin _ h2).2⟩
  have : In n z := (hin _ h2).1
  clear h2
  induction h1 with
  | refl => exact this
  | step _ m ih => exact ih (hin _ m).1
theorem closed_tab {n : Nat} {sts : List Pr} (h1 : 1 ≤ n) (h16 : n ≤ 16) (hin : InS n sts) (ac : Acy sts) : Tab n (closedM n sts) where
  n1 := h1
  n16 := h16
  sq := sq_closedM n sts
  irr := fun x hx => by
    cases h : cell (closedM n sts) x x
    · rfl
    · exact (ac x ((cell_closed hin hx hx).mp h)).elim
  tr := fun x y z hx hy hz h k => (cell_closed hin hx hz).mpr (((cell_closed hin hx hy).mp h).trans ((cell_closed hin hy hz).mp k))
theorem pos_tab {n : Nat} {m : List (List Bool)} (t : Tab n m) {x y : Int} : Psv (stepsM m n) x y ↔ (In n x ∧ In n y) ∧ cell m x y = true := by
  constructor
  · rintro ⟨z, h, k⟩
    have hk := mem_stepsM.mp k
    induction h generalizing y with
    | refl => exact hk
    | step _ mm ih =>
      have := ih mm (mem_stepsM.mp mm)
      exact ⟨⟨this.1.1, hk.1.2⟩, t.tr _ _ _ this.1.1 this.1.2 hk.1.2 this.2 hk.2⟩
  · intro h
    exact ⟨x, .refl x, mem_stepsM.mpr h⟩
theorem acy_tab {n : Nat} {m : List (List Bool)} (t : Tab n m) : Acy (stepsM m n) := fun x h => by
  obtain ⟨⟨h1, _⟩, h2⟩ := (pos_tab t).mp h
  rw [t.irr x h1] at h2; cases h2
/-- x is under y -/
def und (m : List (List Bool)) (x y : Int) : Bool := decide (x = y) || cell m x y
theorem pth_tab {n : Nat} {m : List (List Bool)} (t : Tab n m) {x y : Int} (hx : In n x) (hy : In n y) : Pth (stepsM m n) x y ↔ und m x y = true := by
  unfold und
  rw [Bool.or_eq_true, decide_eq_true_eq]
  constructor
  · intro h
    rcases h.pos with h | h
    · exact .inl h
    · exact .inr ((pos_tab t).mp h).2
  · rintro (h | h)
    · subst h; exact .refl _
    · exact ((pos_tab t).mpr ⟨⟨hx, hy⟩, h⟩).pth
theorem okS_of {n : Nat} {p : Pr} (h : In n p.1 ∧ In n p.2) (hne : p.1 ≠ p.2) : okS (n : Int) p := ⟨inR_iff.mpr h.1, inR_iff.mpr h.2, hne⟩
theorem pre_of {n : Nat} {sts : List Pr} (h1 : 1 ≤ n) (h16 : n ≤ 16) (hin : InS n sts) (hz : sts.length ≤ 1000) (ac : Acy sts) : preO (n : Int) sts := by
  have hne : ∀ p ∈ sts, p.1 ≠ p.2 := fun p hp e => ac p.1 ⟨p.1, .refl _, by rw [show (p.1, p.1) = p from Prod.ext rfl e]; exact hp⟩
  refine ⟨⟨by omega, by omega⟩, fun p hp => okS_of (hin p hp) (hne p hp), hz, fun pre p post e => ?_⟩
  have hpm : p ∈ sts := by rw [e]; simp
  have hpre : InS n pre := fun q hq => hin q (by rw [e]; exact List.mem_append.mpr (.inl hq))
  obtain ⟨p1, p2⟩ := hin p hpm
  cases h : bit (gI (unders n pre) p.2) p.1
  · rfl
  · have := ((unders_ok n pre hpre).bit p.2 p.1 p2 p1).mp h
    have := this.mono (sts' := sts) fun q hq => by rw [e]; exact List.mem_append.mpr (.inl hq)
    exact (ac p.2 ⟨p.1, this, hpm⟩).elim
theorem list_gI {n : Nat} {l l' : List Int} (h : l.length = n) (h' : l'.length = n) (e : ∀ x, In n x → gI l x = gI l' x) : l = l' := by
  refine List.ext_getElem? fun i => ?_
  by_cases hi : i < n
  · have := e (i : Int) ⟨by omega, by omega⟩
    have e1 := gI_at (l := l) (i := (i : Int)) (by omega) (by omega)
    have e2 := gI_at (l := l') (i := (i : Int)) (by omega) (by omega)
    rw [nat_toNat] at e1 e2
    rw [e1, e2, this]
  · rw [List.getElem?_eq_none_iff.mpr (by omega), List.getElem?_eq_none_iff.mpr (by omega)]
theorem aboves_same {n : Nat} {sts sts' : List Pr} (h : InS n sts) (h' : InS n sts') (e : ∀ x y, Pth sts x y ↔ Pth sts' x y) : aboves n sts = aboves n sts' := by
  refine list_gI (n := n) (by rw [aboves_len, nat_toNat]) (by rw [aboves_len, nat_toNat]) fun x hx => ?_
  have a := aboves_ok h
  have a' := aboves_ok h'
  refine (a.msk x hx).ext (a'.msk x hx) fun y y0 y1 => ?_
  have e1 := a.bit x y hx ⟨y0, y1⟩
  have e2 := a'.bit x y hx ⟨y0, y1⟩
  rw [Bool.eq_iff_iff, e1, e2, e x y]
theorem mkO_same {n : Nat} {sts sts' : List Pr} (h : InS n sts) (h' : InS n sts') (e : ∀ x y, Pth sts x y ↔ Pth sts' x y) : mkO n sts = mkO n sts' := by
  unfold mkO
  rw [aboves_same h h' e]
def ordM (n : Nat) (m : List (List Bool)) : O := mkO n (stepsM m n)
theorem pth_of_pos {sts sts' : List Pr} (e : ∀ x y, Psv sts x y ↔ Psv sts' x y) (x y : Int) : Pth sts x y ↔ Pth sts' x y := by
  constructor
  · intro h
    rcases h.pos with rfl | h
    · exact .refl _
    · exact ((e x y).mp h).pth
  · intro h
    rcases h.pos with rfl | h
    · exact .refl _
    · exact ((e x y).mpr h).pth
theorem ordM_closed {n : Nat} {sts : List Pr} (h1 : 1 ≤ n) (h16 : n ≤ 16) (hin : InS n sts) (ac : Acy sts) : ordM n (closedM n sts) = mkO n sts := by
  have t := closed_tab h1 h16 hin ac
  refine mkO_same (stepsM_S _ _) hin (pth_of_pos fun x y => ?_)
  rw [pos_tab t]
  constructor
  · rintro ⟨⟨hx, hy⟩, h⟩; exact (cell_closed hin hx hy).mp h
  · intro h
    obtain ⟨hx, hy⟩ := h.inl hin
    exact ⟨⟨hx, hy⟩, (cell_closed hin hx hy).mpr h⟩
structure Obs (n : Nat) (m : List (List Bool)) (o : O) : Prop where
  num : o.n = (n : Int)
  abl : o.ab.length = n
  bel : o.be.length = n
  abm : ∀ x, In n x → Msk n (gI o.ab x)
  bem : ∀ x, In n x → Msk n (gI o.be x)
  ab : ∀ x y, In n x → In n y → bit (gI o.ab x) y = cell m x y
  be : ∀ x y, In n x → In n y → bit (gI o.be x) y = cell m y x
  st : o.st = stepsM m n
theorem filter_cong {α : Type} {l : List α} {c d : α → Bool} (h : ∀ x ∈ l, c x = d x) : l.filter c = l.filter d := List.filter_congr h
theorem ordM_obs {n : Nat} {m : List (List Bool)} (t : Tab n m) : Obs n m (ordM n m) := by
  have hS := stepsM_S m n
  have a := aboves_ok hS
  have b := belows_ok hS
  have hl : (aboves n (stepsM m n)).length = n := by rw [aboves_len, nat_toNat]
  have ab : ∀ x y, In n x → In n y → bit (gI (aboves n (stepsM m n)) x) y = cell m x y := fun x y hx hy => by
    rw [Bool.eq_iff_iff, a.bit x y hx hy, pth_tab t hx hy]
    unfold und
    rw [Bool.or_eq_true, decide_eq_true_eq]
    constructor
    · rintro ⟨h | h, k⟩
      · exact (k h).elim
      · exact h
    · intro h
      refine ⟨.inr h, fun e => ?_⟩
      subst e
      rw [t.irr x hx] at h; cases h
  refine ⟨rfl, hl, by show (belows _).length = n; unfold belows; rw [List.length_map, rng_len, hl], a.msk, b.msk, ab, fun x y hx hy => ?_, ?_⟩
  · show bit (gI (belows (aboves n (stepsM m n))) x) y = _
    rw [Bool.eq_iff_iff, b.bit x y hx hy, pth_tab t hy hx]
    unfold und
    rw [Bool.or_eq_true, decide_eq_true_eq]
    constructor
    · rintro ⟨h | h, k⟩
      · exact (k h).elim
      · exact h
    · intro h
      refine ⟨.inr h, fun e => ?_⟩
      subst e
      rw [t.irr y hy] at h; cases h
  · show stepsIn n (aboves n (stepsM m n)) = _
    rw [stepsIn_eq a.msk]
    refine Eq.trans ?_ (stepsM_eq m n).symm
    exact filter_cong fun p hp => by
      obtain ⟨h1, h2⟩ := mem_allP.mp hp
      exact ab p.1 p.2 h1 h2
theorem Obs.ok {n : Nat} {m : List (List Bool)} {o : O} (b : Obs n m o) (t : Tab n m) : o.Ok where
  n0 := by rw [b.num]; have := t.n1; omega
  n1 := by rw [b.num]; have := t.n16; omega
  ab := by rw [b.abl, b.num]
  be := by rw [b.bel, b.num]
  st := fun p hp => by
    rw [b.st] at hp
    have hp := mem_stepsM.mp hp
    rw [b.num]
    refine okS_of hp.1 fun e => ?_
    have := t.irr p.1 hp.1.1
    rw [← e] at hp
    rw [this] at hp; cases hp.2
  len := by rw [b.st]; exact stepsM_len t.n16
theorem isOpen_tab {n : Nat} {m : List (List Bool)} {o : O} (b : Obs n m o) {x y : Int} (hx : In n x) (hy : In n y) : isOpen o x y = (!decide (x = y) && !(cell m x y || cell m y x)) := by
  unfold isOpen
  rw [(b.abm x hx).bit_or (b.bem x hx) hy.1, b.ab x y hx hy, b.be x y hx hy]
theorem le_or {n : Nat} {a b : Int} (ha : Msk n a) (hb : Msk n b) : decide (Builtin.bitOr a b = b) = true ↔ ∀ z : Int, In n z → bit a z = true → bit b z = true := by
  rw [decide_eq_true_eq]
  constructor
  · intro e z hz h
    rw [← e, ha.bit_or hb hz.1, h, Bool.true_or]
  · intro h
    refine (ha.or hb).ext hb fun z z0 z1 => ?_
    rw [ha.bit_or hb z0]
    have := h z ⟨z0, z1⟩
    cases q : bit a z
    · rw [Bool.false_or]
    · rw [this q]; rfl
theorem keeps_tab {n : Nat} {m : List (List Bool)} {o : O} (b : Obs n m o) {x y : Int} (hx : In n x) (hy : In n y) : keepsB o x y = true ↔ (∀ z, In n z → cell m z x = true → cell m z y = true) ∧ ∀ z, In n z → cell m y z = true → cell m x z = true := by
  unfold keepsB
  rw [Bool.and_eq_true, le_or (b.bem x hx) (b.bem y hy), le_or (b.abm y hy) (b.abm x hx)]
  constructor
  · rintro ⟨h1, h2⟩
    refine ⟨fun z hz h => ?_, fun z hz h => ?_⟩
    · have := h1 z hz (by rw [b.be x z hx hz]; exact h)
      rwa [b.be y z hy hz] at this
    · have := h2 z hz (by rw [b.ab y z hy hz]; exact h)
      rwa [b.ab x z hx hz] at this
  · rintro ⟨h1, h2⟩
    refine ⟨fun z hz h => ?_, fun z hz h => ?_⟩
    · rw [b.be x z hx hz] at h
      rw [b.be y z hy hz]; exact h1 z hz h
    · rw [b.ab y z hy hz] at h
      rw [b.ab x z hx hz]; exact h2 z hz h
end Y
namespace Y
open PySem L2 J PyProof.Rows PySem.W
theorem filter_split {α : Type} (f g : α → Bool) : ∀ (l : List α), (∀ x ∈ l, f x = true → g x = true) → (l.filter g).length = (l.filter f).length + (l.filter fun x => g x && !f x).length
  | [], _ => rfl
  | x :: l, h => by
    have ih := filter_split f g l fun y hy => h y (List.mem_cons_of_mem _ hy)
    have hx := h x List.mem_cons_self
    rw [List.filter_cons, List.filter_cons, List.filter_cons]
    cases hf : f x <;> cases hg : g x
    · simp; exact ih
    · simp; omega
    · rw [hf, hg] at hx; exact absurd (hx rfl) (by decide)
    · simp; omega
theorem filter_one {α : Type} (c : α → Bool) (p : α) (hp : c p = true) : ∀ (l : List α), l.Nodup → p ∈ l → ((l.filter c).length = 1 ↔ ∀ q ∈ l, c q = true → q = p)
  | [], _, h => by cases h
  | x :: l, nd, h => by
    obtain ⟨nx, nd⟩ := List.nodup_cons.mp nd
    rw [List.filter_cons]
    rcases List.mem_cons.mp h with e | h
    · subst e
      rw [if_pos hp, List.length_cons]
      constructor
      · intro e q hq hc
        rcases List.mem_cons.mp hq with e' | hq
        · exact e'
        · have : q ∈ l.filter c := List.mem_filter.mpr ⟨hq, hc⟩
          have e0 : l.filter c = [] := List.length_eq_zero_iff.mp (by omega)
          rw [e0] at this; cases this
      · intro k
        have : l.filter c = [] := by
          rw [List.filter_eq_nil_iff]
          intro q hq hc
          have := k q (List.mem_cons_of_mem _ hq) hc
          subst this
          exact nx hq
        rw [this]; rfl
    · have hxp : x ≠ p := fun e => nx (by rw [e]; exact h)
      cases hc : c x
      · rw [if_neg (by decide), filter_one c p hp l nd h]
        constructor
        · intro k q hq hcq
          rcases List.mem_cons.mp hq with e | hq
          · subst e; rw [hc] at hcq; cases hcq
          · exact k q hq hcq
        · exact fun k q hq hcq => k q (List.mem_cons_of_mem _ hq) hcq
      · rw [if_pos rfl, List.length_cons]
        constructor
        · intro e
          have : p ∈ l.filter c := List.mem_filter.mpr ⟨h, hp⟩
          have e0 : l.filter c = [] := List.length_eq_zero_iff.mp (by omega)
          rw [e0] at this; cases this
        · intro k
          exact (hxp (k x List.mem_cons_self hc)).elim
theorem allP_nodup (n : Nat) : (allP n).Nodup := by
  unfold allP
  have : ∀ (l m : List Int), l.Nodup → m.Nodup → (l.flatMap fun x => m.map fun y => (x, y)).Nodup := fun l m hl hm => by
    induction l with
    | nil => exact List.nodup_nil
    | cons x l ih =>
      obtain ⟨nx, nd⟩ := List.nodup_cons.mp hl
      rw [List.flatMap_cons, List.nodup_append]
      refine ⟨?_, ih nd, ?_⟩
      · rw [List.nodup_iff_pairwise_ne, List.pairwise_map]
        refine List.Pairwise.imp ?_ hm
        intro a b h z
        have : a ≠ b := h
        exact this (Prod.mk.inj z).2
      · intro a ha b hb e
        subst e
        obtain ⟨y, _, rfl⟩ := List.mem_map.mp ha
        obtain ⟨x', hx', h⟩ := List.mem_flatMap.mp hb
        obtain ⟨y', _, h⟩ := List.mem_map.mp h
        have := (Prod.mk.inj h).1
        subst this
        exact nx hx'
  exact this _ _ (rng_nodup 0 n) (rng_nodup 0 n)
/-! ### one tie -/
theorem grown_S {n : Nat} {m : List (List Bool)} {p : Pr} (hp : p ∈ openM m n) : InS n (stepsM m n ++ [p]) := fun q hq => by
  rcases List.mem_append.mp hq with h | h
  · exact stepsM_S m n q h
  · rw [List.mem_singleton.mp h]; exact (mem_openM.mp hp).1
theorem pos_snoc {sts : List Pr} {p : Pr} {x y : Int} : Psv (sts ++ [p]) x y ↔ Psv sts x y ∨ (Pth sts x p.1 ∧ Pth sts p.2 y) := by
  constructor
  · rintro ⟨z, h, m⟩
    rcases List.mem_append.mp m with m | m
    · rcases pth_snoc.mp h with h | ⟨h1, h2⟩
      · exact .inl ⟨z, h, m⟩
      · exact .inr ⟨h1, .step h2 m⟩
    · have e := List.mem_singleton.mp m
      subst e
      rcases pth_snoc.mp h with h | ⟨h1, h2⟩
      · exact .inr ⟨h, .refl _⟩
      · exact .inr ⟨h1, .refl _⟩
  · rintro (⟨z, h, m⟩ | ⟨h1, h2⟩)
    · exact ⟨z, pth_snoc.mpr (.inl h), List.mem_append.mpr (.inl m)⟩
    · have a : Psv (sts ++ [p]) x p.2 := ⟨p.1, pth_snoc.mpr (.inl h1), List.mem_append.mpr (.inr List.mem_cons_self)⟩
      exact a.trr (pth_snoc.mpr (.inl h2))
theorem acy_snoc {n : Nat} {m : List (List Bool)} (t : Tab n m) {p : Pr} (hp : p ∈ openM m n) : Acy (stepsM m n ++ [p]) := fun x h => by
  obtain ⟨⟨p1, p2⟩, ne, c1, c2⟩ := mem_openM.mp hp
  rcases pos_snoc.mp h with h | ⟨h1, h2⟩
  · exact acy_tab t x h
  · have := h2.trans h1
    rcases this.pos with e | k
    · exact ne e.symm
    · have := ((pos_tab t).mp k).2
      rw [c2] at this; cases this
theorem grown_tab {n : Nat} {m : List (List Bool)} (t : Tab n m) {p : Pr} (hp : p ∈ openM m n) : Tab n (grownM m n p) := closed_tab t.n1 t.n16 (grown_S hp) (acy_snoc t hp)
theorem grown_cell {n : Nat} {m : List (List Bool)} (t : Tab n m) {p : Pr} (hp : p ∈ openM m n) {x y : Int} (hx : In n x) (hy : In n y) : cell (grownM m n p) x y = (cell m x y || (und m x p.1 && und m p.2 y)) := by
  obtain ⟨⟨p1, p2⟩, ne, c1, c2⟩ := mem_openM.mp hp
  rw [Bool.eq_iff_iff]
  unfold grownM
  rw [cell_closed (grown_S hp) hx hy, pos_snoc, pos_tab t, pth_tab t hx p1, pth_tab t p2 hy, Bool.or_eq_true, Bool.and_eq_true]
  exact ⟨fun h => h.elim (fun h => .inl h.2) .inr, fun h => h.elim (fun h => .inl ⟨⟨hx, hy⟩, h⟩) .inr⟩
theorem len1000 {n : Nat} {m : List (List Bool)} (t : Tab n m) (p : Pr) : (stepsM m n ++ [p]).length ≤ 1000 := by
  have := stepsM_len (m := m) t.n16
  rw [List.length_append, List.length_singleton]; omega
theorem pre_grown {n : Nat} {m : List (List Bool)} (t : Tab n m) {p : Pr} (hp : p ∈ openM m n) : preO (n : Int) (stepsM m n ++ [p]) := pre_of t.n1 t.n16 (grown_S hp) (len1000 t p) (acy_snoc t hp)
theorem ties_of {n : Nat} {m : List (List Bool)} {o : O} (t : Tab n m) (b : Obs n m o) {p : Pr} (hp : p ∈ openM m n) : Ties o p := by
  obtain ⟨⟨p1, p2⟩, ne, c1, c2⟩ := mem_openM.mp hp
  refine ⟨b.ok t, by rw [b.num]; exact okS_of ⟨p1, p2⟩ ne, ?_, by rw [b.num, b.st]; exact pre_grown t hp⟩
  rw [isOpen_tab b p1 p2, c1, c2, decide_eq_false ne]; rfl
theorem tie1_tab {n : Nat} {m : List (List Bool)} (t : Tab n m) {p : Pr} (hp : p ∈ openM m n) : tie1 (ordM n m) p = ordM n (grownM m n p) := by
  unfold tie1
  have b := ordM_obs t
  rw [b.num, b.st]
  exact (ordM_closed t.n1 t.n16 (grown_S hp) (acy_snoc t hp)).symm
/-! ### single ties, told twice -/
theorem scond_iff {n : Nat} {m : List (List Bool)} {o : O} (t : Tab n m) (b : Obs n m o) {p : Pr} (hp : p ∈ openM m n) : scond m n p = keepsB o p.1 p.2 := by
  have hp' := mem_openM.mp hp
  obtain ⟨⟨p1, p2⟩, ne, c1, c2⟩ := hp'
  rw [Bool.eq_iff_iff, keeps_tab b p1 p2]
  unfold scond
  rw [decide_eq_true_eq, List.length_map, List.length_map]
  have hs : (stepsM (grownM m n p) n).length = (stepsM m n).length + ((allP n).filter fun q => cell (grownM m n p) q.1 q.2 && !cell m q.1 q.2).length := by
    rw [stepsM_eq, stepsM_eq]
    refine filter_split _ _ _ fun q hq h => ?_
    obtain ⟨q1, q2⟩ := mem_allP.mp hq
    rw [grown_cell t hp q1 q2, h, Bool.true_or]
  have hcp : (cell (grownM m n p) p.1 p.2 && !cell m p.1 p.2) = true := by
    rw [grown_cell t hp p1 p2, c1]; unfold und; simp
  have h1 := filter_one (fun q : Pr => cell (grownM m n p) q.1 q.2 && !cell m q.1 q.2) p hcp (allP n) (allP_nodup n) (mem_allP.mpr ⟨p1, p2⟩)
  have hnat : (((stepsM (grownM m n p) n).length : Int) = ((stepsM m n).length : Int) + 1) ↔ ((allP n).filter fun q => cell (grownM m n p) q.1 q.2 && !cell m q.1 q.2).length = 1 := by omega
  rw [hnat, h1]
  constructor
  · intro k
    refine ⟨fun z hz h => ?_, fun z hz h => ?_⟩
    · cases q : cell m z p.2
      · have e := k (z, p.2) (mem_allP.mpr ⟨hz, p2⟩) (by
          rw [grown_cell t hp hz p2, q]; unfold und; rw [h]; simp)
        have e : z = p.1 := (congrArg Prod.fst e)
        subst e
        rw [t.irr _ hz] at h; cases h
      · rfl
    · cases q : cell m p.1 z
      · have e := k (p.1, z) (mem_allP.mpr ⟨p1, hz⟩) (by
          rw [grown_cell t hp p1 hz, q]; unfold und; rw [h]; simp)
        have e : z = p.2 := (congrArg Prod.snd e)
        subst e
        rw [t.irr _ hz] at h; cases h
      · rfl
  · rintro ⟨k1, k2⟩ q hq h
    obtain ⟨q1, q2⟩ := mem_allP.mp hq
    rw [grown_cell t hp q1 q2, Bool.and_eq_true, Bool.or_eq_true, Bool.and_eq_true] at h
    obtain ⟨h, hn⟩ := h
    have hn : cell m q.1 q.2 = false := by simpa using hn
    rw [hn] at h
    rcases h with h | ⟨u1, u2⟩
    · cases h
    · unfold und at u1 u2
      rw [Bool.or_eq_true, decide_eq_true_eq] at u1 u2
      rcases u1 with e1 | u1 <;> rcases u2 with e2 | u2
      · exact Prod.ext e1 e2.symm
      · have := k2 q.2 q2 u2
        rw [← e1, hn] at this; cases this
      · have := k1 q.1 q1 u1
        rw [e2, hn] at this; cases this
      · have := t.tr _ _ _ q1 p2 q2 (k1 q.1 q1 u1) u2
        rw [hn] at this; cases this
theorem singles_tab {n : Nat} {m : List (List Bool)} {o : O} (t : Tab n m) (b : Obs n m o) : singles o = singleM m n := by
  unfold singles singleM openM
  rw [b.num, nat_toNat, fm_filter (rng 0 n) (rng 0 n) (isSingle o), pairsM_eq, List.filter_filter, List.filter_filter]
  show (allP n).filter _ = _
  refine filter_cong fun p hp => ?_
  obtain ⟨p1, p2⟩ := mem_allP.mp hp
  unfold isSingle
  rw [isOpen_tab b p1 p2]
  by_cases ho : p ∈ openM m n
  · have ho' := mem_openM.mp ho
    rw [scond_iff t b ho]
    unfold pcond
    rw [ho'.2.2.1, ho'.2.2.2, decide_eq_false ho'.2.1]
    simp
  · have : (!decide (p.1 = p.2) && !(cell m p.1 p.2 || cell m p.2 p.1)) = false := by
      cases q : (!decide (p.1 = p.2) && !(cell m p.1 p.2 || cell m p.2 p.1))
      · rfl
      · exfalso
        simp only [Bool.and_eq_true, Bool.not_eq_true', decide_eq_false_iff_not, Bool.or_eq_false_iff] at q
        exact ho (mem_openM.mpr ⟨⟨p1, p2⟩, q.1, q.2.1, q.2.2⟩)
    rw [this, Bool.false_and]
    unfold pcond
    revert this
    cases decide (p.1 = p.2) <;> cases cell m p.1 p.2 <;> cases cell m p.2 p.1 <;> cases scond m n p <;> simp
/-! ### holds, == -/
/-- all steps of a are steps of b -/
def Sub (n : Nat) (a b : List (List Bool)) : Prop := ∀ x y, In n x → In n y → cell a x y = true → cell b x y = true
theorem or_eq_l {n : Nat} {a b : Int} (ha : Msk n a) (hb : Msk n b) : decide (Builtin.bitOr a b = a) = true ↔ ∀ z : Int, In n z → bit b z = true → bit a z = true := by
  rw [← le_or hb ha, decide_eq_true_eq, decide_eq_true_eq]
  have : Builtin.bitOr a b = Builtin.bitOr b a := (ha.or hb).ext (hb.or ha) fun z z0 z1 => by rw [ha.bit_or hb z0, hb.bit_or ha z0, Bool.or_comm]
  rw [this]
theorem holdsB_iff {n : Nat} {m m' : List (List Bool)} {o o' : O} (b : Obs n m o) (b' : Obs n m' o') : holdsB o o' = true ↔ Sub n m' m := by
  unfold holdsB
  rw [List.all_map, List.all_eq_true]
  constructor
  · intro h x y hx hy hc
    have e1 := gI_at (l := o.ab) hx.1 (by rw [b.abl]; exact hx.2)
    have e2 := gI_at (l := o'.ab) hx.1 (by rw [b'.abl]; exact hx.2)
    have hm : (gI o.ab x, gI o'.ab x) ∈ o.ab.zip o'.ab := by
      refine List.mem_of_getElem? (i := x.toNat) ?_
      rw [List.getElem?_zip_eq_some]
      exact ⟨e1, e2⟩
    have := (or_eq_l (b.abm x hx) (b'.abm x hx)).mp (h _ hm) y hy (by rw [b'.ab x y hx hy]; exact hc)
    rwa [b.ab x y hx hy] at this
  · intro h t ht
    obtain ⟨i, hi⟩ := List.getElem?_of_mem ht
    rw [List.getElem?_zip_eq_some] at hi
    have hin : i < n := by have := (List.getElem?_eq_some_iff.mp hi.1).1; rw [b.abl] at this; exact this
    have hx : In n (i : Int) := ⟨by omega, by omega⟩
    have e1 := gI_at (l := o.ab) hx.1 (by rw [b.abl]; exact hx.2)
    have e2 := gI_at (l := o'.ab) hx.1 (by rw [b'.abl]; exact hx.2)
    rw [nat_toNat, hi.1] at e1
    rw [nat_toNat, hi.2] at e2
    show keepsM t = true
    unfold keepsM
    rw [Option.some.inj e1, Option.some.inj e2]
    refine (or_eq_l (b.abm _ hx) (b'.abm _ hx)).mpr fun z hz k => ?_
    rw [b'.ab _ z hx hz] at k
    rw [b.ab _ z hx hz]; exact h _ z hx hz k
theorem tab_ext {n : Nat} {m m' : List (List Bool)} (h : sq n m) (h' : sq n m') (e : ∀ x y, In n x → In n y → cell m x y = cell m' x y) : m = m' := by
  refine List.ext_getElem? fun i => ?_
  by_cases hi : i < n
  · obtain ⟨r, e1, e2, e3⟩ := sq_row h (x := (i : Int)) (by omega) (by omega)
    obtain ⟨r', f1, f2, f3⟩ := sq_row h' (x := (i : Int)) (by omega) (by omega)
    rw [nat_toNat] at e1 f1
    rw [e1, f1]
    congr 1
    refine List.ext_getElem? fun j => ?_
    by_cases hj : j < n
    · have := e (i : Int) (j : Int) ⟨by omega, by omega⟩ ⟨by omega, by omega⟩
      rw [e3, f3, nat_toNat] at this
      have a1 : r[j]? = some (r.getD j false) := by rw [List.getD_eq_getElem?_getD, List.getElem?_eq_getElem (by omega)]; rfl
      have a2 : r'[j]? = some (r'.getD j false) := by rw [List.getD_eq_getElem?_getD, List.getElem?_eq_getElem (by omega)]; rfl
      rw [a1, a2, this]
    · rw [List.getElem?_eq_none_iff.mpr (by omega), List.getElem?_eq_none_iff.mpr (by omega)]
  · rw [List.getElem?_eq_none_iff.mpr (by have := h.1; omega), List.getElem?_eq_none_iff.mpr (by have := h'.1; omega)]
theorem steps_inj {n : Nat} {m m' : List (List Bool)} (t : Tab n m) (t' : Tab n m') (e : stepsM m n = stepsM m' n) : m = m' :=
  tab_ext t.sq t'.sq fun x y hx hy => by
    have a := mem_stepsM (m := m) (n := n) (p := (x, y))
    have b := mem_stepsM (m := m') (n := n) (p := (x, y))
    rw [← e] at b
    rw [Bool.eq_iff_iff]
    constructor
    · intro h; exact (b.mp (a.mpr ⟨⟨hx, hy⟩, h⟩)).2
    · intro h; exact (a.mp (b.mpr ⟨⟨hx, hy⟩, h⟩)).2
theorem eqO_iff {n : Nat} {m m' : List (List Bool)} {o o' : O} (t : Tab n m) (t' : Tab n m') (b : Obs n m o) (b' : Obs n m' o') : eqO o o' = true ↔ m = m' := by
  unfold eqO
  rw [b.num, b'.num, b.st, b'.st, Bool.and_eq_true, decide_eq_true_eq, decide_eq_true_eq]
  constructor
  · rintro ⟨_, h⟩; exact steps_inj t t' h
  · rintro rfl; exact ⟨rfl, rfl⟩
end Y
namespace Y
open PySem L2 J PyProof.Rows PySem.W
theorem filter_lt {α : Type} {f g : α → Bool} {l : List α} (h : ∀ x ∈ l, f x = true → g x = true) {z : α} (hz : z ∈ l) (h1 : g z = true) (h2 : f z = false) : (l.filter f).length < (l.filter g).length := by
  rw [filter_split f g l h]
  have : z ∈ l.filter fun x => g x && !f x := List.mem_filter.mpr ⟨hz, by rw [h1, h2]; rfl⟩
  have := List.length_pos_of_mem this
  omega
def mu (n : Nat) (g : List (List Bool)) (p : Pr) : Nat := ((rng 0 n).filter fun z => cell g z p.1).length + ((rng 0 n).filter fun z => cell g p.2 z).length
theorem in_rng {n : Nat} {x : Int} : x ∈ rng 0 n ↔ In n x := by rw [mem_rng]; omega
theorem ex_single {n : Nat} {m g : List (List Bool)} (t : Tab n m) (tg : Tab n g) (s : Sub n m g) : ∀ (k : Nat) (p : Pr), In n p.1 → In n p.2 → cell g p.1 p.2 = true → cell m p.1 p.2 = false → mu n g p < k → ∃ q, q ∈ singleM m n ∧ q ∈ stepsM g n
  | 0, _, _, _, _, _, h => absurd h (by omega)
  | k + 1, p, p1, p2, cg, cm, h => by
    have ne : p.1 ≠ p.2 := fun e => by rw [e, tg.irr _ p2] at cg; cases cg
    have hr : cell m p.2 p.1 = false := by
      cases q : cell m p.2 p.1
      · rfl
      · have := tg.tr _ _ _ p1 p2 p1 cg (s _ _ p2 p1 q)
        rw [tg.irr _ p1] at this; cases this
    have hp : p ∈ openM m n := mem_openM.mpr ⟨⟨p1, p2⟩, ne, cm, hr⟩
    have b := ordM_obs t
    by_cases h1 : ∀ z, In n z → cell m z p.1 = true → cell m z p.2 = true
    · by_cases h2 : ∀ z, In n z → cell m p.2 z = true → cell m p.1 z = true
      · refine ⟨p, ?_, mem_stepsM.mpr ⟨⟨p1, p2⟩, cg⟩⟩
        unfold singleM
        rw [List.mem_filter]
        exact ⟨hp, by rw [scond_iff t b hp]; exact (keeps_tab b p1 p2).mpr ⟨h1, h2⟩⟩
      · have : ∃ z, In n z ∧ cell m p.2 z = true ∧ cell m p.1 z = false := by
          apply Classical.byContradiction
          intro q
          refine h2 fun z hz hc => ?_
          cases hq : cell m p.1 z
          · exact (q ⟨z, hz, hc, hq⟩).elim
          · rfl
        obtain ⟨z, hz, c1, c2⟩ := this
        have c1g := s _ _ p2 hz c1
        refine ex_single t tg s k (p.1, z) p1 hz (tg.tr _ _ _ p1 p2 hz cg c1g) c2 ?_
        have hlt : ((rng 0 n).filter fun w => cell g z w).length < ((rng 0 n).filter fun w => cell g p.2 w).length := filter_lt (z := z) (fun w hw hc => tg.tr _ _ _ p2 hz (in_rng.mp hw) c1g hc) (in_rng.mpr hz) c1g (tg.irr _ hz)
        unfold mu at h ⊢
        dsimp only
        omega
    · have : ∃ z, In n z ∧ cell m z p.1 = true ∧ cell m z p.2 = false := by
        apply Classical.byContradiction
        intro q
        refine h1 fun z hz hc => ?_
        cases hq : cell m z p.2
        · exact (q ⟨z, hz, hc, hq⟩).elim
        · rfl
      obtain ⟨z, hz, c1, c2⟩ := this
      have c1g := s _ _ hz p1 c1
      refine ex_single t tg s k (z, p.2) hz p2 (tg.tr _ _ _ hz p1 p2 c1g cg) c2 ?_
      have hlt : ((rng 0 n).filter fun w => cell g w z).length < ((rng 0 n).filter fun w => cell g w p.1).length := filter_lt (z := z) (fun w hw hc => tg.tr _ _ _ (in_rng.mp hw) hz p1 hc c1g) (in_rng.mpr hz) c1g (tg.irr _ hz)
      unfold mu at h ⊢
      dsimp only
      omega
theorem und_sub {n : Nat} {a b : List (List Bool)} (s : Sub n a b) {x y : Int} (hx : In n x) (hy : In n y) (h : und a x y = true) : und b x y = true := by
  unfold und at h ⊢
  rw [Bool.or_eq_true] at h ⊢
  exact h.elim .inl fun h => .inr (s x y hx hy h)
theorem und_tr1 {n : Nat} {g : List (List Bool)} (t : Tab n g) {x y z : Int} (hx : In n x) (hy : In n y) (hz : In n z) (h : und g x y = true) (k : cell g y z = true) : cell g x z = true := by
  unfold und at h
  rw [Bool.or_eq_true, decide_eq_true_eq] at h
  rcases h with e | h
  · subst e; exact k
  · exact t.tr _ _ _ hx hy hz h k
theorem und_tr2 {n : Nat} {g : List (List Bool)} (t : Tab n g) {x y z : Int} (hx : In n x) (hy : In n y) (hz : In n z) (h : cell g x y = true) (k : und g y z = true) : cell g x z = true := by
  unfold und at k
  rw [Bool.or_eq_true, decide_eq_true_eq] at k
  rcases k with e | k
  · subst e; exact h
  · exact t.tr _ _ _ hx hy hz h k
theorem sub_grown {n : Nat} {m : List (List Bool)} (t : Tab n m) {p : Pr} (hp : p ∈ openM m n) : Sub n m (grownM m n p) := fun x y hx hy h => by rw [grown_cell t hp hx hy, h, Bool.true_or]
theorem grown_sub {n : Nat} {m g : List (List Bool)} (t : Tab n m) (tg : Tab n g) (s : Sub n m g) {p : Pr} (hp : p ∈ openM m n) (hg : p ∈ stepsM g n) : Sub n (grownM m n p) g := fun x y hx hy h => by
  obtain ⟨⟨p1, p2⟩, cg⟩ := mem_stepsM.mp hg
  rw [grown_cell t hp hx hy, Bool.or_eq_true, Bool.and_eq_true] at h
  rcases h with h | ⟨h1, h2⟩
  · exact s x y hx hy h
  · exact und_tr1 tg hx p1 hy (und_sub s hx p1 h1) (und_tr2 tg p1 p2 hy cg (und_sub s p2 hy h2))
theorem single_open {n : Nat} {m : List (List Bool)} {p : Pr} (h : p ∈ singleM m n) : p ∈ openM m n := (List.mem_filter.mp h).1
theorem single_len {n : Nat} {m : List (List Bool)} {p : Pr} (h : p ∈ singleM m n) : (stepsM (grownM m n p) n).length = (stepsM m n).length + 1 := by
  have := (List.mem_filter.mp h).2
  unfold scond at this
  rw [decide_eq_true_eq, List.length_map, List.length_map] at this
  omega
theorem sub_len {n : Nat} {m g : List (List Bool)} (s : Sub n m g) : (stepsM g n).length = (stepsM m n).length + ((allP n).filter fun q => cell g q.1 q.2 && !cell m q.1 q.2).length := by
  rw [stepsM_eq, stepsM_eq]
  exact filter_split _ _ _ fun q hq h => by
    obtain ⟨q1, q2⟩ := mem_allP.mp hq
    exact s _ _ q1 q2 h
theorem sub_eq {n : Nat} {m g : List (List Bool)} (t : Tab n m) (tg : Tab n g) (s : Sub n m g) (h : (stepsM g n).length = (stepsM m n).length) : m = g := by
  have e := sub_len s
  have : ((allP n).filter fun q => cell g q.1 q.2 && !cell m q.1 q.2) = [] := List.length_eq_zero_iff.mp (by omega)
  rw [List.filter_eq_nil_iff] at this
  refine tab_ext t.sq tg.sq fun x y hx hy => ?_
  have k := this (x, y) (mem_allP.mpr ⟨hx, hy⟩)
  have k2 := s x y hx hy
  dsimp only at k
  revert k k2
  cases cell m x y <;> cases cell g x y <;> simp
/-- the way from m up to g, tie by tie, each single -/
inductive RunM (n : Nat) (g : List (List Bool)) : List (List Bool) → List Pr → Prop
  | done : RunM n g g []
  | step {m : List (List Bool)} {p : Pr} {rest ps : List Pr} : m ≠ g → (singleM m n).filter (fun q => decide (q ∈ stepsM g n)) = p :: rest → RunM n g (grownM m n p) ps → RunM n g m (p :: ps)
theorem run_ex {n : Nat} {g : List (List Bool)} (tg : Tab n g) : ∀ (k : Nat) (m : List (List Bool)), Tab n m → Sub n m g → (stepsM g n).length = (stepsM m n).length + k → ∃ ps, RunM n g m ps ∧ ps.length = k
  | 0, m, t, s, h => by
    have e := sub_eq t tg s (by omega)
    subst e
    exact ⟨[], .done, rfl⟩
  | k + 1, m, t, s, h => by
    have hne : m ≠ g := fun e => by subst e; omega
    have hx : ∃ q : Pr, (In n q.1 ∧ In n q.2) ∧ cell g q.1 q.2 = true ∧ cell m q.1 q.2 = false := by
      have e := sub_len s
      cases hl : (allP n).filter fun q => cell g q.1 q.2 && !cell m q.1 q.2 with
      | nil => rw [hl] at e; simp at e; omega
      | cons q r =>
        have : q ∈ (allP n).filter fun q => cell g q.1 q.2 && !cell m q.1 q.2 := by rw [hl]; simp
        obtain ⟨h1, h2⟩ := List.mem_filter.mp this
        rw [Bool.and_eq_true] at h2
        exact ⟨q, mem_allP.mp h1, h2.1, by simpa using h2.2⟩
    obtain ⟨q, ⟨q1, q2⟩, cg, cm⟩ := hx
    obtain ⟨r, r1, r2⟩ := ex_single t tg s (mu n g q + 1) q q1 q2 cg cm (Nat.lt_succ_self _)
    cases hl : (singleM m n).filter (fun q => decide (q ∈ stepsM g n)) with
    | nil =>
      have : r ∈ (singleM m n).filter (fun q => decide (q ∈ stepsM g n)) := List.mem_filter.mpr ⟨r1, decide_eq_true r2⟩
      rw [hl] at this; cases this
    | cons p rest =>
      have : p ∈ (singleM m n).filter (fun q => decide (q ∈ stepsM g n)) := by rw [hl]; simp
      obtain ⟨hp, hg⟩ := List.mem_filter.mp this
      rw [decide_eq_true_eq] at hg
      obtain ⟨ps, e1, e2⟩ := run_ex tg k (grownM m n p) (grown_tab t (single_open hp)) (grown_sub t tg s (single_open hp) hg) (by rw [single_len hp]; omega)
      exact ⟨p :: ps, .step hne hl e1, by rw [List.length_cons, e2]⟩
theorem RunM.p {n : Nat} {g m : List (List Bool)} {p : Pr} {rest : List Pr} (h : (singleM m n).filter (fun q => decide (q ∈ stepsM g n)) = p :: rest) : p ∈ singleM m n ∧ p ∈ stepsM g n := by
  have : p ∈ (singleM m n).filter (fun q => decide (q ∈ stepsM g n)) := by rw [h]; simp
  obtain ⟨hp, hg⟩ := List.mem_filter.mp this
  exact ⟨hp, of_decide_eq_true hg⟩
theorem run_run {n : Nat} {g m : List (List Bool)} {ps : List Pr} (tg : Tab n g) (r : RunM n g m ps) (t : Tab n m) (s : Sub n m g) : Run (ordM n g) (ordM n m) ps := by
  have bg := ordM_obs tg
  induction r with
  | done => exact .done ((eqO_iff tg tg bg bg).mpr rfl)
  | @step m p rest ps hne hl _ ih =>
    have b := ordM_obs t
    obtain ⟨hp, hg⟩ := RunM.p hl
    have ho := single_open hp
    refine .step (rest := rest) ?_ ?_ (ties_of t b ho) ?_
    · cases q : eqO (ordM n m) (ordM n g)
      · rfl
      · exact (hne ((eqO_iff t tg b bg).mp q)).elim
    · unfold ahead
      rw [singles_tab t b, bg.st]; exact hl
    · rw [tie1_tab t ho]
      exact ih (grown_tab t ho) (grown_sub t tg s ho hg)
theorem lack_none {n : Nat} {m m' : List (List Bool)} {o o' : O} (b : Obs n m o) (b' : Obs n m' o') : lack o o' = none ↔ Sub n m m' := by
  unfold lack
  rw [b.st, b'.st, List.find?_eq_none]
  constructor
  · intro h x y hx hy hc
    have := h (x, y) (mem_stepsM.mpr ⟨⟨hx, hy⟩, hc⟩)
    have : (x, y) ∈ stepsM m' n := by simpa using this
    exact (mem_stepsM.mp this).2
  · intro h p hp
    obtain ⟨⟨h1, h2⟩, h3⟩ := mem_stepsM.mp hp
    have : p ∈ stepsM m' n := mem_stepsM.mpr ⟨⟨h1, h2⟩, h _ _ h1 h2 h3⟩
    simp [this]
/-! ### a next step taken back -/
theorem next_iff {n : Nat} {m : List (List Bool)} {p : Pr} (hp : p ∈ stepsM m n) : ncond m n p = true ↔ ∀ z, In n z → ¬ (cell m p.1 z = true ∧ cell m z p.2 = true) := by
  unfold ncond between
  rw [decide_eq_true_eq, List.length_map]
  have : ((((rng 0 n).filter fun z => cell m p.1 z && cell m z p.2).length : Int) = 0) ↔ ((rng 0 n).filter fun z => cell m p.1 z && cell m z p.2) = [] := by
    rw [← List.length_eq_zero_iff]; omega
  rw [this, List.filter_eq_nil_iff]
  constructor
  · intro h z hz k
    exact h z (in_rng.mpr hz) (by rw [k.1, k.2]; rfl)
  · intro h z hz k
    rw [Bool.and_eq_true] at k
    exact h z (in_rng.mp hz) k
theorem nextSteps_tab {n : Nat} {m : List (List Bool)} {o : O} (b : Obs n m o) : nextSteps o = nextM m n := by
  unfold nextSteps nextM
  rw [b.st]
  refine filter_cong fun p hp => ?_
  obtain ⟨⟨p1, p2⟩, hc⟩ := mem_stepsM.mp hp
  rw [Bool.eq_iff_iff, next_iff hp]
  unfold isNext
  have hm : Msk n (Builtin.bitAnd (gI o.ab p.1) (gI o.be p.2)) := by
    obtain ⟨a, e1, q1⟩ := (b.abm p.1 p1).ex
    obtain ⟨c, e2, q2⟩ := (b.bem p.2 p2).ex
    rw [e1, e2]
    exact ⟨_, and_nat a c, Nat.lt_of_le_of_lt Nat.and_le_left q1⟩
  have hbit : ∀ z, In n z → bit (Builtin.bitAnd (gI o.ab p.1) (gI o.be p.2)) z = (cell m p.1 z && cell m z p.2) := fun z hz => by
    rw [(b.abm p.1 p1).bit_and (b.bem p.2 p2) hz.1, b.ab _ z p1 hz, b.be _ z p2 hz]
  constructor
  · intro h z hz k
    have : (Builtin.bitAnd (gI o.ab p.1) (gI o.be p.2) != 0) = true := hm.ne0.mpr ⟨z, hz.1, hz.2, by rw [hbit z hz, k.1, k.2]; rfl⟩
    rw [this] at h; cases h
  · intro h
    cases q : (Builtin.bitAnd (gI o.ab p.1) (gI o.be p.2) != 0)
    · rfl
    · obtain ⟨z, z0, z1, k⟩ := hm.ne0.mp q
      rw [hbit z ⟨z0, z1⟩, Bool.and_eq_true] at k
      exact (h z ⟨z0, z1⟩ k).elim
def lessM (m : List (List Bool)) (n : Nat) (p : Pr) : List Pr := (stepsM m n).filter fun q => !decide (q = p)
def remM (m : List (List Bool)) (n : Nat) (p : Pr) : List (List Bool) := closedM n (lessM m n p)
theorem less_S (m : List (List Bool)) (n : Nat) (p : Pr) : InS n (lessM m n p) := fun q hq => stepsM_S m n q (List.mem_filter.mp hq).1
theorem less_acy {n : Nat} {m : List (List Bool)} (t : Tab n m) (p : Pr) : Acy (lessM m n p) := fun x ⟨z, h, k⟩ => acy_tab t x ⟨z, h.mono fun q hq => (List.mem_filter.mp hq).1, (List.mem_filter.mp k).1⟩
theorem rem_tab {n : Nat} {m : List (List Bool)} (t : Tab n m) (p : Pr) : Tab n (remM m n p) := closed_tab t.n1 t.n16 (less_S m n p) (less_acy t p)
theorem rem_cell {n : Nat} {m : List (List Bool)} (t : Tab n m) {p : Pr} (hp : p ∈ nextM m n) {x y : Int} (hx : In n x) (hy : In n y) : cell (remM m n p) x y = (cell m x y && !decide ((x, y) = p)) := by
  obtain ⟨hs, hn⟩ := List.mem_filter.mp hp
  have hn := (next_iff hs).mp hn
  obtain ⟨⟨p1, p2⟩, hc⟩ := mem_stepsM.mp hs
  rw [Bool.eq_iff_iff]
  unfold remM
  rw [cell_closed (less_S m n p) hx hy, Bool.and_eq_true]
  constructor
  · rintro ⟨z, h, k⟩
    obtain ⟨k1, k2⟩ := List.mem_filter.mp k
    have h' : Pth (stepsM m n) x z := h.mono fun q hq => (List.mem_filter.mp hq).1
    refine ⟨((pos_tab t).mp ⟨z, h', k1⟩).2, ?_⟩
    cases q : decide ((x, y) = p)
    · rfl
    · exfalso
      have e := of_decide_eq_true q
      subst e
      have hz : In n z := (stepsM_S m n _ k1).1
      rcases h'.pos with e | e
      · subst e; simp at k2
      · exact hn z hz ⟨((pos_tab t).mp e).2, (mem_stepsM.mp k1).2⟩
  · rintro ⟨h, k⟩
    exact ⟨x, .refl x, List.mem_filter.mpr ⟨mem_stepsM.mpr ⟨⟨hx, hy⟩, h⟩, k⟩⟩
theorem rem_steps {n : Nat} {m : List (List Bool)} (t : Tab n m) {p : Pr} (hp : p ∈ nextM m n) : stepsM (remM m n p) n = lessM m n p := by
  unfold lessM
  rw [stepsM_eq, stepsM_eq, List.filter_filter]
  refine filter_cong fun q hq => ?_
  obtain ⟨q1, q2⟩ := mem_allP.mp hq
  rw [rem_cell t hp q1 q2, Bool.and_comm]
theorem rem_ord {n : Nat} {m : List (List Bool)} (t : Tab n m) (p : Pr) : mkO n (lessM m n p) = ordM n (remM m n p) := (ordM_closed t.n1 t.n16 (less_S m n p) (less_acy t p)).symm
theorem rem_sub {n : Nat} {m : List (List Bool)} (t : Tab n m) {p : Pr} (hp : p ∈ nextM m n) : Sub n (remM m n p) m := fun x y hx hy h => by
  rw [rem_cell t hp hx hy, Bool.and_eq_true] at h; exact h.1
theorem rem_pre {n : Nat} {m : List (List Bool)} (t : Tab n m) (p : Pr) : preO (n : Int) (lessM m n p) := pre_of t.n1 t.n16 (less_S m n p) (by
  have h1 := stepsM_len (m := m) t.n16
  have h2 : (lessM m n p).length ≤ (stepsM m n).length := List.length_filter_le _ _
  omega) (less_acy t p)
theorem rem_run {n : Nat} {m : List (List Bool)} (t : Tab n m) {p : Pr} (hp : p ∈ nextM m n) : p ∈ singleM (remM m n p) n ∧ RunM n m (remM m n p) [p] := by
  obtain ⟨hs, hn⟩ := List.mem_filter.mp hp
  have hlen : (stepsM m n).length = (stepsM (remM m n p) n).length + 1 := by
    rw [rem_steps t hp]
    unfold lessM
    have := filter_split (fun q : Pr => !decide (q = p)) (fun _ => true) (stepsM m n) fun _ _ _ => rfl
    rw [show (stepsM m n).filter (fun _ => true) = stepsM m n by rw [List.filter_eq_self]; intro _ _; rfl] at this
    have k := (filter_one (fun q : Pr => decide (q = p)) p (decide_eq_true rfl) (stepsM m n) (by rw [stepsM_eq]; exact (allP_nodup n).filter _) hs).mpr fun q _ h => of_decide_eq_true h
    have e : ((stepsM m n).filter fun x => true && !(!decide (x = p))) = (stepsM m n).filter fun q => decide (q = p) := filter_cong fun q _ => by simp
    rw [e, k] at this
    exact this
  obtain ⟨ps, r, hl⟩ := run_ex t 1 (remM m n p) (rem_tab t p) (rem_sub t hp) hlen
  have key : ∀ {m0 : List (List Bool)} {ps : List Pr}, RunM n m m0 ps → ps.length = 1 → ∃ q rest, ps = [q] ∧ m0 ≠ m ∧ (singleM m0 n).filter (fun q => decide (q ∈ stepsM m n)) = q :: rest ∧ RunM n m (grownM m0 n q) [] := fun r hl => by
    cases r with
    | done => cases hl
    | step hne hf r' =>
      have hps := List.length_eq_zero_iff.mp (Nat.succ.inj (by rw [List.length_cons] at hl; exact hl))
      rw [hps] at r' ⊢
      exact ⟨_, _, rfl, hne, hf, r'⟩
  obtain ⟨q, rest, e, hne, hf, r'⟩ := key r hl
  subst e
  have : True := trivial
  · have hps : True := trivial
    obtain ⟨h1, h2⟩ := RunM.p hf
    have ho := mem_openM.mp (single_open h1)
    have hc := (mem_stepsM.mp h2).2
    have := ho.2.2.1
    rw [rem_cell t hp ho.1.1 ho.1.2, hc, Bool.true_and] at this
    have e : q = p := by simpa using this
    subst e
    exact ⟨h1, .step hne hf r'⟩
end Y
namespace Y
open PySem L2 J
section
variable {P : Program} {w : World} {K : PySem.W.Frag} {mg : Str → Option Value} {base : Heap} {C CB CO CN CH CM : Addr}
/-- how an order is walked and measured -/
structure OrdL (P : Program) (w : World) (K : PySem.W.Frag) (mg : Str → Option Value) (base : Heap) (C : Addr) : Prop where
  ex : ∃ fi fl fdI fdL, OwnIt K C fi fl ∧ FnOk P w K mg base (L2.CX P w) 1 fi fdI ["self"] (spIt K C "_steps") ∧ Binds K fdI ["self"] [] ∧ FnOk P w K mg base (L2.CX P w) 1 fl fdL ["self"] (spLen K C) ∧ Binds K fdL ["self"] []
section
variable {X : Cx} {Γ : En} {A A1 : Slots} {e : Expr} {p pos : Pos} {o : O}
theorem jlistOrd (L : OrdL X.prog X.w X.K X.mg X.base C) (hr : Room 5 X.A) (hm : X.mg "list" = none) (ha : PA X [e] (JA X.K Γ A [o.d C] A1)) (hz : o.st.length ≤ 100000) (hab : o.ab.length ≤ 100000) (hg : Gl X "list" := by rfl)
    (he : starEach [e] X.env = (false, eval e X.env) :: starEach [] X.env := by rfl) (hpl : (backTo pos (starEach [] X.env)).any (·.1) = false := by rfl) (hT : A1.length ≤ 900 := by exact Nat.le_of_ble_eq_true rfl) :
    PE X (.Call (.Name "list" p) [e] [] pos) (JE X.K Γ A (.ol none (o.st.map prD)) A1) := by
  obtain ⟨fi, fl, fdI, fdL, O1, FI, bI, FL, bL⟩ := L.ex
  exact jownList (fn := "_steps") (gs := o.fs) (n := o.ab.length) (call_listI O1 FI bI FL bL hr) (by decide +kernel) ha rfl (by rw [List.length_map]; exact hz) (spF_at o trivial rfl rfl) hab (fun h => pe_callTy (call_listI O1 FI bI FL bL hr) hg hm (by decide +kernel) h (by decide) (by decide) he hpl) hT
theorem jlenOrd (L : OrdL X.prog X.w X.K X.mg X.base C) (hr : Room 2 X.A) (hm : X.mg "len" = none) (ha : PA X [e] (JA X.K Γ A [o.d C] A1)) (hab : o.ab.length ≤ 100000) (hg : Gl X "len" := by rfl)
    (he : starEach [e] X.env = (false, eval e X.env) :: starEach [] X.env := by rfl) (hpl : (backTo pos (starEach [] X.env)).any (·.1) = false := by rfl) (hT : A1.length ≤ 900 := by exact Nat.le_of_ble_eq_true rfl) :
    PE X (.Call (.Name "len" p) [e] [] pos) (JE X.K Γ A (.sh (.int (o.ab.length : Nat))) A1) := by
  obtain ⟨fi, fl, fdI, fdL, O1, FI, bI, FL, bL⟩ := L.ex
  exact jownLen (gs := o.fs) (n := o.ab.length) (call_lenO FL hr O1.ln O1.lnF bL) hm ha (spF_at o trivial rfl rfl) hab hT (fun h => pe_callB (call_lenO FL hr O1.ln O1.lnF bL) hg hm (by decide +kernel) h (by decide) (by decide) he hpl)
end
end
end Y
namespace Y
open PySem L2 J
/-! ### a way, table by table -/
theorem run_at {n : Nat} {g : List (List Bool)} (tg : Tab n g) : ∀ (pre : List Pr) {m : List (List Bool)} {p : Pr} {post : List Pr}, RunM n g m (pre ++ p :: post) → Tab n m → Sub n m g →
    Tab n (pre.foldl (fun h q => grownM h n q) m) ∧ Sub n m (pre.foldl (fun h q => grownM h n q) m) ∧ Sub n (pre.foldl (fun h q => grownM h n q) m) g ∧ p ∈ singleM (pre.foldl (fun h q => grownM h n q) m) n ∧ p ∈ stepsM g n
  | [], m, p, post, r, t, s => by
    cases r with
    | step hne hf _ =>
      obtain ⟨h1, h2⟩ := RunM.p hf
      exact ⟨t, fun _ _ _ _ h => h, s, h1, h2⟩
  | q :: pre, m, p, post, r, t, s => by
    cases r with
    | step hne hf r' =>
      obtain ⟨h1, h2⟩ := RunM.p hf
      have ho := single_open h1
      obtain ⟨a, b, c, d, e⟩ := run_at tg pre r' (grown_tab t ho) (grown_sub t tg s ho h2)
      exact ⟨a, fun x y hx hy h => b x y hx hy (sub_grown t ho x y hx hy h), c, d, e⟩
theorem run_end {n : Nat} {g : List (List Bool)} : ∀ (ps : List Pr) {m : List (List Bool)}, RunM n g m ps → ps.foldl (fun h q => grownM h n q) m = g
  | [], m, r => by cases r; rfl
  | q :: ps, m, r => by
    cases r with
    | step _ _ r' => exact run_end ps r'
section
variable {P : Program} {w : World} {K : PySem.W.Frag} {mg : Str → Option Value} {base : Heap} {C CB CO CN CH CM : Addr}
theorem path_at {n : Nat} {m g : List (List Bool)} {ps : List Pr} (t : Tab n m) (tg : Tab n g) (s : Sub n m g) (r : RunM n g m ps) (hl : ps.length ≤ 256) : ∀ vs H Q E, spJ K [.sh ((ordM n m).d C), .sh ((ordM n g).d C)] (.ok (.ol none (ps.map prD), [none, none])) vs H Q E → spPath K C CO CH vs H Q E :=
  spF_at ((ordM n m, ordM n g, ps) : O × O × List Pr) (And.intro ((ordM_obs t).ok t) (And.intro hl fun _ _ => run_run tg r t s)) rfl (by
    show _ = outPath CO CH (ordM n m) (ordM n g) ps
    unfold outPath
    rw [(ordM_obs t).num, (ordM_obs tg).num, if_neg (by simp), (lack_none (ordM_obs t) (ordM_obs tg)).mpr s])
theorem singles_at {n : Nat} {m : List (List Bool)} (t : Tab n m) : ∀ vs H Q E, spJ K [.sh ((ordM n m).d C)] (.ok (.sh (.tup ((singleM m n).map prD)), [none])) vs H Q E → spSingles K C vs H Q E :=
  spF_at (ordM n m) ((ordM_obs t).ok t) rfl (by rw [singles_tab t (ordM_obs t)])
theorem singleM_len {m : List (List Bool)} {n : Nat} (hn : n ≤ 16) : (singleM m n).length ≤ 256 := Nat.le_trans (List.length_filter_le _ _) (openM_len hn)
theorem tied_at {n : Nat} {m : List (List Bool)} {p : Pr} (t : Tab n m) (ho : p ∈ openM m n) : ∀ vs H Q E, spJ K (([(ordM n m).d C] ++ [D.tup [prD p]]).map Sl.sh) (.ok (.sh ((ordM n (grownM m n p)).d C), [none, none])) vs H Q E → spTied K C vs H Q E :=
  spF_at ((ordM n m, p) : O × Pr) (ties_of t (ordM_obs t) ho) rfl (by rw [tie1_tab t ho])
theorem holdsL_at {n : Nat} {a b : List (List Bool)} {due : Bool} (ta : Tab n a) (tb : Tab n b) (h : Sub n b a ↔ due = true) : ∀ vs H Q E, spJ K [.sh ((ordM n a).d C), .sh ((ordM n b).d C), .sh (.bl due)] (.ok (.sh (.bl true), [none, none, none])) vs H Q E → spHoldsL K C vs H Q E :=
  spF_at ((ordM n a, ordM n b, due) : O × O × Bool) (And.intro ((ordM_obs ta).ok ta) rfl) rfl (by
    have : decide (holdsB (ordM n a) (ordM n b) = due) = true := by
      rw [decide_eq_true_eq, Bool.eq_iff_iff, holdsB_iff (ordM_obs ta) (ordM_obs tb)]; exact h
    rw [this])
theorem closed_at {n : Nat} {m : List (List Bool)} {p : Pr} (t : Tab n m) (ho : p ∈ openM m n) : ∀ vs H Q E, spJ K [.sh (.int (n : Nat)), .sh (.lst ((stepsM m n).map prD ++ [prD p]))] (.ok (.sh (mD (grownM m n p)), [none, none])) vs H Q E → spClosed K vs H Q E :=
  spF_at ((n, stepsM m n ++ [p]) : Nat × List Pr) (And.intro t.n16 (And.intro (len1000 t p) fun q hq => by have := grown_S ho q hq; exact this)) (by show [Sl.sh (.int (n : Nat)), Sl.sh (.lst ((stepsM m n).map prD ++ [prD p]))] = [Sl.sh (.int (n : Nat)), Sl.sh (.lst ((stepsM m n ++ [p]).map prD))]; rw [List.map_append]; rfl) rfl
theorem steps_at {n : Nat} {m : List (List Bool)} (t : Tab n m) : ∀ vs H Q E, spJ K [.sh (mD m)] (.ok (.ol none ((stepsM m n).map prD), [none])) vs H Q E → spSteps K vs H Q E := spF_at (m, n) (And.intro t.sq t.n16) rfl rfl
theorem singleL_at {n : Nat} {m : List (List Bool)} (t : Tab n m) : ∀ vs H Q E, spJ K [.sh (.int (n : Nat)), .sh (mD m)] (.ok (.ol none ((singleM m n).map prD), [none, none])) vs H Q E → spSingleL K vs H Q E := spF_at (m, n) (And.intro t.sq t.n16) rfl rfl
/-! tables compared -/
theorem mD_pd (m : List (List Bool)) : (mD m).pd = .list (m.map fun r => .list (r.map .bool)) := by
  have h1 : ∀ r : List Bool, D.pds (r.map D.bl) = r.map PyData.bool := fun r => by
    induction r with
    | nil => rfl
    | cons b r ih => rw [List.map_cons, D.pds, ih]; rfl
  have h2 : ∀ m : List (List Bool), D.pds (m.map fun r => D.lst (r.map .bl)) = m.map fun r => PyData.list (r.map .bool) := fun m => by
    induction m with
    | nil => rfl
    | cons r m ih => rw [List.map_cons, D.pds, ih, D.pd, h1]; rfl
  unfold mD
  rw [D.pd, h2]
theorem eqv_bls : ∀ (a b : List Bool), PyData.eqvAll (a.map .bool) (b.map .bool) = decide (a = b)
  | [], [] => by simp [PyData.eqvAll]
  | [], _ :: _ => by simp [PyData.eqvAll]
  | _ :: _, [] => by simp [PyData.eqvAll]
  | p :: a, q :: b => by
    rw [List.map_cons, List.map_cons, PyData.eqvAll, eqv_bls a b]
    have : PyData.eqv (.bool p) (.bool q) = decide (p = q) := by cases p <;> cases q <;> decide
    rw [this]
    by_cases h1 : p = q <;> by_cases h2 : a = b <;> simp [h1, h2]
theorem eqv_rows : ∀ (a b : List (List Bool)), PyData.eqvAll (a.map fun r => .list (r.map .bool)) (b.map fun r => .list (r.map .bool)) = decide (a = b)
  | [], [] => by simp [PyData.eqvAll]
  | [], _ :: _ => by simp [PyData.eqvAll]
  | _ :: _, [] => by simp [PyData.eqvAll]
  | p :: a, q :: b => by
    rw [List.map_cons, List.map_cons, PyData.eqvAll, eqv_rows a b, PyData.eqv, eqv_bls]
    by_cases h1 : p = q <;> by_cases h2 : a = b <;> simp [h1, h2]
theorem deq_mD (a b : List (List Bool)) : deq (mD a) (mD b) = decide (a = b) := by
  unfold deq
  rw [mD_pd, mD_pd, PyData.eqv, eqv_rows]
theorem cmp_mD (m : List (List Bool)) : Cmp (mD m) := by
  have p1 : ∀ r : List Bool, D.plns (r.map D.bl) = true := fun r => by
    induction r with
    | nil => rfl
    | cons b r ih => rw [List.map_cons, D.plns, ih]; rfl
  have p2 : ∀ m : List (List Bool), D.plns (m.map fun r => D.lst (r.map .bl)) = true := fun m => by
    induction m with
    | nil => rfl
    | cons r m ih => rw [List.map_cons, D.plns, ih, D.pln, p1]; rfl
  have d1 : ∀ r : List Bool, PyData.depthAll (r.map .bool) ≤ 1 := fun r => by
    induction r with
    | nil => simp [PyData.depthAll]
    | cons b r ih => rw [List.map_cons, PyData.depthAll]; simp [PyData.depth]; omega
  have d2 : ∀ m : List (List Bool), PyData.depthAll (m.map fun r => .list (r.map .bool)) ≤ 2 := fun m => by
    induction m with
    | nil => simp [PyData.depthAll]
    | cons r m ih => rw [List.map_cons, PyData.depthAll, PyData.depth]; have := d1 r; omega
  refine ⟨by unfold mD; rw [D.pln]; exact p2 m, ?_⟩
  rw [mD_pd, PyData.depth]
  have := d2 m
  omega
end
end Y
namespace Y
open PySem L2 J
section
variable {P : Program} {w : World} {K : PySem.W.Frag} {mg : Str → Option Value} {base : Heap} {C CB CO CN CH CM : Addr}
/-! _law_walked -/
abbrev sWalk : Stmt := top t__law_walked
abbrev nWalk : List Str := ["_law_order_here", "_law_many", "_law_below", "_law_upper", "_law_goal", "_law_kept", "_law_path", "_law_here", "_law_now", "_law_tie", "_law_singles", "_law_ties"]
theorem scWalk : FnScope nWalk ["_law_order_here", "_law_many", "_law_below", "_law_upper", "_law_goal"] (defScope sWalk) := ⟨rfl, rfl, rfl, by decide +kernel, rfl, by decide +kernel, by decide +kernel⟩
abbrev spWalk (K : PySem.W.Frag) (C : Addr) : Sp := spF K (fun i : Nat × List (List Bool) × List (List Bool) => Tab i.1 i.2.1 ∧ Tab i.1 i.2.2 ∧ Sub i.1 i.2.1 i.2.2) (fun i => [.sh ((ordM i.1 i.2.1).d C), .sh (.int (i.1 : Nat)), .sh (mD i.2.1), .sh (mD i.2.2), .sh ((ordM i.1 i.2.2).d C)]) (fun _ => .ok (.sh (.bl true), [none, none, none, none, none]))
theorem ok_walked {f : Addr} {fd : FuncData} (F : Fun K "_law_walked" "_law_walked" sWalk f fd) (Tx : Txt mg) (hC : OrdC K C) (L : OrdL P w K mg base C) (nP : Nm P w K mg base "tie_path" ["order", "other"] 8 (spPath K C CO CH)) (nS : Nm P w K mg base "_law_steps" ["_law_below"] 1 (spSteps K)) (nI : Nm P w K mg base "_law_single" ["_law_many", "_law_below"] 3 (spSingleL K))
    (nT : Nm P w K mg base "single_ties" ["order"] 6 (spSingles K C)) (nC : Nm P w K mg base "_law_closed" ["_law_size", "_law_steps_here"] 1 (spClosed K)) (nD : ∃ ft, FnR P w K mg base (L2.CX P w) 7 ft (spStar 1 (spTied K C)) ∧ mg "tied" = some (.ref ft) ∧ PySem.W.keepIn K (.ref ft) = true)
    (nH : Nm P w K mg base "_law_holds" ["_law_order_here", "_law_other", "_law_due"] 4 (spHoldsL K C)) (nE : NmM P w K mg base C "__eq__" ["self", "other"] 1 (spEq K C)) :
    FnOk P w K mg base (L2.CX P w) 9 f fd ["_law_order_here", "_law_many", "_law_below", "_law_upper", "_law_goal"] (spWalk K C) := by
  obtain ⟨f1, fd1, F1, m1, k1, b1⟩ := nP.ex
  obtain ⟨f2, fd2, F2, m2, k2, b2⟩ := nS.ex
  obtain ⟨f3, fd3, F3, m3, k3, b3⟩ := nI.ex
  obtain ⟨f4, fd4, F4, m4, k4, b4⟩ := nT.ex
  obtain ⟨f5, fd5, F5, m5, k5, b5⟩ := nC.ex
  obtain ⟨f6, F6, m6, k6⟩ := nD
  obtain ⟨f7, fd7, F7, m7, k7, b7⟩ := nH.ex
  obtain ⟨f8, fd8, F8, m8, b8⟩ := nE.ex
  refine jd F scWalk _ _ _ (fun _ => rfl) (fun i hd cdv A outer s H E Γ hr tk => ?_)
  obtain ⟨n, m, g⟩ := i
  obtain ⟨t, tg, sb⟩ := hd
  dsimp only at t tg sb
  obtain ⟨ps, r, hps⟩ := run_ex tg ((stepsM g n).length - (stepsM m n).length) m t sb (by have := sub_len sb; omega)
  have hsl := sub_len sb
  have hg256 : (stepsM g n).length ≤ 256 := stepsM_len tg.n16
  have hl : ps.length ≤ 256 := by omega
  have hm256 : (stepsM m n).length ≤ 256 := stepsM_len t.n16
  have e6 : (!decide (((ps.map prD).length : Int) = (((stepsM g n).map prD).length : Int) - (((stepsM m n).map prD).length : Int))) = false := by
    rw [List.length_map, List.length_map, List.length_map, hps]
    have : ((((stepsM g n).length - (stepsM m n).length : Nat) : Int) = ((stepsM g n).length : Int) - ((stepsM m n).length : Int)) := by omega
    rw [decide_eq_true this]; rfl
  have bt := ordM_obs t
  have bg := ordM_obs tg
  let Af : List (List Bool) → Slots := fun h => [some (.sh ((ordM n m).d C)), some (.sh (.int (n : Nat))), some (.sh (mD m)), some (.sh (mD g)), some (.sh ((ordM n g).d C)), none, some (.sh (.lst (ps.map prD))), some (.sh (mD h)), some (.sh ((ordM n h).d C)), none, none, none]
  refine ⟨_, jcons (jset 5 (jcall F1 (hr.mono (by decide)) m1 k1 b1 (jacons (jvar 0 rfl) (jacons (jvar 4 rfl) janil)) (path_at t tg sb r hl)) scWalk.nd)
    (jcons (jif (c := true) (o2 := .nx []) (jtB (jisiO (T1 := "list") 5 rfl (by decide +kernel) Tx.isin Tx.list)) (fun _ => jlast (jappend 5 (q := none) (d := .int 0) rfl jint rfl (by rw [List.length_map]; omega) (h := fun h => pe_bm PySem.F.plainAttrs_list PySem.F.slot_list_append PySem.F.type_list_append mt_append (pe_var (i := 5) rfl (by first | exact Or.inl rfl | exact Or.inr (Or.inl rfl)) (by decide) (by decide)) h))) (fun z => by cases z))
    (jcons (jset 6 (jcall F1 (hr.mono (by decide)) m1 k1 b1 (jacons (jvar 0 rfl) (jacons (jvar 4 rfl) janil)) (path_at t tg sb r hl)) scWalk.nd)
    (jcons (jset 7 (jvar 2 rfl) scWalk.nd) (jcons (jset 8 (jvar 0 rfl) scWalk.nd)
    (jfzS 6 rfl (jcons (jif (c := false) (o1 := .nx []) (PW.pt (jtOr (c := false) (c' := false) (jtNot (c := true) (jtB (jisi (d := .lst (ps.map prD)) (t := "list") (T1 := "list") (jvar 6 rfl) rfl (by decide +kernel) Tx.isin Tx.list)))
        (fun _ => jwC (jtOr1 (jtneI (jlenL Tx.len (jacons (jvar 6 rfl) janil) (fun h => pe_callB call_len_seq (by rfl) Tx.len PySem.boot_len h)) (jsub (jlenL Tx.len (jacons (jfrz (jcall F2 (hr.mono (by decide)) m2 k2 b2 (jacons (jvar 3 rfl) janil) (steps_at tg))) janil) (fun h => pe_callB call_len_seq (by rfl) Tx.len PySem.boot_len h)) (jlenL Tx.len (jacons (jfrz (jcall F2 (hr.mono (by decide)) m2 k2 b2 (jacons (jvar 2 rfl) janil) (steps_at t))) janil) (fun h => pe_callB call_len_seq (by rfl) Tx.len PySem.boot_len h))))) e6))) (fun z => by cases z) (fun _ => jnil))
    (jcons (jfor0F ps prD (.n 9) Af (fun h q => grownM h n q) m g (run_end ps r) (passes_of rfl) (jil (jvar 6 rfl)) (by (repeat' (first | exact Wk.nil | refine Wk.same ?_ | refine Wk.drop ?_))) (pg_name scWalk.nd rfl (by first | exact Or.inl rfl | exact Or.inr rfl)) (fun _ _ => trivial) (fun pre p post hx => ?turn))
    (jlast (jret (jeC (d := .bl true) (d' := .bl true) (A1 := Af g) ?ret rfl)))))))))), rfl, rfl⟩
  case ret =>
    refine jeC (d := .bl (decide (g = g) && true)) (jAnd (c := decide (g = g)) (c' := true) (by rw [← deq_mD]; exact jeqD hr.u64 (jvar 7 rfl) (jvar 3 rfl) (cmp_mD g) (cmp_mD g)) (fun _ => ?_)) (by simp)
    refine jeC (jAnd (c := eqO (ordM n g) (ordM n g)) (c' := true) (jown2 (g := id) (gs := (ordM n g).fs) (gs' := (ordM n g).fs) (op_eqO F8 (hr.mono (by decide)) m8.at_ m8.fn b8) (by rfl) (jvar 8 rfl) (jvar 4 rfl) (spF_at (ordM n g, ordM n g) trivial rfl rfl)) (fun _ => ?_)) (by rw [(eqO_iff tg tg bg bg).mpr rfl]; rfl)
    refine jeC (jOne (jeqLP (l := singleM g n) (m := singleM g n) hr.u64 (jfrz (jlistT Tx.list (jacons (jcall F4 (hr.mono (by decide)) m4 k4 b4 (jacons (jvar 4 rfl) janil) (singles_at tg)) janil))) (jfrz (jcall F3 (hr.mono (by decide)) m3 k3 b3 (jacons (jvar 1 rfl) (jacons (jvar 3 rfl) janil)) (singleL_at tg))))) (by simp)
  case turn =>
    rw [hx] at r
    obtain ⟨th, s1, s2, hp, hpg⟩ := run_at tg pre r t sb
    generalize pre.foldl (fun h q => grownM h n q) m = h at th s1 s2 hp
    have ho := single_open hp
    have tn := grown_tab th ho
    have hs256 : (stepsM h n).length ≤ 256 := stepsM_len th.n16
    have hi256 : (singleM h n).length ≤ 256 := singleM_len th.n16
    have bn := ordM_obs tn
    have e1 : (!decide (singleM h n = singleM h n)) = false := by simp
    have e2 : (!decide (p ∈ singleM h n)) = false := by simp [hp]
    have e3 : (!decide ((ordM n (grownM h n p)).st = stepsM (grownM h n p) n)) = false := by simp [bn.st]
    have hz : (ordM n (grownM h n p)).st.length ≤ 100000 := by rw [bn.st]; exact Nat.le_trans (stepsM_len tn.n16) (by decide)
    have hab : (ordM n (grownM h n p)).ab.length ≤ 100000 := by rw [bn.abl]; have := tn.n16; omega
    refine ⟨_, jcons (jset 10 (jcall F3 (hr.mono (by decide)) m3 k3 b3 (jacons (jvar 1 rfl) (jacons (jvar 7 rfl) janil)) (singleL_at th)) scWalk.nd)
      (jcons (jset 11 (jcall F4 (hr.mono (by decide)) m4 k4 b4 (jacons (jvar 8 rfl) janil) (singles_at th)) scWalk.nd)
      (jfzS 10 rfl (jcons (jif (c := false) (o1 := .nx []) (PW.pt (jtOr (c := false) (c' := false) (jtNot (c := true) (jtB (jisi (d := .tup ((singleM h n).map prD)) (t := "tuple") (T1 := "tuple") (jvar 11 rfl) rfl (by decide +kernel) Tx.isin Tx.tuple)))
          (fun _ => jwC (jtOr1 (jtneLP (l := singleM h n) (m := singleM h n) hr.u64 (jfrz (jlistT Tx.list (jacons (jvar 11 rfl) janil))) (jvar 10 rfl))) e1))) (fun z => by cases z) (fun _ => jnil))
      (jcons (jif (c := false) (o1 := .nx []) (PW.pt (jtOr (c := false) (c' := false) (jtNot (c := true) (jtB (jisi (d := prD p) (t := "tuple") (T1 := "tuple") (jvar 9 rfl) rfl (by decide +kernel) Tx.isin Tx.tuple)))
          (fun _ => jwC (jtOr1 (jtniLP (p := p) (l := singleM h n) hr.u65 (jvar 9 rfl) (jvar 10 rfl))) e2))) (fun z => by cases z) (fun _ => jnil))
      (jcons (jset 7 (jcall F5 (hr.mono (by decide)) m5 k5 b5 (jacons (jvar 1 rfl) (jacons (jfrz (jcatL (ds := (stepsM h n).map prD) (ds1 := [prD p]) (jfrz (jcall F2 (hr.mono (by decide)) m2 k2 b2 (jacons (jvar 7 rfl) janil) (steps_at th))) (jlst (jacons (jvar 9 rfl) janil)) (by rw [List.length_map]; exact Nat.le_trans (Nat.add_le_add_right hs256 1) (by decide)))) janil)) (closed_at th ho)) scWalk.nd)
      (jcons (jset 8 (jcallS [(ordM n h).d C] [prD p] F6 (hr.mono (by decide)) m6 k6 (jacons (jvar 8 rfl) (jacons (jvar 9 rfl) janil)) rfl (Nat.le_of_ble_eq_true rfl) (tied_at th ho)) scWalk.nd)
      (jlast (jif (c := false) (o1 := .nx []) (PW.pt (jtOr (c := false) (c' := false) (jtC (jtneLP (l := (ordM n (grownM h n p)).st) (m := stepsM (grownM h n p) n) hr.u64 (jfrz (jlistOrd L (hr.mono (by decide)) Tx.list (jacons (jvar 8 rfl) janil) hz hab)) (jfrz (jcall F2 (hr.mono (by decide)) m2 k2 b2 (jacons (jvar 7 rfl) janil) (steps_at tn)))) e3)
          (fun _ => jtOr (c := false) (c' := false) (jtNot (c := true) (jtB (jcall F7 (hr.mono (by decide)) m7 k7 b7 (jacons (jvar 8 rfl) (jacons (jvar 0 rfl) (jacons jbl janil))) (holdsL_at (due := true) tn t ⟨fun _ => rfl, fun _ => fun x y hx hy q => sub_grown th ho x y hx hy (s1 x y hx hy q)⟩))))
            (fun _ => jtOr1 (jtNot (c := true) (jtB (jcall F7 (hr.mono (by decide)) m7 k7 b7 (jacons (jvar 4 rfl) (jacons (jvar 8 rfl) (jacons jbl janil))) (holdsL_at (due := true) tg tn ⟨fun _ => rfl, fun _ => grown_sub th tg s2 ho hpg⟩)))))))) (fun z => by cases z) (fun _ => jnil))))))))), by (repeat' (first | exact Wk.nil | refine Wk.same ?_ | refine Wk.drop ?_))⟩
end
end Y
namespace Y
open PySem L2 J
section
variable {P : Program} {w : World} {K : PySem.W.Frag} {mg : Str → Option Value} {base : Heap} {C CB CO CN CH CM : Addr}
/-! what is told of a refusal, compared -/
theorem deq_refl_why (x : Str) (i j : Int) : deq (why x (.int i) (.int j)) (why x (.int i) (.int j)) = true := by
  unfold deq why
  simp [D.pd, D.pds, PyData.eqv, PyData.eqvAll]
theorem deq_refl_whyS (x y : Str) (j : Int) : deq (why x (.str y) (.int j)) (why x (.str y) (.int j)) = true := by
  unfold deq why
  simp [D.pd, D.pds, PyData.eqv, PyData.eqvAll]
theorem cmp_why {x : Str} {i j : Int} (h : PyData.canLay0 (.str x) = true) : Cmp (why x (.int i) (.int j)) := ⟨by unfold why; simp [D.pln, D.plns, h], by unfold why; simp [D.pd, D.pds, PyData.depth, PyData.depthAll]⟩
theorem cmp_whyS {x y : Str} {j : Int} (h : PyData.canLay0 (.str x) = true) (h2 : PyData.canLay0 (.str y) = true) : Cmp (why x (.str y) (.int j)) := ⟨by unfold why; simp [D.pln, D.plns, h, h2], by unfold why; simp [D.pd, D.pds, PyData.depth, PyData.depthAll]⟩
theorem cmp_non : Cmp .non := ⟨rfl, by simp [D.pd, PyData.depth]⟩
theorem without_tab {n : Nat} {m : List (List Bool)} {o : O} (b : Obs n m o) (p : Pr) : without o p = lessM m n p := by unfold without lessM; rw [b.st]
theorem unt_pre {n : Nat} {m : List (List Bool)} {o : O} (t : Tab n m) (b : Obs n m o) {u v : D} (hu : Scal u) (hv : Scal v) : Ask.pre (.unt o u v) := ⟨b.ok t, hu, hv, fun x y _ _ _ => by rw [b.num, without_tab b]; exact rem_pre t (x, y)⟩
theorem isP_in {n : Nat} {x : Int} (h : In n x) : isP (n : Int) (.int x) = true := inR_iff.mpr h
theorem untied_at {n : Nat} {m : List (List Bool)} {p : Pr} (t : Tab n m) (hp : p ∈ nextM m n) : ∀ vs H Q E, spJ K [.sh ((ordM n m).d C), .sh (.int p.1), .sh (.int p.2)] (.ok (.sh ((ordM n (remM m n p)).d C), [none, none, none])) vs H Q E → spUntied K C CB CN vs H Q E := by
  have b := ordM_obs t
  obtain ⟨hs, _⟩ := List.mem_filter.mp hp
  obtain ⟨⟨p1, p2⟩, hc⟩ := mem_stepsM.mp hs
  refine spF_at ((ordM n m, D.int p.1, D.int p.2) : O × D × D) (unt_pre t b (.int _) (.int _)) rfl ?_
  show _ = outUntied C CB CN (ordM n m) (.int p.1) (.int p.2)
  unfold outUntied
  rw [b.num, if_neg (by rw [isP_in p1]; decide), if_neg (by rw [isP_in p2]; decide), if_pos (by rw [nextSteps_tab b]; exact hp)]
  show _ = Except.ok (Sl.sh ((mkO n (without (ordM n m) (p.1, p.2))).d C), _)
  rw [without_tab b, rem_ord t]
theorem ref_at {n : Nat} {m : List (List Bool)} (t : Tab n m) {u v d : D} (hu : Scal u) (hv : Scal v) (e : (Ask.unt (ordM n m) u v).ans = d) : ∀ vs H Q E, spJ K [.sh ((ordM n m).d C), .sh .non, .sh u, .sh v, .sh (.int 1)] (.ok (.sh d, [none, none, none, none, none])) vs H Q E → spRef K C vs H Q E :=
  spF_at (Ask.unt (ordM n m) u v) (unt_pre t (ordM_obs t) hu hv) rfl (by rw [e])
/-- what is no place of an order of n places -/
def wrongs (n : Nat) : List D := [.int (-1), .int n, .bl true, .non]
theorem wrong_ok {n : Nat} {d : D} (h : d ∈ wrongs n) : Scal d ∧ isP (n : Int) d = false := by
  unfold wrongs at h
  simp only [List.mem_cons, List.not_mem_nil, or_false] at h
  rcases h with rfl | rfl | rfl | rfl
  · exact ⟨.int _, by show inR (-1) n = false; unfold inR; simp⟩
  · exact ⟨.int _, by show inR n n = false; unfold inR; simp⟩
  · exact ⟨.bl _, rfl⟩
  · exact ⟨.non, rfl⟩
theorem nextM_len {m : List (List Bool)} {n : Nat} (hn : n ≤ 16) : (nextM m n).length ≤ 256 := Nat.le_trans (List.length_filter_le _ _) (stepsM_len hn)
/-! _law_taken_back -/
abbrev sBack : Stmt := top t__law_taken_back
abbrev nBack : List Str := ["_law_goal", "_law_many", "_law_upper", "_law_nexts", "_law_step", "_law_fewer", "_law_one", "_law_u", "_law_v", "_law_wrong"]
theorem scBack : FnScope nBack ["_law_goal", "_law_many", "_law_upper"] (defScope sBack) := ⟨rfl, rfl, rfl, by decide +kernel, rfl, by decide +kernel, by decide +kernel⟩
abbrev spBack (K : PySem.W.Frag) (C : Addr) : Sp := spF K (fun i : Nat × List (List Bool) => Tab i.1 i.2) (fun i => [.sh ((ordM i.1 i.2).d C), .sh (.int (i.1 : Nat)), .sh (mD i.2)]) (fun _ => .ok (.sh (.bl true), [none, none, none]))
theorem fold_unit {α : Type} : ∀ (l : List α), l.foldl (fun (_ : Unit) _ => ()) () = ()
  | [] => rfl
  | _ :: l => fold_unit l
theorem ok_back {f : Addr} {fd : FuncData} (F : Fun K "_law_taken_back" "_law_taken_back" sBack f fd) (Tx : Txt mg) (hC : OrdC K C) (L : OrdL P w K mg base C) (nP : Nm P w K mg base "tie_path" ["order", "other"] 8 (spPath K C CO CH)) (nS : Nm P w K mg base "_law_steps" ["_law_below"] 1 (spSteps K)) (nN : Nm P w K mg base "_law_next" ["_law_many", "_law_below"] 2 (spNextL K))
    (nT : Nm P w K mg base "single_ties" ["order"] 6 (spSingles K C)) (nU : Nm P w K mg base "untied" ["order", "u", "v"] 7 (spUntied K C CB CN)) (nR : Nm P w K mg base "_law_refused" ["_law_order_here", "_law_other", "_law_u", "_law_v", "_law_word"] 9 (spRef K C)) :
    FnOk P w K mg base (L2.CX P w) 10 f fd ["_law_goal", "_law_many", "_law_upper"] (spBack K C) := by
  obtain ⟨f1, fd1, F1, m1, k1, b1⟩ := nP.ex
  obtain ⟨f2, fd2, F2, m2, k2, b2⟩ := nS.ex
  obtain ⟨f3, fd3, F3, m3, k3, b3⟩ := nN.ex
  obtain ⟨f4, fd4, F4, m4, k4, b4⟩ := nT.ex
  obtain ⟨f5, fd5, F5, m5, k5, b5⟩ := nU.ex
  obtain ⟨f6, fd6, F6, m6, k6, b6⟩ := nR.ex
  refine jd F scBack _ _ _ (fun _ => rfl) (fun i hd cdv A outer s H E Γ hr tk => ?_)
  obtain ⟨n, m⟩ := i
  have t : Tab n m := hd
  have hn9 : n ≤ 100000 := by have := t.n16; omega
  let A0 : Slots := [some (.sh ((ordM n m).d C)), some (.sh (.int (n : Nat))), some (.sh (mD m)), some (.sh (.lst ((nextM m n).map prD))), none, none, none, none, none, none]
  refine ⟨_, jcons (jset 3 (jcall F3 (hr.mono (by decide)) m3 k3 b3 (jacons (jvar 1 rfl) (jacons (jvar 2 rfl) janil)) (spF_at (m, n) (And.intro t.sq t.n16) rfl rfl)) scBack.nd)
    (jfzS 3 rfl (jcons (jfor0F (nextM m n) prD (.n 4) (fun _ : Unit => A0) (fun _ _ => ()) () () (fold_unit _) (passes_of rfl) (jil (jvar 3 rfl)) (by (repeat' (first | exact Wk.nil | refine Wk.same ?_ | refine Wk.drop ?_))) (pg_name scBack.nd rfl (by first | exact Or.inl rfl | exact Or.inr rfl)) (fun _ _ => trivial) (fun pre p post hx => ?turn1))
    (jcons (jfor0F (rng 0 n) D.int (.n 7) (fun _ : Unit => A0) (fun _ _ => ()) () () (fold_unit _) (passes_of rfl) (jirN (n := n) (jacons (jvar 1 rfl) janil) Tx.range hn9) (by (repeat' (first | exact Wk.nil | refine Wk.same ?_ | refine Wk.drop ?_))) (pg_name scBack.nd rfl (by first | exact Or.inl rfl | exact Or.inr rfl)) (fun _ _ => trivial) (fun pre u post hx => ?turn2))
    (jcons (jfor0F (wrongs n) (fun d => d) (.n 9) (fun _ : Unit => A0) (fun _ _ => ()) () () (fold_unit _) (passes_of rfl) (jil (jlst (jacons (jneg jint) (jacons (jvar 1 rfl) (jacons jbl (jacons jnon janil)))))) (by (repeat' (first | exact Wk.nil | refine Wk.same ?_ | refine Wk.drop ?_))) (pg_name scBack.nd rfl (by first | exact Or.inl rfl | exact Or.inr rfl)) (fun _ _ => trivial) (fun pre d post hx => ?turn3))
    (jlast (jret jbl)))))), rfl, rfl⟩
  case turn1 =>
    have hp : p ∈ nextM m n := by rw [hx]; simp
    have hs : p ∈ stepsM m n := (List.mem_filter.mp hp).1
    have tr := rem_tab t p
    have br := ordM_obs tr
    obtain ⟨r1, r2⟩ := rem_run t hp
    have hz : (ordM n (remM m n p)).st.length ≤ 100000 := by rw [br.st]; exact Nat.le_trans (stepsM_len tr.n16) (by decide)
    have hab : (ordM n (remM m n p)).ab.length ≤ 100000 := by rw [br.abl]; exact hn9
    have e1 : (!decide ((ordM n (remM m n p)).st = lessM m n p)) = false := by rw [br.st, rem_steps t hp]; simp
    have e2 : (!decide ((((ordM n (remM m n p)).ab.length : Nat) : Int) = (n : Int))) = false := by rw [br.abl]; simp
    have e3 : (!decide (p ∈ singleM (remM m n p) n)) = false := by simp [r1]
    have e4 : (!decide ([p] = [p])) = false := by simp
    exact ⟨_, jcons (jset 5 (jcall F5 (hr.mono (by decide)) m5 k5 b5 (jacons (jvar 0 rfl) (jacons (jixT (ds := [.int p.1, .int p.2]) (jvar 4 rfl) jint rfl) (jacons (jixT (ds := [.int p.1, .int p.2]) (jvar 4 rfl) jint rfl) janil))) (untied_at t hp)) scBack.nd)
      (jcons (jif (c := false) (o1 := .nx []) (PW.pt (jtOr (c := false) (c' := false) (jtC (jtneLP (l := (ordM n (remM m n p)).st) (m := lessM m n p) hr.u64 (jfrz (jlistOrd L (hr.mono (by decide)) Tx.list (jacons (jvar 5 rfl) janil) hz hab))
          (jfrz (jlcQ (stepsM m n) prD (.n 6) [("_law_one", 6)] (fun q => !decide (q = p)) prD ((lessM m n p).map prD) rfl scBack.nd (jil (jfrz (jcall F2 (hr.mono (by decide)) m2 k2 b2 (jacons (jvar 2 rfl) janil) (steps_at t)))) (blkOk_by (by show blkC nBack (defScope sBack) _ _ = true; decide +kernel)) (fun s H C cl fp => pg_name scBack.nd rfl (by first | exact Or.inl rfl | exact Or.inr rfl)) (fun _ _ => trivial) (Nat.le_trans (stepsM_len t.n16) (by decide))
            (fun q hq => ⟨fun Γ s H C cl fp => jts1 (jtnePr (p := q) (q := p) (by exact hr.u64) (jvar 6 rfl) (jvar 4 rfl)), fun _ Γ s H C cl fp => jvar 6 rfl⟩)))) e1)
          (fun _ => jwC (jtOr1 (jtneI (jlenOrd L (hr.mono (by decide)) Tx.len (jacons (jvar 5 rfl) janil) hab) (jvar 1 rfl))) e2))) (fun z => by cases z) (fun _ => jnil))
      (jlast (jif (c := false) (o1 := .nx []) (PW.pt (jtOr (c := false) (c' := false) (jtC (jtniTP (p := p) (l := singleM (remM m n p) n) hr.u65 (jvar 4 rfl) (jcall F4 (hr.mono (by decide)) m4 k4 b4 (jacons (jvar 5 rfl) janil) (singles_at tr))) e3)
          (fun _ => jwC (jtOr1 (jtneLP (l := [p]) (m := [p]) hr.u64 (jfrz (jcall F1 (hr.mono (by decide)) m1 k1 b1 (jacons (jvar 5 rfl) (jacons (jvar 0 rfl) janil)) (path_at tr t (rem_sub t hp) r2 (Nat.le_of_ble_eq_true rfl)))) (jlst (jacons (jvar 4 rfl) janil)))) e4))) (fun z => by cases z) (fun _ => jnil)))), by (repeat' (first | exact Wk.nil | refine Wk.same ?_ | refine Wk.drop ?_))⟩
  case turn2 =>
    have hum : u ∈ rng 0 n := by rw [hx]; simp
    have hu : In n u := in_rng.mp hum
    refine ⟨_, jlast (jfor0F (rng 0 n) D.int (.n 8) (fun _ : Unit => A0.set 7 (some (.sh (.int u)))) (fun _ _ => ()) () () (fold_unit _) (passes_of rfl) (jirN (n := n) (jacons (jvar 1 rfl) janil) Tx.range hn9) (by (repeat' (first | exact Wk.nil | refine Wk.same ?_ | refine Wk.drop ?_))) (pg_name scBack.nd rfl (by first | exact Or.inl rfl | exact Or.inr rfl)) (fun _ _ => trivial) (fun pre v post hy => ?turn4)), by (repeat' (first | exact Wk.nil | refine Wk.same ?_ | refine Wk.drop ?_))⟩
    have hvm : v ∈ rng 0 n := by rw [hy]; simp
    have hv : In n v := in_rng.mp hvm
    refine ⟨_, jlast (jifB (c := !decide ((u, v) ∈ nextM m n) && decide ((u + v) % 2 = 0)) (B := A0.set 7 (some (.sh (.int u)))) (PW.pt (jtAnd (jtniLP (p := (u, v)) (l := nextM m n) hr.u65 (jtup (jacons (jvar 7 rfl) (jacons (jvar 8 rfl) janil))) (jvar 3 rfl)) (fun _ => jtAnd1 (jteqI (jmod (jintI Tx.int (jacons (jadd (jvar 7 rfl) (jvar 8 rfl)) janil) (hp := fun h => pe_callTy call_int1 (by rfl) Tx.int (by decide +kernel) h)) jint (by decide)) jint))))
      (fun hc => ⟨_, jlast (jif (c := false) (o1 := .nx []) (jtC (jtneD hr.u64 (jcall F6 (hr.mono (by decide)) m6 k6 b6 (jacons (jvar 0 rfl) (jacons jnon (jacons (jvar 7 rfl) (jacons (jvar 8 rfl) (jacons jint janil))))) (ref_at t (.int u) (.int v) ?ans)) (jtup (jacons jstr (jacons (jvar 7 rfl) (jacons (jvar 8 rfl) (jacons jbl (jacons jbl janil)))))) (cmp_why (x := "NotOpen") (i := u) (j := v) (by decide +kernel)) (cmp_why (x := "NotOpen") (i := u) (j := v) (by decide +kernel))) ?eq) (fun z => by cases z) (fun _ => jnil)), by (repeat' (first | exact Wk.nil | refine Wk.same ?_ | refine Wk.drop ?_))⟩) (fun _ => ⟨_, jnil, by (repeat' (first | exact Wk.nil | refine Wk.same ?_ | refine Wk.drop ?_))⟩)), Wk.refl _⟩
    case ans =>
      have hn : (u, v) ∉ nextM m n := by
        rw [Bool.and_eq_true] at hc
        simpa using hc.1
      show Ask.ans _ = why "NotOpen" (.int u) (.int v)
      dsimp only [Ask.ans]
      rw [(ordM_obs t).num, if_neg (by rw [isP_in hu]; decide), if_neg (by rw [isP_in hv]; decide), if_neg (by rw [nextSteps_tab (ordM_obs t)]; exact hn)]
    case eq => exact congrArg (fun b => !b) (deq_refl_why "NotOpen" u v)
  case turn3 =>
    have hdm : d ∈ wrongs n := by rw [hx]; simp
    obtain ⟨sd, pd⟩ := wrong_ok hdm
    have z0 : In n 0 := ⟨by omega, by have := t.n1; omega⟩
    have a1 : (Ask.unt (ordM n m) d d).ans = why "BadPlace" (.str "u") (.int 0) := by
      dsimp only [Ask.ans]
      rw [(ordM_obs t).num, if_pos pd]
    have a2 : (Ask.unt (ordM n m) (.int 0) d).ans = why "BadPlace" (.str "v") (.int 0) := by
      dsimp only [Ask.ans]
      rw [(ordM_obs t).num, if_neg (by rw [isP_in z0]; decide), if_pos pd]
    exact ⟨_, jcons (jif (c := false) (o1 := .nx []) (jtC (jtneD hr.u64 (jcall F6 (hr.mono (by decide)) m6 k6 b6 (jacons (jvar 0 rfl) (jacons jnon (jacons (jvar 9 rfl) (jacons (jvar 9 rfl) (jacons jint janil))))) (ref_at t sd sd a1)) (jtup (jacons jstr (jacons jstr (jacons jint (jacons jbl (jacons jbl janil)))))) (cmp_whyS (by decide +kernel) (by decide +kernel)) (cmp_whyS (by decide +kernel) (by decide +kernel))) (congrArg (fun b => !b) (deq_refl_whyS "BadPlace" "u" 0))) (fun z => by cases z) (fun _ => jnil))
      (jlast (jif (c := false) (o1 := .nx []) (jtC (jtneD hr.u64 (jcall F6 (hr.mono (by decide)) m6 k6 b6 (jacons (jvar 0 rfl) (jacons jnon (jacons jint (jacons (jvar 9 rfl) (jacons jint janil))))) (ref_at t (.int 0) sd a2)) (jtup (jacons jstr (jacons jstr (jacons jint (jacons jbl (jacons jbl janil)))))) (cmp_whyS (by decide +kernel) (by decide +kernel)) (cmp_whyS (by decide +kernel) (by decide +kernel))) (congrArg (fun b => !b) (deq_refl_whyS "BadPlace" "v" 0))) (fun z => by cases z) (fun _ => jnil))), by (repeat' (first | exact Wk.nil | refine Wk.same ?_ | refine Wk.drop ?_))⟩
end
end Y
namespace Y
open PySem L2 J
/-! ### steps that rise -/
theorem rise_pos {sts : List Pr} (h : ∀ p ∈ sts, p.1 < p.2) {x y : Int} (k : Psv sts x y) : x < y := by
  have key : ∀ {x y : Int}, Pth sts x y → x ≤ y := fun k => by
    induction k with
    | refl => exact Int.le_refl _
    | step _ m ih => exact Int.le_trans ih (Int.le_of_lt (h _ m))
  obtain ⟨z, k1, k2⟩ := k
  exact Int.lt_of_le_of_lt (key k1) (h _ k2)
theorem rise_acy {sts : List Pr} (h : ∀ p ∈ sts, p.1 < p.2) : Acy sts := fun x k => by have := rise_pos h k; omega
def sts9 : List Pr := (rng 0 8).map fun k => (k, k + 1)
theorem sts9_S : InS 9 sts9 := fun p hp => by
  obtain ⟨k, hk, rfl⟩ := List.mem_map.mp hp
  have := mem_rng.mp hk
  dsimp only; omega
theorem sts9_acy : Acy sts9 := rise_acy fun p hp => by
  obtain ⟨k, hk, rfl⟩ := List.mem_map.mp hp
  dsimp only; omega
def g9 : List (List Bool) := closedM 9 sts9
def e9 : List (List Bool) := closedM 9 []
theorem g9_tab : Tab 9 g9 := closed_tab (by decide) (by decide) sts9_S sts9_acy
theorem e9_S : InS 9 [] := fun p hp => by cases hp
theorem e9_acy : Acy [] := fun x ⟨z, _, k⟩ => by cases k
theorem e9_tab : Tab 9 e9 := closed_tab (by decide) (by decide) e9_S e9_acy
theorem e9_sub : Sub 9 e9 g9 := fun x y hx hy h => by
  obtain ⟨z, _, k⟩ := (cell_closed e9_S hx hy).mp h
  cases k
theorem g9_len : (stepsM g9 9).length = 36 := by decide +kernel
theorem e9_len : (stepsM e9 9).length = 0 := by decide +kernel
section
variable {P : Program} {w : World} {K : PySem.W.Frag} {mg : Str → Option Value} {base : Heap} {C CB CO CN CH CM : Addr}
/-- the class at C, made with its default -/
structure NmD (P : Program) (w : World) (K : PySem.W.Frag) (mg : Str → Option Value) (base : Heap) (C : Addr) : Prop where
  ex : ∃ fi fd dv a, Mk K C fi ∧ FnOk P w K mg base (L2.CX P w) 5 fi fd ["self", "size", "steps"] (spInit K C) ∧ Binds K fd ["self", "size", "steps"] [dv] ∧ Vals [V.ref a] [dv] ∧ ∀ S, SqT K S a []
theorem initD_at {n : Int} (h : preO n []) : ∀ p vs H Q E, spJ K (.oi p C [] :: ([D.int n] ++ [D.tup []]).map Sl.sh) (.ok (.sh .non, some (.oi p C (mkO n []).fs) :: (fun _ : Addr => [none, none]) p)) vs H Q E → spInit K C vs H Q E := fun p => spF_at (p, n, false, []) h rfl rfl
theorem make_at {n : Nat} {sts : List Pr} {ds : List D} (h1 : 1 ≤ n) (h16 : n ≤ 16) (hin : InS n sts) (hz : sts.length ≤ 1000) (ac : Acy sts) (e : ds = [.int n, .lst (sts.map prD)]) : ∀ p vs H Q E, spJ K (.oi p C [] :: (ds ++ []).map Sl.sh) (.ok (.sh .non, some (.oi p C (ordM n (closedM n sts)).fs) :: (fun _ : Addr => [none, none]) p)) vs H Q E → spInit K C vs H Q E := by
  rw [ordM_closed h1 h16 hin ac]
  exact init_at (b := true) (pre_of h1 h16 hin hz ac) e
theorem openL_at {n : Nat} {m : List (List Bool)} (t : Tab n m) : ∀ vs H Q E, spJ K [.sh (.int (n : Nat)), .sh (mD m)] (.ok (.ol none ((openM m n).map prD), [none, none])) vs H Q E → spOpenL K vs H Q E := spF_at (m, n) (And.intro t.sq t.n16) rfl rfl
/-! _law_large -/
abbrev sLarge : Stmt := top t__law_large
abbrev nLarge : List Str := ["_law_goal", "_law_k", "_law_path", "_law_below", "_law_tie", "_law_steps_here"]
theorem scLarge : FnScope nLarge [] (defScope sLarge) := ⟨rfl, rfl, rfl, by decide +kernel, rfl, by decide +kernel, by decide +kernel⟩
abbrev spLarge (K : PySem.W.Frag) : Sp := spF K (fun _ : Unit => True) (fun _ => []) (fun _ => .ok (.sh (.bl true), []))
theorem ok_large {f : Addr} {fd : FuncData} (F : Fun K "_law_large" "_law_large" sLarge f fd) (Tx : Txt mg) (hC : OrdC K C) (L : OrdL P w K mg base C) (nK : NmC P w K mg base C) (nD : NmD P w K mg base C) (nP : Nm P w K mg base "tie_path" ["order", "other"] 8 (spPath K C CO CH)) (nS : Nm P w K mg base "_law_steps" ["_law_below"] 1 (spSteps K))
    (nC : Nm P w K mg base "_law_closed" ["_law_size", "_law_steps_here"] 1 (spClosed K)) (nO : Nm P w K mg base "_law_open" ["_law_size", "_law_below"] 2 (spOpenL K)) :
    FnOk P w K mg base (L2.CX P w) 9 f fd [] (spLarge K) := by
  obtain ⟨f1, fd1, F1, m1, k1, b1⟩ := nP.ex
  obtain ⟨f2, fd2, F2, m2, k2, b2⟩ := nS.ex
  obtain ⟨f3, fd3, F3, m3, k3, b3⟩ := nC.ex
  obtain ⟨f4, fd4, F4, m4, k4, b4⟩ := nO.ex
  obtain ⟨fi, fdi, Mi, Fi, bi⟩ := nK.ex
  obtain ⟨fj, fdj, dv, a, Mj, Fj, bj, vj, hq⟩ := nD.ex
  refine jd F scLarge _ _ _ (fun _ => rfl) (fun i hd cdv A outer s H E Γ hr tk => ?_)
  have t := e9_tab
  have tg := g9_tab
  obtain ⟨ps, r, hps⟩ := run_ex tg 36 e9 t e9_sub (by rw [g9_len, e9_len])
  have bg := ordM_obs tg
  have hz : (ordM 9 g9).st.length ≤ 100000 := by rw [bg.st, g9_len]; decide
  have hab : (ordM 9 g9).ab.length ≤ 100000 := by rw [bg.abl]; decide
  have e6 : (!decide (((ps.map prD).length : Int) = 36)) = false := by rw [List.length_map, hps]; rfl
  let Af : List (List Bool) → Slots := fun h => [some (.sh ((ordM 9 g9).d C)), none, some (.sh (.lst (ps.map prD))), some (.sh (mD h)), none, none]
  refine ⟨_, jcons (jset 0 (jmake (gs := (ordM 9 g9).fs) Mi Fi (hr.mono (by decide)) nK.gl bi .nil (fun _ => .nil) (jacons jint (jacons (jfrz (jlcQ (rng 0 8) D.int (.n 1) [("_law_k", 1)] (fun _ => true) (fun k => prD (k, k + 1)) (sts9.map prD) (inn_map _ _ _) scLarge.nd (jir1 (jacons jint janil) Tx.range (by decide)) (blkOk_by (by show blkC nLarge (defScope sLarge) _ _ = true; decide +kernel)) (fun s H C cl fp => pg_name scLarge.nd rfl (by first | exact Or.inl rfl | exact Or.inr rfl)) (fun _ _ => trivial) (by decide)
      (fun k hk => ⟨fun Γ s H C cl fp => jts0, fun _ Γ s H C cl fp => jtup (jacons (jvar 1 rfl) (jacons (jadd (jvar 1 rfl) jint) janil))⟩))) janil)) (make_at (n := 9) (by decide) (by decide) sts9_S (by decide) sts9_acy rfl)) scLarge.nd)
    (jcons (jset 2 (jcall F1 (hr.mono (by decide)) m1 k1 b1 (jacons (jmake (gs := (ordM 9 e9).fs) Mj Fj (hr.mono (by decide)) nK.gl bj vj (fun S => .cons (.tup (hq S) .nil) .nil) (jacons jint janil) (by rw [show ordM 9 e9 = mkO 9 [] from ordM_closed (by decide) (by decide) e9_S e9_acy]; exact initD_at (pre_of (n := 9) (by decide) (by decide) e9_S (by decide) e9_acy))) (jacons (jvar 0 rfl) janil)) (path_at t tg e9_sub r (by rw [hps]; decide))) scLarge.nd)
    (jfzS 2 rfl (jcons (jif (c := false) (o1 := .nx []) (PW.pt (jtOr (c := false) (c' := false) (jtNot (c := true) (jtB (jisi (d := .lst (ps.map prD)) (t := "list") (T1 := "list") (jvar 2 rfl) rfl (by decide +kernel) Tx.isin Tx.list)))
        (fun _ => jwC (jtOr1 (jtneI (jlenL Tx.len (jacons (jvar 2 rfl) janil) (fun h => pe_callB call_len_seq (by rfl) Tx.len PySem.boot_len h)) jint)) e6))) (fun z => by cases z) (fun _ => jnil))
    (jcons (jset 3 (jcall F3 (hr.mono (by decide)) m3 k3 b3 (jacons jint (jacons (jlst janil) janil)) (spF_at ((9, []) : Nat × List Pr) (And.intro (by decide) (And.intro (by decide) fun p hp => by cases hp)) rfl rfl)) scLarge.nd)
    (jcons (jfor0F ps prD (.n 4) Af (fun h q => grownM h 9 q) e9 g9 (run_end ps r) (passes_of rfl) (jil (jvar 2 rfl)) (by (repeat' (first | exact Wk.nil | refine Wk.same ?_ | refine Wk.drop ?_))) (pg_name scLarge.nd rfl (by first | exact Or.inl rfl | exact Or.inr rfl)) (fun _ _ => trivial) (fun pre p post hx => ?turn))
    (jlast (jret (jeC (d := .bl (decide (stepsM g9 9 = (ordM 9 g9).st))) (d' := .bl true) (A1 := Af g9) (jeqLP (l := stepsM g9 9) (m := (ordM 9 g9).st) hr.u64 (jfrz (jcall F2 (hr.mono (by decide)) m2 k2 b2 (jacons (jvar 3 rfl) janil) (steps_at tg))) (jfrz (jlistOrd L (hr.mono (by decide)) Tx.list (jacons (jvar 0 rfl) janil) hz hab))) (by rw [bg.st]; simp))))))))), rfl, rfl⟩
  rw [hx] at r
  obtain ⟨th, s1, s2, hp, hpg⟩ := run_at tg pre r t e9_sub
  generalize pre.foldl (fun h q => grownM h 9 q) e9 = h at th s1 s2 hp
  have ho := single_open hp
  have tn := grown_tab th ho
  have hs256 : (stepsM h 9).length ≤ 256 := stepsM_len th.n16
  have e1 : (!decide (p ∈ openM h 9)) = false := by simp [ho]
  have e2 : (!decide ((((stepsM (grownM h 9 p) 9).map prD).length : Int) = (((stepsM h 9).map prD).length : Int) + 1)) = false := by
    rw [List.length_map, List.length_map, single_len hp]; simp
  exact ⟨_, jcons (jset 5 (jcall F2 (hr.mono (by decide)) m2 k2 b2 (jacons (jvar 3 rfl) janil) (steps_at th)) scLarge.nd)
    (jfzS 5 rfl (jcons (jif (c := false) (o1 := .nx []) (PW.pt (jtOr (c := false) (c' := false) (jtNot (c := true) (jtB (jisi (d := prD p) (t := "tuple") (T1 := "tuple") (jvar 4 rfl) rfl (by decide +kernel) Tx.isin Tx.tuple)))
        (fun _ => jwC (jtOr1 (jtniLP (p := p) (l := openM h 9) hr.u65 (jvar 4 rfl) (jfrz (jcall F4 (hr.mono (by decide)) m4 k4 b4 (jacons jint (jacons (jvar 3 rfl) janil)) (openL_at th))))) e1))) (fun z => by cases z) (fun _ => jnil))
    (jcons (jset 3 (jcall F3 (hr.mono (by decide)) m3 k3 b3 (jacons jint (jacons (jfrz (jcatL (ds := (stepsM h 9).map prD) (ds1 := [prD p]) (jvar 5 rfl) (jlst (jacons (jvar 4 rfl) janil)) (by rw [List.length_map]; exact Nat.le_trans (Nat.add_le_add_right hs256 1) (by decide)))) janil)) (closed_at th ho)) scLarge.nd)
    (jlast (jif (c := false) (o1 := .nx []) (jtC (jtneI (jlenL Tx.len (jacons (jfrz (jcall F2 (hr.mono (by decide)) m2 k2 b2 (jacons (jvar 3 rfl) janil) (steps_at tn))) janil) (fun h => pe_callB call_len_seq (by rfl) Tx.len PySem.boot_len h)) (jadd (jlenL Tx.len (jacons (jvar 5 rfl) janil) (fun h => pe_callB call_len_seq (by rfl) Tx.len PySem.boot_len h)) jint)) e2) (fun z => by cases z) (fun _ => jnil)))))), by (repeat' (first | exact Wk.nil | refine Wk.same ?_ | refine Wk.drop ?_))⟩
end
end Y
namespace J
open PySem L2
section
variable {X : Cx} {Γ : En} {W : WX} {A A1 : Slots} {tgt iter elt : Expr} {ifs : List Expr} {scope : Scope} {pos spos : Pos} {y : Str}
theorem jlcE {α τ : Type} (xs : List α) (enc : α → D) (tg : Tg) (own : List (Str × Nat)) (Af : τ → Slots) (f : τ → α → Option D × τ) (s0 : τ) (L : List D) (sF : τ) (e : lcs f xs s0 = (L, sF)) (hN : X.N.Nodup) (hi : PI X tgt iter (JI X.K Γ A (xs.map enc) A1)) (hA : Wk A1 (Af s0)) (ok : BlkOk X.N X.env.scope scope own)
    (hg : blkP X scope fun Y => PG Y tgt (tg.g X.K)) (hl9 : ∀ s, (Af s).length ≤ 900) (hix : ∀ i ∈ tg.ix, i ∈ own.map (·.2)) (hf : ∀ x ∈ xs, tg.fit (enc x)) (hz : xs.length ≤ 100000)
    (hb : ∀ pre x post s, xs = pre ++ x :: post → (lcs f pre s0).2 = s → LcT (blkP X scope) X.K Af (own.map (·.2)) ifs elt (tg.sl (wipeA (Af s) (own.map (·.2))) (enc x)) (f s x)) (hc : X.calm = true := by rfl) (hs : ∀ x, foldedSetIterable iter X.env x = pure x := by intro _; rfl) :
    PE X (.ListComp elt [⟨tgt, iter, ifs, 0⟩] scope pos) (JE X.K Γ A (.ol none L) (wipeA (Af sF) (own.map (·.2)))) := by
  have q := jlc (pos := pos) xs enc tg own Af f s0 hN hi hA ok hg hl9 hix hf hz hb hc hs
  rw [e] at q; exact q
theorem jsetLcE {α τ : Type} (n : Nat) {py : Pos} (xs : List α) (enc : α → D) (tg : Tg) (own : List (Str × Nat)) (Af : τ → Slots) (f : τ → α → Option D × τ) (s0 : τ) (L : List D) (sF : τ) (e : lcs f xs s0 = (L, sF)) (hN : X.N.Nodup) (hi : PI X tgt iter (JI X.K Γ A (xs.map enc) A1)) (hA : Wk A1 (Af s0)) (ok : BlkOk X.N X.env.scope scope own)
    (hg : blkP X scope fun Y => PG Y tgt (tg.g X.K)) (hl9 : ∀ s, (Af s).length ≤ 900) (hix : ∀ i ∈ tg.ix, i ∈ own.map (·.2)) (hf : ∀ x ∈ xs, tg.fit (enc x)) (hz : xs.length ≤ 100000)
    (hb : ∀ pre x post s, xs = pre ++ x :: post → (lcs f pre s0).2 = s → LcT (blkP X scope) X.K Af (own.map (·.2)) ifs elt (tg.sl (wipeA (Af s) (own.map (·.2))) (enc x)) (f s x)) (hn : n < (Af sF).length)
    (hyl : X.env.scope.names.lookup y = some .local := by rfl) (hy : X.N[n]? = some y := by rfl) (hsw : swapsWith (.ListComp elt [⟨tgt, iter, ifs, 0⟩] scope pos) (some (.Name y py)) spos.line X.env = pure true := by rfl) (hc : X.calm = true := by rfl) (hs : ∀ x, foldedSetIterable iter X.env x = pure x := by intro _; rfl) :
    PS X (.Assign [.Name y py] (.ListComp elt [⟨tgt, iter, ifs, 0⟩] scope pos) spos) (JS X.K Γ W A (.nx ((wipeA (Af sF) (own.map (·.2))).set n (some (.ol none L))))) := by
  have q := jsetLc (W := W) (py := py) (pos := pos) (spos := spos) n xs enc tg own Af f s0 hN hi hA ok hg hl9 hix hf hz hb (by rw [e]; exact hn) hyl hy hsw hc hs
  rw [e] at q; exact q
/-- one element, no test: the element may change the slots -/
theorem lcT_el {τ : Type} {P : (Cx → Prop) → Prop} {K : PySem.W.Frag} {Af : τ → Slots} {vs : List Nat} {A0 B2 : Slots} {d : D} {s' : τ} (h0 : ∀ Γ, P fun Y => PTs Y [] (JT K Γ A0 true A0)) (l0 : A0.length ≤ 900) (h : ∀ Γ, P fun Y => PE Y elt (JE K Γ A0 (.sh d) B2)) (l2 : B2.length ≤ 900) (w : Wk B2 (wipeA (Af s') vs)) : LcT P K Af vs [] elt A0 (some d, s') :=
  ⟨⟨true, A0, h0, l0, (fun z => by cases z), fun _ => ⟨d, B2, h, l2, rfl, w⟩⟩⟩
end
end J
namespace Y
open PySem L2 J
section
variable {P : Program} {w : World} {K : PySem.W.Frag} {mg : Str → Option Value} {base : Heap} {C CB CO CN CH CM : Addr}
/-! _law_drawn_steps -/
def takeN (g : Int → Int) (m : Int) : Nat → List Int → List Int × List Int
  | 0, s => ([], s)
  | k + 1, s => (g (take s m).1 :: (takeN g m k (take s m).2).1, (takeN g m k (take s m).2).2)
theorem takeN_len (g : Int → Int) (m : Int) : ∀ (k : Nat) (s : List Int), (takeN g m k s).1.length = k
  | 0, _ => rfl
  | k + 1, s => by show (takeN g m k _).1.length + 1 = _; rw [takeN_len g m k]
abbrev lcf (g : Int → Int) (m : Int) : List Int → Int → Option D × List Int := fun s _ => (some (.int (g (take s m).1)), (take s m).2)
theorem lcs_take (g : Int → Int) (m : Int) : ∀ (xs : List Int) (s : List Int), lcs (lcf g m) xs s = ((takeN g m xs.length s).1.map .int, (takeN g m xs.length s).2)
  | [], _ => rfl
  | x :: xs, s => by
    rw [lcs_cons]
    show (D.int (g (take s m).1) :: (lcs (lcf g m) xs (take s m).2).1, (lcs (lcf g m) xs (take s m).2).2) = _
    rw [lcs_take g m xs]; rfl
def told1 (w : Int) (mk : List Int) (u v : Int) (t : Bool) : Bool := if decide (w = 5) = true then decide (gI mk u < gI mk v) else t
def told2 (w : Int) (sd : List Int) (u v : Int) (t : Bool) : Bool := if decide (w = 6) = true then (decide (gI sd u = gI sd v) || (t && decide (u + 1 < v))) else t
def told3 (w : Int) (jp : List Int) (u v : Int) (t : Bool) : Bool := if decide (w = 7) = true then decide (v = u + gI jp u) else t
def toldB (w : Int) (mk sd jp : List Int) (u v : Int) (t : Bool) : Bool := told3 w jp u v (told2 w sd u v (told1 w mk u v t))
def stp (w : Int) (mk sd jp : List Int) (u : Int) (st : List Int × List Pr) (v : Int) : List Int × List Pr :=
  ((take st.1 5).2, if toldB w mk sd jp u v (decide ((take st.1 5).1 < 2)) = true then st.2 ++ [(u, v)] else st.2)
def rowD (w : Int) (mk sd jp : List Int) (n : Nat) (st : List Int × List Pr) (u : Int) : List Int × List Pr := (rng (u + 1) ((n : Int) - (u + 1)).toNat).foldl (stp w mk sd jp u) st
def dsteps (n : Nat) (bag : List Int) : List Int × List Pr :=
  let a := take bag 8
  let b := takeN id 3 n a.2
  let c := takeN id 2 n b.2
  let d := takeN (fun i => 1 + i) 3 n c.2
  (rng 0 n).foldl (rowD a.1 (srt b.1) c.1 d.1 n) (d.2, [])
theorem fold_grow {α β : Type} {f : List Int × List β → α → List Int × List β} {k : Nat} (h : ∀ s x, (f s x).2.length ≤ s.2.length + k) : ∀ (l : List α) (s : List Int × List β), (l.foldl f s).2.length ≤ s.2.length + l.length * k
  | [], s => by simp
  | x :: l, s => by
    rw [List.foldl_cons]
    have h1 := fold_grow h l (f s x)
    have h2 := h s x
    rw [List.length_cons, Nat.add_mul]
    omega
theorem stp_grow (w : Int) (mk sd jp : List Int) (u : Int) (st : List Int × List Pr) (v : Int) : (stp w mk sd jp u st v).2.length ≤ st.2.length + 1 := by
  unfold stp
  dsimp only
  split
  · rw [List.length_append]; simp
  · omega
theorem rowD_grow {w : Int} {mk sd jp : List Int} {n : Nat} (hn : n ≤ 16) {u : Int} (hu : 0 ≤ u) (st : List Int × List Pr) : (rowD w mk sd jp n st u).2.length ≤ st.2.length + 16 := by
  have := fold_grow (stp_grow w mk sd jp u) (rng (u + 1) ((n : Int) - (u + 1)).toNat) st
  rw [rng_len] at this
  unfold rowD
  omega
abbrev sDraw : Stmt := top t__law_drawn_steps
abbrev nDraw : List Str := ["_law_bag", "_law_size", "_law_word", "_law_marks", "_law_x", "_law_sides", "_law_jumps", "_law_steps_here", "_law_u", "_law_v", "_law_told"]
theorem scDraw : FnScope nDraw ["_law_bag", "_law_size"] (defScope sDraw) := ⟨rfl, rfl, rfl, by decide +kernel, rfl, by decide +kernel, by decide +kernel⟩
abbrev spDraw (K : PySem.W.Frag) : Sp := spF K (fun i : Addr × List Int × Nat => i.2.2 ≤ 16) (fun i => [.ol (some i.1) (i.2.1.map .int), .sh (.int (i.2.2 : Nat))]) (fun i => .ok (.ol none ((dsteps i.2.2 i.2.1).2.map prD), [some (.ol (some i.1) ((dsteps i.2.2 i.2.1).1.map .int)), none]))
theorem take_at {bag : List Int} {m : Int} : ∀ p vs H Q E, spJ K (.ol (some p) (bag.map .int) :: ([.int m] : List D).map Sl.sh) (.ok (.sh (.int (take bag m).1), some (.ol (some p) ((take bag m).2.map .int)) :: (fun _ : Addr => [none]) p)) vs H Q E → spTake K vs H Q E := fun p => spF_at (p, bag, m) trivial rfl rfl
theorem ok_drawn {f : Addr} {fd : FuncData} (F : Fun K "_law_drawn_steps" "_law_drawn_steps" sDraw f fd) (Tx : Txt mg) (nT : Nm P w K mg base "_law_take" ["_law_bag", "_law_many"] 1 (spTake K)) : FnOk P w K mg base (L2.CX P w) 2 f fd ["_law_bag", "_law_size"] (spDraw K) := by
  obtain ⟨f1, fd1, F1, m1, k1, b1⟩ := nT.ex
  refine jd F scDraw _ _ _ (fun _ => rfl) (fun i hd cdv A outer s H E Γ hr tk => ?_)
  obtain ⟨q, bag, n⟩ := i
  have hn : n ≤ 16 := hd
  have hn9 : n ≤ 100000 := by omega
  have el : (rng 0 n).length = n := rng_len 0 n
  generalize ha : take bag 8 = a
  obtain ⟨wd, s1⟩ := a
  generalize hb : takeN id 3 n s1 = b
  obtain ⟨mk, s2⟩ := b
  generalize hc : takeN id 2 n s2 = c
  obtain ⟨sd, s3⟩ := c
  generalize hj : takeN (fun i => 1 + i) 3 n s3 = d
  obtain ⟨jp, s4⟩ := d
  have lmk : mk.length = n := by have := takeN_len id 3 n s1; rw [hb] at this; exact this
  have lsd : sd.length = n := by have := takeN_len id 2 n s2; rw [hc] at this; exact this
  have ljp : jp.length = n := by have := takeN_len (fun i => 1 + i) 3 n s3; rw [hj] at this; exact this
  have lb : lcs (lcf id 3) (rng 0 n) s1 = (mk.map .int, s2) := by rw [lcs_take, el, hb]
  have lc : lcs (lcf id 2) (rng 0 n) s2 = (sd.map .int, s3) := by rw [lcs_take, el, hc]
  have lj : lcs (lcf (fun i => 1 + i) 3) (rng 0 n) s3 = (jp.map .int, s4) := by rw [lcs_take, el, hj]
  have hD : dsteps n bag = (rng 0 n).foldl (rowD wd (srt mk) sd jp n) (s4, []) := by
    unfold dsteps
    rw [ha]
    dsimp only
    rw [hb]
    dsimp only
    rw [hc]
    dsimp only
    rw [hj]
  let B0 : List Int → Slots := fun s => [some (.ol (some q) (s.map .int)), some (.sh (.int (n : Nat))), some (.sh (.int wd)), none, none, none, none, none, none, none, none]
  let B1 : List Int → Slots := fun s => [some (.ol (some q) (s.map .int)), some (.sh (.int (n : Nat))), some (.sh (.int wd)), some (.ol none ((srt mk).map .int)), none, none, none, none, none, none, none]
  let B2 : List Int → Slots := fun s => [some (.ol (some q) (s.map .int)), some (.sh (.int (n : Nat))), some (.sh (.int wd)), some (.ol none ((srt mk).map .int)), none, some (.ol none (sd.map .int)), none, none, none, none, none]
  let Af : List Int × List Pr → Slots := fun st => [some (.ol (some q) (st.1.map .int)), some (.sh (.int (n : Nat))), some (.sh (.int wd)), some (.ol none ((srt mk).map .int)), none, some (.ol none (sd.map .int)), some (.ol none (jp.map .int)), some (.ol none (st.2.map prD)), none, none, none]
  have S1 : PS (cxOf (L2.CX P w) P w K mg base nDraw "_law_drawn_steps" (defScope sDraw) f cdv A outer s H E) ((defBody sDraw).getD 0 (.Pass ⟨0, 0, 0, 0⟩)) (JS K Γ (fun cls d _ H => E cls d H) (slots0 nDraw [.ol (some q) (bag.map .int), .sh (.int (n : Nat))]) (.nx (B0 s1))) := by
    have e : s1 = (take bag 8).2 := by rw [ha]
    have e2 : wd = (take bag 8).1 := by rw [ha]
    show PS _ _ (JS K Γ _ _ (.nx [some (.ol (some q) (s1.map .int)), some (.sh (.int (n : Nat))), some (.sh (.int wd)), none, none, none, none, none, none, none, none]))
    rw [e, e2]
    exact jset 2 (jcallO 0 F1 hr m1 k1 b1 rfl (jacons jint janil) rfl take_at) scDraw.nd
  have lsk : (srt mk).length = n := by rw [srt_len, lmk]
  show ∃ out, _ ∧ fin _ out = Except.ok (Sl.ol none ((dsteps n bag).2.map prD), [some (Sl.ol (some q) ((dsteps n bag).1.map .int)), none]) ∧ _
  rw [hD]
  generalize hF : (rng 0 n).foldl (rowD wd (srt mk) sd jp n) (s4, []) = fs
  have hlc : ∀ (pre : List Int) (x : Int) (post : List Int), rng 0 n = pre ++ x :: post → In n x := fun pre x post h => in_rng.mp (by rw [h]; simp)
  refine ⟨_, jcons S1
    (jcons (jset 3 (jsorted Tx.sorted (jacons (jfrz (jlcE (rng 0 n) D.int (.n 4) [("_law_x", 4)] B0 (lcf id 3) s1 (mk.map .int) s2 lb scDraw.nd (jirN (n := n) (jacons (jvar 1 rfl) janil) Tx.range hn9) (Wk.refl _) (blkOk_by (by show blkC nDraw (defScope sDraw) _ _ = true; decide +kernel)) (fun s H C cl fp => pg_name scDraw.nd rfl (by first | exact Or.inl rfl | exact Or.inr rfl)) (fun _ => Nat.le_of_ble_eq_true rfl) (by decide) (fun _ _ => trivial) (by rw [el]; exact hn9)
        (fun pre x post st hx _ => lcT_el (fun Γ s H C cl fp => jts0) (Nat.le_of_ble_eq_true rfl) (fun Γ s H C cl fp => jcallO 0 F1 hr m1 k1 b1 rfl (jacons jint janil) rfl take_at) (Nat.le_of_ble_eq_true rfl) (by (repeat' (first | exact Wk.nil | refine Wk.same ?_ | refine Wk.drop ?_)))))) janil) (by rw [lmk]; omega)) scDraw.nd)
    (jcons (jsetLcE 5 (rng 0 n) D.int (.n 4) [("_law_x", 4)] B1 (lcf id 2) s2 (sd.map .int) s3 lc scDraw.nd (jirN (n := n) (jacons (jvar 1 rfl) janil) Tx.range hn9) (by (repeat' (first | exact Wk.nil | refine Wk.same ?_ | refine Wk.drop ?_))) (blkOk_by (by show blkC nDraw (defScope sDraw) _ _ = true; decide +kernel)) (fun s H C cl fp => pg_name scDraw.nd rfl (by first | exact Or.inl rfl | exact Or.inr rfl)) (fun _ => Nat.le_of_ble_eq_true rfl) (by decide) (fun _ _ => trivial) (by rw [el]; exact hn9)
        (fun pre x post st hx _ => lcT_el (fun Γ s H C cl fp => jts0) (Nat.le_of_ble_eq_true rfl) (fun Γ s H C cl fp => jcallO 0 F1 hr m1 k1 b1 rfl (jacons jint janil) rfl take_at) (Nat.le_of_ble_eq_true rfl) (by (repeat' (first | exact Wk.nil | refine Wk.same ?_ | refine Wk.drop ?_)))) (Nat.le_of_ble_eq_true rfl))
    (jcons (jsetLcE 6 (rng 0 n) D.int (.n 4) [("_law_x", 4)] B2 (lcf (fun i => 1 + i) 3) s3 (jp.map .int) s4 lj scDraw.nd (jirN (n := n) (jacons (jvar 1 rfl) janil) Tx.range hn9) (by (repeat' (first | exact Wk.nil | refine Wk.same ?_ | refine Wk.drop ?_))) (blkOk_by (by show blkC nDraw (defScope sDraw) _ _ = true; decide +kernel)) (fun s H C cl fp => pg_name scDraw.nd rfl (by first | exact Or.inl rfl | exact Or.inr rfl)) (fun _ => Nat.le_of_ble_eq_true rfl) (by decide) (fun _ _ => trivial) (by rw [el]; exact hn9)
        (fun pre x post st hx _ => lcT_el (fun Γ s H C cl fp => jts0) (Nat.le_of_ble_eq_true rfl) (fun Γ s H C cl fp => jadd jint (jcallO 0 F1 hr m1 k1 b1 rfl (jacons jint janil) rfl take_at)) (Nat.le_of_ble_eq_true rfl) (by (repeat' (first | exact Wk.nil | refine Wk.same ?_ | refine Wk.drop ?_)))) (Nat.le_of_ble_eq_true rfl))
    (jcons (jset 7 (jlstO janil) scDraw.nd)
    (jcons (jfor0F (rng 0 n) D.int (.n 8) Af (rowD wd (srt mk) sd jp n) (s4, []) fs hF (passes_of rfl) (jirN (n := n) (jacons (jvar 1 rfl) janil) Tx.range hn9) (by (repeat' (first | exact Wk.nil | refine Wk.same ?_ | refine Wk.drop ?_))) (pg_name scDraw.nd rfl (by first | exact Or.inl rfl | exact Or.inr rfl)) (fun _ _ => trivial) (fun pre u post hx => ?turn))
    (jlast (jret (jhand 7 rfl)))))))), by show Except.ok (_, [keepP (.ol (some q) _) (some (.ol (some q) _)), _]) = _; rw [keepP_ol]; rfl, rfl⟩
  have hu := hlc pre u post hx
  have hpl : pre.length ≤ n := by
    have := congrArg List.length hx
    rw [rng_len, List.length_append, List.length_cons] at this
    omega
  have hpin : ∀ x ∈ pre, 0 ≤ x := fun x h => (mem_rng.mp (by rw [hx]; exact List.mem_append.mpr (.inl h) : x ∈ rng 0 n)).1
  have hg : ∀ (l : List Int) (st : List Int × List Pr), (∀ x ∈ l, 0 ≤ x) → (l.foldl (rowD wd (srt mk) sd jp n) st).2.length ≤ st.2.length + l.length * 16 := fun l => by
    induction l with
    | nil => intro st _; simp
    | cons x l ih =>
      intro st hl
      rw [List.foldl_cons]
      have h1 := ih (rowD wd (srt mk) sd jp n st x) fun y hy => hl y (List.mem_cons_of_mem _ hy)
      have h2 := rowD_grow (w := wd) (mk := srt mk) (sd := sd) (jp := jp) hn (hl x List.mem_cons_self) st
      rw [List.length_cons, Nat.add_mul]
      omega
  have hacc : (pre.foldl (rowD wd (srt mk) sd jp n) (s4, [])).2.length ≤ 256 := by
    have := hg pre (s4, []) hpin
    have h0 : (([] : List Pr)).length = 0 := rfl
    dsimp only at this
    rw [h0] at this
    omega
  generalize pre.foldl (rowD wd (srt mk) sd jp n) (s4, []) = st at hacc
  have hb2 : -(2 ^ 62) ≤ u + 1 ∧ u + 1 < 2 ^ 62 ∧ -(2 ^ 62) ≤ ((n : Nat) : Int) ∧ ((n : Nat) : Int) < 2 ^ 62 := by omega
  refine ⟨_, jlast (jfor0F (rng (u + 1) ((n : Int) - (u + 1)).toNat) D.int (.n 9) (fun t => (Af t).set 8 (some (.sh (.int u)))) (stp wd (srt mk) sd jp u) st (rowD wd (srt mk) sd jp n st u) rfl (passes_of rfl) (jir2 (jacons (jadd (jvar 8 rfl) jint) (jacons (jvar 1 rfl) janil)) Tx.range hb2) (by (repeat' (first | exact Wk.nil | refine Wk.same ?_ | refine Wk.drop ?_))) (pg_name scDraw.nd rfl (by first | exact Or.inl rfl | exact Or.inr rfl)) (fun _ _ => trivial) (fun pre2 v post2 hy => ?turn2)), by (repeat' (first | exact Wk.nil | refine Wk.same ?_ | refine Wk.drop ?_))⟩
  have hvm : v ∈ rng (u + 1) ((n : Int) - (u + 1)).toNat := by rw [hy]; simp
  have hv := mem_rng.mp hvm
  have hv' : In n v := by omega
  have hacc2 : (pre2.foldl (stp wd (srt mk) sd jp u) st).2.length ≤ 512 := by
    have h1 := fold_grow (stp_grow wd (srt mk) sd jp u) pre2 st
    have h2 : pre2.length ≤ 16 := by
      have := congrArg List.length hy
      rw [rng_len, List.length_append, List.length_cons] at this
      omega
    omega
  generalize pre2.foldl (stp wd (srt mk) sd jp u) st = st2 at hacc2
  obtain ⟨bg, acc⟩ := st2
  dsimp only at hacc2
  have a1 : atI ((srt mk).map D.int) u = some (D.int (gI (srt mk) u)) := atI_int hu.1 (by rw [lsk]; exact hu.2)
  have a2 : atI ((srt mk).map D.int) v = some (D.int (gI (srt mk) v)) := atI_int hv'.1 (by rw [lsk]; exact hv'.2)
  have a3 : atI (sd.map D.int) u = some (D.int (gI sd u)) := atI_int hu.1 (by rw [lsd]; exact hu.2)
  have a4 : atI (sd.map D.int) v = some (D.int (gI sd v)) := atI_int hv'.1 (by rw [lsd]; exact hv'.2)
  have a5 : atI (jp.map D.int) u = some (D.int (gI jp u)) := atI_int hu.1 (by rw [ljp]; exact hu.2)
  let t0 : Bool := decide ((take bg 5).1 < 2)
  let Bt : Bool → Slots := fun t => [some (.ol (some q) ((take bg 5).2.map .int)), some (.sh (.int (n : Nat))), some (.sh (.int wd)), some (.ol none ((srt mk).map .int)), none, some (.ol none (sd.map .int)), some (.ol none (jp.map .int)), some (.ol none (acc.map prD)), some (.sh (.int u)), some (.sh (.int v)), some (.sh (.bl t))]
  refine ⟨_, jcons (jset 10 (jlt (jcallO 0 F1 hr m1 k1 b1 rfl (jacons jint janil) rfl take_at) jint) scDraw.nd)
    (jcons (jifB (c := decide (wd = 5)) (B := Bt (told1 wd (srt mk) u v t0)) (jteqI (jvar 2 rfl) jint) (fun hc => ⟨_, jlast (jset 10 (jlt (jixO 3 rfl (jvar 8 rfl) rfl a1) (jixO 3 rfl (jvar 9 rfl) rfl a2)) scDraw.nd), by unfold Bt told1; rw [if_pos hc]; (repeat' (first | exact Wk.nil | refine Wk.same ?_ | refine Wk.drop ?_))⟩) (fun hc => ⟨_, jnil, by unfold Bt told1; rw [hc, if_neg (by decide)]; (repeat' (first | exact Wk.nil | refine Wk.same ?_ | refine Wk.drop ?_))⟩))
    (jcons (jifB (c := decide (wd = 6)) (B := Bt (told2 wd sd u v (told1 wd (srt mk) u v t0))) (jteqI (jvar 2 rfl) jint) (fun hc => ⟨_, jlast (jset 10 (jOr (jeqI (jixO 5 rfl (jvar 8 rfl) rfl a3) (jixO 5 rfl (jvar 9 rfl) rfl a4)) (fun _ => jOne (jAnd (jvar 10 rfl) (fun _ => jOne (jgt (jvar 9 rfl) (jadd (jvar 8 rfl) jint)))))) scDraw.nd), by unfold Bt told2; rw [if_pos hc]; (repeat' (first | exact Wk.nil | refine Wk.same ?_ | refine Wk.drop ?_))⟩) (fun hc => ⟨_, jnil, by unfold Bt told2; rw [hc, if_neg (by decide)]; (repeat' (first | exact Wk.nil | refine Wk.same ?_ | refine Wk.drop ?_))⟩))
    (jcons (jifB (c := decide (wd = 7)) (B := Bt (toldB wd (srt mk) sd jp u v t0)) (jteqI (jvar 2 rfl) jint) (fun hc => ⟨_, jlast (jset 10 (jeqI (jvar 9 rfl) (jadd (jvar 8 rfl) (jixO 6 rfl (jvar 8 rfl) rfl a5))) scDraw.nd), by unfold Bt toldB told3; rw [if_pos hc]; (repeat' (first | exact Wk.nil | refine Wk.same ?_ | refine Wk.drop ?_))⟩) (fun hc => ⟨_, jnil, by unfold Bt toldB told3; rw [hc, if_neg (by decide)]; (repeat' (first | exact Wk.nil | refine Wk.same ?_ | refine Wk.drop ?_))⟩))
    (jlast (jifB (c := toldB wd (srt mk) sd jp u v t0) (B := (Af (stp wd (srt mk) sd jp u (bg, acc) v)).set 8 (some (.sh (.int u)))) (jtB (jvar 10 rfl)) (fun hc => ⟨_, jlast (jappend 7 (q := none) (d := prD (u, v)) rfl (jtup (jacons (jvar 8 rfl) (jacons (jvar 9 rfl) janil))) rfl (by rw [List.length_map]; omega) (h := fun h => pe_bm PySem.F.plainAttrs_list PySem.F.slot_list_append PySem.F.type_list_append mt_append (pe_var (i := 7) rfl (by first | exact Or.inl rfl | exact Or.inr (Or.inl rfl)) (by decide) (by decide)) h)), by
        have e : (stp wd (srt mk) sd jp u (bg, acc) v) = ((take bg 5).2, acc ++ [(u, v)]) := by unfold stp; rw [if_pos hc]
        rw [e]
        show Wk _ [some (.ol (some q) ((take bg 5).2.map .int)), some (.sh (.int (n : Nat))), some (.sh (.int wd)), some (.ol none ((srt mk).map .int)), none, some (.ol none (sd.map .int)), some (.ol none (jp.map .int)), some (.ol none ((acc ++ [(u, v)]).map prD)), some (.sh (.int u)), none, none]
        rw [List.map_append]; (repeat' (first | exact Wk.nil | refine Wk.same ?_ | refine Wk.drop ?_))⟩) (fun hc => ⟨_, jnil, by
        have e : (stp wd (srt mk) sd jp u (bg, acc) v) = ((take bg 5).2, acc) := by
          unfold stp
          have : toldB wd (srt mk) sd jp u v (decide ((take bg 5).1 < 2)) = false := hc
          rw [this, if_neg (by decide)]
        rw [e]; (repeat' (first | exact Wk.nil | refine Wk.same ?_ | refine Wk.drop ?_))⟩)))))), Wk.refl _⟩
end
end Y
namespace Y
open PySem L2 J
/-! ### what the law draws: mirrors and what they keep -/
theorem take_rng (bag : List Int) {m : Int} (h : 1 ≤ m) : 0 ≤ (take bag m).1 ∧ (take bag m).1 < m := by
  unfold take
  split
  · exact ⟨Int.le_refl _, by show (0 : Int) < m; omega⟩
  · exact ⟨Int.emod_nonneg _ (by omega), Int.emod_lt_of_pos _ (by omega)⟩
def okD (n : Nat) (sts : List Pr) : Prop := InS n sts ∧ ∃ r : Int → Int, ∀ p ∈ sts, r p.1 < r p.2
theorem rank_acy {sts : List Pr} (h : ∃ r : Int → Int, ∀ p ∈ sts, r p.1 < r p.2) : Acy sts := by
  obtain ⟨r, h⟩ := h
  have key : ∀ {x y : Int}, Pth sts x y → r x ≤ r y := fun k => by
    induction k with
    | refl => exact Int.le_refl _
    | step _ m ih => exact Int.le_trans ih (Int.le_of_lt (h _ m))
  rintro x ⟨z, k1, k2⟩
  have a := key k1
  have b := h _ k2
  dsimp only at b
  omega
def rising (n : Nat) (sts : List Pr) : Prop := ∀ p ∈ sts, (In n p.1 ∧ In n p.2) ∧ p.1 < p.2
theorem stp_rising {w : Int} {mk sd jp : List Int} {n : Nat} {u v : Int} (hu : In n u) (hv : In n v) (h : u < v) {st : List Int × List Pr} (hs : rising n st.2) : rising n (stp w mk sd jp u st v).2 := by
  unfold stp
  dsimp only
  split
  · intro p hp
    rcases List.mem_append.mp hp with hp | hp
    · exact hs p hp
    · rw [List.mem_singleton.mp hp]; exact ⟨⟨hu, hv⟩, h⟩
  · exact hs
theorem rowD_rising {w : Int} {mk sd jp : List Int} {n : Nat} {u : Int} (hu : In n u) {st : List Int × List Pr} (hs : rising n st.2) : rising n (rowD w mk sd jp n st u).2 := by
  unfold rowD
  refine fold_inv (Pp := fun st : List Int × List Pr => rising n st.2) hs fun s v hv hs => ?_
  have := mem_rng.mp hv
  exact stp_rising hu ⟨by omega, by omega⟩ (by omega) hs
theorem dsteps_rising (n : Nat) (bag : List Int) : rising n (dsteps n bag).2 := by
  unfold dsteps
  dsimp only
  refine fold_inv (Pp := fun st : List Int × List Pr => rising n st.2) (fun p hp => by cases hp) fun s u hu hs => ?_
  exact rowD_rising (in_rng.mp hu) hs
theorem dsteps_len {n : Nat} (hn : n ≤ 16) (bag : List Int) : (dsteps n bag).2.length ≤ 256 := by
  have hg : ∀ (w : Int) (mk sd jp : List Int) (l : List Int) (st : List Int × List Pr), (∀ x ∈ l, 0 ≤ x) → (l.foldl (rowD w mk sd jp n) st).2.length ≤ st.2.length + l.length * 16 := fun w mk sd jp l => by
    induction l with
    | nil => intro st _; simp
    | cons x l ih =>
      intro st hl
      rw [List.foldl_cons]
      have h1 := ih (rowD w mk sd jp n st x) fun y hy => hl y (List.mem_cons_of_mem _ hy)
      have h2 := rowD_grow (w := w) (mk := mk) (sd := sd) (jp := jp) hn (hl x List.mem_cons_self) st
      rw [List.length_cons, Nat.add_mul]
      omega
  unfold dsteps
  dsimp only
  refine Nat.le_trans (hg _ _ _ _ _ _ fun x hx => (in_rng.mp hx).1) ?_
  rw [rng_len]
  show ([] : List Pr).length + n * 16 ≤ 256
  rw [List.length_nil]
  omega
theorem rising_okD {n : Nat} {sts : List Pr} (h : rising n sts) : okD n sts := ⟨fun p hp => (h p hp).1, fun x => x, fun p hp => (h p hp).2⟩
def sizesN : List Nat := [4, 3, 5, 4, 5, 3, 2, 4, 6, 1]
def namedL : List (Nat × List Pr) := [(4, [(0, 1), (2, 3)]), (4, [(0, 2), (1, 2), (1, 3)]), (3, []), (5, [(0, 1), (1, 2), (3, 4), (0, 4)]), (5, [(0, 3), (1, 3), (1, 4), (2, 4)]), (6, [(0, 4), (0, 5), (1, 3), (1, 5), (2, 3), (2, 4)]), (6, [(0, 1), (1, 2), (3, 4), (4, 2), (0, 5), (3, 5)]), (8, [(0, 6), (0, 7), (1, 4), (1, 7), (2, 4), (2, 5), (3, 5), (3, 6)])]
/-- ranks by which the steps of each named order rise -/
def rkN (x : Int) : Int := if x = 2 then 10 else if x = 3 then 1 else if x = 4 then 2 else if x = 5 then 11 else if x = 1 then 1 else 0
theorem named_ok : ∀ e ∈ namedL, 1 ≤ e.1 ∧ e.1 ≤ 8 ∧ e.2.length ≤ 8 ∧ okD e.1 e.2 := by
  intro e he
  have h1 : namedL.all (fun e => decide (1 ≤ e.1) && decide (e.1 ≤ 8) && decide (e.2.length ≤ 8) && e.2.all (fun p => decide (0 ≤ p.1) && decide (p.1 < e.1) && decide (0 ≤ p.2) && decide (p.2 < e.1))) = true := by decide +kernel
  have h2 : namedL.all (fun e => e.2.all (fun p => decide (p.1 < p.2)) || e.2.all (fun p => decide (rkN p.1 < rkN p.2))) = true := by decide +kernel
  have h1 := List.all_eq_true.mp h1 e he
  have h2 := List.all_eq_true.mp h2 e he
  simp only [Bool.and_eq_true, decide_eq_true_eq] at h1
  obtain ⟨⟨⟨a, b⟩, c⟩, d⟩ := h1
  have d := List.all_eq_true.mp d
  refine ⟨a, b, c, fun p hp => ?_, ?_⟩
  · have := d p hp
    simp only [Bool.and_eq_true, decide_eq_true_eq] at this
    exact ⟨⟨this.1.1.1, this.1.1.2⟩, this.1.2, this.2⟩
  · rw [Bool.or_eq_true] at h2
    rcases h2 with h2 | h2
    · exact ⟨fun x => x, fun p hp => of_decide_eq_true (List.all_eq_true.mp h2 p hp)⟩
    · exact ⟨rkN, fun p hp => of_decide_eq_true (List.all_eq_true.mp h2 p hp)⟩
def pick : List Pr → List Int → List Pr × List Int
  | [], s => ([], s)
  | p :: ps, s => (if decide ((take s 12).1 < 11) = true then p :: (pick ps (take s 12).2).1 else (pick ps (take s 12).2).1, (pick ps (take s 12).2).2)
theorem pick_sub : ∀ (ps : List Pr) (s : List Int), (∀ p ∈ (pick ps s).1, p ∈ ps) ∧ (pick ps s).1.length ≤ ps.length
  | [], s => ⟨fun p hp => hp, Nat.le_refl _⟩
  | p :: ps, s => by
    obtain ⟨h1, h2⟩ := pick_sub ps (take s 12).2
    unfold pick
    dsimp only
    split
    · refine ⟨fun q hq => ?_, by rw [List.length_cons, List.length_cons]; omega⟩
      rcases List.mem_cons.mp hq with e | hq
      · rw [e]; exact List.mem_cons_self
      · exact List.mem_cons_of_mem _ (h1 q hq)
    · exact ⟨fun q hq => List.mem_cons_of_mem _ (h1 q hq), by rw [List.length_cons]; omega⟩
abbrev lcp : List Int → Pr → Option D × List Int := fun s p => (if decide ((take s 12).1 < 11) = true then some (prD p) else none, (take s 12).2)
theorem lcs_pick : ∀ (ps : List Pr) (s : List Int), lcs lcp ps s = ((pick ps s).1.map prD, (pick ps s).2)
  | [], _ => rfl
  | p :: ps, s => by
    rw [lcs_cons]
    unfold pick
    cases h : decide ((take s 12).1 < 11) with
    | true =>
      have e : lcp s p = (some (prD p), (take s 12).2) := by dsimp only [lcp]; rw [if_pos h]
      rw [e]
      show (prD p :: (lcs lcp ps (take s 12).2).1, (lcs lcp ps (take s 12).2).2) = _
      rw [lcs_pick ps]; rfl
    | false =>
      have e : lcp s p = (none, (take s 12).2) := by dsimp only [lcp]; rw [h, if_neg (by decide)]
      rw [e]
      show lcs lcp ps (take s 12).2 = _
      rw [lcs_pick ps]; rfl
def szOf (most : Nat) (x : Int) : Nat := if sizesN.getD x.toNat 1 < most then sizesN.getD x.toNat 1 else most
def nmOf (x : Int) : Nat × List Pr := namedL.getD x.toNat (3, [])
def byName (most : Nat) (w : Int) : Bool := decide (w < 8) && decide (((nmOf w).1 : Int) ≤ (most : Int))
def oPick (most : Nat) (bag : List Int) : Nat × List Pr × List Int :=
  let a := take bag 10
  let b := take a.2 18
  if byName most b.1 = true then ((nmOf b.1).1, (pick (nmOf b.1).2 b.2).1, (pick (nmOf b.1).2 b.2).2)
  else (szOf most a.1, (dsteps (szOf most a.1) b.2).2, (dsteps (szOf most a.1) b.2).1)
theorem szOf_ok {most : Nat} (h : 1 ≤ most) (x : Int) : 1 ≤ szOf most x ∧ szOf most x ≤ most := by
  unfold szOf
  have hs : ∀ k ∈ sizesN, 1 ≤ k := by decide
  have h1 : 1 ≤ sizesN.getD x.toNat 1 := by
    rw [List.getD_eq_getElem?_getD]
    cases q : sizesN[x.toNat]? with
    | none => exact Nat.le_refl _
    | some k => exact hs k (List.mem_of_getElem? q)
  split
  · omega
  · omega
theorem nmOf_ok (x : Int) : 1 ≤ (nmOf x).1 ∧ (nmOf x).1 ≤ 8 ∧ (nmOf x).2.length ≤ 8 ∧ okD (nmOf x).1 (nmOf x).2 := by
  unfold nmOf
  rw [List.getD_eq_getElem?_getD]
  cases q : namedL[x.toNat]? with
  | none => exact named_ok (3, []) (by decide)
  | some e => exact named_ok e (List.mem_of_getElem? q)
theorem oPick_ok {most : Nat} (h : 1 ≤ most) (h16 : most ≤ 16) (bag : List Int) : 1 ≤ (oPick most bag).1 ∧ (oPick most bag).1 ≤ most ∧ okD (oPick most bag).1 (oPick most bag).2.1 ∧ (oPick most bag).2.1.length ≤ 256 := by
  unfold oPick
  dsimp only
  split
  · rename_i hb
    obtain ⟨a, b, c, d, r, e⟩ := nmOf_ok (take (take bag 10).2 18).1
    unfold byName at hb
    rw [Bool.and_eq_true, decide_eq_true_eq, decide_eq_true_eq] at hb
    obtain ⟨s1, s2⟩ := pick_sub (nmOf (take (take bag 10).2 18).1).2 (take (take bag 10).2 18).2
    exact ⟨a, by have := hb.2; omega, ⟨fun p hp => d p (s1 p hp), r, fun p hp => e p (s1 p hp)⟩, by dsimp only; omega⟩
  · obtain ⟨a, b⟩ := szOf_ok h (take bag 10).1
    exact ⟨a, b, rising_okD (dsteps_rising _ _), dsteps_len (by omega) _⟩
def oNames (n : Nat) (bag : List Int) : List Int × List Int :=
  let a := take bag n
  let b := take a.2 2
  (if decide (b.1 = 1) = true then ((rng 0 n).map fun x => (x + a.1) % (n : Int)).reverse else (rng 0 n).map fun x => (x + a.1) % (n : Int), b.2)
def ren (nm : List Int) (p : Pr) : Pr := (gI nm p.1, gI nm p.2)
def ordD (most : Nat) (bag : List Int) : Nat × List (List Bool) × List Int :=
  let p := oPick most bag
  let q := oNames p.1 p.2.2
  (p.1, closedM p.1 (p.2.1.map (ren q.1)), q.2)
theorem emod_inj0 {n x y s : Int} (hx : 0 ≤ x ∧ x < n) (hy : 0 ≤ y ∧ y < n) (c : y ≤ x) (h : (x + s) % n = (y + s) % n) : x = y := by
  have e : (x + s - (y + s)) % n = 0 := Int.emod_eq_emod_iff_emod_sub_eq_zero.mp h
  have e2 : x + s - (y + s) = x - y := by omega
  rw [e2, Int.emod_eq_of_lt (by omega) (by omega)] at e
  omega
theorem emod_inj {n x y s : Int} (hx : 0 ≤ x ∧ x < n) (hy : 0 ≤ y ∧ y < n) (h : (x + s) % n = (y + s) % n) : x = y := by
  by_cases c : y ≤ x
  · exact emod_inj0 hx hy c h
  · exact (emod_inj0 hy hx (by omega) h.symm).symm
/-- names of n places -/
structure Nms (n : Nat) (nm : List Int) : Prop where
  len : nm.length = n
  rg : ∀ x, In n x → In n (gI nm x)
  inj : ∀ x y, In n x → In n y → gI nm x = gI nm y → x = y
theorem gI_rev {n : Nat} {l : List Int} (h : l.length = n) {x : Int} (hx : In n x) : gI l.reverse x = gI l ((n : Int) - 1 - x) := by
  unfold gI
  have e : ((n : Int) - 1 - x).toNat = n - 1 - x.toNat := by omega
  rw [List.getD_eq_getElem?_getD, List.getD_eq_getElem?_getD, List.getElem?_reverse (by omega), e, h]
theorem oNames_ok {n : Nat} (h1 : 1 ≤ n) (bag : List Int) : Nms n (oNames n bag).1 := by
  have base : Nms n ((rng 0 n).map fun x => (x + (take bag n).1) % (n : Int)) := by
    refine ⟨by rw [List.length_map, rng_len], fun x hx => ?_, fun x y hx hy h => ?_⟩
    · rw [gI_rng hx]
      exact ⟨Int.emod_nonneg _ (by omega), Int.emod_lt_of_pos _ (by omega)⟩
    · rw [gI_rng hx, gI_rng hy] at h
      exact emod_inj hx hy h
  unfold oNames
  dsimp only
  split
  · refine ⟨by rw [List.length_reverse, base.len], fun x hx => ?_, fun x y hx hy h => ?_⟩
    · rw [gI_rev base.len hx]; exact base.rg _ (by omega)
    · rw [gI_rev base.len hx, gI_rev base.len hy] at h
      have := base.inj _ _ (by omega) (by omega) h
      omega
  · exact base
open Classical in
noncomputable def rkOf (n : Nat) (nm : List Int) (r : Int → Int) (y : Int) : Int := if q : ∃ x, In n x ∧ gI nm x = y then r (Classical.choose q) else 0
theorem rkOf_at {n : Nat} {nm : List Int} (N : Nms n nm) (r : Int → Int) {x : Int} (hx : In n x) : rkOf n nm r (gI nm x) = r x := by
  have ex : ∃ z, In n z ∧ gI nm z = gI nm x := ⟨x, hx, rfl⟩
  unfold rkOf
  rw [dif_pos ex]
  have := Classical.choose_spec ex
  rw [N.inj _ _ this.1 hx this.2]
theorem ren_ok {n : Nat} {nm : List Int} {sts : List Pr} (N : Nms n nm) (h : okD n sts) : InS n (sts.map (ren nm)) ∧ Acy (sts.map (ren nm)) := by
  obtain ⟨h1, r, h2⟩ := h
  refine ⟨fun p hp => ?_, rank_acy ⟨rkOf n nm r, fun p hp => ?_⟩⟩
  · obtain ⟨q, hq, rfl⟩ := List.mem_map.mp hp
    exact ⟨N.rg _ (h1 q hq).1, N.rg _ (h1 q hq).2⟩
  · obtain ⟨q, hq, rfl⟩ := List.mem_map.mp hp
    obtain ⟨q1, q2⟩ := h1 q hq
    have a := rkOf_at N r q1
    have b := rkOf_at N r q2
    show rkOf n nm r (gI nm q.1) < rkOf n nm r (gI nm q.2)
    rw [a, b]
    exact h2 q hq
theorem ordD_tab {most : Nat} (h : 1 ≤ most) (h16 : most ≤ 16) (bag : List Int) : Tab (ordD most bag).1 (ordD most bag).2.1 ∧ (ordD most bag).1 ≤ most := by
  obtain ⟨a, b, c, _⟩ := oPick_ok h h16 bag
  obtain ⟨d, e⟩ := ren_ok (oNames_ok a (oPick most bag).2.2) c
  exact ⟨closed_tab a (by show (oPick most bag).1 ≤ 16; omega) d e, b⟩
end Y
namespace Y
open PySem L2 J
section
variable {P : Program} {w : World} {K : PySem.W.Frag} {mg : Str → Option Value} {base : Heap} {C CB CO CN CH CM : Addr}
def nmD (e : Nat × List Pr) : D := .lst [.int (e.1 : Nat), .lst (e.2.map prD)]
theorem nm_at {x : Int} (h0 : 0 ≤ x) (h : x < 8) : namedL[x.toNat]? = some (nmOf x) := by
  unfold nmOf
  have hl : x.toNat < namedL.length := by show x.toNat < 8; omega
  rw [List.getD_eq_getElem?_getD, List.getElem?_eq_getElem hl]; rfl
theorem sz_at {x : Int} (h0 : 0 ≤ x) (h : x < 10) : atI (sizesN.map fun (k : Nat) => D.int (k : Int)) x = some (.int ((sizesN.getD x.toNat 1 : Nat) : Int)) := by
  have hl : x.toNat < sizesN.length := by show x.toNat < 10; omega
  refine atI_map (g := fun (k : Nat) => D.int (k : Int)) h0 ?_
  rw [List.getD_eq_getElem?_getD, List.getElem?_eq_getElem hl]; rfl
theorem szOf_min {most : Nat} {x : Int} : (if ((sizesN.getD x.toNat 1 : Nat) : Int) < ((most : Nat) : Int) then ((sizesN.getD x.toNat 1 : Nat) : Int) else ((most : Nat) : Int)) = ((szOf most x : Nat) : Int) := by
  unfold szOf
  by_cases h : sizesN.getD x.toNat 1 < most
  · rw [if_pos h, if_pos (by omega)]
  · rw [if_neg h, if_neg (by omega)]
theorem drawn_at {n : Nat} {bag : List Int} (hn : n ≤ 16) : ∀ p vs H Q E, spJ K (.ol (some p) (bag.map .int) :: ([.int (n : Nat)] : List D).map Sl.sh) (.ok (.ol none ((dsteps n bag).2.map prD), some (.ol (some p) ((dsteps n bag).1.map .int)) :: (fun _ : Addr => [none]) p)) vs H Q E → spDraw K vs H Q E := fun p => spF_at (p, bag, n) hn rfl rfl
abbrev sOrd : Stmt := top t__law_order
abbrev nOrd : List Str := ["_law_bag", "_law_most", "_law_size", "_law_word", "_law_named", "_law_steps_here", "_law_step", "_law_shift", "_law_names", "_law_x"]
theorem scOrd : FnScope nOrd ["_law_bag", "_law_most"] (defScope sOrd) := ⟨rfl, rfl, rfl, by decide +kernel, rfl, by decide +kernel, by decide +kernel⟩
abbrev spOrd (K : PySem.W.Frag) : Sp := spF K (fun i : Addr × List Int × Nat => 1 ≤ i.2.2 ∧ i.2.2 ≤ 16) (fun i => [.ol (some i.1) (i.2.1.map .int), .sh (.int (i.2.2 : Nat))]) (fun i => .ok (.sh (.lst [.int ((ordD i.2.2 i.2.1).1 : Nat), mD (ordD i.2.2 i.2.1).2.1]), [some (.ol (some i.1) ((ordD i.2.2 i.2.1).2.2.map .int)), none]))
set_option maxHeartbeats 8000000 in
theorem ok_order {f : Addr} {fd : FuncData} (F : Fun K "_law_order" "_law_order" sOrd f fd) (Tx : Txt mg) (nT : Nm P w K mg base "_law_take" ["_law_bag", "_law_many"] 1 (spTake K)) (nD : Nm P w K mg base "_law_drawn_steps" ["_law_bag", "_law_size"] 2 (spDraw K)) (nC : Nm P w K mg base "_law_closed" ["_law_size", "_law_steps_here"] 1 (spClosed K)) :
    FnOk P w K mg base (L2.CX P w) 3 f fd ["_law_bag", "_law_most"] (spOrd K) := by
  obtain ⟨f1, fd1, F1, m1, k1, b1⟩ := nT.ex
  obtain ⟨f2, fd2, F2, m2, k2, b2⟩ := nD.ex
  obtain ⟨f3, fd3, F3, m3, k3, b3⟩ := nC.ex
  refine jd F scOrd _ _ _ (fun _ => rfl) (fun i hd cdv A outer s H E Γ hr tk => ?_)
  obtain ⟨q, bag, most⟩ := i
  obtain ⟨hm1, hm16⟩ := hd
  dsimp only at hm1 hm16
  have P0 := oPick_ok hm1 hm16 bag
  generalize hP : oPick most bag = pp at P0
  obtain ⟨pn, psts, pbag⟩ := pp
  obtain ⟨n1, nm, okd, plen⟩ := P0
  dsimp only at n1 nm okd plen
  have N0 := oNames_ok n1 pbag
  obtain ⟨rS, rA⟩ := ren_ok N0 okd
  have hpn9 : pn ≤ 100000 := by omega
  have w01 := take_rng (take bag 10).2 (m := 18) (by decide)
  have a01 := take_rng bag (m := 10) (by decide)
  have hO : ordD most bag = (pn, closedM pn (psts.map (ren (oNames pn pbag).1)), (oNames pn pbag).2) := by unfold ordD; rw [hP]
  show ∃ out, _ ∧ fin _ out = Except.ok (Sl.sh (.lst [.int ((ordD most bag).1 : Nat), mD (ordD most bag).2.1]), [some (Sl.ol (some q) ((ordD most bag).2.2.map .int)), none]) ∧ _
  rw [hO]
  have hpk : oPick most bag = (if byName most (take (take bag 10).2 18).1 = true then ((nmOf (take (take bag 10).2 18).1).1, (pick (nmOf (take (take bag 10).2 18).1).2 (take (take bag 10).2 18).2).1, (pick (nmOf (take (take bag 10).2 18).1).2 (take (take bag 10).2 18).2).2)
    else (szOf most (take bag 10).1, (dsteps (szOf most (take bag 10).1) (take (take bag 10).2 18).2).2, (dsteps (szOf most (take bag 10).1) (take (take bag 10).2 18).2).1)) := rfl
  rw [hP] at hpk
  have hsz := szOf_ok hm1 (take bag 10).1
  generalize hwd : (take (take bag 10).2 18).1 = wd at hpk w01
  generalize hb2 : (take (take bag 10).2 18).2 = bb at hpk
  generalize hn0 : szOf most (take bag 10).1 = n0 at hpk hsz
  have at8 : ∀ h : decide (wd < 8) = true, atI (namedL.map nmD) wd = some (nmD (nmOf wd)) := fun h => atI_map w01.1 (nm_at w01.1 (of_decide_eq_true h))
  let nmx : List Int := (rng 0 pn).map fun x => (x + (take pbag pn).1) % (pn : Int)
  let Bp : List Int → Slots := fun b => [some (.ol (some q) (b.map .int)), some (.sh (.int (most : Nat))), some (.sh (.int ((nmOf wd).1 : Nat))), some (.sh (.int wd)), some (.ol none (namedL.map nmD)), none, none, none, none, none]
  have h18 : (take (take bag 10).2 18) = (wd, bb) := by rw [← hwd, ← hb2]
  refine ⟨_, jcons (jset 2 (jeC (d' := .int (n0 : Nat)) (jmin2 rfl Tx.min (jacons (jvar 1 rfl) (jacons (jixL (ds := sizesN.map fun (k : Nat) => D.int (k : Int)) (jlst (jacons jint (jacons jint (jacons jint (jacons jint (jacons jint (jacons jint (jacons jint (jacons jint (jacons jint (jacons jint janil))))))))))) (jcallO 0 F1 (hr.mono (by decide)) m1 k1 b1 rfl (jacons jint janil) rfl take_at) (sz_at a01.1 a01.2)) janil))) (by rw [← hn0, ← szOf_min])) scOrd.nd)
    (jcons (jset 3 (jeC (d' := .int wd) (jcallO (ds2 := bb.map .int) 0 F1 (hr.mono (by decide)) m1 k1 b1 rfl (jacons jint janil) rfl (by rw [← hb2]; exact take_at)) (by rw [← hwd])) scOrd.nd)
    (jcons (jset 4 (jlstO (ds := [nmD (4, [(0, 1), (2, 3)]), nmD (4, [(0, 2), (1, 2), (1, 3)]), nmD (3, [])]) (jacons (jlst (jacons jint (jacons (jlst (jacons (jtup (jacons jint (jacons jint janil))) (jacons (jtup (jacons jint (jacons jint janil))) janil))) janil))) (jacons (jlst (jacons jint (jacons (jlst (jacons (jtup (jacons jint (jacons jint janil))) (jacons (jtup (jacons jint (jacons jint janil))) (jacons (jtup (jacons jint (jacons jint janil))) janil)))) janil))) (jacons (jlst (jacons jint (jacons (jlst janil) janil))) janil)))) scOrd.nd)
    (jcons (jappend 4 (q := none) (d := nmD (5, [(0, 1), (1, 2), (3, 4), (0, 4)])) rfl (jlst (jacons jint (jacons (jlst (jacons (jtup (jacons jint (jacons jint janil))) (jacons (jtup (jacons jint (jacons jint janil))) (jacons (jtup (jacons jint (jacons jint janil))) (jacons (jtup (jacons jint (jacons jint janil))) janil))))) janil))) rfl (by decide) (h := fun h => pe_bm PySem.F.plainAttrs_list PySem.F.slot_list_append PySem.F.type_list_append mt_append (pe_var (i := 4) rfl (by first | exact Or.inl rfl | exact Or.inr (Or.inl rfl)) (by decide) (by decide)) h))
    (jcons (jappend 4 (q := none) (d := nmD (5, [(0, 3), (1, 3), (1, 4), (2, 4)])) rfl (jlst (jacons jint (jacons (jlst (jacons (jtup (jacons jint (jacons jint janil))) (jacons (jtup (jacons jint (jacons jint janil))) (jacons (jtup (jacons jint (jacons jint janil))) (jacons (jtup (jacons jint (jacons jint janil))) janil))))) janil))) rfl (by decide) (h := fun h => pe_bm PySem.F.plainAttrs_list PySem.F.slot_list_append PySem.F.type_list_append mt_append (pe_var (i := 4) rfl (by first | exact Or.inl rfl | exact Or.inr (Or.inl rfl)) (by decide) (by decide)) h))
    (jcons (jappend 4 (q := none) (d := nmD (6, [(0, 4), (0, 5), (1, 3), (1, 5), (2, 3), (2, 4)])) rfl (jlst (jacons jint (jacons (jlst (jacons (jtup (jacons jint (jacons jint janil))) (jacons (jtup (jacons jint (jacons jint janil))) (jacons (jtup (jacons jint (jacons jint janil))) (jacons (jtup (jacons jint (jacons jint janil))) (jacons (jtup (jacons jint (jacons jint janil))) (jacons (jtup (jacons jint (jacons jint janil))) janil))))))) janil))) rfl (by decide) (h := fun h => pe_bm PySem.F.plainAttrs_list PySem.F.slot_list_append PySem.F.type_list_append mt_append (pe_var (i := 4) rfl (by first | exact Or.inl rfl | exact Or.inr (Or.inl rfl)) (by decide) (by decide)) h))
    (jcons (jappend 4 (q := none) (d := nmD (6, [(0, 1), (1, 2), (3, 4), (4, 2), (0, 5), (3, 5)])) rfl (jlst (jacons jint (jacons (jlst (jacons (jtup (jacons jint (jacons jint janil))) (jacons (jtup (jacons jint (jacons jint janil))) (jacons (jtup (jacons jint (jacons jint janil))) (jacons (jtup (jacons jint (jacons jint janil))) (jacons (jtup (jacons jint (jacons jint janil))) (jacons (jtup (jacons jint (jacons jint janil))) janil))))))) janil))) rfl (by decide) (h := fun h => pe_bm PySem.F.plainAttrs_list PySem.F.slot_list_append PySem.F.type_list_append mt_append (pe_var (i := 4) rfl (by first | exact Or.inl rfl | exact Or.inr (Or.inl rfl)) (by decide) (by decide)) h))
    (jcons (jappend 4 (q := none) (d := nmD (8, [(0, 6), (0, 7), (1, 4), (1, 7), (2, 4), (2, 5), (3, 5), (3, 6)])) rfl (jlst (jacons jint (jacons (jlst (jacons (jtup (jacons jint (jacons jint janil))) (jacons (jtup (jacons jint (jacons jint janil))) (jacons (jtup (jacons jint (jacons jint janil))) (jacons (jtup (jacons jint (jacons jint janil))) (jacons (jtup (jacons jint (jacons jint janil))) (jacons (jtup (jacons jint (jacons jint janil))) (jacons (jtup (jacons jint (jacons jint janil))) (jacons (jtup (jacons jint (jacons jint janil))) janil))))))))) janil))) rfl (by decide) (h := fun h => pe_bm PySem.F.plainAttrs_list PySem.F.slot_list_append PySem.F.type_list_append mt_append (pe_var (i := 4) rfl (by first | exact Or.inl rfl | exact Or.inr (Or.inl rfl)) (by decide) (by decide)) h))
    (jcons (jifB (c := byName most wd) (B := [some (.ol (some q) (pbag.map .int)), some (.sh (.int (most : Nat))), some (.sh (.int (pn : Nat))), none, none, some (.ol none (psts.map prD)), none, none, none, none])
      (PW.pt (jtAnd (jtlt (jvar 3 rfl) jint) (fun h8 => jtAnd1 (jtle (jixL (ds := [.int ((nmOf wd).1 : Nat), .lst ((nmOf wd).2.map prD)]) (jixO (ds := namedL.map nmD) 4 rfl (jvar 3 rfl) rfl (at8 h8)) jint rfl) (jvar 1 rfl)))))
      (fun hc => ?byname) (fun hc => ?drawn))
    (jcons (jset 7 (jcallO 0 F1 (hr.mono (by decide)) m1 k1 b1 rfl (jacons (jvar 2 rfl) janil) rfl take_at) scOrd.nd)
    (jcons (jset 8 (jlcQ (rng 0 pn) D.int (.n 9) [("_law_x", 9)] (fun _ => true) (fun x => .int ((x + (take pbag pn).1) % (pn : Int))) (nmx.map .int) (inn_map _ _ _) scOrd.nd (jirN (n := pn) (jacons (jvar 2 rfl) janil) Tx.range hpn9) (blkOk_by (by show blkC nOrd (defScope sOrd) _ _ = true; decide +kernel)) (fun s H C cl fp => pg_name scOrd.nd rfl (by first | exact Or.inl rfl | exact Or.inr rfl)) (fun _ _ => trivial) (by rw [rng_len]; exact hpn9)
      (fun x hx => ⟨fun Γ s H C cl fp => jts0, fun _ Γ s H C cl fp => jmod (jintI Tx.int (jacons (jadd (jvar 9 rfl) (jvar 7 rfl)) janil) (hp := fun h => pe_callTy call_int1 (by rfl) Tx.int (by decide +kernel) h)) (jvar 2 rfl) (by omega)⟩)) scOrd.nd)
    (jcons (jifB (c := decide ((take (take pbag pn).2 2).1 = 1)) (B := [some (.ol (some q) ((oNames pn pbag).2.map .int)), some (.sh (.int (most : Nat))), some (.sh (.int (pn : Nat))), none, none, some (.ol none (psts.map prD)), none, none, some (.ol none ((oNames pn pbag).1.map .int)), none])
      (jteqI (jcallO 0 F1 (hr.mono (by decide)) m1 k1 b1 rfl (jacons jint janil) rfl take_at) jint)
      (fun hc => ⟨_, jlast (jexpr (jrev 8 rfl (h := fun h => pe_bm0 PySem.F.plainAttrs_list PySem.F.slot_list_reverse PySem.F.type_list_reverse mt_reverse h))), by
        have e : (oNames pn pbag).1 = nmx.reverse := by unfold oNames; dsimp only; rw [if_pos hc]
        rw [e, List.map_reverse]; (repeat' (first | exact Wk.nil | refine Wk.same ?_ | refine Wk.drop ?_))⟩)
      (fun hc => ⟨_, jnil, by
        have e : (oNames pn pbag).1 = nmx := by unfold oNames; dsimp only; rw [hc, if_neg (by decide)]
        rw [e]; (repeat' (first | exact Wk.nil | refine Wk.same ?_ | refine Wk.drop ?_))⟩))
    (jfzS 5 rfl (jfzS 8 rfl (jlast (jret (jlst (jacons (jvar 2 rfl) (jacons (jcall F3 (hr.mono (by decide)) m3 k3 b3 (jacons (jvar 2 rfl) (jacons (jfrz (jlcQ psts prD (.n 6) [("_law_step", 6)] (fun _ => true) (fun p => prD (ren (oNames pn pbag).1 p)) ((psts.map (ren (oNames pn pbag).1)).map prD) (inn_map _ _ _) scOrd.nd (jil (jvar 5 rfl)) (blkOk_by (by show blkC nOrd (defScope sOrd) _ _ = true; decide +kernel)) (fun s H C cl fp => pg_name scOrd.nd rfl (by first | exact Or.inl rfl | exact Or.inr rfl)) (fun _ _ => trivial) (by omega)
      (fun p hp => ⟨fun Γ s H C cl fp => jts0, fun _ Γ s H C cl fp => jtup (jacons (jixL (jvar 8 rfl) (jixT (ds := [.int p.1, .int p.2]) (jvar 6 rfl) jint rfl) ?i1) (jacons (jixL (jvar 8 rfl) (jixT (ds := [.int p.1, .int p.2]) (jvar 6 rfl) jint rfl) ?i2) janil))⟩))) janil))
      (spF_at ((pn, psts.map (ren (oNames pn pbag).1)) : Nat × List Pr) (And.intro (by omega) (And.intro (by rw [List.length_map]; omega) fun p hp => rS p hp)) rfl rfl)) janil)))))))))))))))))), by show Except.ok (_, [keepP (.ol (some q) _) (some (.ol (some q) _)), _]) = _; rw [keepP_ol]; rfl, rfl⟩
  case i1 => exact atI_int (okd.1 p hp).1.1 (by rw [N0.len]; exact (okd.1 p hp).1.2)
  case i2 => exact atI_int (okd.1 p hp).2.1 (by rw [N0.len]; exact (okd.1 p hp).2.2)
  case byname =>
    have h8 : decide (wd < 8) = true := by
      unfold byName at hc
      rw [Bool.and_eq_true] at hc
      exact hc.1
    rw [if_pos hc] at hpk
    have e1 : pn = (nmOf wd).1 := congrArg Prod.fst hpk
    have e2 : psts = (pick (nmOf wd).2 bb).1 := congrArg (fun x => x.2.1) hpk
    have e3 : pbag = (pick (nmOf wd).2 bb).2 := congrArg (fun x => x.2.2) hpk
    refine ⟨_, jcons (jset 2 (jixL (ds := [.int ((nmOf wd).1 : Nat), .lst ((nmOf wd).2.map prD)]) (jixO (ds := namedL.map nmD) 4 rfl (jvar 3 rfl) rfl (at8 h8)) jint rfl) scOrd.nd)
      (jlast (jsetLcE 5 (nmOf wd).2 prD (.n 6) [("_law_step", 6)] Bp lcp bb ((pick (nmOf wd).2 bb).1.map prD) (pick (nmOf wd).2 bb).2 (lcs_pick _ _) scOrd.nd (jil (jixL (ds := [.int ((nmOf wd).1 : Nat), .lst ((nmOf wd).2.map prD)]) (jixO (ds := namedL.map nmD) 4 rfl (jvar 3 rfl) rfl (at8 h8)) jint rfl)) (by (repeat' (first | exact Wk.nil | refine Wk.same ?_ | refine Wk.drop ?_))) (blkOk_by (by show blkC nOrd (defScope sOrd) _ _ = true; decide +kernel)) (fun s H C cl fp => pg_name scOrd.nd rfl (by first | exact Or.inl rfl | exact Or.inr rfl)) (fun _ => Nat.le_of_ble_eq_true rfl) (by decide) (fun _ _ => trivial) (by have := (nmOf_ok wd).2.2.1; omega)
        (fun pre p post st hx _ => ⟨⟨decide ((take st 12).1 < 11), _, (fun Γ s H C cl fp => jts1 (jtlt (jcallO 0 F1 (hr.mono (by decide)) m1 k1 b1 rfl (jacons jint janil) rfl take_at) jint)), Nat.le_of_ble_eq_true rfl, (fun hz => ⟨by dsimp only [lcp]; rw [hz, if_neg (by decide)], by (repeat' (first | exact Wk.nil | refine Wk.same ?_ | refine Wk.drop ?_))⟩), (fun hz => ⟨prD p, _, (fun Γ s H C cl fp => jvar 6 rfl), Nat.le_of_ble_eq_true rfl, (by dsimp only [lcp]; rw [if_pos hz]), by (repeat' (first | exact Wk.nil | refine Wk.same ?_ | refine Wk.drop ?_))⟩)⟩⟩) (Nat.le_of_ble_eq_true rfl))), ?_⟩
    rw [e2, e3, e1]
    (repeat' (first | exact Wk.nil | refine Wk.same ?_ | refine Wk.drop ?_))
  case drawn =>
    have hc' : ¬ byName most wd = true := by rw [hc]; decide
    rw [if_neg hc'] at hpk
    have e1 : pn = n0 := congrArg Prod.fst hpk
    have e2 : psts = (dsteps n0 bb).2 := congrArg (fun x => x.2.1) hpk
    have e3 : pbag = (dsteps n0 bb).1 := congrArg (fun x => x.2.2) hpk
    refine ⟨_, jlast (jset 5 (jcallO 0 F2 (hr.mono (by decide)) m2 k2 b2 rfl (jacons (jvar 2 rfl) janil) rfl (drawn_at (by omega))) scOrd.nd), ?_⟩
    rw [e2, e3, e1]
    (repeat' (first | exact Wk.nil | refine Wk.same ?_ | refine Wk.drop ?_))
end
end Y
namespace Y
open PySem L2 J
section
variable {P : Program} {w : World} {K : PySem.W.Frag} {mg : Str → Option Value} {base : Heap} {C CB CO CN CH CM : Addr}
/-! _law_draws -/
def cell0 (x : Int) : Int := if decide (x < 0) = true then 1 - 2 * x else x
def bigS (st : List Int × Int) : List Int × Int := if decide (0 < st.2) = true then (st.1 ++ [st.2 % 30], st.2 / 30) else st
def smaS (at_ : Int) (st : List Int × Int) (k : Int) : List Int × Int := (st.1 ++ [((st.2 * 69069 + k * 907 + 1) % 2147483629 * ((st.2 * 69069 + k * 907 + 1) % 2147483629) + at_) % 2147483587], (st.2 * 69069 + k * 907 + 1) % 2147483629)
def drawOne (at_ : Int) (bag : List Int) (x : Int) : List Int :=
  if decide ((10 : Int) ^ (18 : Int).toNat ≤ cell0 x) = true then ((rng 0 48).foldl (fun st _ => bigS st) (bag, cell0 x)).1
  else ((rng 0 5).foldl (smaS at_) (bag, (cell0 x * 16807 + at_ * 30011 + 17) % 2147483647)).1
def draws (ns : List Int) : List Int := ((rng 0 (min ns.length 63)).foldl (fun bag a => drawOne a bag (gI ns a)) []).reverse
theorem big_len (l : List Int) : ∀ st : List Int × Int, (l.foldl (fun st _ => bigS st) st).1.length ≤ st.1.length + l.length := by
  induction l with
  | nil => intro st; simp
  | cons x l ih =>
    intro st
    rw [List.foldl_cons]
    have h := ih (bigS st)
    have h2 : (bigS st).1.length ≤ st.1.length + 1 := by
      unfold bigS
      split
      · rw [List.length_append]; simp
      · omega
    rw [List.length_cons]
    omega
theorem sma_len (a : Int) (l : List Int) : ∀ st : List Int × Int, (l.foldl (smaS a) st).1.length ≤ st.1.length + l.length := by
  induction l with
  | nil => intro st; simp
  | cons x l ih =>
    intro st
    rw [List.foldl_cons]
    have h := ih (smaS a st x)
    have h2 : (smaS a st x).1.length ≤ st.1.length + 1 := by unfold smaS; rw [List.length_append]; simp
    rw [List.length_cons]
    omega
theorem drawOne_len (a : Int) (bag : List Int) (x : Int) : (drawOne a bag x).length ≤ bag.length + 48 := by
  unfold drawOne
  split
  · have := big_len (rng 0 48) (bag, cell0 x)
    rw [rng_len] at this
    exact this
  · have := sma_len a (rng 0 5) (bag, (cell0 x * 16807 + a * 30011 + 17) % 2147483647)
    rw [rng_len] at this
    dsimp only at this
    omega
theorem draws_len (ns : List Int) : ∀ (l : List Int) (bag : List Int), (l.foldl (fun bag a => drawOne a bag (gI ns a)) bag).length ≤ bag.length + l.length * 48
  | [], bag => by simp
  | x :: l, bag => by
    rw [List.foldl_cons]
    have h1 := draws_len ns l (drawOne x bag (gI ns x))
    have h2 := drawOne_len x bag (gI ns x)
    rw [List.length_cons, Nat.add_mul]
    omega
abbrev sDraws : Stmt := top t__law_draws
abbrev nDraws : List Str := ["_law_script", "_law_bag", "_law_at", "_law_cell", "_law_k", "_law_mixed"]
theorem scDraws : FnScope nDraws ["_law_script"] (defScope sDraws) := ⟨rfl, rfl, rfl, by decide +kernel, rfl, by decide +kernel, by decide +kernel⟩
abbrev spDraws (K : PySem.W.Frag) : Sp := spF K (fun ns : List Int => ns.length ≤ 100000) (fun ns => [.sh (.lst (ns.map .int))]) (fun ns => .ok (.ol none ((draws ns).map .int), [none]))
set_option maxHeartbeats 8000000 in
theorem ok_draws {f : Addr} {fd : FuncData} (F : Fun K "_law_draws" "_law_draws" sDraws f fd) (Tx : Txt mg) : FnOk P w K mg base (L2.CX P w) 1 f fd ["_law_script"] (spDraws K) := by
  refine jd F scDraws _ _ _ (fun _ => rfl) (fun ns hd cdv A outer s H E Γ hr tk => ?_)
  have hl : ns.length ≤ 100000 := hd
  let Af : List Int → Slots := fun bag => [some (.sh (.lst (ns.map .int))), some (.ol none (bag.map .int)), none, none, none, none]
  have emin : (if ((63 : Int)) < (((ns.map D.int).length : Nat) : Int) then (63 : Int) else (((ns.map D.int).length : Nat) : Int)) = ((min ns.length 63 : Nat) : Int) := by
    rw [List.length_map]
    by_cases h : 63 < ns.length
    · rw [if_pos (by omega), Nat.min_eq_right (by omega)]; rfl
    · rw [if_neg (by omega), Nat.min_eq_left (by omega)]
  refine ⟨_, jcons (jset 1 (jlstO janil) scDraws.nd) (jcons (jfor0F (rng 0 (min ns.length 63)) D.int (.n 2) Af (fun bag a => drawOne a bag (gI ns a)) [] _ rfl (passes_of rfl)
      (jirN (n := min ns.length 63) (jacons (jeC (d' := .int ((min ns.length 63 : Nat) : Int)) (jmin2 rfl Tx.min (jacons (jlenL Tx.len (jacons (jvar 0 rfl) janil) (fun h => pe_callB call_len_seq (by rfl) Tx.len PySem.boot_len h)) (jacons jint janil))) (by rw [emin])) janil) Tx.range (by omega)) (by (repeat' (first | exact Wk.nil | refine Wk.same ?_ | refine Wk.drop ?_))) (pg_name scDraws.nd rfl (by first | exact Or.inl rfl | exact Or.inr rfl)) (fun _ _ => trivial) (fun pre a post hx => ?turn))
    (jcons (jexpr (jrev 1 rfl (h := fun h => pe_bm0 PySem.F.plainAttrs_list PySem.F.slot_list_reverse PySem.F.type_list_reverse mt_reverse h))) (jlast (jret (jhand 1 rfl))))), by
      show Except.ok (Sl.ol none ((List.foldl (fun bag a => drawOne a bag (gI ns a)) [] (rng 0 (min ns.length 63))).map D.int).reverse, _) = Except.ok (Sl.ol none ((draws ns).map .int), _)
      unfold draws
      rw [List.map_reverse]; rfl, rfl⟩
  have ham : a ∈ rng 0 (min ns.length 63) := by rw [hx]; simp
  have ha := mem_rng.mp ham
  have hbag : (pre.foldl (fun bag a => drawOne a bag (gI ns a)) []).length ≤ 4000 := by
    have h1 := draws_len ns pre []
    have h2 := congrArg List.length hx
    rw [rng_len, List.length_append, List.length_cons] at h2
    rw [List.length_nil] at h1
    omega
  generalize pre.foldl (fun bag a => drawOne a bag (gI ns a)) [] = bag at hbag
  have hat : atI (ns.map D.int) a = some (.int (gI ns a)) := atI_int ha.1 (by omega)
  generalize gI ns a = x at hat
  let Bc : Slots := [some (.sh (.lst (ns.map .int))), some (.ol none (bag.map .int)), some (.sh (.int a)), some (.sh (.int (cell0 x))), none, none]
  refine ⟨_, jcons (jset 3 (jintI Tx.int (jacons (jixL (jvar 0 rfl) (jvar 2 rfl) hat) janil) (hp := fun h => pe_callTy call_int1 (by rfl) Tx.int (by decide +kernel) h)) scDraws.nd)
    (jcons (jifB (c := decide (x < 0)) (B := Bc) (jtlt (jvar 3 rfl) jint) (fun hc => ⟨_, jlast (jset 3 (jsub jint (jmul jint (jvar 3 rfl) (.inl (by decide)))) scDraws.nd), by unfold Bc cell0; rw [if_pos hc]; (repeat' (first | exact Wk.nil | refine Wk.same ?_ | refine Wk.drop ?_))⟩) (fun hc => ⟨_, jnil, by unfold Bc cell0; rw [hc, if_neg (by decide)]; (repeat' (first | exact Wk.nil | refine Wk.same ?_ | refine Wk.drop ?_))⟩))
    (jlast (jifB (c := decide ((10 : Int) ^ (18 : Int).toNat ≤ cell0 x)) (B := Af (drawOne a bag x)) (jtge (jvar 3 rfl) (jpow jint jint ⟨by decide, by decide, by decide⟩)) (fun hc => ?big) (fun hc => ?small)))), Wk.refl _⟩
  case big =>
    have e : drawOne a bag x = ((rng 0 48).foldl (fun st _ => bigS st) (bag, cell0 x)).1 := by unfold drawOne; rw [if_pos hc]
    rw [e]
    refine ⟨_, jlast (jfor0F (rng 0 48) D.int (.n 4) (fun st : List Int × Int => [some (.sh (.lst (ns.map .int))), some (.ol none (st.1.map .int)), some (.sh (.int a)), some (.sh (.int st.2)), none, none]) (fun st _ => bigS st) (bag, cell0 x) _ rfl (passes_of rfl) (jir1 (jacons jint janil) Tx.range (by decide)) (by (repeat' (first | exact Wk.nil | refine Wk.same ?_ | refine Wk.drop ?_))) (pg_name scDraws.nd rfl (by first | exact Or.inl rfl | exact Or.inr rfl)) (fun _ _ => trivial) (fun pre k post hx => ?t)), by (repeat' (first | exact Wk.nil | refine Wk.same ?_ | refine Wk.drop ?_))⟩
    have hb := big_len pre (bag, cell0 x)
    have h2 := congrArg List.length hx
    rw [rng_len, List.length_append, List.length_cons] at h2
    dsimp only at hb
    generalize pre.foldl (fun st _ => bigS st) (bag, cell0 x) = st at hb
    obtain ⟨b, c⟩ := st
    dsimp only at hb
    refine ⟨_, jlast (jifB (c := decide (0 < c)) (B := [some (.sh (.lst (ns.map .int))), some (.ol none ((bigS (b, c)).1.map .int)), some (.sh (.int a)), some (.sh (.int (bigS (b, c)).2)), none, none]) (jtgt (jvar 3 rfl) jint)
      (fun hc => ⟨_, jcons (jappend 1 (q := none) (d := .int (c % 30)) rfl (jmod (jintI Tx.int (jacons (jvar 3 rfl) janil) (hp := fun h => pe_callTy call_int1 (by rfl) Tx.int (by decide +kernel) h)) jint (by decide)) rfl (by rw [List.length_map]; show b.length < 100000; omega) (h := fun h => pe_bm PySem.F.plainAttrs_list PySem.F.slot_list_append PySem.F.type_list_append mt_append (pe_var (i := 1) rfl (by first | exact Or.inl rfl | exact Or.inr (Or.inl rfl)) (by decide) (by decide)) h))
        (jlast (jset 3 (jfdiv (jvar 3 rfl) jint ⟨by decide, by decide⟩) scDraws.nd)), by
          have e : bigS (b, c) = (b ++ [c % 30], c / 30) := by unfold bigS; rw [if_pos hc]
          rw [e]
          show Wk _ [some (.sh (.lst (ns.map .int))), some (.ol none ((b ++ [c % 30]).map .int)), some (.sh (.int a)), some (.sh (.int (c / 30))), none, none]
          rw [List.map_append]; (repeat' (first | exact Wk.nil | refine Wk.same ?_ | refine Wk.drop ?_))⟩)
      (fun hc => ⟨_, jnil, by
          have e : bigS (b, c) = (b, c) := by unfold bigS; rw [if_neg (by rw [hc]; decide)]
          rw [e]; (repeat' (first | exact Wk.nil | refine Wk.same ?_ | refine Wk.drop ?_))⟩)), Wk.refl _⟩
  case small =>
    have e : drawOne a bag x = ((rng 0 5).foldl (smaS a) (bag, (cell0 x * 16807 + a * 30011 + 17) % 2147483647)).1 := by unfold drawOne; rw [hc, if_neg (by decide)]
    rw [e]
    refine ⟨_, jcons (jset 5 (jmod (jintI Tx.int (jacons (jadd (jadd (jmul (jvar 3 rfl) jint (.inr (by decide))) (jmul (jvar 2 rfl) jint (.inr (by decide)))) jint) janil) (hp := fun h => pe_callTy call_int1 (by rfl) Tx.int (by decide +kernel) h)) jint (by decide)) scDraws.nd)
      (jlast (jfor0F (rng 0 5) D.int (.n 4) (fun st : List Int × Int => [some (.sh (.lst (ns.map .int))), some (.ol none (st.1.map .int)), some (.sh (.int a)), none, none, some (.sh (.int st.2))]) (smaS a) (bag, (cell0 x * 16807 + a * 30011 + 17) % 2147483647) _ rfl (passes_of rfl) (jir1 (jacons jint janil) Tx.range (by decide)) (by (repeat' (first | exact Wk.nil | refine Wk.same ?_ | refine Wk.drop ?_))) (pg_name scDraws.nd rfl (by first | exact Or.inl rfl | exact Or.inr rfl)) (fun _ _ => trivial) (fun pre k post hx => ?t2))), by (repeat' (first | exact Wk.nil | refine Wk.same ?_ | refine Wk.drop ?_))⟩
    have hb := sma_len a pre (bag, (cell0 x * 16807 + a * 30011 + 17) % 2147483647)
    have h2 := congrArg List.length hx
    rw [rng_len, List.length_append, List.length_cons] at h2
    dsimp only at hb
    generalize pre.foldl (smaS a) (bag, (cell0 x * 16807 + a * 30011 + 17) % 2147483647) = st at hb
    obtain ⟨b, c⟩ := st
    dsimp only at hb
    have hm : -(2 ^ 64) < (c * 69069 + k * 907 + 1) % 2147483629 ∧ (c * 69069 + k * 907 + 1) % 2147483629 < 2 ^ 64 := by
      have h1 := Int.emod_nonneg (c * 69069 + k * 907 + 1) (b := 2147483629) (by decide)
      have h2 := Int.emod_lt_of_pos (c * 69069 + k * 907 + 1) (b := 2147483629) (by decide)
      omega
    refine ⟨_, jcons (jset 5 (jmod (jintI Tx.int (jacons (jadd (jadd (jmul (jvar 5 rfl) jint (.inr (by decide))) (jmul (jvar 4 rfl) jint (.inr (by decide)))) jint) janil) (hp := fun h => pe_callTy call_int1 (by rfl) Tx.int (by decide +kernel) h)) jint (by decide)) scDraws.nd)
      (jlast (jappend 1 (q := none) (d := .int (((c * 69069 + k * 907 + 1) % 2147483629 * ((c * 69069 + k * 907 + 1) % 2147483629) + a) % 2147483587)) rfl (jmod (jintI Tx.int (jacons (jadd (jmul (jvar 5 rfl) (jvar 5 rfl) (.inl hm)) (jvar 2 rfl)) janil) (hp := fun h => pe_callTy call_int1 (by rfl) Tx.int (by decide +kernel) h)) jint (by decide)) rfl (by rw [List.length_map]; show b.length < 100000; omega) (h := fun h => pe_bm PySem.F.plainAttrs_list PySem.F.slot_list_append PySem.F.type_list_append mt_append (pe_var (i := 1) rfl (by first | exact Or.inl rfl | exact Or.inr (Or.inl rfl)) (by decide) (by decide)) h))), ?_⟩
    unfold smaS
    show Wk _ [some (.sh (.lst (ns.map .int))), some (.ol none ((b ++ [((c * 69069 + k * 907 + 1) % 2147483629 * ((c * 69069 + k * 907 + 1) % 2147483629) + a) % 2147483587]).map .int)), some (.sh (.int a)), none, none, some (.sh (.int ((c * 69069 + k * 907 + 1) % 2147483629)))]
    rw [List.map_append]; (repeat' (first | exact Wk.nil | refine Wk.same ?_ | refine Wk.drop ?_))
end
end Y
namespace Y
open PySem L2 J
section
variable {P : Program} {w : World} {K : PySem.W.Frag} {mg : Str → Option Value} {base : Heap} {C CB CO CN CH CM : Addr}
/-! ### what is due of two orders -/
def lackL (oa ob : O) : List Pr := oa.st.filter fun p => !decide (p ∈ ob.st)
def dueD (nb : Nat) (same : Bool) (lk : List Pr) : D := if same = true then (match lk with | p :: _ => why "NotHeld" (.int p.1) (.int p.2) | [] => .non) else why "OtherSize" (.int nb) (.int 0)
theorem lack_head (oa ob : O) : lack oa ob = (lackL oa ob).head? := by unfold lack lackL; rw [List.head?_filter]
theorem deq_due (nb : Nat) (same : Bool) (lk : List Pr) : deq (dueD nb same lk) (dueD nb same lk) = true := by
  unfold dueD
  cases same with
  | true =>
    cases lk with
    | nil => show deq .non .non = true; unfold deq; simp [D.pd, PyData.eqv]
    | cons p l => exact deq_refl_why _ _ _
  | false => exact deq_refl_why _ _ _
theorem cmp_due (nb : Nat) (same : Bool) (lk : List Pr) : Cmp (dueD nb same lk) := by
  unfold dueD
  cases same with
  | true =>
    cases lk with
    | nil => exact cmp_non
    | cons p l => exact cmp_why (by decide +kernel)
  | false => exact cmp_why (by decide +kernel)
abbrev TT2 := Nat × List (List Bool)
/-- an order drawn: its places and its table -/
def okT (t : TT2) : Prop := Tab t.1 t.2
theorem ask_path {a b : TT2} (ta : okT a) (tb : okT b) : ∃ ps, Ask.pre (.path (ordM a.1 a.2) (ordM b.1 b.2) ps) ∧ (Ask.path (ordM a.1 a.2) (ordM b.1 b.2) ps).ans = dueD b.1 (decide (a.1 = b.1)) (lackL (ordM a.1 a.2) (ordM b.1 b.2)) := by
  obtain ⟨na, ma⟩ := a
  obtain ⟨nb, mb⟩ := b
  have ta : Tab na ma := ta
  have tb : Tab nb mb := tb
  have oa := ordM_obs ta
  have ob := ordM_obs tb
  dsimp only
  by_cases hn : na = nb
  · subst hn
    have key : ∃ ps : List Pr, ps.length ≤ 256 ∧ (lack (ordM na ma) (ordM na mb) = none → Run (ordM na mb) (ordM na ma) ps) := by
      by_cases hs : Sub na ma mb
      · obtain ⟨ps, r, hl⟩ := run_ex tb ((stepsM mb na).length - (stepsM ma na).length) ma ta hs (by have := sub_len hs; omega)
        have h256 : (stepsM mb na).length ≤ 256 := stepsM_len tb.n16
        exact ⟨ps, by omega, fun _ => run_run tb r ta hs⟩
      · exact ⟨[], by decide, fun h => (hs ((lack_none oa ob).mp h)).elim⟩
    obtain ⟨ps, h1, h2⟩ := key
    refine ⟨ps, ⟨oa.ok ta, h1, fun _ h => h2 h⟩, ?_⟩
    dsimp only [Ask.ans]
    unfold dueD
    rw [oa.num, ob.num, if_neg (by simp), if_pos (by simp), lack_head]
    cases lackL (ordM na ma) (ordM na mb) <;> rfl
  · refine ⟨[], ⟨oa.ok ta, by decide, fun h => ?_⟩, ?_⟩
    · rw [oa.num, ob.num] at h; exact (hn (by omega)).elim
    · dsimp only [Ask.ans]
      unfold dueD
      have h' : ¬ ((nb : Int) = (na : Int)) := by omega
      rw [oa.num, ob.num, if_pos (by simpa using h'), if_neg (by simpa using hn)]
theorem ask_hld {a b : TT2} (ta : okT a) (tb : okT b) (hn : ¬ a.1 = b.1) (lk : List Pr) : Ask.pre (.hld (ordM a.1 a.2) (ordM b.1 b.2)) ∧ (Ask.hld (ordM a.1 a.2) (ordM b.1 b.2)).ans = dueD b.1 false lk := by
  have oa := ordM_obs (show Tab a.1 a.2 from ta)
  have ob := ordM_obs (show Tab b.1 b.2 from tb)
  refine ⟨oa.ok ta, ?_⟩
  dsimp only [Ask.ans]
  unfold dueD
  have h' : ¬ ((b.1 : Int) = (a.1 : Int)) := by omega
  rw [oa.num, ob.num, if_pos (by simpa using h'), if_neg (by decide)]
theorem not_sub {n : Nat} {a b : List (List Bool)} (ta : Tab n a) (tb : Tab n b) {p : Pr} {l : List Pr} (h : lackL (ordM n a) (ordM n b) = p :: l) : Sub n a b ↔ false = true := by
  constructor
  · intro s
    have := (lack_none (ordM_obs ta) (ordM_obs tb)).mpr s
    rw [lack_head, h] at this
    cases this
  · intro h; cases h
/-! ### the ties that the law draws -/
abbrev cLen (n : Nat) (u : List (List Bool)) : Nat := ((openM u n).map prD).length
def upS (n : Nat) (st : List Int × List (List Bool)) : List Int × List (List Bool) :=
  if decide (0 < ((cLen n st.2 : Nat) : Int)) = true then ((take st.1 (cLen n st.2 : Nat)).2, grownM st.2 n ((openM st.2 n).getD (take st.1 (cLen n st.2 : Nat)).1.toNat (0, 0))) else st
theorem open_at {n : Nat} {u : List (List Bool)} {bag : List Int} (h : 0 < cLen n u) : (openM u n)[(take bag (cLen n u : Nat)).1.toNat]? = some ((openM u n).getD (take bag (cLen n u : Nat)).1.toNat (0, 0)) ∧ (openM u n).getD (take bag (cLen n u : Nat)).1.toNat (0, 0) ∈ openM u n ∧ 0 ≤ (take bag (cLen n u : Nat)).1 := by
  have hr := take_rng bag (m := (cLen n u : Nat)) (by omega)
  have hl : (take bag (cLen n u : Nat)).1.toNat < (openM u n).length := by
    have : cLen n u = (openM u n).length := List.length_map ..
    omega
  have e : (openM u n)[(take bag (cLen n u : Nat)).1.toNat]? = some ((openM u n).getD (take bag (cLen n u : Nat)).1.toNat (0, 0)) := by
    rw [List.getD_eq_getElem?_getD, List.getElem?_eq_getElem hl]; rfl
  exact ⟨e, List.mem_of_getElem? e, hr.1⟩
structure UpOk (n : Nat) (m : List (List Bool)) (st : List Int × List (List Bool)) : Prop where
  t : Tab n st.2
  s : Sub n m st.2
theorem upS_ok {n : Nat} {m : List (List Bool)} {st : List Int × List (List Bool)} (h : UpOk n m st) : UpOk n m (upS n st) := by
  unfold upS
  split
  · rename_i hc
    have hl : 0 < cLen n st.2 := by
      rw [decide_eq_true_eq] at hc; omega
    obtain ⟨_, ho, _⟩ := open_at (bag := st.1) hl
    exact ⟨grown_tab h.t ho, fun x y hx hy q => sub_grown h.t ho x y hx hy (h.s x y hx hy q)⟩
  · exact h
end
end Y
namespace J
open PySem L2
section
variable {X : Cx} {Γ : En} {A A1 : Slots} {a b : Expr} {pos : Pos}
theorem jtAndS {c c' : Bool} {rest : List Expr} (h1 : PT X a (JT X.K Γ A c A1)) (h2 : c = true → PW X (.BoolOp .And (b :: rest) pos) (JT X.K Γ A1 c' A1)) : PW X (.BoolOp .And (a :: b :: rest) pos) (JT X.K Γ A (c && c') A1) := by
  cases c with
  | true =>
    have q := pw_and h1 (h2 rfl)
    exact ⟨fun w pins s σ H Q I ⟨S, Ms, ok, k⟩ => q.run w pins s σ H Q I ⟨S, Ms, ok, fun S1 H1 M1 s1 ok1 => ⟨S1, M1, ok1, fun S2 H2 M2 s2 ok2 => k S2 H2 M2 (s1.trans s2) ok2⟩⟩⟩
  | false =>
    have nv : PW X (.BoolOp .And (b :: rest) pos) (fun _ _ _ => False) := ⟨fun _ _ _ _ _ _ _ h => h.elim⟩
    have q := pw_and h1 nv
    exact ⟨fun w pins s σ H Q I ⟨S, Ms, ok, k⟩ => q.run w pins s σ H Q I ⟨S, Ms, ok, fun S1 H1 M1 s1 ok1 => k S1 H1 M1 s1 ok1⟩⟩
end
end J
namespace Y
open PySem L2 J
section
variable {P : Program} {w : World} {K : PySem.W.Frag} {mg : Str → Option Value} {base : Heap} {C CB CO CN CH CM : Addr}
abbrev sLaw : Stmt := top t_law
abbrev nLaw : List Str := ["_law_script", "_law_bag", "_law_drawn", "_law_many", "_law_below", "_law_order_here", "_law_upper", "_law_k", "_law_couples", "_law_goal", "_law_told", "_law_other", "_law_pair", "_law_lacking", "_law_step", "_law_due"]
theorem scLaw : FnScope nLaw ["_law_script"] (defScope sLaw) := ⟨rfl, rfl, rfl, by decide +kernel, rfl, by decide +kernel, by decide +kernel⟩
abbrev spLaw (K : PySem.W.Frag) : Sp := spF K (fun ns : List Int => ns.length ≤ 100000) (fun ns => [.sh (.lst (ns.map .int))]) (fun _ => .ok (.sh (.bl true), [none]))
theorem order_at {bag : List Int} {most : Nat} (h : 1 ≤ most) (h16 : most ≤ 16) : ∀ p vs H Q E, spJ K (.ol (some p) (bag.map .int) :: ([.int (most : Nat)] : List D).map Sl.sh) (.ok (.sh (.lst [.int ((ordD most bag).1 : Nat), mD (ordD most bag).2.1]), some (.ol (some p) ((ordD most bag).2.2.map .int)) :: (fun _ : Addr => [none]) p)) vs H Q E → spOrd K vs H Q E := fun p => spF_at (p, bag, most) (And.intro h h16) rfl rfl
theorem makeT_at {n : Nat} {m : List (List Bool)} (t : Tab n m) : ∀ p vs H Q E, spJ K (.oi p C [] :: (([D.int (n : Nat), D.lst ((stepsM m n).map prD)] : List D) ++ []).map Sl.sh) (.ok (.sh .non, some (.oi p C (ordM n m).fs) :: (fun _ : Addr => [none, none]) p)) vs H Q E → spInit K C vs H Q E :=
  init_at (b := true) (pre_of t.n1 t.n16 (stepsM_S m n) (Nat.le_trans (stepsM_len t.n16) (by decide)) (acy_tab t)) rfl
theorem walk_at {n : Nat} {m g : List (List Bool)} (t : Tab n m) (tg : Tab n g) (s : Sub n m g) : ∀ vs H Q E, spJ K [.sh ((ordM n m).d C), .sh (.int (n : Nat)), .sh (mD m), .sh (mD g), .sh ((ordM n g).d C)] (.ok (.sh (.bl true), [none, none, none, none, none])) vs H Q E → spWalk K C vs H Q E := spF_at ((n, m, g) : Nat × List (List Bool) × List (List Bool)) (And.intro t (And.intro tg s)) rfl rfl
theorem back_at {n : Nat} {m : List (List Bool)} (t : Tab n m) : ∀ vs H Q E, spJ K [.sh ((ordM n m).d C), .sh (.int (n : Nat)), .sh (mD m)] (.ok (.sh (.bl true), [none, none, none])) vs H Q E → spBack K C vs H Q E := spF_at (n, m) t rfl rfl
theorem closedU_at {n : Nat} {m : List (List Bool)} {p : Pr} (t : Tab n m) (ho : p ∈ openM m n) : ∀ vs H Q E, spJ K [.sh (.int (n : Nat)), .sh (.lst ((stepsM m n).map prD ++ [prD p]))] (.ok (.sh (mD (grownM m n p)), [none, none])) vs H Q E → spClosed K vs H Q E := closed_at t ho
abbrev oD (C : Addr) (t : TT2) : D := (ordM t.1 t.2).d C
def pairD (C : Addr) (t : TT2 × TT2) : D := .lst [oD C t.1, oD C t.2]
set_option maxHeartbeats 16000000 in
theorem ok_law {f : Addr} {fd : FuncData} (F : Fun K "law" "law" sLaw f fd) (Tx : Txt mg) (hC : OrdC K C) (L : OrdL P w K mg base C) (nK : NmC P w K mg base C) (nDr : Nm P w K mg base "_law_draws" ["_law_script"] 1 (spDraws K)) (nTa : Nm P w K mg base "_law_take" ["_law_bag", "_law_many"] 1 (spTake K)) (nOr : Nm P w K mg base "_law_order" ["_law_bag", "_law_most"] 3 (spOrd K))
    (nS : Nm P w K mg base "_law_steps" ["_law_below"] 1 (spSteps K)) (nC : Nm P w K mg base "_law_closed" ["_law_size", "_law_steps_here"] 1 (spClosed K)) (nO : Nm P w K mg base "_law_open" ["_law_size", "_law_below"] 2 (spOpenL K)) (nW : Nm P w K mg base "_law_walked" ["_law_order_here", "_law_many", "_law_below", "_law_upper", "_law_goal"] 9 (spWalk K C))
    (nB : Nm P w K mg base "_law_taken_back" ["_law_goal", "_law_many", "_law_upper"] 10 (spBack K C)) (nR : Nm P w K mg base "_law_refused" ["_law_order_here", "_law_other", "_law_u", "_law_v", "_law_word"] 9 (spRef K C)) (nH : Nm P w K mg base "_law_holds" ["_law_order_here", "_law_other", "_law_due"] 4 (spHoldsL K C)) (nLa : Nm P w K mg base "_law_large" [] 9 (spLarge K)) :
    FnOk P w K mg base (L2.CX P w) 11 f fd ["_law_script"] (spLaw K) := by
  obtain ⟨f1, fd1, F1, m1, k1, b1⟩ := nDr.ex
  obtain ⟨f2, fd2, F2, m2, k2, b2⟩ := nTa.ex
  obtain ⟨f3, fd3, F3, m3, k3, b3⟩ := nOr.ex
  obtain ⟨f4, fd4, F4, m4, k4, b4⟩ := nS.ex
  obtain ⟨f5, fd5, F5, m5, k5, b5⟩ := nC.ex
  obtain ⟨f6, fd6, F6, m6, k6, b6⟩ := nO.ex
  obtain ⟨f7, fd7, F7, m7, k7, b7⟩ := nW.ex
  obtain ⟨f8, fd8, F8, m8, k8, b8⟩ := nB.ex
  obtain ⟨f9, fd9, F9, m9, k9, b9⟩ := nR.ex
  obtain ⟨fa, fda, Fa, ma, ka, ba⟩ := nH.ex
  obtain ⟨fb, fdb, Fb, mb, kb, bb⟩ := nLa.ex
  obtain ⟨fi, fdi, Mi, Fi, bi⟩ := nK.ex
  refine jd F scLaw _ _ _ (fun _ => rfl) (fun ns hd cdv A outer s H E Γ hr tk => ?_)
  have T1 := (ordD_tab (most := 5) (by decide) (by decide) (draws ns)).1
  generalize hA : ordD 5 (draws ns) = dA at T1
  obtain ⟨n, m, bg1⟩ := dA
  dsimp only at T1
  have t7 := take_rng bg1 (m := 7) (by decide)
  have U0 : UpOk n m ((take bg1 7).2, m) := ⟨T1, fun _ _ _ _ h => h⟩
  have UF : UpOk n m ((rng 0 (take bg1 7).1.toNat).foldl (fun st _ => upS n st) ((take bg1 7).2, m)) := fold_inv U0 fun st x _ h => upS_ok h
  generalize hU : (rng 0 (take bg1 7).1.toNat).foldl (fun st _ => upS n st) ((take bg1 7).2, m) = uf at UF
  obtain ⟨bg2, g⟩ := uf
  obtain ⟨Tg, Sg⟩ := UF
  dsimp only at Tg Sg
  have T2 := (ordD_tab (most := 5) (by decide) (by decide) bg2).1
  generalize hB : ordD 5 bg2 = dB at T2
  obtain ⟨n2, m2t, bg3⟩ := dB
  dsimp only at T2
  have oA := ordM_obs T1
  have oG := ordM_obs Tg
  have hA1 : ∀ p vs H Q E, spJ K (.ol (some p) ((draws ns).map .int) :: ([.int ((5 : Nat) : Int)] : List D).map Sl.sh) (.ok (.sh (.lst [.int (n : Nat), mD m]), some (.ol (some p) (bg1.map .int)) :: (fun _ : Addr => [none]) p)) vs H Q E → spOrd K vs H Q E := by
    have q := order_at (K := K) (bag := draws ns) (most := 5) (by decide) (by decide)
    rw [hA] at q; exact q
  have hB1 : ∀ p vs H Q E, spJ K (.ol (some p) (bg2.map .int) :: ([.int ((5 : Nat) : Int)] : List D).map Sl.sh) (.ok (.sh (.lst [.int (n2 : Nat), mD m2t]), some (.ol (some p) (bg3.map .int)) :: (fun _ : Addr => [none]) p)) vs H Q E → spOrd K vs H Q E := by
    have q := order_at (K := K) (bag := bg2) (most := 5) (by decide) (by decide)
    rw [hB] at q; exact q
  let xs : List (TT2 × TT2) := [((n, m), (n, g)), ((n, g), (n, m)), ((n, m), (n2, m2t)), ((n2, m2t), (n, m))]
  have hxs : ∀ t ∈ xs, okT t.1 ∧ okT t.2 := fun t ht => by
    simp only [xs, List.mem_cons, List.not_mem_nil, or_false] at ht
    rcases ht with rfl | rfl | rfl | rfl
    · exact ⟨T1, Tg⟩
    · exact ⟨Tg, T1⟩
    · exact ⟨T1, T2⟩
    · exact ⟨T2, T1⟩
  let Au : List Int × List (List Bool) → Slots := fun st => [some (.sh (.lst (ns.map .int))), some (.ol none (st.1.map .int)), none, some (.sh (.int (n : Nat))), some (.sh (mD m)), some (.sh ((ordM n m).d C)), some (.sh (mD st.2)), none, none, none, none, none, none, none, none, none]
  let Ap : Slots := [none, some (.ol none (bg3.map .int)), none, some (.sh (.int (n : Nat))), some (.sh (mD m)), some (.sh ((ordM n m).d C)), some (.sh (mD g)), none, none, some (.sh ((ordM n g).d C)), none, some (.sh ((ordM n2 m2t).d C)), none, none, none, none]
  have zA : (ordM n m).st.length ≤ 100000 := by rw [oA.st]; exact Nat.le_trans (stepsM_len T1.n16) (by decide)
  have zA2 : (ordM n m).ab.length ≤ 100000 := by rw [oA.abl]; have := T1.n16; omega
  have zG : (ordM n g).st.length ≤ 100000 := by rw [oG.st]; exact Nat.le_trans (stepsM_len Tg.n16) (by decide)
  have zG2 : (ordM n g).ab.length ≤ 100000 := by rw [oG.abl]; have := Tg.n16; omega
  refine ⟨_, jcons (jset 1 (jcall F1 (hr.mono (by decide)) m1 k1 b1 (jacons (jvar 0 rfl) janil) (spF_at ns hd rfl rfl)) scLaw.nd)
    (jcons (jset 2 (jcallO 1 F3 (hr.mono (by decide)) m3 k3 b3 rfl (jacons jint janil) rfl hA1) scLaw.nd)
    (jcons (jset 3 (jixL (ds := [.int (n : Nat), mD m]) (jvar 2 rfl) jint rfl) scLaw.nd)
    (jcons (jset 4 (jixL (ds := [.int (n : Nat), mD m]) (jvar 2 rfl) jint rfl) scLaw.nd)
    (jcons (jset 5 (jmake (gs := (ordM n m).fs) Mi Fi (hr.mono (by decide)) nK.gl bi .nil (fun _ => .nil) (jacons (jvar 3 rfl) (jacons (jfrz (jcall F4 (hr.mono (by decide)) m4 k4 b4 (jacons (jvar 4 rfl) janil) (steps_at T1))) janil)) (makeT_at T1)) scLaw.nd)
    (jcons (jset 6 (jvar 4 rfl) scLaw.nd)
    (jcons (jfor0F (rng 0 (take bg1 7).1.toNat) D.int (.n 7) Au (fun st _ => upS n st) ((take bg1 7).2, m) (bg2, g) hU (passes_of rfl) (jir1 (jacons (jcallO 1 F2 (hr.mono (by decide)) m2 k2 b2 rfl (jacons jint janil) rfl take_at) janil) Tx.range ⟨by omega, by omega⟩) (by (repeat' (first | exact Wk.nil | refine Wk.same ?_ | refine Wk.drop ?_))) (pg_name scLaw.nd rfl (by first | exact Or.inl rfl | exact Or.inr rfl)) (fun _ _ => trivial) (fun pre k post hx => ?turn1))
    (jcons (jset 9 (jmake (gs := (ordM n g).fs) Mi Fi (hr.mono (by decide)) nK.gl bi .nil (fun _ => .nil) (jacons (jvar 3 rfl) (jacons (jfrz (jcall F4 (hr.mono (by decide)) m4 k4 b4 (jacons (jvar 6 rfl) janil) (steps_at Tg))) janil)) (makeT_at Tg)) scLaw.nd)
    (jcons (jif (c := false) (o1 := .nx []) (PW.pt (jtOr (c := false) (c' := false) (jtNot (c := true) (jtB (jcall F7 (hr.mono (by decide)) m7 k7 b7 (jacons (jvar 5 rfl) (jacons (jvar 3 rfl) (jacons (jvar 4 rfl) (jacons (jvar 6 rfl) (jacons (jvar 9 rfl) janil))))) (walk_at T1 Tg Sg))))
      (fun _ => jtOr1 (jtNot (c := true) (jtB (jcall F7 (hr.mono (by decide)) m7 k7 b7 (jacons (jvar 9 rfl) (jacons (jvar 3 rfl) (jacons (jvar 6 rfl) (jacons (jvar 6 rfl) (jacons (jvar 9 rfl) janil))))) (walk_at Tg Tg fun _ _ _ _ h => h))))))) (fun z => by cases z) (fun _ => jnil))
    (jcons (jif (c := false) (o1 := .nx []) (jtNot (c := true) (jtB (jcall F8 hr m8 k8 b8 (jacons (jvar 9 rfl) (jacons (jvar 3 rfl) (jacons (jvar 6 rfl) janil))) (back_at Tg)))) (fun z => by cases z) (fun _ => jnil))
    (jcons (jset 10 (jcallO 1 F3 (hr.mono (by decide)) m3 k3 b3 rfl (jacons jint janil) rfl hB1) scLaw.nd)
    (jcons (jset 11 (jmake (gs := (ordM n2 m2t).fs) Mi Fi (hr.mono (by decide)) nK.gl bi .nil (fun _ => .nil) (jacons (jixL (ds := [.int (n2 : Nat), mD m2t]) (jvar 10 rfl) jint rfl) (jacons (jfrz (jcall F4 (hr.mono (by decide)) m4 k4 b4 (jacons (jixL (ds := [.int (n2 : Nat), mD m2t]) (jvar 10 rfl) jint rfl) janil) (steps_at T2))) janil)) (makeT_at T2)) scLaw.nd)
    (jcons (jfor0F xs (pairD C) (.n 12) (fun _ : Unit => Ap) (fun _ _ => ()) () () (fold_unit _) (passes_of rfl) (jil (jlst (jacons (jlst (jacons (jvar 5 rfl) (jacons (jvar 9 rfl) janil))) (jacons (jlst (jacons (jvar 9 rfl) (jacons (jvar 5 rfl) janil))) (jacons (jlst (jacons (jvar 5 rfl) (jacons (jvar 11 rfl) janil))) (jacons (jlst (jacons (jvar 11 rfl) (jacons (jvar 5 rfl) janil))) janil)))))) (by (repeat' (first | exact Wk.nil | refine Wk.same ?_ | refine Wk.drop ?_))) (pg_name scLaw.nd rfl (by first | exact Or.inl rfl | exact Or.inr rfl)) (fun _ _ => trivial) (fun pre t post hx => ?turn2))
    (jcons (jif (c := false) (o1 := .nx []) (jtC (PW.pt (jtAndS (jteqI (jcallO 1 F2 (hr.mono (by decide)) m2 k2 b2 rfl (jacons jint janil) rfl take_at) jint) (fun _ => jtAnd1 (jtNot (c := true) (jtB (jcall0 Fb (hr.mono (by decide)) mb kb bb (spF_at () trivial rfl rfl))))))) (by simp)) (fun z => by cases z) (fun _ => jnil))
    (jlast (jret (jeC (d := .bl true) (d' := .bl true) (A1 := Ap.set 1 (some (.ol none ((take bg3 24).2.map .int)))) ?ret rfl)))))))))))))))), rfl, rfl⟩
  case ret =>
    exact jeC (d := .bl (decide ((ordM n m).st = stepsM m n) && decide ((ordM n g).st = stepsM g n))) (jAnd (jeqLP (l := (ordM n m).st) (m := stepsM m n) hr.u64 (jfrz (jlistOrd L (hr.mono (by decide)) Tx.list (jacons (jvar 5 rfl) janil) zA zA2)) (jfrz (jcall F4 (hr.mono (by decide)) m4 k4 b4 (jacons (jvar 4 rfl) janil) (steps_at T1))))
      (fun _ => jOne (jeqLP (l := (ordM n g).st) (m := stepsM g n) hr.u64 (jfrz (jlistOrd L (hr.mono (by decide)) Tx.list (jacons (jvar 9 rfl) janil) zG zG2)) (jfrz (jcall F4 (hr.mono (by decide)) m4 k4 b4 (jacons (jvar 6 rfl) janil) (steps_at Tg)))))) (by rw [oA.st, oG.st]; simp)
  case turn1 =>
    have hst : UpOk n m (pre.foldl (fun st _ => upS n st) ((take bg1 7).2, m)) := fold_inv U0 fun st x _ h => upS_ok h
    generalize pre.foldl (fun st _ => upS n st) ((take bg1 7).2, m) = st at hst
    obtain ⟨bag, u⟩ := st
    obtain ⟨Tu, Su⟩ := hst
    dsimp only at Tu Su
    have hs256 : (stepsM u n).length ≤ 256 := stepsM_len Tu.n16
    refine ⟨_, jcons (jset 8 (jcall F6 (hr.mono (by decide)) m6 k6 b6 (jacons (jvar 3 rfl) (jacons (jvar 6 rfl) janil)) (openL_at Tu)) scLaw.nd)
      (jlast (jifB (c := decide (0 < ((cLen n u : Nat) : Int))) (B := Au (upS n (bag, u))) (jtgt (jlenO 8 rfl (hp := fun h => pe_callB call_len_seq (by rfl) Tx.len PySem.boot_len h)) jint) (fun hc => ?up) (fun hc => ⟨_, jnil, by
        have e : upS n (bag, u) = (bag, u) := by unfold upS; rw [if_neg (by rw [hc]; decide)]
        rw [e]; (repeat' (first | exact Wk.nil | refine Wk.same ?_ | refine Wk.drop ?_))⟩))), Wk.refl _⟩
    have hl : 0 < cLen n u := by rw [decide_eq_true_eq] at hc; omega
    obtain ⟨e1, ho, e0⟩ := open_at (bag := bag) hl
    have e : upS n (bag, u) = ((take bag (cLen n u : Nat)).2, grownM u n ((openM u n).getD (take bag (cLen n u : Nat)).1.toNat (0, 0))) := by unfold upS; rw [if_pos hc]
    rw [e]
    generalize (openM u n).getD (take bag (cLen n u : Nat)).1.toNat (0, 0) = p at e1 ho
    exact ⟨_, jlast (jset 6 (jcall F5 (hr.mono (by decide)) m5 k5 b5 (jacons (jvar 3 rfl) (jacons (jfrz (jcatL (ds := (stepsM u n).map prD) (ds1 := [prD p]) (jfrz (jcall F4 (hr.mono (by decide)) m4 k4 b4 (jacons (jvar 6 rfl) janil) (steps_at Tu)))
      (jlst (jacons (jixO (ds := (openM u n).map prD) 8 rfl (jcallO 1 F2 (hr.mono (by decide)) m2 k2 b2 rfl (jacons (jlenO 8 rfl (hp := fun h => pe_callB call_len_seq (by rfl) Tx.len PySem.boot_len h)) janil) rfl take_at) rfl (atI_map e0 e1)) janil)) (by rw [List.length_map]; exact Nat.le_trans (Nat.add_le_add_right hs256 1) (by decide)))) janil)) (closedU_at Tu ho)) scLaw.nd), by (repeat' (first | exact Wk.nil | refine Wk.same ?_ | refine Wk.drop ?_))⟩
  case turn2 =>
    obtain ⟨ta, tb⟩ := hxs t (by rw [hx]; simp)
    obtain ⟨a, b⟩ := t
    dsimp only at ta tb
    have oa := ordM_obs (show Tab a.1 a.2 from ta)
    have ob := ordM_obs (show Tab b.1 b.2 from tb)
    have za : (ordM a.1 a.2).st.length ≤ 100000 := by rw [oa.st]; exact Nat.le_trans (stepsM_len ta.n16) (by decide)
    have za2 : (ordM a.1 a.2).ab.length ≤ 100000 := by rw [oa.abl]; have := ta.n16; omega
    have zb : (ordM b.1 b.2).st.length ≤ 100000 := by rw [ob.st]; exact Nat.le_trans (stepsM_len tb.n16) (by decide)
    have zb2 : (ordM b.1 b.2).ab.length ≤ 100000 := by rw [ob.abl]; have := tb.n16; omega
    obtain ⟨ps, hpre, hans⟩ := ask_path ta tb
    generalize hlk : lackL (ordM a.1 a.2) (ordM b.1 b.2) = lk at hans
    have p0 : ∀ {X : Cx} {A : Slots} {pos : Pos} {p1 p2 : Pos} {kk : Nat} (h : A[12]? = some (some (.sh (pairD C (a, b))))) (hN : X.N[12]? = some ("_law_pair" : Str)) (hv : Vis X.env.scope ("_law_pair" : Str)), PE X (.Subscript (.Name "_law_pair" p1) (.Constant (.int 0) kk p2) pos) (JE X.K Γ A (.sh (oD C a)) A) := fun h hN hv => jixL (ds := [oD C a, oD C b]) (jvar 12 h hN hv) jint rfl
    have p1 : ∀ {X : Cx} {A : Slots} {pos : Pos} {p1 p2 : Pos} {kk : Nat} (h : A[12]? = some (some (.sh (pairD C (a, b))))) (hN : X.N[12]? = some ("_law_pair" : Str)) (hv : Vis X.env.scope ("_law_pair" : Str)), PE X (.Subscript (.Name "_law_pair" p1) (.Constant (.int 1) kk p2) pos) (JE X.K Γ A (.sh (oD C b)) A) := fun h hN hv => jixL (ds := [oD C a, oD C b]) (jvar 12 h hN hv) jint rfl
    let B : D → Slots := fun due => [none, some (.ol none (bg3.map .int)), none, some (.sh (.int (n : Nat))), some (.sh (mD m)), some (.sh ((ordM n m).d C)), some (.sh (mD g)), none, none, some (.sh ((ordM n g).d C)), none, some (.sh ((ordM n2 m2t).d C)), some (.sh (pairD C (a, b))), some (.ol none (lk.map prD)), none, some (.sh due)]
    refine ⟨_, jcons (jsetLcQ 13 (ordM a.1 a.2).st prD (.n 14) [("_law_step", 14)] (fun p => !decide (p ∈ (ordM b.1 b.2).st)) prD (lk.map prD) (by rw [← hlk]; rfl) scLaw.nd (jil (jfrz (jlistOrd L (hr.mono (by decide)) Tx.list (jacons (p0 rfl rfl (by first | exact Or.inl rfl | exact Or.inr (Or.inl rfl) | exact Or.inr (Or.inr rfl))) janil) za za2))) (blkOk_by (by show blkC nLaw (defScope sLaw) _ _ = true; decide +kernel)) (fun s H C cl fp => pg_name scLaw.nd rfl (by first | exact Or.inl rfl | exact Or.inr rfl)) (fun _ _ => trivial) za
        (fun p hp => ⟨fun Γ s H C1 cl fp => jts1 (jtniLP (p := p) (l := (ordM b.1 b.2).st) (by exact hr.u65) (jvar 14 rfl) (jfrz (jlistOrd L (by exact hr.mono (by decide)) Tx.list (jacons (jixL (ds := [oD C a, oD C b]) (jvar 12 rfl) jint rfl) janil) zb zb2))), fun _ Γ s H C cl fp => jvar 14 rfl⟩))
      (jcons (jset 15 jnon scLaw.nd)
      (jcons (jifB (c := !decide ((((ordM a.1 a.2).ab.length : Nat) : Int) = (((ordM b.1 b.2).ab.length : Nat) : Int))) (B := B (dueD b.1 (decide (a.1 = b.1)) lk)) (jtneI (jlenOrd L (hr.mono (by decide)) Tx.len (jacons (p0 rfl rfl (by first | exact Or.inl rfl | exact Or.inr (Or.inl rfl) | exact Or.inr (Or.inr rfl))) janil) za2) (jlenOrd L (hr.mono (by decide)) Tx.len (jacons (p1 rfl rfl (by first | exact Or.inl rfl | exact Or.inr (Or.inl rfl) | exact Or.inr (Or.inr rfl))) janil) zb2)) (fun hc => ?other) (fun hc => ?same))
      (jlast (jif (c := false) (o1 := .nx []) (jtC (jtneD hr.u64 (jcall F9 (hr.mono (by decide)) m9 k9 b9 (jacons (p0 rfl rfl (by first | exact Or.inl rfl | exact Or.inr (Or.inl rfl) | exact Or.inr (Or.inr rfl))) (jacons (p1 rfl rfl (by first | exact Or.inl rfl | exact Or.inr (Or.inl rfl) | exact Or.inr (Or.inr rfl))) (jacons jint (jacons jint (jacons jint janil))))) (spF_at (Ask.path (ordM a.1 a.2) (ordM b.1 b.2) ps) hpre rfl (by rw [hans]))) (jvar 15 rfl) (cmp_due _ _ _) (cmp_due _ _ _)) (by rw [deq_due]; rfl)) (fun z => by cases z) (fun _ => jnil))))), by (repeat' (first | exact Wk.nil | refine Wk.same ?_ | refine Wk.drop ?_))⟩
    case other =>
      have hn : ¬ a.1 = b.1 := fun e => by
        rw [oa.abl, ob.abl, e] at hc
        simp at hc
      obtain ⟨hp2, ha2⟩ := ask_hld ta tb hn lk
      have ed : dueD b.1 (decide (a.1 = b.1)) lk = dueD b.1 false lk := by rw [decide_eq_false hn]
      have ew : dueD b.1 false lk = why "OtherSize" (.int (((ordM b.1 b.2).ab.length : Nat) : Int)) (.int 0) := by rw [ob.abl]; rfl
      rw [ed, ew]
      rw [ew] at ha2
      exact ⟨_, jcons (jset 15 (jtup (jacons jstr (jacons (jlenOrd L (hr.mono (by decide)) Tx.len (jacons (p1 rfl rfl (by first | exact Or.inl rfl | exact Or.inr (Or.inl rfl) | exact Or.inr (Or.inr rfl))) janil) zb2) (jacons jint (jacons jbl (jacons jbl janil)))))) scLaw.nd)
        (jlast (jif (c := false) (o1 := .nx []) (jtC (jtneD hr.u64 (jcall F9 (hr.mono (by decide)) m9 k9 b9 (jacons (p0 rfl rfl (by first | exact Or.inl rfl | exact Or.inr (Or.inl rfl) | exact Or.inr (Or.inr rfl))) (jacons (p1 rfl rfl (by first | exact Or.inl rfl | exact Or.inr (Or.inl rfl) | exact Or.inr (Or.inr rfl))) (jacons jint (jacons jint (jacons jint janil))))) (spF_at (Ask.hld (ordM a.1 a.2) (ordM b.1 b.2)) hp2 rfl (by rw [ha2]))) (jvar 15 rfl) (cmp_why (x := "OtherSize") (by decide +kernel)) (cmp_why (x := "OtherSize") (by decide +kernel))) (congrArg (fun b => !b) (deq_refl_why "OtherSize" _ 0))) (fun z => by cases z) (fun _ => jnil))), by (repeat' (first | exact Wk.nil | refine Wk.same ?_ | refine Wk.drop ?_))⟩
    case same =>
      have hn : a.1 = b.1 := by
        rw [oa.abl, ob.abl] at hc
        have : ((a.1 : Nat) : Int) = (b.1 : Nat) := by simpa using hc
        omega
      obtain ⟨na, ma'⟩ := a
      obtain ⟨nb, mb'⟩ := b
      dsimp only at hn
      subst hn
      have ed : dueD na (decide (na = na)) lk = dueD na true lk := by rw [decide_eq_true rfl]
      dsimp only
      rw [ed]
      cases lk with
      | nil => exact ⟨_, jlast (jif (c := false) (o1 := .nx []) (jtC (jtgt (jlenO 13 rfl (hp := fun h => pe_callB call_len_seq (by rfl) Tx.len PySem.boot_len h)) jint) (by decide)) (fun z => by cases z) (fun _ => jnil)), by (repeat' (first | exact Wk.nil | refine Wk.same ?_ | refine Wk.drop ?_))⟩
      | cons p l =>
        have e1 : decide ((0 : Int) < ((((p :: l).map prD).length : Nat) : Int)) = true := by rw [List.map_cons, List.length_cons, decide_eq_true_eq]; omega
        exact ⟨_, jlast (jif (c := true) (o2 := .nx []) (jtC (jtgt (jlenO 13 rfl (hp := fun h => pe_callB call_len_seq (by rfl) Tx.len PySem.boot_len h)) jint) e1) (fun _ => jcons (jset 15 (jtup (jacons jstr (jacons (jixT (ds := [.int p.1, .int p.2]) (jixO 13 rfl jint rfl (atI_map (l := p :: l) (by decide) rfl)) jint rfl) (jacons (jixT (ds := [.int p.1, .int p.2]) (jixO 13 rfl jint rfl (atI_map (l := p :: l) (by decide) rfl)) jint rfl) (jacons jbl (jacons jbl janil)))))) scLaw.nd)
          (jlast (jif (c := false) (o1 := .nx []) (jtNot (c := true) (jtB (jcall Fa (hr.mono (by decide)) ma ka ba (jacons (p1 rfl rfl (by first | exact Or.inl rfl | exact Or.inr (Or.inl rfl) | exact Or.inr (Or.inr rfl))) (jacons (p0 rfl rfl (by first | exact Or.inl rfl | exact Or.inr (Or.inl rfl) | exact Or.inr (Or.inr rfl))) (jacons jbl janil))) (holdsL_at (due := false) tb ta (not_sub ta tb hlk))))) (fun z => by cases z) (fun _ => jnil)))) (fun z => by cases z)), by (repeat' (first | exact Wk.nil | refine Wk.same ?_ | refine Wk.drop ?_))⟩
end
end Y
namespace Y
open PySem L2 J
def clsB (i : Nat) : Stmt := match top i with
  | .ClassDef _ _ _ b _ _ _ _ _ _ _ => b.getD 0 (.Pass ⟨0, 0, 0, 0⟩)
  | _ => .Pass ⟨0, 0, 0, 0⟩
theorem kit_ref {K : PySem.W.Frag} {A C : Addr} {b : Bool} (hdct : PySem.W.hasDictIn K C = true) (ht : PySem.W.typeIn K (.ref C) = some (.type "type")) (h4 : PySem.W.subIn K (.ref A) (.ref C) = some b) (ne : (Value.ref A == Value.ref C) = false) : PySem.W.kitOne K (.ref A) (.ref C) = some b := by
  obtain ⟨cd, hc, _⟩ := PySem.W.any_some hdct
  have e2 : ((PySem.W.clsIn K C).isSome && PySem.W.typeIn K (.ref C) == some (.type "type")) = true := by rw [hc, ht] <;> rfl
  show (if (Value.ref A == Value.ref C) = true then some true else (if ((PySem.W.clsIn K C).isSome && PySem.W.typeIn K (.ref C) == some (.type "type")) = true then PySem.W.subIn K (.ref A) (.ref C) else none)) = some b
  rw [ne, if_neg (by decide), if_pos e2]
  exact h4
theorem bits16 (n : Int) (sts : List Pr) (h : preO n sts) (lo : Int) : Builtin.Int.intBits (gI (aboves n sts) lo) ≤ 16 := by
  obtain ⟨⟨h0, h1⟩, h2, _⟩ := h
  obtain ⟨k, rfl⟩ := Int.eq_ofNat_of_zero_le (a := n) (by omega)
  have hin : InS k sts := fun p hp => by have := okS_in (h2 p hp); exact this
  by_cases hl : lo.toNat < k
  · have e : gI (aboves k sts) lo = gI (aboves k sts) (lo.toNat : Int) := by unfold gI; rw [Int.toNat_natCast]
    rw [e]
    have := ((aboves_ok hin).msk (lo.toNat : Int) ⟨by omega, by omega⟩).bits
    omega
  · have : gI (aboves k sts) lo = 0 := by
      unfold gI
      rw [List.getD_eq_getElem?_getD, List.getElem?_eq_none_iff.mpr (by rw [aboves_len, nat_toNat]; omega)]; rfl
    rw [this]; decide
set_option maxHeartbeats 8000000 in
theorem all_mk {P : Program} {w : World} {K : PySem.W.Frag} {h : Heap} {mg : Str → Option Value} {fa : Addr} (X : K.In h) (G : h.Ns mainGlobals mg) (hfa : mg "law" = some (.ref fa))
    {C CM : Addr}
    {f0 : Addr}
    {od0 an0 : Option Addr} {sl0 : Array (Option Value)} {oc0 kV0 dc0 pm0 cd0 ct0 : Value}
    {f1 : Addr}
    {od1 an1 : Option Addr} {sl1 : Array (Option Value)} {oc1 kV1 dc1 pm1 cd1 ct1 : Value}
    {f2 : Addr}
    {od2 an2 : Option Addr} {sl2 : Array (Option Value)} {oc2 kV2 dc2 pm2 cd2 ct2 : Value}
    {fbt : Addr}
    {odbt anbt : Option Addr} {slbt : Array (Option Value)} {ocbt kVbt dcbt pmbt cdbt ctbt : Value}
    {f3 : Addr}
    {od3 an3 : Option Addr} {sl3 : Array (Option Value)} {oc3 kV3 dc3 pm3 cd3 ct3 : Value}
    {f4 : Addr}
    {od4 an4 : Option Addr} {sl4 : Array (Option Value)} {oc4 kV4 dc4 pm4 cd4 ct4 : Value}
    {f5 : Addr}
    {od5 an5 : Option Addr} {sl5 : Array (Option Value)} {oc5 kV5 dc5 pm5 cd5 ct5 : Value}
    {f6 : Addr}
    {od6 an6 : Option Addr} {sl6 : Array (Option Value)} {oc6 kV6 dc6 pm6 cd6 ct6 : Value}
    {f7 : Addr}
    {od7 an7 : Option Addr} {sl7 : Array (Option Value)} {oc7 kV7 dc7 pm7 cd7 ct7 : Value}
    {f8 : Addr}
    {od8 an8 : Option Addr} {sl8 : Array (Option Value)} {oc8 kV8 dc8 pm8 cd8 ct8 : Value}
    {f9 : Addr}
    {od9 an9 : Option Addr} {sl9 : Array (Option Value)} {oc9 kV9 dc9 pm9 cd9 ct9 : Value}
    {f10 : Addr}
    {od10 an10 : Option Addr} {sl10 : Array (Option Value)} {oc10 kV10 dc10 pm10 cd10 ct10 : Value}
    {f11 : Addr}
    {od11 an11 : Option Addr} {sl11 : Array (Option Value)} {oc11 kV11 dc11 pm11 cd11 ct11 : Value}
    {f12 : Addr}
    {od12 an12 : Option Addr} {sl12 : Array (Option Value)} {oc12 kV12 dc12 pm12 cd12 ct12 : Value}
    {f13 : Addr}
    {od13 an13 : Option Addr} {sl13 : Array (Option Value)} {oc13 kV13 dc13 pm13 cd13 ct13 : Value}
    {fhl : Addr}
    {odhl anhl : Option Addr} {slhl : Array (Option Value)} {ochl kVhl dchl pmhl cdhl cthl : Value}
    {f14 : Addr}
    {od14 an14 : Option Addr} {sl14 : Array (Option Value)} {oc14 kV14 dc14 pm14 cd14 ct14 : Value}
    {f15 : Addr}
    {od15 an15 : Option Addr} {sl15 : Array (Option Value)} {oc15 kV15 dc15 pm15 cd15 ct15 : Value}
    {f16 : Addr}
    {od16 an16 : Option Addr} {sl16 : Array (Option Value)} {oc16 kV16 dc16 pm16 cd16 ct16 : Value}
    {f17 : Addr}
    {od17 an17 : Option Addr} {sl17 : Array (Option Value)} {oc17 kV17 dc17 pm17 cd17 ct17 : Value}
    {f18 : Addr}
    {od18 an18 : Option Addr} {sl18 : Array (Option Value)} {oc18 kV18 dc18 pm18 cd18 ct18 : Value}
    {f19 : Addr}
    {od19 an19 : Option Addr} {sl19 : Array (Option Value)} {oc19 kV19 dc19 pm19 cd19 ct19 : Value}
    {f20 : Addr}
    {od20 an20 : Option Addr} {sl20 : Array (Option Value)} {oc20 kV20 dc20 pm20 cd20 ct20 : Value}
    {f21 : Addr}
    {od21 an21 : Option Addr} {sl21 : Array (Option Value)} {oc21 kV21 dc21 pm21 cd21 ct21 : Value}
    {f22 : Addr}
    {od22 an22 : Option Addr} {sl22 : Array (Option Value)} {oc22 kV22 dc22 pm22 cd22 ct22 : Value}
    {f23 : Addr}
    {od23 an23 : Option Addr} {sl23 : Array (Option Value)} {oc23 kV23 dc23 pm23 cd23 ct23 : Value}
    {f24 : Addr}
    {od24 an24 : Option Addr} {sl24 : Array (Option Value)} {oc24 kV24 dc24 pm24 cd24 ct24 : Value}
    {f25 : Addr}
    {od25 an25 : Option Addr} {sl25 : Array (Option Value)} {oc25 kV25 dc25 pm25 cd25 ct25 : Value}
    {f26 : Addr}
    {od26 an26 : Option Addr} {sl26 : Array (Option Value)} {oc26 kV26 dc26 pm26 cd26 ct26 : Value}
    {f27 : Addr}
    {od27 an27 : Option Addr} {sl27 : Array (Option Value)} {oc27 kV27 dc27 pm27 cd27 ct27 : Value}
    {f28 : Addr}
    {od28 an28 : Option Addr} {sl28 : Array (Option Value)} {oc28 kV28 dc28 pm28 cd28 ct28 : Value}
    {f29 : Addr}
    {od29 an29 : Option Addr} {sl29 : Array (Option Value)} {oc29 kV29 dc29 pm29 cd29 ct29 : Value}
    {f30 : Addr}
    {od30 an30 : Option Addr} {sl30 : Array (Option Value)} {oc30 kV30 dc30 pm30 cd30 ct30 : Value}
    {fm0 : Addr}
    {odm0 anm0 : Option Addr} {slm0 : Array (Option Value)} {ocm0 kVm0 dcm0 pmm0 cdm0 ctm0 : Value}
    {fm1 : Addr}
    {odm1 anm1 : Option Addr} {slm1 : Array (Option Value)} {ocm1 kVm1 dcm1 pmm1 cdm1 ctm1 : Value}
    {fm2 : Addr}
    {odm2 anm2 : Option Addr} {slm2 : Array (Option Value)} {ocm2 kVm2 dcm2 pmm2 cdm2 ctm2 : Value}
    {fm3 : Addr}
    {odm3 anm3 : Option Addr} {slm3 : Array (Option Value)} {ocm3 kVm3 dcm3 pmm3 cdm3 ctm3 : Value}
    {fm4 : Addr}
    {odm4 anm4 : Option Addr} {slm4 : Array (Option Value)} {ocm4 kVm4 dcm4 pmm4 cdm4 ctm4 : Value}
    {fm5 : Addr}
    {odm5 anm5 : Option Addr} {slm5 : Array (Option Value)} {ocm5 kVm5 dcm5 pmm5 cdm5 ctm5 : Value}
    {fm6 : Addr}
    {odm6 anm6 : Option Addr} {slm6 : Array (Option Value)} {ocm6 kVm6 dcm6 pmm6 cdm6 ctm6 : Value}
    {fm7 : Addr}
    {odm7 anm7 : Option Addr} {slm7 : Array (Option Value)} {ocm7 kVm7 dcm7 pmm7 cdm7 ctm7 : Value}
    {fI TI eI : Addr} {nI nJ : Nat} {oT oE : Option Addr} {sT sE : Array (Option Value)}
    {odI anI : Option Addr} {slI : Array (Option Value)} {ocI kVI dcI pmI cdI ctI : Value}
    {tmp : Tok}
    {CEB fEB NEB : Addr} {nmEB qEB : Str} {bsEB bmEB : List Value} {snEB : List Str} {subEB : List Value} {abEB : Bool} {colEB : Option Bool} {ddEB : Option Addr} {m0EB m1EB m2EB m3EB m5EB : Option Value}
    {odEB anEB : Option Addr} {slEB : Array (Option Value)} {ocEB kVEB dcEB pmEB cdEB ctEB : Value}
    {CEN fEN NEN : Addr} {nmEN qEN : Str} {bsEN bmEN : List Value} {snEN : List Str} {subEN : List Value} {abEN : Bool} {colEN : Option Bool} {ddEN : Option Addr} {m0EN m1EN m2EN m3EN m5EN : Option Value}
    {odEN anEN : Option Addr} {slEN : Array (Option Value)} {ocEN kVEN dcEN pmEN cdEN ctEN : Value}
    {CEH fEH NEH : Addr} {nmEH qEH : Str} {bsEH bmEH : List Value} {snEH : List Str} {subEH : List Value} {abEH : Bool} {colEH : Option Bool} {ddEH : Option Addr} {m0EH m1EH m2EH m3EH m5EH : Option Value}
    {odEH anEH : Option Addr} {slEH : Array (Option Value)} {ocEH kVEH dcEH pmEH cdEH ctEH : Value}
    {CEO fEO NEO : Addr} {nmEO qEO : Str} {bsEO bmEO : List Value} {snEO : List Str} {subEO : List Value} {abEO : Bool} {colEO : Option Bool} {ddEO : Option Addr} {m0EO m1EO m2EO m3EO m5EO : Option Value}
    {odEO anEO : Option Addr} {slEO : Array (Option Value)} {ocEO kVEO dcEO pmEO cdEO ctEO : Value}
    (aC : PySem.W.nsIn K mainGlobals "Order" = some (some (.ref C)))
    (aM : PySem.W.nsIn K mainGlobals "MixError" = some (some (.ref CM)))
    (a0 : PySem.W.nsIn K mainGlobals "places_in" = some (some (.ref f0)))
    (l0 : K.lookup f0 = some ⟨oc0, od0, .func (PySem.W.fnOf "places_in" "places_in" (defArgs sPlacesIn) (defBody sPlacesIn) (defScope sPlacesIn) .none kV0 dc0 pm0 an0 cd0 ct0), sl0⟩)
    (c0 : PySem.W.codeIn K cd0 "places_in" = true)
    (k0 : PySem.W.keepIn K (.ref f0) = true)
    (a1 : PySem.W.nsIn K mainGlobals "is_int" = some (some (.ref f1)))
    (l1 : K.lookup f1 = some ⟨oc1, od1, .func (PySem.W.fnOf "is_int" "is_int" (defArgs sIsInt) (defBody sIsInt) (defScope sIsInt) .none kV1 dc1 pm1 an1 cd1 ct1), sl1⟩)
    (c1 : PySem.W.codeIn K cd1 "is_int" = true)
    (k1 : PySem.W.keepIn K (.ref f1) = true)
    (a2 : PySem.W.nsIn K mainGlobals "is_at_least" = some (some (.ref f2)))
    (l2 : K.lookup f2 = some ⟨oc2, od2, .func (PySem.W.fnOf "is_at_least" "is_at_least" (defArgs sAtLeast) (defBody sAtLeast) (defScope sAtLeast) .none kV2 dc2 pm2 an2 cd2 ct2), sl2⟩)
    (c2 : PySem.W.codeIn K cd2 "is_at_least" = true)
    (k2 : PySem.W.keepIn K (.ref f2) = true)
    (abt : PySem.W.nsIn K mainGlobals "is_between" = some (some (.ref fbt)))
    (lbt : K.lookup fbt = some ⟨ocbt, odbt, .func (PySem.W.fnOf "is_between" "is_between" (defArgs sBetween) (defBody sBetween) (defScope sBetween) .none kVbt dcbt pmbt anbt cdbt ctbt), slbt⟩)
    (cbt : PySem.W.codeIn K cdbt "is_between" = true)
    (kbt : PySem.W.keepIn K (.ref fbt) = true)
    (a3 : PySem.W.nsIn K mainGlobals "check_number" = some (some (.ref f3)))
    (l3 : K.lookup f3 = some ⟨oc3, od3, .func (PySem.W.fnOf "check_number" "check_number" (defArgs sCheck) (defBody sCheck) (defScope sCheck) .none kV3 dc3 pm3 an3 cd3 ct3), sl3⟩)
    (c3 : PySem.W.codeIn K cd3 "check_number" = true)
    (k3 : PySem.W.keepIn K (.ref f3) = true)
    (a4 : PySem.W.nsIn K mainGlobals "is_place" = some (some (.ref f4)))
    (l4 : K.lookup f4 = some ⟨oc4, od4, .func (PySem.W.fnOf "is_place" "is_place" (defArgs sIsPlace) (defBody sIsPlace) (defScope sIsPlace) .none kV4 dc4 pm4 an4 cd4 ct4), sl4⟩)
    (c4 : PySem.W.codeIn K cd4 "is_place" = true)
    (k4 : PySem.W.keepIn K (.ref f4) = true)
    (a5 : PySem.W.nsIn K mainGlobals "place_of" = some (some (.ref f5)))
    (l5 : K.lookup f5 = some ⟨oc5, od5, .func (PySem.W.fnOf "place_of" "place_of" (defArgs sPlaceOf) (defBody sPlaceOf) (defScope sPlaceOf) .none kV5 dc5 pm5 an5 cd5 ct5), sl5⟩)
    (c5 : PySem.W.codeIn K cd5 "place_of" = true)
    (k5 : PySem.W.keepIn K (.ref f5) = true)
    (a6 : PySem.W.nsIn K mainGlobals "_is_step" = some (some (.ref f6)))
    (l6 : K.lookup f6 = some ⟨oc6, od6, .func (PySem.W.fnOf "_is_step" "_is_step" (defArgs sIsStep) (defBody sIsStep) (defScope sIsStep) .none kV6 dc6 pm6 an6 cd6 ct6), sl6⟩)
    (c6 : PySem.W.codeIn K cd6 "_is_step" = true)
    (k6 : PySem.W.keepIn K (.ref f6) = true)
    (a7 : PySem.W.nsIn K mainGlobals "steps_of" = some (some (.ref f7)))
    (l7 : K.lookup f7 = some ⟨oc7, od7, .func (PySem.W.fnOf "steps_of" "steps_of" (defArgs sStepsOf) (defBody sStepsOf) (defScope sStepsOf) .none kV7 dc7 pm7 an7 cd7 ct7), sl7⟩)
    (c7 : PySem.W.codeIn K cd7 "steps_of" = true)
    (k7 : PySem.W.keepIn K (.ref f7) = true)
    (a8 : PySem.W.nsIn K mainGlobals "_followed" = some (some (.ref f8)))
    (l8 : K.lookup f8 = some ⟨oc8, od8, .func (PySem.W.fnOf "_followed" "_followed" (defArgs sFollowed) (defBody sFollowed) (defScope sFollowed) .none kV8 dc8 pm8 an8 cd8 ct8), sl8⟩)
    (c8 : PySem.W.codeIn K cd8 "_followed" = true)
    (k8 : PySem.W.keepIn K (.ref f8) = true)
    (a9 : PySem.W.nsIn K mainGlobals "_upside_down" = some (some (.ref f9)))
    (l9 : K.lookup f9 = some ⟨oc9, od9, .func (PySem.W.fnOf "_upside_down" "_upside_down" (defArgs sUp) (defBody sUp) (defScope sUp) .none kV9 dc9 pm9 an9 cd9 ct9), sl9⟩)
    (c9 : PySem.W.codeIn K cd9 "_upside_down" = true)
    (k9 : PySem.W.keepIn K (.ref f9) = true)
    (a10 : PySem.W.nsIn K mainGlobals "tied" = some (some (.ref f10)))
    (l10 : K.lookup f10 = some ⟨oc10, od10, .func (PySem.W.fnOf "tied" "tied" (defArgs sTied) (defBody sTied) (defScope sTied) .none kV10 dc10 pm10 an10 cd10 ct10), sl10⟩)
    (c10 : PySem.W.codeIn K cd10 "tied" = true)
    (k10 : PySem.W.keepIn K (.ref f10) = true)
    (a11 : PySem.W.nsIn K mainGlobals "_is_single" = some (some (.ref f11)))
    (l11 : K.lookup f11 = some ⟨oc11, od11, .func (PySem.W.fnOf "_is_single" "_is_single" (defArgs sSingle) (defBody sSingle) (defScope sSingle) .none kV11 dc11 pm11 an11 cd11 ct11), sl11⟩)
    (c11 : PySem.W.codeIn K cd11 "_is_single" = true)
    (k11 : PySem.W.keepIn K (.ref f11) = true)
    (a12 : PySem.W.nsIn K mainGlobals "single_ties" = some (some (.ref f12)))
    (l12 : K.lookup f12 = some ⟨oc12, od12, .func (PySem.W.fnOf "single_ties" "single_ties" (defArgs sSingles) (defBody sSingles) (defScope sSingles) .none kV12 dc12 pm12 an12 cd12 ct12), sl12⟩)
    (c12 : PySem.W.codeIn K cd12 "single_ties" = true)
    (k12 : PySem.W.keepIn K (.ref f12) = true)
    (a13 : PySem.W.nsIn K mainGlobals "tie_path" = some (some (.ref f13)))
    (l13 : K.lookup f13 = some ⟨oc13, od13, .func (PySem.W.fnOf "tie_path" "tie_path" (defArgs sPath) (defBody sPath) (defScope sPath) .none kV13 dc13 pm13 an13 cd13 ct13), sl13⟩)
    (c13 : PySem.W.codeIn K cd13 "tie_path" = true)
    (k13 : PySem.W.keepIn K (.ref f13) = true)
    (ahl : PySem.W.nsIn K mainGlobals "check_held" = some (some (.ref fhl)))
    (lhl : K.lookup fhl = some ⟨ochl, odhl, .func (PySem.W.fnOf "check_held" "check_held" (defArgs sHeld) (defBody sHeld) (defScope sHeld) .none kVhl dchl pmhl anhl cdhl cthl), slhl⟩)
    (chl : PySem.W.codeIn K cdhl "check_held" = true)
    (khl : PySem.W.keepIn K (.ref fhl) = true)
    (a14 : PySem.W.nsIn K mainGlobals "untied" = some (some (.ref f14)))
    (l14 : K.lookup f14 = some ⟨oc14, od14, .func (PySem.W.fnOf "untied" "untied" (defArgs sUntied) (defBody sUntied) (defScope sUntied) .none kV14 dc14 pm14 an14 cd14 ct14), sl14⟩)
    (c14 : PySem.W.codeIn K cd14 "untied" = true)
    (k14 : PySem.W.keepIn K (.ref f14) = true)
    (a15 : PySem.W.nsIn K mainGlobals "_law_draws" = some (some (.ref f15)))
    (l15 : K.lookup f15 = some ⟨oc15, od15, .func (PySem.W.fnOf "_law_draws" "_law_draws" (defArgs sDraws) (defBody sDraws) (defScope sDraws) .none kV15 dc15 pm15 an15 cd15 ct15), sl15⟩)
    (c15 : PySem.W.codeIn K cd15 "_law_draws" = true)
    (k15 : PySem.W.keepIn K (.ref f15) = true)
    (a16 : PySem.W.nsIn K mainGlobals "_law_take" = some (some (.ref f16)))
    (l16 : K.lookup f16 = some ⟨oc16, od16, .func (PySem.W.fnOf "_law_take" "_law_take" (defArgs sTake) (defBody sTake) (defScope sTake) .none kV16 dc16 pm16 an16 cd16 ct16), sl16⟩)
    (c16 : PySem.W.codeIn K cd16 "_law_take" = true)
    (k16 : PySem.W.keepIn K (.ref f16) = true)
    (a17 : PySem.W.nsIn K mainGlobals "_law_closed" = some (some (.ref f17)))
    (l17 : K.lookup f17 = some ⟨oc17, od17, .func (PySem.W.fnOf "_law_closed" "_law_closed" (defArgs sClosed) (defBody sClosed) (defScope sClosed) .none kV17 dc17 pm17 an17 cd17 ct17), sl17⟩)
    (c17 : PySem.W.codeIn K cd17 "_law_closed" = true)
    (k17 : PySem.W.keepIn K (.ref f17) = true)
    (a18 : PySem.W.nsIn K mainGlobals "_law_steps" = some (some (.ref f18)))
    (l18 : K.lookup f18 = some ⟨oc18, od18, .func (PySem.W.fnOf "_law_steps" "_law_steps" (defArgs sSteps) (defBody sSteps) (defScope sSteps) .none kV18 dc18 pm18 an18 cd18 ct18), sl18⟩)
    (c18 : PySem.W.codeIn K cd18 "_law_steps" = true)
    (k18 : PySem.W.keepIn K (.ref f18) = true)
    (a19 : PySem.W.nsIn K mainGlobals "_law_drawn_steps" = some (some (.ref f19)))
    (l19 : K.lookup f19 = some ⟨oc19, od19, .func (PySem.W.fnOf "_law_drawn_steps" "_law_drawn_steps" (defArgs sDraw) (defBody sDraw) (defScope sDraw) .none kV19 dc19 pm19 an19 cd19 ct19), sl19⟩)
    (c19 : PySem.W.codeIn K cd19 "_law_drawn_steps" = true)
    (k19 : PySem.W.keepIn K (.ref f19) = true)
    (a20 : PySem.W.nsIn K mainGlobals "_law_order" = some (some (.ref f20)))
    (l20 : K.lookup f20 = some ⟨oc20, od20, .func (PySem.W.fnOf "_law_order" "_law_order" (defArgs sOrd) (defBody sOrd) (defScope sOrd) .none kV20 dc20 pm20 an20 cd20 ct20), sl20⟩)
    (c20 : PySem.W.codeIn K cd20 "_law_order" = true)
    (k20 : PySem.W.keepIn K (.ref f20) = true)
    (a21 : PySem.W.nsIn K mainGlobals "_law_pairs" = some (some (.ref f21)))
    (l21 : K.lookup f21 = some ⟨oc21, od21, .func (PySem.W.fnOf "_law_pairs" "_law_pairs" (defArgs sPairs) (defBody sPairs) (defScope sPairs) .none kV21 dc21 pm21 an21 cd21 ct21), sl21⟩)
    (c21 : PySem.W.codeIn K cd21 "_law_pairs" = true)
    (k21 : PySem.W.keepIn K (.ref f21) = true)
    (a22 : PySem.W.nsIn K mainGlobals "_law_open" = some (some (.ref f22)))
    (l22 : K.lookup f22 = some ⟨oc22, od22, .func (PySem.W.fnOf "_law_open" "_law_open" (defArgs sOpenL) (defBody sOpenL) (defScope sOpenL) .none kV22 dc22 pm22 an22 cd22 ct22), sl22⟩)
    (c22 : PySem.W.codeIn K cd22 "_law_open" = true)
    (k22 : PySem.W.keepIn K (.ref f22) = true)
    (a23 : PySem.W.nsIn K mainGlobals "_law_refused" = some (some (.ref f23)))
    (l23 : K.lookup f23 = some ⟨oc23, od23, .func (PySem.W.fnOf "_law_refused" "_law_refused" (defArgs sRef) (defBody sRef) (defScope sRef) .none kV23 dc23 pm23 an23 cd23 ct23), sl23⟩)
    (c23 : PySem.W.codeIn K cd23 "_law_refused" = true)
    (k23 : PySem.W.keepIn K (.ref f23) = true)
    (a24 : PySem.W.nsIn K mainGlobals "_law_single" = some (some (.ref f24)))
    (l24 : K.lookup f24 = some ⟨oc24, od24, .func (PySem.W.fnOf "_law_single" "_law_single" (defArgs sSingleL) (defBody sSingleL) (defScope sSingleL) .none kV24 dc24 pm24 an24 cd24 ct24), sl24⟩)
    (c24 : PySem.W.codeIn K cd24 "_law_single" = true)
    (k24 : PySem.W.keepIn K (.ref f24) = true)
    (a25 : PySem.W.nsIn K mainGlobals "_law_next" = some (some (.ref f25)))
    (l25 : K.lookup f25 = some ⟨oc25, od25, .func (PySem.W.fnOf "_law_next" "_law_next" (defArgs sNextL) (defBody sNextL) (defScope sNextL) .none kV25 dc25 pm25 an25 cd25 ct25), sl25⟩)
    (c25 : PySem.W.codeIn K cd25 "_law_next" = true)
    (k25 : PySem.W.keepIn K (.ref f25) = true)
    (a26 : PySem.W.nsIn K mainGlobals "_law_holds" = some (some (.ref f26)))
    (l26 : K.lookup f26 = some ⟨oc26, od26, .func (PySem.W.fnOf "_law_holds" "_law_holds" (defArgs sHoldsL) (defBody sHoldsL) (defScope sHoldsL) .none kV26 dc26 pm26 an26 cd26 ct26), sl26⟩)
    (c26 : PySem.W.codeIn K cd26 "_law_holds" = true)
    (k26 : PySem.W.keepIn K (.ref f26) = true)
    (a27 : PySem.W.nsIn K mainGlobals "_law_walked" = some (some (.ref f27)))
    (l27 : K.lookup f27 = some ⟨oc27, od27, .func (PySem.W.fnOf "_law_walked" "_law_walked" (defArgs sWalk) (defBody sWalk) (defScope sWalk) .none kV27 dc27 pm27 an27 cd27 ct27), sl27⟩)
    (c27 : PySem.W.codeIn K cd27 "_law_walked" = true)
    (k27 : PySem.W.keepIn K (.ref f27) = true)
    (a28 : PySem.W.nsIn K mainGlobals "_law_taken_back" = some (some (.ref f28)))
    (l28 : K.lookup f28 = some ⟨oc28, od28, .func (PySem.W.fnOf "_law_taken_back" "_law_taken_back" (defArgs sBack) (defBody sBack) (defScope sBack) .none kV28 dc28 pm28 an28 cd28 ct28), sl28⟩)
    (c28 : PySem.W.codeIn K cd28 "_law_taken_back" = true)
    (k28 : PySem.W.keepIn K (.ref f28) = true)
    (a29 : PySem.W.nsIn K mainGlobals "_law_large" = some (some (.ref f29)))
    (l29 : K.lookup f29 = some ⟨oc29, od29, .func (PySem.W.fnOf "_law_large" "_law_large" (defArgs sLarge) (defBody sLarge) (defScope sLarge) .none kV29 dc29 pm29 an29 cd29 ct29), sl29⟩)
    (c29 : PySem.W.codeIn K cd29 "_law_large" = true)
    (k29 : PySem.W.keepIn K (.ref f29) = true)
    (a30 : PySem.W.nsIn K mainGlobals "law" = some (some (.ref f30)))
    (l30 : K.lookup f30 = some ⟨oc30, od30, .func (PySem.W.fnOf "law" "law" (defArgs sLaw) (defBody sLaw) (defScope sLaw) .none kV30 dc30 pm30 an30 cd30 ct30), sl30⟩)
    (c30 : PySem.W.codeIn K cd30 "law" = true)
    (k30 : PySem.W.keepIn K (.ref f30) = true)
    (am0 : PySem.W.findIn K (.ref C) "steps_told" = some (some (.ref fm0)))
    (im0 : PySem.W.isFn K (.ref fm0) = true)
    (lm0 : K.lookup fm0 = some ⟨ocm0, odm0, .func (PySem.W.fnOf "steps_told" "Order.steps_told" (defArgs (ordB 2)) (defBody (ordB 2)) (defScope (ordB 2)) .none kVm0 dcm0 pmm0 anm0 cdm0 ctm0), slm0⟩)
    (cm0 : PySem.W.codeIn K cdm0 "Order.steps_told" = true)
    (km0 : PySem.W.keepIn K (.ref fm0) = true)
    (am1 : PySem.W.findIn K (.ref C) "next_steps" = some (some (.ref fm1)))
    (im1 : PySem.W.isFn K (.ref fm1) = true)
    (lm1 : K.lookup fm1 = some ⟨ocm1, odm1, .func (PySem.W.fnOf "next_steps" "Order.next_steps" (defArgs (ordB 3)) (defBody (ordB 3)) (defScope (ordB 3)) .none kVm1 dcm1 pmm1 anm1 cdm1 ctm1), slm1⟩)
    (cm1 : PySem.W.codeIn K cdm1 "Order.next_steps" = true)
    (km1 : PySem.W.keepIn K (.ref fm1) = true)
    (am2 : PySem.W.findIn K (.ref C) "are_open" = some (some (.ref fm2)))
    (im2 : PySem.W.isFn K (.ref fm2) = true)
    (lm2 : K.lookup fm2 = some ⟨ocm2, odm2, .func (PySem.W.fnOf "are_open" "Order.are_open" (defArgs (ordB 6)) (defBody (ordB 6)) (defScope (ordB 6)) .none kVm2 dcm2 pmm2 anm2 cdm2 ctm2), slm2⟩)
    (cm2 : PySem.W.codeIn K cdm2 "Order.are_open" = true)
    (km2 : PySem.W.keepIn K (.ref fm2) = true)
    (am3 : PySem.W.findIn K (.ref C) "holds" = some (some (.ref fm3)))
    (im3 : PySem.W.isFn K (.ref fm3) = true)
    (lm3 : K.lookup fm3 = some ⟨ocm3, odm3, .func (PySem.W.fnOf "holds" "Order.holds" (defArgs (ordB 12)) (defBody (ordB 12)) (defScope (ordB 12)) .none kVm3 dcm3 pmm3 anm3 cdm3 ctm3), slm3⟩)
    (cm3 : PySem.W.codeIn K cdm3 "Order.holds" = true)
    (km3 : PySem.W.keepIn K (.ref fm3) = true)
    (am4 : PySem.W.findIn K (.ref C) "__eq__" = some (some (.ref fm4)))
    (im4 : PySem.W.isFn K (.ref fm4) = true)
    (lm4 : K.lookup fm4 = some ⟨ocm4, odm4, .func (PySem.W.fnOf "__eq__" "Order.__eq__" (defArgs (ordB 15)) (defBody (ordB 15)) (defScope (ordB 15)) .none kVm4 dcm4 pmm4 anm4 cdm4 ctm4), slm4⟩)
    (cm4 : PySem.W.codeIn K cdm4 "Order.__eq__" = true)
    (km4 : PySem.W.keepIn K (.ref fm4) = true)
    (am5 : PySem.W.findIn K (.ref C) "__contains__" = some (some (.ref fm5)))
    (im5 : PySem.W.isFn K (.ref fm5) = true)
    (lm5 : K.lookup fm5 = some ⟨ocm5, odm5, .func (PySem.W.fnOf "__contains__" "Order.__contains__" (defArgs (ordB 16)) (defBody (ordB 16)) (defScope (ordB 16)) .none kVm5 dcm5 pmm5 anm5 cdm5 ctm5), slm5⟩)
    (cm5 : PySem.W.codeIn K cdm5 "Order.__contains__" = true)
    (km5 : PySem.W.keepIn K (.ref fm5) = true)
    (am6 : PySem.W.findIn K (.ref C) "__len__" = some (some (.ref fm6)))
    (im6 : PySem.W.isFn K (.ref fm6) = true)
    (lm6 : K.lookup fm6 = some ⟨ocm6, odm6, .func (PySem.W.fnOf "__len__" "Order.__len__" (defArgs (ordB 17)) (defBody (ordB 17)) (defScope (ordB 17)) .none kVm6 dcm6 pmm6 anm6 cdm6 ctm6), slm6⟩)
    (cm6 : PySem.W.codeIn K cdm6 "Order.__len__" = true)
    (km6 : PySem.W.keepIn K (.ref fm6) = true)
    (am7 : PySem.W.findIn K (.ref C) "__iter__" = some (some (.ref fm7)))
    (im7 : PySem.W.isFn K (.ref fm7) = true)
    (lm7 : K.lookup fm7 = some ⟨ocm7, odm7, .func (PySem.W.fnOf "__iter__" "Order.__iter__" (defArgs (ordB 18)) (defBody (ordB 18)) (defScope (ordB 18)) .none kVm7 dcm7 pmm7 anm7 cdm7 ctm7), slm7⟩)
    (cm7 : PySem.W.codeIn K cdm7 "Order.__iter__" = true)
    (km7 : PySem.W.keepIn K (.ref fm7) = true)
    (aI : PySem.W.findIn K (.ref C) "__init__" = some (some (.ref fI)))
    (iI : PySem.W.isFn K (.ref fI) = true)
    (lI : K.lookup fI = some ⟨ocI, odI, .func (PySem.W.fnOf "__init__" "Order.__init__" (defArgs sInit) (defBody sInit) (defScope sInit) (.ref TI) kVI dcI pmI anI cdI ctI), slI⟩)
    (cI : PySem.W.codeIn K cdI "Order.__init__" = true)
    (kI : PySem.W.keepIn K (.ref fI) = true)
    (tI : K.lookup TI = some ⟨.type "tuple", oT, .seq #[.ref eI] nI, sT⟩)
    (eI0 : K.lookup eI = some ⟨.type "tuple", oE, .seq #[] nJ, sE⟩)
    (pg : PySem.W.plainGet K C Str.empty = true)
    (hd : PySem.W.hasDictIn K C = true)
    (po : PySem.W.plainOver K C = true)
    (sa : PySem.W.findIn K (.ref C) "__setattr__" = some (some (.builtin "object.__setattr__")))
    (mk : PySem.W.makesIn K C = true)
    (kc : PySem.W.keepIn K (.ref C) = true)
    (oca : PySem.W.findIn K (.ref C) "__class__" = some (some (.builtin "object.__class__")))
    (gn : PySem.W.specialIn K (.builtin "object.__class__") "__get__" = some (some (.builtin "getset_descriptor.__get__")))
    (gt : PySem.W.takesIn K (.builtin "object.__class__") = some true)
    (omr : PySem.W.mroIn K C (.type "object") = some true)
    (n_size : PySem.W.findIn K (.ref C) "size" = some none)
    (n_aboves : PySem.W.findIn K (.ref C) "aboves" = some none)
    (n_belows : PySem.W.findIn K (.ref C) "belows" = some none)
    (n__steps : PySem.W.findIn K (.ref C) "_steps" = some none)
    (ne : PySem.W.findIn K (.ref C) "__ne__" = some (some (.builtin "object.__ne__")))
    (mp : PySem.W.nsIn K mainGlobals "MOST_PLACES" = some (some (.int 16 tmp)))
    (z_len : PySem.W.nsIn K mainGlobals "len" = some none)
    (z_int : PySem.W.nsIn K mainGlobals "int" = some none)
    (z_bool : PySem.W.nsIn K mainGlobals "bool" = some none)
    (z_list : PySem.W.nsIn K mainGlobals "list" = some none)
    (z_tuple : PySem.W.nsIn K mainGlobals "tuple" = some none)
    (z_range : PySem.W.nsIn K mainGlobals "range" = some none)
    (z_isinstance : PySem.W.nsIn K mainGlobals "isinstance" = some none)
    (z_enumerate : PySem.W.nsIn K mainGlobals "enumerate" = some none)
    (z_sum : PySem.W.nsIn K mainGlobals "sum" = some none)
    (z_all : PySem.W.nsIn K mainGlobals "all" = some none)
    (z_zip : PySem.W.nsIn K mainGlobals "zip" = some none)
    (z_min : PySem.W.nsIn K mainGlobals "min" = some none)
    (z_sorted : PySem.W.nsIn K mainGlobals "sorted" = some none)
    (z_iter : PySem.W.nsIn K mainGlobals "iter" = some none)
    (tyM : PySem.W.typeIn K (.ref CM) = some (.type "type"))
    (hdM : PySem.W.hasDictIn K CM = true)
    (gEB : PySem.W.nsIn K mainGlobals "BadPlace" = some (some (.ref CEB)))
    (xEB : K.lookup CEB = some (excClassObj nmEB qEB CEB NEB bsEB bmEB true snEB subEB abEB colEB ddEB m0EB m1EB m2EB m3EB m5EB "ValueError.__new__"))
    (vEB : PySem.HandSPX.refsVE bmEB = true)
    (saEB : PySem.W.findIn K (.ref CEB) "__setattr__" = some (some (.builtin "object.__setattr__")))
    (gaEB : PySem.W.findIn K (.ref CEB) "__getattribute__" = some (some (.builtin "BaseException.__getattribute__")))
    (ggEB : PySem.W.findIn K (.ref CEB) "__getattr__" = some none)
    (exEB : PySem.W.subIn K (.ref CEB) (.type "BaseException") = some true)
    (tyEB : PySem.W.typeIn K (.ref CEB) = some (.type "type"))
    (kcEB : PySem.W.keepIn K (.ref CEB) = true)
    (hdEB : PySem.W.hasDictIn K CEB = true)
    (caEB : PySem.W.findIn K (.ref CEB) "__class__" = some (some (.builtin "object.__class__")))
    (mrEB : PySem.W.mroIn K CEB (.type "object") = some true)
    (noEB_name : PySem.W.findIn K (.ref CEB) "name" = some none)
    (aEB : PySem.W.findIn K (.ref CEB) "__init__" = some (some (.ref fEB)))
    (ftEB : PySem.W.typeIn K (.ref fEB) = some (.type "function"))
    (lEB : K.lookup fEB = some ⟨ocEB, odEB, .func (PySem.W.fnOf "__init__" "BadPlace.__init__" (defArgs (clsB t_BadPlace)) (defBody (clsB t_BadPlace)) (defScope (clsB t_BadPlace)) .none kVEB dcEB pmEB anEB cdEB ctEB), slEB⟩)
    (cEB : PySem.W.codeIn K cdEB "BadPlace.__init__" = true)
    (kEB : PySem.W.keepIn K (.ref fEB) = true)
    (smEB : PySem.W.subIn K (.ref CEB) (.ref CM) = some true)
    (dmEB : (Value.ref CEB == Value.ref CM) = false)
    (gEN : PySem.W.nsIn K mainGlobals "NotOpen" = some (some (.ref CEN)))
    (xEN : K.lookup CEN = some (excClassObj nmEN qEN CEN NEN bsEN bmEN true snEN subEN abEN colEN ddEN m0EN m1EN m2EN m3EN m5EN "ValueError.__new__"))
    (vEN : PySem.HandSPX.refsVE bmEN = true)
    (saEN : PySem.W.findIn K (.ref CEN) "__setattr__" = some (some (.builtin "object.__setattr__")))
    (gaEN : PySem.W.findIn K (.ref CEN) "__getattribute__" = some (some (.builtin "BaseException.__getattribute__")))
    (ggEN : PySem.W.findIn K (.ref CEN) "__getattr__" = some none)
    (exEN : PySem.W.subIn K (.ref CEN) (.type "BaseException") = some true)
    (tyEN : PySem.W.typeIn K (.ref CEN) = some (.type "type"))
    (kcEN : PySem.W.keepIn K (.ref CEN) = true)
    (hdEN : PySem.W.hasDictIn K CEN = true)
    (caEN : PySem.W.findIn K (.ref CEN) "__class__" = some (some (.builtin "object.__class__")))
    (mrEN : PySem.W.mroIn K CEN (.type "object") = some true)
    (noEN_low : PySem.W.findIn K (.ref CEN) "low" = some none)
    (noEN_high : PySem.W.findIn K (.ref CEN) "high" = some none)
    (aEN : PySem.W.findIn K (.ref CEN) "__init__" = some (some (.ref fEN)))
    (ftEN : PySem.W.typeIn K (.ref fEN) = some (.type "function"))
    (lEN : K.lookup fEN = some ⟨ocEN, odEN, .func (PySem.W.fnOf "__init__" "NotOpen.__init__" (defArgs (clsB t_NotOpen)) (defBody (clsB t_NotOpen)) (defScope (clsB t_NotOpen)) .none kVEN dcEN pmEN anEN cdEN ctEN), slEN⟩)
    (cEN : PySem.W.codeIn K cdEN "NotOpen.__init__" = true)
    (kEN : PySem.W.keepIn K (.ref fEN) = true)
    (smEN : PySem.W.subIn K (.ref CEN) (.ref CM) = some true)
    (dmEN : (Value.ref CEN == Value.ref CM) = false)
    (gEH : PySem.W.nsIn K mainGlobals "NotHeld" = some (some (.ref CEH)))
    (xEH : K.lookup CEH = some (excClassObj nmEH qEH CEH NEH bsEH bmEH true snEH subEH abEH colEH ddEH m0EH m1EH m2EH m3EH m5EH "ValueError.__new__"))
    (vEH : PySem.HandSPX.refsVE bmEH = true)
    (saEH : PySem.W.findIn K (.ref CEH) "__setattr__" = some (some (.builtin "object.__setattr__")))
    (gaEH : PySem.W.findIn K (.ref CEH) "__getattribute__" = some (some (.builtin "BaseException.__getattribute__")))
    (ggEH : PySem.W.findIn K (.ref CEH) "__getattr__" = some none)
    (exEH : PySem.W.subIn K (.ref CEH) (.type "BaseException") = some true)
    (tyEH : PySem.W.typeIn K (.ref CEH) = some (.type "type"))
    (kcEH : PySem.W.keepIn K (.ref CEH) = true)
    (hdEH : PySem.W.hasDictIn K CEH = true)
    (caEH : PySem.W.findIn K (.ref CEH) "__class__" = some (some (.builtin "object.__class__")))
    (mrEH : PySem.W.mroIn K CEH (.type "object") = some true)
    (noEH_low : PySem.W.findIn K (.ref CEH) "low" = some none)
    (noEH_high : PySem.W.findIn K (.ref CEH) "high" = some none)
    (aEH : PySem.W.findIn K (.ref CEH) "__init__" = some (some (.ref fEH)))
    (ftEH : PySem.W.typeIn K (.ref fEH) = some (.type "function"))
    (lEH : K.lookup fEH = some ⟨ocEH, odEH, .func (PySem.W.fnOf "__init__" "NotHeld.__init__" (defArgs (clsB t_NotHeld)) (defBody (clsB t_NotHeld)) (defScope (clsB t_NotHeld)) .none kVEH dcEH pmEH anEH cdEH ctEH), slEH⟩)
    (cEH : PySem.W.codeIn K cdEH "NotHeld.__init__" = true)
    (kEH : PySem.W.keepIn K (.ref fEH) = true)
    (smEH : PySem.W.subIn K (.ref CEH) (.ref CM) = some true)
    (dmEH : (Value.ref CEH == Value.ref CM) = false)
    (gEO : PySem.W.nsIn K mainGlobals "OtherSize" = some (some (.ref CEO)))
    (xEO : K.lookup CEO = some (excClassObj nmEO qEO CEO NEO bsEO bmEO true snEO subEO abEO colEO ddEO m0EO m1EO m2EO m3EO m5EO "ValueError.__new__"))
    (vEO : PySem.HandSPX.refsVE bmEO = true)
    (saEO : PySem.W.findIn K (.ref CEO) "__setattr__" = some (some (.builtin "object.__setattr__")))
    (gaEO : PySem.W.findIn K (.ref CEO) "__getattribute__" = some (some (.builtin "BaseException.__getattribute__")))
    (ggEO : PySem.W.findIn K (.ref CEO) "__getattr__" = some none)
    (exEO : PySem.W.subIn K (.ref CEO) (.type "BaseException") = some true)
    (tyEO : PySem.W.typeIn K (.ref CEO) = some (.type "type"))
    (kcEO : PySem.W.keepIn K (.ref CEO) = true)
    (hdEO : PySem.W.hasDictIn K CEO = true)
    (caEO : PySem.W.findIn K (.ref CEO) "__class__" = some (some (.builtin "object.__class__")))
    (mrEO : PySem.W.mroIn K CEO (.type "object") = some true)
    (noEO_size : PySem.W.findIn K (.ref CEO) "size" = some none)
    (aEO : PySem.W.findIn K (.ref CEO) "__init__" = some (some (.ref fEO)))
    (ftEO : PySem.W.typeIn K (.ref fEO) = some (.type "function"))
    (lEO : K.lookup fEO = some ⟨ocEO, odEO, .func (PySem.W.fnOf "__init__" "OtherSize.__init__" (defArgs (clsB t_OtherSize)) (defBody (clsB t_OtherSize)) (defScope (clsB t_OtherSize)) .none kVEO dcEO pmEO anEO cdEO ctEO), slEO⟩)
    (cEO : PySem.W.codeIn K cdEO "OtherSize.__init__" = true)
    (kEO : PySem.W.keepIn K (.ref fEO) = true)
    (smEO : PySem.W.subIn K (.ref CEO) (.ref CM) = some true)
    (dmEO : (Value.ref CEO == Value.ref CM) = false)
    (sHH : PySem.W.subIn K (.ref CEH) (.ref CEH) = some true)
    (sNH : PySem.W.subIn K (.ref CEN) (.ref CEH) = some false)
    (sNN : PySem.W.subIn K (.ref CEN) (.ref CEN) = some true)
    (sOH : PySem.W.subIn K (.ref CEO) (.ref CEH) = some false)
    (sON : PySem.W.subIn K (.ref CEO) (.ref CEN) = some false)
    (sOO : PySem.W.subIn K (.ref CEO) (.ref CEO) = some true)
    (sBH : PySem.W.subIn K (.ref CEB) (.ref CEH) = some false)
    (sBN : PySem.W.subIn K (.ref CEB) (.ref CEN) = some false)
    (sBO : PySem.W.subIn K (.ref CEB) (.ref CEO) = some false)
    (sBB : PySem.W.subIn K (.ref CEB) (.ref CEB) = some true)
    (sHN : PySem.W.subIn K (.ref CEH) (.ref CEN) = some false)
    (dHN : (Value.ref CEH == Value.ref CEN) = false)
    (dNH : (Value.ref CEN == Value.ref CEH) = false)
    (dOH : (Value.ref CEO == Value.ref CEH) = false)
    (dBN : (Value.ref CEB == Value.ref CEN) = false) :
    ∃ fd : FuncData, (∀ (s : Shared) (v : Value), BindsTo s fd ⟨[v], []⟩ [("_law_script", v)]) ∧ ∀ base : Heap, K.In base → base.Ns mainGlobals mg → FnOk P w K mg base (L2.CX P w) 11 fa fd ["_law_script"] (spLaw K) := by
  have e := hfa.symm.trans (PySem.W.mg_of X G a30)
  cases e
  have Tx : Txt mg := ⟨PySem.W.mg_none_of X G z_len, PySem.W.mg_none_of X G z_int, PySem.W.mg_none_of X G z_bool, PySem.W.mg_none_of X G z_list, PySem.W.mg_none_of X G z_tuple, PySem.W.mg_none_of X G z_range, PySem.W.mg_none_of X G z_isinstance, PySem.W.mg_none_of X G z_enumerate, PySem.W.mg_none_of X G z_sum, PySem.W.mg_none_of X G z_all, PySem.W.mg_none_of X G z_zip, PySem.W.mg_none_of X G z_min, PySem.W.mg_none_of X G z_sorted⟩
  have cl : Cls K C := ⟨pg, hd, po, sa⟩
  have hC : OrdC K C := ⟨cl, n_size, n_aboves, n_belows, n__steps⟩
  have hI : C8.InsC K C := ⟨cl, oca, gn, gt, omr, by show (if (Value.ref C == Value.ref C) = true then _ else _) = _; rw [if_pos (beq_self_eq_true _)]⟩
  have hg : mg "Order" = some (.ref C) := PySem.W.mg_of X G aC
  have F0 := fun_mk (st := sPlacesIn) l0 c0 k0
  have b0 := F0.binds (ps := ["mask"]) fun _ _ _ _ _ _ us hl => match us, hl with | [_], _ => rfl
  have g0 := PySem.W.mg_of X G a0
  have F1 := fun_mk (st := sIsInt) l1 c1 k1
  have b1 := F1.binds (ps := ["value"]) fun _ _ _ _ _ _ us hl => match us, hl with | [_], _ => rfl
  have g1 := PySem.W.mg_of X G a1
  have F2 := fun_mk (st := sAtLeast) l2 c2 k2
  have b2 := F2.binds (ps := ["value", "least"]) fun _ _ _ _ _ _ us hl => match us, hl with | [_, _], _ => rfl
  have g2 := PySem.W.mg_of X G a2
  have Fbt := fun_mk (st := sBetween) lbt cbt kbt
  have bbt := Fbt.binds (ps := ["value", "least", "most"]) fun _ _ _ _ _ _ us hl => match us, hl with | [_, _, _], _ => rfl
  have gbt := PySem.W.mg_of X G abt
  have F3 := fun_mk (st := sCheck) l3 c3 k3
  have b3 := F3.binds (ps := ["value", "name", "least", "most"]) fun _ _ _ _ _ _ us hl => match us, hl with | [_, _, _, _], _ => rfl
  have g3 := PySem.W.mg_of X G a3
  have F4 := fun_mk (st := sIsPlace) l4 c4 k4
  have b4 := F4.binds (ps := ["value", "size"]) fun _ _ _ _ _ _ us hl => match us, hl with | [_, _], _ => rfl
  have g4 := PySem.W.mg_of X G a4
  have F5 := fun_mk (st := sPlaceOf) l5 c5 k5
  have b5 := F5.binds (ps := ["value", "size", "name"]) fun _ _ _ _ _ _ us hl => match us, hl with | [_, _, _], _ => rfl
  have g5 := PySem.W.mg_of X G a5
  have F6 := fun_mk (st := sIsStep) l6 c6 k6
  have b6 := F6.binds (ps := ["value", "size"]) fun _ _ _ _ _ _ us hl => match us, hl with | [_, _], _ => rfl
  have g6 := PySem.W.mg_of X G a6
  have F7 := fun_mk (st := sStepsOf) l7 c7 k7
  have b7 := F7.binds (ps := ["value", "size"]) fun _ _ _ _ _ _ us hl => match us, hl with | [_, _], _ => rfl
  have g7 := PySem.W.mg_of X G a7
  have F8 := fun_mk (st := sFollowed) l8 c8 k8
  have b8 := F8.binds (ps := ["size", "steps"]) fun _ _ _ _ _ _ us hl => match us, hl with | [_, _], _ => rfl
  have g8 := PySem.W.mg_of X G a8
  have F9 := fun_mk (st := sUp) l9 c9 k9
  have b9 := F9.binds (ps := ["masks"]) fun _ _ _ _ _ _ us hl => match us, hl with | [_], _ => rfl
  have g9 := PySem.W.mg_of X G a9
  have F10 := fun_mk (st := sTied) l10 c10 k10
  have g10 := PySem.W.mg_of X G a10
  have F11 := fun_mk (st := sSingle) l11 c11 k11
  have b11 := F11.binds (ps := ["order", "low", "high"]) fun _ _ _ _ _ _ us hl => match us, hl with | [_, _, _], _ => rfl
  have g11 := PySem.W.mg_of X G a11
  have F12 := fun_mk (st := sSingles) l12 c12 k12
  have b12 := F12.binds (ps := ["order"]) fun _ _ _ _ _ _ us hl => match us, hl with | [_], _ => rfl
  have g12 := PySem.W.mg_of X G a12
  have F13 := fun_mk (st := sPath) l13 c13 k13
  have b13 := F13.binds (ps := ["order", "other"]) fun _ _ _ _ _ _ us hl => match us, hl with | [_, _], _ => rfl
  have g13 := PySem.W.mg_of X G a13
  have Fhl := fun_mk (st := sHeld) lhl chl khl
  have bhl := Fhl.binds (ps := ["order", "other"]) fun _ _ _ _ _ _ us hl => match us, hl with | [_, _], _ => rfl
  have ghl := PySem.W.mg_of X G ahl
  have F14 := fun_mk (st := sUntied) l14 c14 k14
  have b14 := F14.binds (ps := ["order", "u", "v"]) fun _ _ _ _ _ _ us hl => match us, hl with | [_, _, _], _ => rfl
  have g14 := PySem.W.mg_of X G a14
  have F15 := fun_mk (st := sDraws) l15 c15 k15
  have b15 := F15.binds (ps := ["_law_script"]) fun _ _ _ _ _ _ us hl => match us, hl with | [_], _ => rfl
  have g15 := PySem.W.mg_of X G a15
  have F16 := fun_mk (st := sTake) l16 c16 k16
  have b16 := F16.binds (ps := ["_law_bag", "_law_many"]) fun _ _ _ _ _ _ us hl => match us, hl with | [_, _], _ => rfl
  have g16 := PySem.W.mg_of X G a16
  have F17 := fun_mk (st := sClosed) l17 c17 k17
  have b17 := F17.binds (ps := ["_law_size", "_law_steps_here"]) fun _ _ _ _ _ _ us hl => match us, hl with | [_, _], _ => rfl
  have g17 := PySem.W.mg_of X G a17
  have F18 := fun_mk (st := sSteps) l18 c18 k18
  have b18 := F18.binds (ps := ["_law_below"]) fun _ _ _ _ _ _ us hl => match us, hl with | [_], _ => rfl
  have g18 := PySem.W.mg_of X G a18
  have F19 := fun_mk (st := sDraw) l19 c19 k19
  have b19 := F19.binds (ps := ["_law_bag", "_law_size"]) fun _ _ _ _ _ _ us hl => match us, hl with | [_, _], _ => rfl
  have g19 := PySem.W.mg_of X G a19
  have F20 := fun_mk (st := sOrd) l20 c20 k20
  have b20 := F20.binds (ps := ["_law_bag", "_law_most"]) fun _ _ _ _ _ _ us hl => match us, hl with | [_, _], _ => rfl
  have g20 := PySem.W.mg_of X G a20
  have F21 := fun_mk (st := sPairs) l21 c21 k21
  have b21 := F21.binds (ps := ["_law_size", "_law_below"]) fun _ _ _ _ _ _ us hl => match us, hl with | [_, _], _ => rfl
  have g21 := PySem.W.mg_of X G a21
  have F22 := fun_mk (st := sOpenL) l22 c22 k22
  have b22 := F22.binds (ps := ["_law_size", "_law_below"]) fun _ _ _ _ _ _ us hl => match us, hl with | [_, _], _ => rfl
  have g22 := PySem.W.mg_of X G a22
  have F23 := fun_mk (st := sRef) l23 c23 k23
  have b23 := F23.binds (ps := ["_law_order_here", "_law_other", "_law_u", "_law_v", "_law_word"]) fun _ _ _ _ _ _ us hl => match us, hl with | [_, _, _, _, _], _ => rfl
  have g23 := PySem.W.mg_of X G a23
  have F24 := fun_mk (st := sSingleL) l24 c24 k24
  have b24 := F24.binds (ps := ["_law_many", "_law_below"]) fun _ _ _ _ _ _ us hl => match us, hl with | [_, _], _ => rfl
  have g24 := PySem.W.mg_of X G a24
  have F25 := fun_mk (st := sNextL) l25 c25 k25
  have b25 := F25.binds (ps := ["_law_many", "_law_below"]) fun _ _ _ _ _ _ us hl => match us, hl with | [_, _], _ => rfl
  have g25 := PySem.W.mg_of X G a25
  have F26 := fun_mk (st := sHoldsL) l26 c26 k26
  have b26 := F26.binds (ps := ["_law_order_here", "_law_other", "_law_due"]) fun _ _ _ _ _ _ us hl => match us, hl with | [_, _, _], _ => rfl
  have g26 := PySem.W.mg_of X G a26
  have F27 := fun_mk (st := sWalk) l27 c27 k27
  have b27 := F27.binds (ps := ["_law_order_here", "_law_many", "_law_below", "_law_upper", "_law_goal"]) fun _ _ _ _ _ _ us hl => match us, hl with | [_, _, _, _, _], _ => rfl
  have g27 := PySem.W.mg_of X G a27
  have F28 := fun_mk (st := sBack) l28 c28 k28
  have b28 := F28.binds (ps := ["_law_goal", "_law_many", "_law_upper"]) fun _ _ _ _ _ _ us hl => match us, hl with | [_, _, _], _ => rfl
  have g28 := PySem.W.mg_of X G a28
  have F29 := fun_mk (st := sLarge) l29 c29 k29
  have b29 := F29.binds (ps := ([] : List Str)) fun _ _ _ _ _ _ us hl => match us, hl with | [], _ => rfl
  have g29 := PySem.W.mg_of X G a29
  have F30 := fun_mk (st := sLaw) l30 c30 k30
  have b30 := F30.binds (ps := ["_law_script"]) fun _ _ _ _ _ _ us hl => match us, hl with | [_], _ => rfl
  have g30 := PySem.W.mg_of X G a30
  have Fm0 := fun_mk (st := ordB 2) lm0 cm0 km0
  have bm0 := Fm0.binds (ps := ["self"]) fun _ _ _ _ _ _ us hl => match us, hl with | [_], _ => rfl
  have Fm1 := fun_mk (st := ordB 3) lm1 cm1 km1
  have bm1 := Fm1.binds (ps := ["self"]) fun _ _ _ _ _ _ us hl => match us, hl with | [_], _ => rfl
  have Fm2 := fun_mk (st := ordB 6) lm2 cm2 km2
  have bm2 := Fm2.binds (ps := ["self", "x", "y"]) fun _ _ _ _ _ _ us hl => match us, hl with | [_, _, _], _ => rfl
  have Fm3 := fun_mk (st := ordB 12) lm3 cm3 km3
  have bm3 := Fm3.binds (ps := ["self", "other"]) fun _ _ _ _ _ _ us hl => match us, hl with | [_, _], _ => rfl
  have Fm4 := fun_mk (st := ordB 15) lm4 cm4 km4
  have bm4 := Fm4.binds (ps := ["self", "other"]) fun _ _ _ _ _ _ us hl => match us, hl with | [_, _], _ => rfl
  have Fm5 := fun_mk (st := ordB 16) lm5 cm5 km5
  have bm5 := Fm5.binds (ps := ["self", "x"]) fun _ _ _ _ _ _ us hl => match us, hl with | [_, _], _ => rfl
  have Fm6 := fun_mk (st := ordB 17) lm6 cm6 km6
  have bm6 := Fm6.binds (ps := ["self"]) fun _ _ _ _ _ _ us hl => match us, hl with | [_], _ => rfl
  have Fm7 := fun_mk (st := ordB 18) lm7 cm7 km7
  have bm7 := Fm7.binds (ps := ["self"]) fun _ _ _ _ _ _ us hl => match us, hl with | [_], _ => rfl
  have FEB := fun_mk (st := clsB t_BadPlace) lEB cEB kEB
  have bEB := FEB.binds (ps := ["self", "name"]) fun _ _ _ _ _ _ us hl => match us, hl with | [_, _], _ => rfl
  have xEBo : OexC K CEB := ⟨⟨_, _, _, _, _, _, _, _, _, _, _, _, _, _, _, xEB, vEB⟩, saEB, exEB, tyEB, kcEB⟩
  have scEB : FnScope ["self", "name"] ["self", "name"] (defScope (clsB t_BadPlace)) := ⟨rfl, rfl, rfl, by decide +kernel, rfl, by decide +kernel, by decide +kernel⟩
  have erEB : ErC K mg "BadPlace" CEB ["name"] := ⟨PySem.W.mg_of X G gEB, ⟨gaEB, ggEB, exEB, hdEB, caEB, gn, gt, mrEB⟩, ⟨gaEB, ggEB, exEB, hdEB⟩, fun f hf => by
    simp only [List.mem_cons, List.not_mem_nil, or_false] at hf
    subst hf; exact noEB_name⟩
  have FEN := fun_mk (st := clsB t_NotOpen) lEN cEN kEN
  have bEN := FEN.binds (ps := ["self", "low", "high"]) fun _ _ _ _ _ _ us hl => match us, hl with | [_, _, _], _ => rfl
  have xENo : OexC K CEN := ⟨⟨_, _, _, _, _, _, _, _, _, _, _, _, _, _, _, xEN, vEN⟩, saEN, exEN, tyEN, kcEN⟩
  have scEN : FnScope ["self", "low", "high"] ["self", "low", "high"] (defScope (clsB t_NotOpen)) := ⟨rfl, rfl, rfl, by decide +kernel, rfl, by decide +kernel, by decide +kernel⟩
  have erEN : ErC K mg "NotOpen" CEN ["low", "high"] := ⟨PySem.W.mg_of X G gEN, ⟨gaEN, ggEN, exEN, hdEN, caEN, gn, gt, mrEN⟩, ⟨gaEN, ggEN, exEN, hdEN⟩, fun f hf => by
    simp only [List.mem_cons, List.not_mem_nil, or_false] at hf
    rcases hf with rfl | rfl
    · exact noEN_low
    · exact noEN_high⟩
  have FEH := fun_mk (st := clsB t_NotHeld) lEH cEH kEH
  have bEH := FEH.binds (ps := ["self", "low", "high"]) fun _ _ _ _ _ _ us hl => match us, hl with | [_, _, _], _ => rfl
  have xEHo : OexC K CEH := ⟨⟨_, _, _, _, _, _, _, _, _, _, _, _, _, _, _, xEH, vEH⟩, saEH, exEH, tyEH, kcEH⟩
  have scEH : FnScope ["self", "low", "high"] ["self", "low", "high"] (defScope (clsB t_NotHeld)) := ⟨rfl, rfl, rfl, by decide +kernel, rfl, by decide +kernel, by decide +kernel⟩
  have erEH : ErC K mg "NotHeld" CEH ["low", "high"] := ⟨PySem.W.mg_of X G gEH, ⟨gaEH, ggEH, exEH, hdEH, caEH, gn, gt, mrEH⟩, ⟨gaEH, ggEH, exEH, hdEH⟩, fun f hf => by
    simp only [List.mem_cons, List.not_mem_nil, or_false] at hf
    rcases hf with rfl | rfl
    · exact noEH_low
    · exact noEH_high⟩
  have FEO := fun_mk (st := clsB t_OtherSize) lEO cEO kEO
  have bEO := FEO.binds (ps := ["self", "size"]) fun _ _ _ _ _ _ us hl => match us, hl with | [_, _], _ => rfl
  have xEOo : OexC K CEO := ⟨⟨_, _, _, _, _, _, _, _, _, _, _, _, _, _, _, xEO, vEO⟩, saEO, exEO, tyEO, kcEO⟩
  have scEO : FnScope ["self", "size"] ["self", "size"] (defScope (clsB t_OtherSize)) := ⟨rfl, rfl, rfl, by decide +kernel, rfl, by decide +kernel, by decide +kernel⟩
  have erEO : ErC K mg "OtherSize" CEO ["size"] := ⟨PySem.W.mg_of X G gEO, ⟨gaEO, ggEO, exEO, hdEO, caEO, gn, gt, mrEO⟩, ⟨gaEO, ggEO, exEO, hdEO⟩, fun f hf => by
    simp only [List.mem_cons, List.not_mem_nil, or_false] at hf
    subst hf; exact noEO_size⟩
  have FL : L2.FunD K "__init__" "Order.__init__" (defArgs sInit) (defBody sInit) (defScope sInit) [V.ref eI] [] fI (PySem.W.fnOf "__init__" "Order.__init__" (defArgs sInit) (defBody sInit) (defScope sInit) (.ref TI) kVI dcI pmI anI cdI ctI) :=
    ⟨⟨ocI, odI, _, kVI, dcI, pmI, anI, cdI, ctI, slI, rfl, lI, cI, .inr ⟨by simp, TI, _, [.ref eI], nI, rfl, tI, rfl, .cons rfl .nil⟩, .inl rfl⟩, kI⟩
  have FJ : J.FunD K "__init__" "Order.__init__" sInit fI (PySem.W.fnOf "__init__" "Order.__init__" (defArgs sInit) (defBody sInit) (defScope sInit) (.ref TI) kVI dcI pmI anI cdI ctI) := ⟨ocI, odI, _, kVI, dcI, pmI, anI, cdI, ctI, slI, rfl, lI, cI⟩
  obtain ⟨ds3, v3, bI3⟩ := FL.binds1 (ps := ["self", "size", "steps"]) 3 1 (by simp) rfl fun T kV doc pm an cdv ct us its hu hi => by
    match us, its, hu, hi with
    | [_, _, _], [_], _, _ => exact ⟨_, rfl, rfl⟩
  cases v3
  obtain ⟨ds2, v2, bI2⟩ := FL.binds1 (ps := ["self", "size", "steps"]) 2 0 (by simp) rfl fun T kV doc pm an cdv ct us its hu hi => by
    match us, its, hu, hi with
    | [_, _], [_], _, _ => exact ⟨_, rfl, rfl⟩
  have v2' := v2
  cases v2 with
  | cons r2 t2 =>
  cases t2
  refine ⟨PySem.W.fnOf "law" "law" (defArgs sLaw) (defBody sLaw) (defScope sLaw) .none kV30 dc30 pm30 an30 cd30 ct30, fun s v => .of_eq rfl, fun base _ _ => ?_⟩
  have nInt : Nm P w K mg base "is_int" ["value"] 1 (spIsInt K) := ⟨f1, _, ok_isInt F1 Tx, g1, k1, b1⟩
  have nAtl : Nm P w K mg base "is_at_least" ["value", "least"] 2 (spAtLeast K) := ⟨f2, _, ok_atLeast F2 nInt, g2, k2, b2⟩
  have nBtw : Nm P w K mg base "is_between" ["value", "least", "most"] 3 (spBetween K) := ⟨fbt, _, ok_between Fbt nAtl, gbt, kbt, bbt⟩
  have nChk : Nm P w K mg base "check_number" ["value", "name", "least", "most"] 4 (spCheck K) := ⟨f3, _, ok_check F3 nBtw, g3, k3, b3⟩
  have nPl : Nm P w K mg base "is_place" ["value", "size"] 2 (spIsPlace K) := ⟨f4, _, ok_isPlace F4 nInt, g4, k4, b4⟩
  have nXB : NmX P w K mg base "BadPlace" CEB ["name"] := ⟨PySem.W.mg_of X G gEB, xEBo, fEB, _, _, aEB, ftEB, init1 FEB scEB xEBo noEB_name, bEB⟩
  have nXN : NmX P w K mg base "NotOpen" CEN ["low", "high"] := ⟨PySem.W.mg_of X G gEN, xENo, fEN, _, _, aEN, ftEN, init2 FEN scEN xENo noEN_low noEN_high, bEN⟩
  have nXH : NmX P w K mg base "NotHeld" CEH ["low", "high"] := ⟨PySem.W.mg_of X G gEH, xEHo, fEH, _, _, aEH, ftEH, init2 FEH scEH xEHo noEH_low noEH_high, bEH⟩
  have nXO : NmX P w K mg base "OtherSize" CEO ["size"] := ⟨PySem.W.mg_of X G gEO, xEOo, fEO, _, _, aEO, ftEO, init1 FEO scEO xEOo noEO_size, bEO⟩
  have nPlo : Nm P w K mg base "place_of" ["value", "size", "name"] 3 (spPlaceOf K CEB) := ⟨f5, _, ok_placeOf F5 nPl nXB, g5, k5, b5⟩
  have nPin : Nm P w K mg base "places_in" ["mask"] 1 (spF K (fun m : Int => Builtin.Int.intBits m < 1000) (fun m => [.sh (.int m)]) (fun m => .ok (.sh (.tup ((placesIn m).map .int)), [none]))) := ⟨f0, _, ok_placesIn F0 Tx, g0, k0, b0⟩
  have nIss : Nm P w K mg base "_is_step" ["value", "size"] 3 (spIsStep K) := ⟨f6, _, ok_isStep F6 Tx nPl, g6, k6, b6⟩
  have nSof : Nm P w K mg base "steps_of" ["value", "size"] 4 (spStepsOf K) := ⟨f7, _, ok_stepsOf F7 Tx nIss, g7, k7, b7⟩
  have nFol : Nm P w K mg base "_followed" ["size", "steps"] 1 (spFollowed K) := ⟨f8, _, ok_followed F8 Tx, g8, k8, b8⟩
  have nUp : Nm P w K mg base "_upside_down" ["masks"] 1 (spUp K) := ⟨f9, _, ok_up F9 Tx, g9, k9, b9⟩
  have oI := ok_init (P := P) (w := w) (base := base) FJ Tx hC (PySem.W.mg_of X G mp) bits16 nChk nFol nSof nUp nPin
  have nK : NmC P w K mg base C := ⟨hg, fI, _, ⟨mk, aI, iI, kc⟩, oI, bI3⟩
  have nDf : NmD P w K mg base C := ⟨fI, _, _, eI, ⟨mk, aI, iI, kc⟩, oI, bI2, v2', fun S => .inr ⟨_, _, _, eI0, rfl, rfl, Nat.zero_le _, .nil⟩⟩
  have mTold : NmM P w K mg base C "steps_told" ["self"] 1 (spStepsTold K C) := ⟨fm0, _, ok_stepsTold Fm0 hC, ⟨am0, im0, km0⟩, bm0⟩
  have mNext : NmM P w K mg base C "next_steps" ["self"] 1 (spNext K C) := ⟨fm1, _, ok_next Fm1 Tx hC, ⟨am1, im1, km1⟩, bm1⟩
  have mOpen : NmM P w K mg base C "are_open" ["self", "x", "y"] 4 (spOpen K C) := ⟨fm2, _, ok_open Fm2 hC nPlo, ⟨am2, im2, km2⟩, bm2⟩
  have mHolds : NmM P w K mg base C "holds" ["self", "other"] 3 (spHolds K C CEO) := ⟨fm3, _, ok_holds Fm3 Tx hC nXO, ⟨am3, im3, km3⟩, bm3⟩
  have mEq : NmM P w K mg base C "__eq__" ["self", "other"] 1 (spEq K C) := ⟨fm4, _, ok_eq Fm4 Tx hC hI hg, ⟨am4, im4, km4⟩, bm4⟩
  have mCont : NmM P w K mg base C "__contains__" ["self", "x"] 1 (spCont K C) := ⟨fm5, _, ok_cont Fm5 hC, ⟨am5, im5, km5⟩, bm5⟩
  have L : OrdL P w K mg base C := ⟨fm7, fm6, _, _, ⟨am7, im7, am6, im6⟩, ok_iter Fm7 (PySem.W.mg_none_of X G z_iter) hC, bm7, ok_len Fm6 Tx hC, bm6⟩
  have nTied : ∃ ft, FnR P w K mg base (L2.CX P w) 7 ft (spStar 1 (spTied K C)) ∧ mg "tied" = some (.ref ft) ∧ PySem.W.keepIn K (.ref ft) = true := ⟨f10, ok_tied F10 hC nSof mOpen mTold nK, g10, k10⟩
  have nSin : Nm P w K mg base "_is_single" ["order", "low", "high"] 5 (spSingle K C) := ⟨f11, _, ok_single F11 hC mOpen, g11, k11, b11⟩
  have nSis : Nm P w K mg base "single_ties" ["order"] 6 (spSingles K C) := ⟨f12, _, ok_singles F12 Tx hC nSin, g12, k12, b12⟩
  have nHeld : Nm P w K mg base "check_held" ["order", "other"] 3 (spHeld K C CEO CEH) := ⟨fhl, _, ok_held Fhl hC mTold mCont nXO nXH, ghl, khl, bhl⟩
  have nPath : Nm P w K mg base "tie_path" ["order", "other"] 8 (spPath K C CEO CEH) := ⟨f13, _, ok_path F13 hC ne mTold mCont mEq nSis nTied nHeld, g13, k13, b13⟩
  have nUnt : Nm P w K mg base "untied" ["order", "u", "v"] 7 (spUntied K C CEB CEN) := ⟨f14, _, ok_untied F14 hC nPlo mNext mTold nK nXN, g14, k14, b14⟩
  have eh : Ers K mg CEH CEN CEO CEB CM := ⟨erEH, erEN, erEO, erEB, PySem.W.mg_of X G aM, PySem.W.exm_ref exEH hdEH tyEH sHH, PySem.W.exm_ref exEH hdEH tyEH sNH, PySem.W.exm_ref exEN hdEN tyEN sNN, PySem.W.exm_ref exEH hdEH tyEH sOH, PySem.W.exm_ref exEN hdEN tyEN sON, PySem.W.exm_ref exEO hdEO tyEO sOO, PySem.W.exm_ref exEH hdEH tyEH sBH, PySem.W.exm_ref exEN hdEN tyEN sBN, PySem.W.exm_ref exEO hdEO tyEO sBO, PySem.W.exm_ref exEB hdEB tyEB sBB,
    kit_ref hdEN tyEN sHN dHN, kit_ref hdEH tyEH sNH dNH, kit_ref hdEH tyEH sOH dOH, kit_ref hdEN tyEN sBN dBN, kit_ref hdM tyM smEH dmEH, kit_ref hdM tyM smEN dmEN, kit_ref hdM tyM smEO dmEO, kit_ref hdM tyM smEB dmEB⟩
  have nTake : Nm P w K mg base "_law_take" ["_law_bag", "_law_many"] 1 (spTake K) := ⟨f16, _, ok_take F16 Tx, g16, k16, b16⟩
  have nSteps : Nm P w K mg base "_law_steps" ["_law_below"] 1 (spSteps K) := ⟨f18, _, ok_steps F18 Tx, g18, k18, b18⟩
  have nPairs : Nm P w K mg base "_law_pairs" ["_law_size", "_law_below"] 1 (spPairs K) := ⟨f21, _, ok_pairs F21 Tx, g21, k21, b21⟩
  have nOpen : Nm P w K mg base "_law_open" ["_law_size", "_law_below"] 2 (spOpenL K) := ⟨f22, _, ok_openL F22 nPairs, g22, k22, b22⟩
  have nClosed : Nm P w K mg base "_law_closed" ["_law_size", "_law_steps_here"] 1 (spClosed K) := ⟨f17, _, ok_closed F17 Tx, g17, k17, b17⟩
  have nSingL : Nm P w K mg base "_law_single" ["_law_many", "_law_below"] 3 (spSingleL K) := ⟨f24, _, ok_singleL F24 Tx nOpen nClosed nSteps, g24, k24, b24⟩
  have nNextL : Nm P w K mg base "_law_next" ["_law_many", "_law_below"] 2 (spNextL K) := ⟨f25, _, ok_nextL F25 Tx nSteps, g25, k25, b25⟩
  have nHoldL : Nm P w K mg base "_law_holds" ["_law_order_here", "_law_other", "_law_due"] 4 (spHoldsL K C) := ⟨f26, _, ok_holdsL F26 Tx hC mHolds, g26, k26, b26⟩
  have nRef : Nm P w K mg base "_law_refused" ["_law_order_here", "_law_other", "_law_u", "_law_v", "_law_word"] 9 (spRef K C) := ⟨f23, _, ok_refused F23 Tx hC eh nPath nUnt mHolds, g23, k23, b23⟩
  have nWalk : Nm P w K mg base "_law_walked" ["_law_order_here", "_law_many", "_law_below", "_law_upper", "_law_goal"] 9 (spWalk K C) := ⟨f27, _, ok_walked F27 Tx hC L nPath nSteps nSingL nSis nClosed nTied nHoldL mEq, g27, k27, b27⟩
  have nBack : Nm P w K mg base "_law_taken_back" ["_law_goal", "_law_many", "_law_upper"] 10 (spBack K C) := ⟨f28, _, ok_back F28 Tx hC L nPath nSteps nNextL nSis nUnt nRef, g28, k28, b28⟩
  have nLarge : Nm P w K mg base "_law_large" ([] : List Str) 9 (spLarge K) := ⟨f29, _, ok_large F29 Tx hC L nK nDf nPath nSteps nClosed nOpen, g29, k29, b29⟩
  have nDrawn : Nm P w K mg base "_law_drawn_steps" ["_law_bag", "_law_size"] 2 (spDraw K) := ⟨f19, _, ok_drawn F19 Tx nTake, g19, k19, b19⟩
  have nOrder : Nm P w K mg base "_law_order" ["_law_bag", "_law_most"] 3 (spOrd K) := ⟨f20, _, ok_order F20 Tx nTake nDrawn nClosed, g20, k20, b20⟩
  have nDraws : Nm P w K mg base "_law_draws" ["_law_script"] 1 (spDraws K) := ⟨f15, _, ok_draws F15 Tx, g15, k15, b15⟩
  exact ok_law F30 Tx hC L nK nDraws nTake nOrder nSteps nClosed nOpen nWalk nBack nRef nHoldL nLarge
end Y
namespace Y
open PySem L2 J
theorem start_ok {K : PySem.W.Frag} {H : Hp} {a : Addr} {ns : List Int} (hl : ns.length ≤ 63) (hS : SqL K H a (ns.map V.int)) : spLaw K [.ref a] H (fun v _ => v = .bl true) fun _ _ _ => False := by
  refine ⟨ns, by omega, H, fun _ => emp, ?_, fun v S' H' Ms' _ r => bl_of r⟩
  exact {
    len := rfl
    slot := fun i s e => by
      cases i with
      | zero =>
        have e' : s = .sh (.lst (ns.map .int)) := (Option.some.inj (Option.some.inj e)).symm
        subst e'
        exact ⟨.ref a, rfl, .lst hS (rd_ints ns)⟩
      | succ i => simp at e
    sH := Same.refl H
    mH := fun i p o e => by cases e
    mS := fun i p o e => by cases e
    dj := fun i j p o e => by cases e
    s0 := Same.refl H
    sN := fun p o e => .inl ⟨o, e⟩
    mN := fun i p o e => by cases e
    fr := fun p o e _ => e }
end Y
open PySem PySem.W PyProof.Rows
set_option maxHeartbeats 0 in
theorem PySem.Challenge.cw_linemix_k05_single_ties_lead_up_holds : PySem.Challenge.rw_linemix_k05_single_ties_lead_up.Holds := by
  w_on; o_law; k_head; (case hw => w_witness2)
  k_fill
  refine L2.walk_of (l := PySem.Challenge.rw_linemix_k05_single_ties_lead_up) (n := 63) (k := 11) (x := "_law_script") (CX := fun w => L2.CX PySem.Challenge.rw_linemix_k05_single_ties_lead_up.prog w) (sp := fun w => Y.spLaw _) rfl (by decide) rfl ⟨rfl, by decide, by decide⟩ (fun w h Y => PySem.W.kIn_of Y) ?F (fun w H a ns hl _ hS => Y.start_ok hl hS) (fun w H s e s' ⟨_, _, _, _, _, _, _, _, _, _, _, _, z⟩ => z)
  case F =>
    intro w mg fa h KX G hmg
    refine' Y.all_mk KX G hmg ?aC ?aM ?a0 ?l0 ?c0 ?k0 ?a1 ?l1 ?c1 ?k1 ?a2 ?l2 ?c2 ?k2 ?abt ?lbt ?cbt ?kbt ?a3 ?l3 ?c3 ?k3 ?a4 ?l4 ?c4 ?k4 ?a5 ?l5 ?c5 ?k5 ?a6 ?l6 ?c6 ?k6 ?a7 ?l7 ?c7 ?k7 ?a8 ?l8 ?c8 ?k8 ?a9 ?l9 ?c9 ?k9 ?a10 ?l10 ?c10 ?k10 ?a11 ?l11 ?c11 ?k11 ?a12 ?l12 ?c12 ?k12 ?a13 ?l13 ?c13 ?k13 ?ahl ?lhl ?chl ?khl ?a14 ?l14 ?c14 ?k14 ?a15 ?l15 ?c15 ?k15 ?a16 ?l16 ?c16 ?k16 ?a17 ?l17 ?c17 ?k17 ?a18 ?l18 ?c18 ?k18 ?a19 ?l19 ?c19 ?k19 ?a20 ?l20 ?c20 ?k20 ?a21 ?l21 ?c21 ?k21 ?a22 ?l22 ?c22 ?k22 ?a23 ?l23 ?c23 ?k23 ?a24 ?l24 ?c24 ?k24 ?a25 ?l25 ?c25 ?k25 ?a26 ?l26 ?c26 ?k26 ?a27 ?l27 ?c27 ?k27 ?a28 ?l28 ?c28 ?k28 ?a29 ?l29 ?c29 ?k29 ?a30 ?l30 ?c30 ?k30 ?am0 ?im0 ?lm0 ?cm0 ?km0 ?am1 ?im1 ?lm1 ?cm1 ?km1 ?am2 ?im2 ?lm2 ?cm2 ?km2 ?am3 ?im3 ?lm3 ?cm3 ?km3 ?am4 ?im4 ?lm4 ?cm4 ?km4 ?am5 ?im5 ?lm5 ?cm5 ?km5 ?am6 ?im6 ?lm6 ?cm6 ?km6 ?am7 ?im7 ?lm7 ?cm7 ?km7 ?aI ?iI ?lI ?cI ?kI ?tI ?eI0 ?pg ?hd ?po ?sa ?mk ?kc ?oca ?gn ?gt ?omr ?n_size ?n_aboves ?n_belows ?n__steps ?ne ?mp ?z_len ?z_int ?z_bool ?z_list ?z_tuple ?z_range ?z_isinstance ?z_enumerate ?z_sum ?z_all ?z_zip ?z_min ?z_sorted ?z_iter ?tyM ?hdM ?gEB ?xEB ?vEB ?saEB ?gaEB ?ggEB ?exEB ?tyEB ?kcEB ?hdEB ?caEB ?mrEB ?noEB_name ?aEB ?ftEB ?lEB ?cEB ?kEB ?smEB ?dmEB ?gEN ?xEN ?vEN ?saEN ?gaEN ?ggEN ?exEN ?tyEN ?kcEN ?hdEN ?caEN ?mrEN ?noEN_low ?noEN_high ?aEN ?ftEN ?lEN ?cEN ?kEN ?smEN ?dmEN ?gEH ?xEH ?vEH ?saEH ?gaEH ?ggEH ?exEH ?tyEH ?kcEH ?hdEH ?caEH ?mrEH ?noEH_low ?noEH_high ?aEH ?ftEH ?lEH ?cEH ?kEH ?smEH ?dmEH ?gEO ?xEO ?vEO ?saEO ?gaEO ?ggEO ?exEO ?tyEO ?kcEO ?hdEO ?caEO ?mrEO ?noEO_size ?aEO ?ftEO ?lEO ?cEO ?kEO ?smEO ?dmEO ?sHH ?sNH ?sNN ?sOH ?sON ?sOO ?sBH ?sBN ?sBO ?sBB ?sHN ?dHN ?dNH ?dOH ?dBN
    (case aC => k_is)
    (case aM => k_is)
    (case a0 => k_is)
    (case l0 => k_is)
    (case c0 => k_is)
    (case k0 => k_is)
    (case a1 => k_is)
    (case l1 => k_is)
    (case c1 => k_is)
    (case k1 => k_is)
    (case a2 => k_is)
    (case l2 => k_is)
    (case c2 => k_is)
    (case k2 => k_is)
    (case abt => k_is)
    (case lbt => k_is)
    (case cbt => k_is)
    (case kbt => k_is)
    (case a3 => k_is)
    (case l3 => k_is)
    (case c3 => k_is)
    (case k3 => k_is)
    (case a4 => k_is)
    (case l4 => k_is)
    (case c4 => k_is)
    (case k4 => k_is)
    (case a5 => k_is)
    (case l5 => k_is)
    (case c5 => k_is)
    (case k5 => k_is)
    (case a6 => k_is)
    (case l6 => k_is)
    (case c6 => k_is)
    (case k6 => k_is)
    (case a7 => k_is)
    (case l7 => k_is)
    (case c7 => k_is)
    (case k7 => k_is)
    (case a8 => k_is)
    (case l8 => k_is)
    (case c8 => k_is)
    (case k8 => k_is)
    (case a9 => k_is)
    (case l9 => k_is)
    (case c9 => k_is)
    (case k9 => k_is)
    (case a10 => k_is)
    (case l10 => k_is)
    (case c10 => k_is)
    (case k10 => k_is)
    (case a11 => k_is)
    (case l11 => k_is)
    (case c11 => k_is)
    (case k11 => k_is)
    (case a12 => k_is)
    (case l12 => k_is)
    (case c12 => k_is)
    (case k12 => k_is)
    (case a13 => k_is)
    (case l13 => k_is)
    (case c13 => k_is)
    (case k13 => k_is)
    (case ahl => k_is)
    (case lhl => k_is)
    (case chl => k_is)
    (case khl => k_is)
    (case a14 => k_is)
    (case l14 => k_is)
    (case c14 => k_is)
    (case k14 => k_is)
    (case a15 => k_is)
    (case l15 => k_is)
    (case c15 => k_is)
    (case k15 => k_is)
    (case a16 => k_is)
    (case l16 => k_is)
    (case c16 => k_is)
    (case k16 => k_is)
    (case a17 => k_is)
    (case l17 => k_is)
    (case c17 => k_is)
    (case k17 => k_is)
    (case a18 => k_is)
    (case l18 => k_is)
    (case c18 => k_is)
    (case k18 => k_is)
    (case a19 => k_is)
    (case l19 => k_is)
    (case c19 => k_is)
    (case k19 => k_is)
    (case a20 => k_is)
    (case l20 => k_is)
    (case c20 => k_is)
    (case k20 => k_is)
    (case a21 => k_is)
    (case l21 => k_is)
    (case c21 => k_is)
    (case k21 => k_is)
    (case a22 => k_is)
    (case l22 => k_is)
    (case c22 => k_is)
    (case k22 => k_is)
    (case a23 => k_is)
    (case l23 => k_is)
    (case c23 => k_is)
    (case k23 => k_is)
    (case a24 => k_is)
    (case l24 => k_is)
    (case c24 => k_is)
    (case k24 => k_is)
    (case a25 => k_is)
    (case l25 => k_is)
    (case c25 => k_is)
    (case k25 => k_is)
    (case a26 => k_is)
    (case l26 => k_is)
    (case c26 => k_is)
    (case k26 => k_is)
    (case a27 => k_is)
    (case l27 => k_is)
    (case c27 => k_is)
    (case k27 => k_is)
    (case a28 => k_is)
    (case l28 => k_is)
    (case c28 => k_is)
    (case k28 => k_is)
    (case a29 => k_is)
    (case l29 => k_is)
    (case c29 => k_is)
    (case k29 => k_is)
    (case a30 => k_is)
    (case l30 => k_is)
    (case c30 => k_is)
    (case k30 => k_is)
    (case am0 => k_is)
    (case im0 => k_is)
    (case lm0 => k_is)
    (case cm0 => k_is)
    (case km0 => k_is)
    (case am1 => k_is)
    (case im1 => k_is)
    (case lm1 => k_is)
    (case cm1 => k_is)
    (case km1 => k_is)
    (case am2 => k_is)
    (case im2 => k_is)
    (case lm2 => k_is)
    (case cm2 => k_is)
    (case km2 => k_is)
    (case am3 => k_is)
    (case im3 => k_is)
    (case lm3 => k_is)
    (case cm3 => k_is)
    (case km3 => k_is)
    (case am4 => k_is)
    (case im4 => k_is)
    (case lm4 => k_is)
    (case cm4 => k_is)
    (case km4 => k_is)
    (case am5 => k_is)
    (case im5 => k_is)
    (case lm5 => k_is)
    (case cm5 => k_is)
    (case km5 => k_is)
    (case am6 => k_is)
    (case im6 => k_is)
    (case lm6 => k_is)
    (case cm6 => k_is)
    (case km6 => k_is)
    (case am7 => k_is)
    (case im7 => k_is)
    (case lm7 => k_is)
    (case cm7 => k_is)
    (case km7 => k_is)
    (case aI => k_is)
    (case iI => k_is)
    (case lI => k_is)
    (case cI => k_is)
    (case kI => k_is)
    (case tI => k_is)
    (case eI0 => k_is)
    (case pg => k_is)
    (case hd => k_is)
    (case po => k_is)
    (case sa => k_is)
    (case mk => k_is)
    (case kc => k_is)
    (case oca => k_is)
    (case gn => k_is)
    (case gt => k_is)
    (case omr => k_is)
    (case n_size => k_is)
    (case n_aboves => k_is)
    (case n_belows => k_is)
    (case n__steps => k_is)
    (case ne => k_is)
    (case mp => k_is)
    (case z_len => k_is)
    (case z_int => k_is)
    (case z_bool => k_is)
    (case z_list => k_is)
    (case z_tuple => k_is)
    (case z_range => k_is)
    (case z_isinstance => k_is)
    (case z_enumerate => k_is)
    (case z_sum => k_is)
    (case z_all => k_is)
    (case z_zip => k_is)
    (case z_min => k_is)
    (case z_sorted => k_is)
    (case z_iter => k_is)
    (case tyM => k_is)
    (case hdM => k_is)
    (case gEB => k_is)
    (case xEB => k_is)
    (case vEB => first | rfl | decide +kernel)
    (case saEB => k_is)
    (case gaEB => k_is)
    (case ggEB => k_is)
    (case exEB => k_is)
    (case tyEB => k_is)
    (case kcEB => k_is)
    (case hdEB => k_is)
    (case caEB => k_is)
    (case mrEB => k_is)
    (case noEB_name => k_is)
    (case aEB => k_is)
    (case ftEB => k_is)
    (case lEB => k_is)
    (case cEB => k_is)
    (case kEB => k_is)
    (case smEB => k_is)
    (case dmEB => first | rfl | decide)
    (case gEN => k_is)
    (case xEN => k_is)
    (case vEN => first | rfl | decide +kernel)
    (case saEN => k_is)
    (case gaEN => k_is)
    (case ggEN => k_is)
    (case exEN => k_is)
    (case tyEN => k_is)
    (case kcEN => k_is)
    (case hdEN => k_is)
    (case caEN => k_is)
    (case mrEN => k_is)
    (case noEN_low => k_is)
    (case noEN_high => k_is)
    (case aEN => k_is)
    (case ftEN => k_is)
    (case lEN => k_is)
    (case cEN => k_is)
    (case kEN => k_is)
    (case smEN => k_is)
    (case dmEN => first | rfl | decide)
    (case gEH => k_is)
    (case xEH => k_is)
    (case vEH => first | rfl | decide +kernel)
    (case saEH => k_is)
    (case gaEH => k_is)
    (case ggEH => k_is)
    (case exEH => k_is)
    (case tyEH => k_is)
    (case kcEH => k_is)
    (case hdEH => k_is)
    (case caEH => k_is)
    (case mrEH => k_is)
    (case noEH_low => k_is)
    (case noEH_high => k_is)
    (case aEH => k_is)
    (case ftEH => k_is)
    (case lEH => k_is)
    (case cEH => k_is)
    (case kEH => k_is)
    (case smEH => k_is)
    (case dmEH => first | rfl | decide)
    (case gEO => k_is)
    (case xEO => k_is)
    (case vEO => first | rfl | decide +kernel)
    (case saEO => k_is)
    (case gaEO => k_is)
    (case ggEO => k_is)
    (case exEO => k_is)
    (case tyEO => k_is)
    (case kcEO => k_is)
    (case hdEO => k_is)
    (case caEO => k_is)
    (case mrEO => k_is)
    (case noEO_size => k_is)
    (case aEO => k_is)
    (case ftEO => k_is)
    (case lEO => k_is)
    (case cEO => k_is)
    (case kEO => k_is)
    (case smEO => k_is)
    (case dmEO => first | rfl | decide)
    (case sHH => k_is)
    (case sNH => k_is)
    (case sNN => k_is)
    (case sOH => k_is)
    (case sON => k_is)
    (case sOO => k_is)
    (case sBH => k_is)
    (case sBN => k_is)
    (case sBO => k_is)
    (case sBB => k_is)
    (case sHN => k_is)
    (case dHN => first | rfl | decide)
    (case dNH => first | rfl | decide)
    (case dOH => first | rfl | decide)
    (case dBN => first | rfl | decide)
#print axioms PySem.Challenge.cw_linemix_k05_single_ties_lead_up_holds
