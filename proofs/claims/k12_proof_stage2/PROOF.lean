import PyProof.Rows.All
import Wide.All
import OpenK.AllK
import Wide.FinOn
import HandS.ForMost
import HandS.IsInst
import HandS.TupAny
import HandS.Wide
import HandS.Flow
import HandS.NoneIn
import HandS.Style
import HandS.Walk
import HandS.AnyAll
import HandS.Lambda
import KE.GoesMore
import HandS.HeadHook4
import HandS.ExcInit
import KE.KStateDown
import KE.KNestM
import HandS.Head0
import HandS.Head1
import HandS.Head2
import HandS.HeadEnd
import HandS.HeadHook1
import HandS.HeadHook2
import HandS.HeadHook3
import HandS.EndTab
import HandS.HeadWalk
import PyProof.GenCompD
import HandS.Nested
import HandS.Text
import PyProof.DelItemList
import HandS.FStr
import HandS.Iter
import HandS.ForExc
import HandS.ExcIs
import HandS.ExcField
import HandS.FStrTup
import HandS.TupMul
import HandS.Zip
import KE.GoesEnum
import PyProof.EqKinds
import KE.KExcIs
import PySem.Challenge.RW_pushdoors_k12_texts_of_no_house
set_option Elab.async false
set_option linter.all false
set_option maxRecDepth 100000
set_option maxHeartbeats 2000000
namespace Pd
open PySem L2
/-! ### data, and how they lie in a heap -/
inductive D where
  | non | bl (b : Bool) | int (i : Int) | str (x : Str) | tup (ds : List D)
structure Tb where
  g : List Addr
  l : List (Addr × Str)
def Tbs (T : Tb) (H : Hp) : Prop := (∀ P ∈ T.g, GxR.TabG H P) ∧ LamX.Tabs T.l H
def Fast : HO → Prop
  | .tup _ => True
  | .frz _ _ => True
  | _ => False
structure Gr (T : Tb) (S : List Addr) (H H' : Hp) : Prop where
  keep : ∀ b o, b ∉ S → H b = some o → (∀ ps, o ≠ .tbl ps) → H' b = some o
  fast : ∀ b o, H b = some o → Fast o → H' b = some o
  dom : ∀ b, H' b = none → H b = none
  tbs : Tbs T H'
theorem Gr.refl {T : Tb} {S : List Addr} {H : Hp} (h : Tbs T H) : Gr T S H H := ⟨fun _ _ _ e _ => e, fun _ _ e _ => e, fun _ e => e, h⟩
theorem Gr.trans {T : Tb} {S : List Addr} {H H1 H2 : Hp} (a : Gr T S H H1) (b : Gr T S H1 H2) : Gr T S H H2 :=
  ⟨fun c o n e q => b.keep c o n (a.keep c o n e q) q, fun c o e q => b.fast c o (a.fast c o e q) q, fun c e => a.dom c (b.dom c e), b.tbs⟩
theorem Gr.mono {T : Tb} {S S' : List Addr} {H H' : Hp} (a : Gr T S H H') (h : ∀ x ∈ S, x ∈ S') : Gr T S' H H' :=
  ⟨fun c o n e q => a.keep c o (fun z => n (h c z)) e q, a.fast, a.dom, a.tbs⟩
theorem Gr.any {T : Tb} {S : List Addr} {H H' : Hp} (a : Gr T [] H H') : Gr T S H H' := a.mono fun x h => absurd h (by simp)
theorem Gr.self {T : Tb} {S S' : List Addr} {H H' : Hp} (a : Gr T S H H') : Gr T S' H' H' := Gr.refl a.tbs
theorem Gr.lst {T : Tb} {S : List Addr} {H H' : Hp} {l : Addr} {xs : List V} (a : Gr T S H H') (h : H l = some (.lst xs)) (n : l ∉ S) : H' l = some (.lst xs) := a.keep _ _ n h (fun _ z => nomatch z)
theorem ne_fast {H : Hp} {a b : Addr} {o : HO} {xs : List V} (h : H a = some o) (hf : Fast o) (h' : H b = some (.lst xs)) : a ≠ b := fun e => by
  subst e
  rw [h] at h'
  cases h'
  exact hf
/-- tables stand where no list and nothing new stands -/
theorem Tbs.upd {T : Tb} {H : Hp} {l : Addr} {o : HO} (h : Tbs T H) (hl : H l = none ∨ ∃ xs, H l = some (.lst xs)) : Tbs T (upd H l o) := by
  have ne : ∀ b u, H b = some u → (∀ xs, u ≠ .lst xs) → b ≠ l := fun b u e q z => by
    subst z
    rcases hl with r | ⟨xs, r⟩
    · rw [r] at e; cases e
    · rw [r] at e; cases e; exact q xs rfl
  refine ⟨fun P hP => ?_, fun p hp => ?_⟩
  · obtain ⟨ps, e, t⟩ := h.1 P hP
    exact ⟨ps, by rw [upd_ne (ne P _ e (fun _ z => nomatch z))]; exact e, t⟩
  · obtain ⟨ps, e, t, q⟩ := h.2 p hp
    refine ⟨ps, by rw [upd_ne (ne _ _ e (fun _ z => nomatch z))]; exact e, t, fun pos cv hc => ?_⟩
    obtain ⟨c, e1, e2⟩ := q pos cv hc
    exact ⟨c, e1, by rw [upd_ne (ne c _ e2 (fun xs z => by unfold LamX.CodeO at z; cases z))]; exact e2⟩
theorem Gr.new {T : Tb} {S : List Addr} {H : Hp} {p : Addr} {o : HO} (h : Tbs T H) (hp : H p = none) : Gr T S H (upd H p o) :=
  ⟨fun b u _ e _ => by rw [upd_ne (ne_of_none e hp)]; exact e, fun b u e _ => by rw [upd_ne (ne_of_none e hp)]; exact e,
    fun b e => by
      by_cases z : b = p
      · subst z; exact hp
      · rw [upd_ne z] at e; exact e, h.upd (.inl hp)⟩
/-- a list of one's own is changed -/
theorem Gr.put {T : Tb} {S : List Addr} {H H' : Hp} {l : Addr} {o : HO} {xs : List V} (a : Gr T S H H') (h : H' l = some (.lst xs)) (hl : l ∈ S ∨ H l = none) : Gr T S H (upd H' l o) := by
  refine ⟨fun b u n e q => ?_, fun b u e q => ?_, fun b e => ?_, a.tbs.upd (.inr ⟨xs, h⟩)⟩
  · have nb : b ≠ l := fun z => by
      subst z
      rcases hl with r | r
      · exact n r
      · rw [r] at e; cases e
    rw [upd_ne nb]; exact a.keep b u n e q
  · rw [upd_ne (ne_fast (a.fast b u e q) q h)]; exact a.fast b u e q
  · by_cases z : b = l
    · subst z; rw [upd_same] at e; cases e
    · rw [upd_ne z] at e; exact a.dom b e
theorem Gr.sqT {T : Tb} {S : List Addr} {K : PySem.W.Frag} {H H' : Hp} {a : Addr} {xs : List V} (g : Gr T S H H') (h : SqT K H a xs) : SqT K H' a xs := by
  rcases h with (h | ⟨o, h⟩) | h
  · exact .inl (.inl (g.fast _ _ h trivial))
  · exact .inl (.inr ⟨o, g.fast _ _ h trivial⟩)
  · exact .inr h
mutual
def Rep (K : PySem.W.Frag) (H : Hp) : D → V → Prop
  | .non, v => v = .non
  | .bl b, v => v = .bl b
  | .int i, v => v = .int i
  | .str x, v => v = .str x
  | .tup ds, v => ∃ a xs, v = .ref a ∧ SqT K H a xs ∧ Reps K H ds xs
def Reps (K : PySem.W.Frag) (H : Hp) : List D → List V → Prop
  | [], xs => xs = []
  | d :: ds, xs => ∃ x r, xs = x :: r ∧ Rep K H d x ∧ Reps K H ds r
end
section
variable {T : Tb} {S : List Addr} {K : PySem.W.Frag} {H H' : Hp}
mutual
theorem Rep.gr (g : Gr T S H H') : ∀ (d : D) (v : V), Rep K H d v → Rep K H' d v
  | .non, _, h => h
  | .bl _, _, h => h
  | .int _, _, h => h
  | .str _, _, h => h
  | .tup ds, v, ⟨a, xs, e, hs, hr⟩ => ⟨a, xs, e, g.sqT hs, Reps.gr g ds xs hr⟩
theorem Reps.gr (g : Gr T S H H') : ∀ (ds : List D) (xs : List V), Reps K H ds xs → Reps K H' ds xs
  | [], _, h => h
  | d :: ds, _, ⟨x, r, e, h1, h2⟩ => ⟨x, r, e, Rep.gr g d x h1, Reps.gr g ds r h2⟩
end
theorem Rep.up {d : D} {v : V} (h : Rep K H d v) (g : Gr T S H H') : Rep K H' d v := Rep.gr g d v h
theorem Reps.up {ds : List D} {vs : List V} (h : Reps K H ds vs) (g : Gr T S H H') : Reps K H' ds vs := Reps.gr g ds vs h
theorem Reps.len : ∀ {ds : List D} {xs : List V}, Reps K H ds xs → xs.length = ds.length
  | [], _, h => by cases h; rfl
  | _ :: ds, _, ⟨x, r, e, _, h2⟩ => by subst e; exact congrArg (· + 1) (Reps.len (ds := ds) h2)
theorem Reps.get : ∀ {ds : List D} {xs : List V} {i : Nat} {d : D}, Reps K H ds xs → ds[i]? = some d → ∃ x, xs[i]? = some x ∧ Rep K H d x
  | [], _, _, _, _, e => by simp at e
  | _ :: ds, _, 0, d, ⟨x, r, e, h1, _⟩, q => by subst e; simp at q; subst q; exact ⟨x, rfl, h1⟩
  | _ :: ds, _, i + 1, d, ⟨x, r, e, _, h2⟩, q => by subst e; simpa using Reps.get (i := i) h2 (by simpa using q)
theorem Reps.got : ∀ {ds : List D} {xs : List V} {i : Nat} {x : V}, Reps K H ds xs → xs[i]? = some x → ∃ d, ds[i]? = some d ∧ Rep K H d x
  | [], _, _, _, h, e => by cases h; simp at e
  | d :: ds, _, 0, x, ⟨y, r, e, h1, _⟩, q => by subst e; simp at q; subst q; exact ⟨d, rfl, h1⟩
  | _ :: ds, _, i + 1, x, ⟨y, r, e, _, h2⟩, q => by subst e; simpa using Reps.got (i := i) h2 (by simpa using q)
theorem Reps.app : ∀ {ds es : List D} {xs ys : List V}, Reps K H ds xs → Reps K H es ys → Reps K H (ds ++ es) (xs ++ ys)
  | [], _, _, _, h, h' => by cases h; exact h'
  | _ :: ds, _, _, _, ⟨x, r, e, h1, h2⟩, h' => by subst e; exact ⟨x, _, rfl, h1, Reps.app h2 h'⟩
theorem Reps.take : ∀ {ds : List D} {xs : List V} (n : Nat), Reps K H ds xs → Reps K H (ds.take n) (xs.take n)
  | _, _, 0, _ => by simp [Reps]
  | [], _, n + 1, h => by cases h; simp [Reps]
  | _ :: ds, _, n + 1, ⟨x, r, e, h1, h2⟩ => by subst e; exact ⟨x, _, rfl, h1, Reps.take n h2⟩
theorem Reps.drop : ∀ {ds : List D} {xs : List V} (n : Nat), Reps K H ds xs → Reps K H (ds.drop n) (xs.drop n)
  | _, _, 0, h => h
  | [], _, n + 1, h => by cases h; simp [Reps]
  | _ :: ds, _, n + 1, ⟨x, r, e, h1, h2⟩ => by subst e; exact Reps.drop n h2
theorem Reps.ints : ∀ (ns : List Int), Reps K H (ns.map D.int) (ns.map V.int)
  | [] => rfl
  | n :: ns => ⟨.int n, _, rfl, rfl, Reps.ints ns⟩
theorem Reps.cut {ds : List D} {xs : List V} (lo hi : Option Int) (h : Reps K H ds xs) : Reps K H ((ds.drop (HT.sIx ds.length 0 lo)).take (HT.sIx ds.length ds.length hi - HT.sIx ds.length 0 lo)) (cutV xs lo hi) := by
  unfold cutV
  rw [h.len]
  exact (h.drop _).take _
theorem Reps.rev : ∀ {ds : List D} {xs : List V}, Reps K H ds xs → Reps K H ds.reverse xs.reverse
  | [], _, h => by cases h; rfl
  | d :: ds, _, ⟨x, r, e, h1, h2⟩ => by
    subst e
    rw [List.reverse_cons, List.reverse_cons]
    exact Reps.app (Reps.rev h2) ⟨x, [], rfl, h1, rfl⟩
end
/-! ### slots -/
inductive SD where
  | d (d : D) | v (v : V)
def SlotOk (K : PySem.W.Frag) (H : Hp) : Option SD → Option V → Prop
  | none, _ => True
  | some (.d d), some v => Rep K H d v
  | some (.d _), none => False
  | some (.v w), o => o = some w
def Slots (K : PySem.W.Frag) (H : Hp) : List (Option SD) → St → Prop
  | [], σ => σ = []
  | s :: δ, σ => ∃ o r, σ = o :: r ∧ SlotOk K H s o ∧ Slots K H δ r
section
variable {T : Tb} {S : List Addr} {K : PySem.W.Frag} {H H' : Hp}
theorem SlotOk.up {s : Option SD} {o : Option V} (h : SlotOk K H s o) (g : Gr T S H H') : SlotOk K H' s o := by
  cases s with
  | none => trivial
  | some s => cases s with
    | v w => exact h
    | d d => cases o with
      | none => exact h
      | some v => exact Rep.up h g
theorem Slots.up : ∀ {δ : List (Option SD)} {σ : St}, Slots K H δ σ → Gr T S H H' → Slots K H' δ σ
  | [], _, h, _ => h
  | _ :: δ, _, ⟨o, r, e, h1, h2⟩, g => ⟨o, r, e, h1.up g, Slots.up h2 g⟩
theorem Slots.set : ∀ {δ : List (Option SD)} {σ : St} {s : Option SD} {o : Option V} (i : Nat), Slots K H δ σ → SlotOk K H s o → Slots K H (δ.set i s) (σ.set i o)
  | [], _, _, _, _, h, _ => by cases h; exact rfl
  | _ :: δ, _, _, _, 0, ⟨o, r, e, h1, h2⟩, q => by subst e; exact ⟨_, r, rfl, q, h2⟩
  | _ :: δ, _, _, _, i + 1, ⟨o, r, e, h1, h2⟩, q => by subst e; exact ⟨o, _, rfl, h1, Slots.set i h2 q⟩
theorem Slots.get : ∀ {δ : List (Option SD)} {σ : St} {i : Nat} {s : Option SD}, Slots K H δ σ → δ[i]? = some s → ∃ o, σ[i]? = some o ∧ SlotOk K H s o
  | [], _, _, _, _, e => by simp at e
  | _ :: δ, _, 0, _, ⟨o, r, e, h1, _⟩, q => by subst e; simp at q; subst q; exact ⟨o, rfl, h1⟩
  | _ :: δ, _, i + 1, _, ⟨o, r, e, _, h2⟩, q => by subst e; simpa using Slots.get (i := i) h2 (by simpa using q)
theorem Slots.dat {δ : List (Option SD)} {σ : St} {i : Nat} {d : D} (h : Slots K H δ σ) (e : δ[i]? = some (some (.d d))) : ∃ v, σ[i]? = some (some v) ∧ Rep K H d v := by
  obtain ⟨o, h1, h2⟩ := h.get e
  cases o with
  | none => exact h2.elim
  | some v => exact ⟨v, h1, h2⟩
theorem Slots.raw {δ : List (Option SD)} {σ : St} {i : Nat} {v : V} (h : Slots K H δ σ) (e : δ[i]? = some (some (.v v))) : σ[i]? = some (some v) := by
  obtain ⟨o, h1, h2⟩ := h.get e
  rw [h1, (show o = some v from h2)]
/-- less is known -/
inductive Less : List (Option SD) → List (Option SD) → Prop
  | nil : Less [] []
  | same {δ δ' : List (Option SD)} (s : Option SD) : Less δ δ' → Less (s :: δ) (s :: δ')
  | drop {δ δ' : List (Option SD)} (s : Option SD) : Less δ δ' → Less (s :: δ) (none :: δ')
theorem Slots.less : ∀ {δ δ' : List (Option SD)} {σ : St}, Less δ δ' → Slots K H δ σ → Slots K H δ' σ
  | _, _, _, .nil, h => h
  | _, _, _, .same _ l, ⟨o, r, e, h1, h2⟩ => ⟨o, r, e, h1, Slots.less l h2⟩
  | _, _, _, .drop _ l, ⟨o, r, e, _, h2⟩ => ⟨o, r, e, trivial, Slots.less l h2⟩
theorem Less.refl : ∀ δ : List (Option SD), Less δ δ
  | [] => .nil
  | s :: δ => .same s (Less.refl δ)
theorem Slots.start : ∀ {ds : List D} {vs : List V} (n : Nat), Reps K H ds vs → Slots K H (ds.map (fun d => some (.d d)) ++ List.replicate n none) (vs.map some ++ List.replicate n none)
  | [], _, n, h => by
    cases h
    induction n with
    | zero => rfl
    | succ n ih => exact ⟨none, _, rfl, trivial, ih⟩
  | _ :: ds, _, n, ⟨x, r, e, h1, h2⟩ => by subst e; exact ⟨some x, _, rfl, h1, Slots.start n h2⟩
end
end Pd
namespace Pd
open PySem L2
def ArgOk (K : PySem.W.Frag) (H : Hp) : List SD → List V → Prop
  | [], xs => xs = []
  | s :: ss, xs => ∃ x r, xs = x :: r ∧ SlotOk K H (some s) (some x) ∧ ArgOk K H ss r
section
variable {T : Tb} {S : List Addr} {K : PySem.W.Frag} {H H' : Hp}
theorem ArgOk.up : ∀ {ss : List SD} {xs : List V}, ArgOk K H ss xs → Gr T S H H' → ArgOk K H' ss xs
  | [], _, h, _ => h
  | _ :: ss, _, ⟨x, r, e, h1, h2⟩, g => ⟨x, r, e, h1.up g, ArgOk.up h2 g⟩
theorem ArgOk.dat : ∀ {ds : List D} {xs : List V}, ArgOk K H (ds.map SD.d) xs → Reps K H ds xs
  | [], _, h => h
  | _ :: ds, _, ⟨x, r, e, h1, h2⟩ => ⟨x, r, e, h1, ArgOk.dat h2⟩
theorem tyx_tup {a : Addr} {xs : List V} (h : SqT K H a xs) : TyX K H (.ref a) (.type "tuple") := by
  rcases h with (h | ⟨o, h⟩) | ⟨o, its, n, h, hc, _⟩
  · exact .base (.tup h)
  · exact .fTuple h
  · exact .kTuple h hc
end
section
variable (T : Tb) (K : PySem.W.Frag)
def EvD (te : TE) (δ : List (Option SD)) (H : Hp) (d : D) : Prop := ∀ σ H1, Gr T [] H H1 → Slots K H1 δ σ → ∀ Q : VK, (∀ v H2, Gr T [] H1 H2 → Rep K H2 d v → Q v H2) → te σ H1 Q
def EvV (te : TE) (δ : List (Option SD)) (H : Hp) (v : V) : Prop := ∀ σ H1, Gr T [] H H1 → Slots K H1 δ σ → ∀ Q : VK, (∀ H2, Gr T [] H1 H2 → Q v H2) → te σ H1 Q
/-- a new list -/
def EvL (te : TE) (δ : List (Option SD)) (H : Hp) (ds : List D) : Prop := ∀ σ H1, Gr T [] H H1 → Slots K H1 δ σ → ∀ Q : VK, (∀ p xs H2, H1 p = none → Gr T [] H1 H2 → H2 p = some (.lst xs) → Reps K H2 ds xs → Q (.ref p) H2) → te σ H1 Q
def EvT (tt : TT) (δ : List (Option SD)) (H : Hp) (b : Bool) : Prop := ∀ σ H1, Gr T [] H H1 → Slots K H1 δ σ → ∀ Q : Bool → Hp → Prop, (∀ H2, Gr T [] H1 H2 → Q b H2) → tt σ H1 Q
def EvA (ta : TA) (δ : List (Option SD)) (H : Hp) (ds : List D) : Prop := ∀ σ H1, Gr T [] H H1 → Slots K H1 δ σ → ∀ Q : List V → Hp → Prop, (∀ vs H2, Gr T [] H1 H2 → Reps K H2 ds vs → Q vs H2) → ta σ H1 Q
def EvS (ta : TA) (δ : List (Option SD)) (H : Hp) (ss : List SD) : Prop := ∀ σ H1, Gr T [] H H1 → Slots K H1 δ σ → ∀ Q : List V → Hp → Prop, (∀ vs H2, Gr T [] H1 H2 → ArgOk K H2 ss vs → Q vs H2) → ta σ H1 Q
def EvO (to : TO) (δ : List (Option SD)) (H : Hp) (o : Option Int) : Prop := ∀ σ H1, Gr T [] H H1 → Slots K H1 δ σ → ∀ Q : Option Int → Hp → Prop, (∀ H2, Gr T [] H1 H2 → Q o H2) → to σ H1 Q
end
section
variable {T : Tb} {S : List Addr} {K : PySem.W.Frag} {δ : List (Option SD)} {H H' : Hp} {ta tb tc te : TE} {t u : TT} {x y z d : D} {i j : Int}
theorem EvD.up (h : EvD T K te δ H d) (g : Gr T [] H H') : EvD T K te δ H' d := fun σ H1 a => h σ H1 (g.trans a)
theorem EvV.up {v : V} (h : EvV T K te δ H v) (g : Gr T [] H H') : EvV T K te δ H' v := fun σ H1 a => h σ H1 (g.trans a)
theorem EvT.up {b : Bool} (h : EvT T K t δ H b) (g : Gr T [] H H') : EvT T K t δ H' b := fun σ H1 a => h σ H1 (g.trans a)
theorem EvD.is (h : EvD T K te δ H d) (e : d = x) : EvD T K te δ H x := e ▸ h
theorem EvT.is {b c : Bool} (h : EvT T K t δ H b) (e : b = c) : EvT T K t δ H c := e ▸ h
theorem EvL.is {ds es : List D} (h : EvL T K te δ H ds) (e : ds = es) : EvL T K te δ H es := e ▸ h
theorem ev_var {n : Nat} (h : δ[n]? = some (some (.d d))) : EvD T K (tVar n) δ H d := fun σ H1 g s Q q => by
  obtain ⟨v, e, r⟩ := s.dat h
  exact ⟨v, e, q v H1 g.self r⟩
theorem ev_raw {n : Nat} {v : V} (h : δ[n]? = some (some (.v v))) : EvV T K (tVar n) δ H v := fun σ H1 g s Q q => ⟨v, s.raw h, q H1 g.self⟩
theorem ev_int : EvD T K (tC (.int i)) δ H (.int i) := fun σ H1 g s Q q => q _ H1 g.self rfl
theorem ev_str {s : Str} : EvD T K (tC (.str s)) δ H (.str s) := fun σ H1 g _ Q q => q _ H1 g.self rfl
theorem ev_bl {b : Bool} : EvD T K (tC (.bl b)) δ H (.bl b) := fun σ H1 g _ Q q => q _ H1 g.self rfl
theorem ev_non : EvD T K (tC .non) δ H .non := fun σ H1 g _ Q q => q _ H1 g.self rfl
theorem ev_con {v : V} : EvV T K (tC v) δ H v := fun σ H1 g _ Q q => q H1 g.self
theorem ev_op {r : R2} (ha : EvD T K ta δ H x) (hb : EvD T K tb δ H y)
    (hr : ∀ v w H1, Gr T [] H H1 → Rep K H1 x v → Rep K H1 y w → ∀ Q : VK, (∀ u H2, Gr T [] H1 H2 → Rep K H2 d u → Q u H2) → r v w H1 Q) : EvD T K (tOp r ta tb) δ H d := fun σ H1 g s Q q =>
  ha σ H1 g s _ fun v H2 g2 rv => hb σ H2 (g.trans g2) (s.up g2) _ fun w H3 g3 rw' => hr v w H3 ((g.trans g2).trans g3) (rv.up g3) rw' Q fun u H4 g4 ru => q u H4 ((g2.trans g3).trans g4) ru
theorem ev_I0 {g : Int → Int → Int} (ha : EvD T K ta δ H (.int i)) (hb : EvD T K tb δ H (.int j)) : EvD T K (tOp (rI0 fun i j => .int (g i j)) ta tb) δ H (.int (g i j)) :=
  ev_op ha hb fun v w H1 g1 e1 e2 Q q => ⟨i, j, e1, e2, q _ H1 g1.self rfl⟩
theorem ev_B0 {g : Int → Int → Bool} (ha : EvD T K ta δ H (.int i)) (hb : EvD T K tb δ H (.int j)) : EvD T K (tOp (rI0 fun i j => .bl (g i j)) ta tb) δ H (.bl (g i j)) :=
  ev_op ha hb fun v w H1 g1 e1 e2 Q q => ⟨i, j, e1, e2, q _ H1 g1.self rfl⟩
theorem ev_I {C : Int → Int → Prop} {g : Int → Int → Int} (ha : EvD T K ta δ H (.int i)) (hb : EvD T K tb δ H (.int j)) (hc : C i j) : EvD T K (tOp (rI C fun i j => .int (g i j)) ta tb) δ H (.int (g i j)) :=
  ev_op ha hb fun v w H1 g1 e1 e2 Q q => ⟨i, j, e1, e2, hc, q _ H1 g1.self rfl⟩
theorem ev_neg {g : Int → Int} (ha : EvD T K ta δ H (.int i)) : EvD T K (tUn (rU fun i => .int (g i)) ta) δ H (.int (g i)) := fun σ H1 g1 s Q q =>
  ha σ H1 g1 s _ fun v H2 g2 e => ⟨i, e, q _ H2 g2 rfl⟩
theorem ev_eqI (ha : EvD T K ta δ H (.int i)) (hb : EvD T K tb δ H (.int j)) : EvD T K (tOp rEq ta tb) δ H (.bl (decide (i = j))) :=
  ev_op ha hb fun v w H1 g1 e1 e2 Q q => by
    cases (show v = .int i from e1); cases (show w = .int j from e2)
    exact ⟨rfl, by have := q (.bl (decide (i = j))) H1 g1.self rfl; simpa using this⟩
theorem ev_neI (ha : EvD T K ta δ H (.int i)) (hb : EvD T K tb δ H (.int j)) : EvD T K (tOp rNe ta tb) δ H (.bl (!decide (i = j))) :=
  ev_op ha hb fun v w H1 g1 e1 e2 Q q => by
    cases (show v = .int i from e1); cases (show w = .int j from e2)
    exact ⟨rfl, by have := q (.bl (!decide (i = j))) H1 g1.self rfl; simpa using this⟩
theorem ev_eqS {a b : Str} (ha : EvD T K ta δ H (.str a)) (hb : EvD T K tb δ H (.str b)) : EvD T K (tOp rEq ta tb) δ H (.bl (decide (a = b))) :=
  ev_op ha hb fun v w H1 g1 e1 e2 Q q => by
    cases (show v = .str a from e1); cases (show w = .str b from e2)
    exact ⟨rfl, by have := q (.bl (decide (a = b))) H1 g1.self rfl; simpa using this⟩
theorem ev_neS {a b : Str} (ha : EvD T K ta δ H (.str a)) (hb : EvD T K tb δ H (.str b)) : EvD T K (tOp rNe ta tb) δ H (.bl (!decide (a = b))) :=
  ev_op ha hb fun v w H1 g1 e1 e2 Q q => by
    cases (show v = .str a from e1); cases (show w = .str b from e2)
    exact ⟨rfl, by have := q (.bl (!decide (a = b))) H1 g1.self rfl; simpa using this⟩
theorem ev_eqB {a b : Bool} (ha : EvD T K ta δ H (.bl a)) (hb : EvD T K tb δ H (.bl b)) : EvD T K (tOp rEq ta tb) δ H (.bl (decide (a = b))) :=
  ev_op ha hb fun v w H1 g1 e1 e2 Q q => by
    cases (show v = .bl a from e1); cases (show w = .bl b from e2)
    exact ⟨rfl, by have := q (.bl (decide (a = b))) H1 g1.self rfl; simpa using this⟩
theorem ev_neB {a b : Bool} (ha : EvD T K ta δ H (.bl a)) (hb : EvD T K tb δ H (.bl b)) : EvD T K (tOp rNe ta tb) δ H (.bl (!decide (a = b))) :=
  ev_op ha hb fun v w H1 g1 e1 e2 Q q => by
    cases (show v = .bl a from e1); cases (show w = .bl b from e2)
    exact ⟨rfl, by have := q (.bl (!decide (a = b))) H1 g1.self rfl; simpa using this⟩
/-! tests -/
theorem et_test {b : Bool} (h : EvD T K te δ H (.bl b)) : EvT T K (tTest te) δ H b := fun σ H1 g s Q q => h σ H1 g s _ fun v H2 g2 e => ⟨b, e, q H2 g2⟩
theorem et_B {b : Bool} (h : EvD T K te δ H (.bl b)) : EvT T K (tB te) δ H b := fun σ H1 g s Q q => h σ H1 g s _ fun v H2 g2 e => ⟨b, e, q H2 g2⟩
theorem et_and {a b : Bool} (h1 : EvT T K t δ H a) (h2 : a = true → EvT T K u δ H b) : EvT T K (tAnd t u) δ H (a && b) := fun σ H1 g s Q q => h1 σ H1 g s _ fun H2 g2 => by
  cases a with
  | true => exact (show u σ H2 Q from h2 rfl σ H2 (g.trans g2) (s.up g2) Q fun H3 g3 => q H3 (g2.trans g3))
  | false => exact (show Q false H2 from q H2 g2)
theorem et_or {a b : Bool} (h1 : EvT T K t δ H a) (h2 : a = false → EvT T K u δ H b) : EvT T K (tOr t u) δ H (a || b) := fun σ H1 g s Q q => h1 σ H1 g s _ fun H2 g2 => by
  cases a with
  | true => exact (show Q true H2 from q H2 g2)
  | false => exact (show u σ H2 Q from h2 rfl σ H2 (g.trans g2) (s.up g2) Q fun H3 g3 => q H3 (g2.trans g3))
theorem et_not {a : Bool} (h1 : EvT T K t δ H a) : EvT T K (tNot t) δ H (!a) := fun σ H1 g s Q q => h1 σ H1 g s _ fun H2 g2 => q H2 g2
theorem ev_andV {a b : Bool} (h1 : EvD T K ta δ H (.bl a)) (h2 : a = true → EvD T K tb δ H (.bl b)) : EvD T K (tAndV ta tb) δ H (.bl (a && b)) := fun σ H1 g s Q q => h1 σ H1 g s _ fun v H2 g2 e => ⟨a, e, by
  cases a with
  | true => exact (show tb σ H2 Q from h2 rfl σ H2 (g.trans g2) (s.up g2) Q fun v H3 g3 r => q v H3 (g2.trans g3) r)
  | false => exact (show Q (.bl false) H2 from q _ H2 g2 rfl)⟩
theorem ev_orV {a b : Bool} (h1 : EvD T K ta δ H (.bl a)) (h2 : a = false → EvD T K tb δ H (.bl b)) : EvD T K (tOrV ta tb) δ H (.bl (a || b)) := fun σ H1 g s Q q => h1 σ H1 g s _ fun v H2 g2 e => ⟨a, e, by
  cases a with
  | true => exact (show Q (.bl true) H2 from q _ H2 g2 rfl)
  | false => exact (show tb σ H2 Q from h2 rfl σ H2 (g.trans g2) (s.up g2) Q fun v H3 g3 r => q v H3 (g2.trans g3) r)⟩
theorem ev_notV {a : Bool} (h1 : EvD T K ta δ H (.bl a)) : EvD T K (tNotV ta) δ H (.bl (!a)) := fun σ H1 g s Q q => h1 σ H1 g s _ fun v H2 g2 e => ⟨a, e, q _ H2 g2 rfl⟩
theorem ev_if {b : Bool} (h : EvT T K t δ H b) (h1 : b = true → EvD T K ta δ H d) (h2 : b = false → EvD T K tb δ H d) : EvD T K (tIf t ta tb) δ H d := fun σ H1 g s Q q => h σ H1 g s _ fun H2 g2 => by
  cases b with
  | true => exact (show ta σ H2 Q from h1 rfl σ H2 (g.trans g2) (s.up g2) Q fun v H3 g3 r => q v H3 (g2.trans g3) r)
  | false => exact (show tb σ H2 Q from h2 rfl σ H2 (g.trans g2) (s.up g2) Q fun v H3 g3 r => q v H3 (g2.trans g3) r)
/-- a < b < c -/
theorem ev_chain {f f' : Int → Int → Bool} {k : Int} (ha : EvD T K ta δ H (.int i)) (hb : EvD T K tb δ H (.int j)) (hc : EvD T K tc δ H (.int k)) :
    EvD T K (tChain (rI0 fun i j => .bl (f i j)) (rI0 fun i j => .bl (f' i j)) ta tb tc) δ H (.bl (f i j && f' j k)) := fun σ H1 g s Q q =>
  ha σ H1 g s _ fun v H2 g2 e1 => hb σ H2 (g.trans g2) (s.up g2) _ fun w H3 g3 e2 => ⟨i, j, e1, e2, f i j, rfl, by
    cases hf : f i j with
    | true =>
      show tc σ H3 _
      refine hc σ H3 ((g.trans g2).trans g3) ((s.up g2).up g3) _ fun x H4 g4 e3 => ⟨j, k, e2, e3, ?_⟩
      have := q (.bl (f i j && f' j k)) H4 ((g2.trans g3).trans g4) rfl
      rw [hf] at this; exact this
    | false =>
      show Q (.bl false) H3
      have := q (.bl (f i j && f' j k)) H3 (g2.trans g3) rfl
      rw [hf] at this; exact this⟩
/-! arguments -/
theorem ea_nil : EvA T K tNil δ H [] := fun σ H1 g s Q q => q [] H1 g.self rfl
theorem ea_cons {tr : TA} {ds : List D} (h : EvD T K ta δ H x) (hr : EvA T K tr δ H ds) : EvA T K (tCons ta tr) δ H (x :: ds) := fun σ H1 g s Q q =>
  h σ H1 g s _ fun v H2 g2 r => hr σ H2 (g.trans g2) (s.up g2) _ fun vs H3 g3 rs => q _ H3 (g2.trans g3) ⟨v, vs, rfl, r.up g3, rs⟩
theorem es_nil : EvS T K tNil δ H [] := fun σ H1 g s Q q => q [] H1 g.self rfl
theorem es_d {tr : TA} {ss : List SD} (h : EvD T K ta δ H x) (hr : EvS T K tr δ H ss) : EvS T K (tCons ta tr) δ H (.d x :: ss) := fun σ H1 g s Q q =>
  h σ H1 g s _ fun v H2 g2 r => hr σ H2 (g.trans g2) (s.up g2) _ fun vs H3 g3 rs => q _ H3 (g2.trans g3) ⟨v, vs, rfl, Rep.up r g3, rs⟩
theorem es_v {tr : TA} {ss : List SD} {v : V} (h : EvV T K ta δ H v) (hr : EvS T K tr δ H ss) : EvS T K (tCons ta tr) δ H (.v v :: ss) := fun σ H1 g s Q q =>
  h σ H1 g s _ fun H2 g2 => hr σ H2 (g.trans g2) (s.up g2) _ fun vs H3 g3 rs => q _ H3 (g2.trans g3) ⟨v, vs, rfl, rfl, rs⟩
/-! tuples -/
theorem sz {n : Nat} (h : n ≤ 100000) : n ≤ sizeLine := Nat.le_trans h (by decide)
theorem ev_tup {ta : TA} {ds : List D} (h : EvA T K ta δ H ds) (hl : ds.length ≤ 100000) : EvD T K (tTup ta) δ H (.tup ds) := fun σ H1 g s Q q =>
  h σ H1 g s _ fun vs H2 g2 r => ⟨sz (by rw [r.len]; exact hl), fun p hp => q _ _ (g2.trans (Gr.new g2.tbs hp)) ⟨p, vs, rfl, .inl (.inl upd_same), r.up (Gr.new (S := []) g2.tbs hp)⟩⟩
theorem ev_lst {ta : TA} {ds : List D} (h : EvA T K ta δ H ds) (hl : ds.length ≤ 100000) : EvL T K (tLst ta) δ H ds := fun σ H1 g s Q q =>
  h σ H1 g s _ fun vs H2 g2 r => ⟨sz (by rw [r.len]; exact hl), fun p hp => q p vs _ (g2.dom p hp) (g2.trans (Gr.new g2.tbs hp)) upd_same (r.up (Gr.new (S := []) g2.tbs hp))⟩
theorem atI_rep {ds : List D} {xs : List V} (h : Reps K H ds xs) (e : atI ds i = some d) : ∃ v, atI xs i = some v ∧ Rep K H d v := by
  unfold atI at e ⊢
  rw [h.len]
  cases q : ixN ds.length i with
  | none => rw [q] at e; cases e
  | some n =>
    rw [q] at e
    exact h.get (show ds[n]? = some d from e)
theorem ev_ixT {ds : List D} (ha : EvD T K ta δ H (.tup ds)) (hb : EvD T K tb δ H (.int i)) (h : atI ds i = some d) : EvD T K (tOp (rIxT K) ta tb) δ H d :=
  ev_op ha hb fun v w H1 g1 r1 e2 Q q => by
    obtain ⟨p, xs, e1, hs, rs⟩ := r1
    obtain ⟨x, hx, rx⟩ := atI_rep rs h
    exact ⟨p, xs, i, x, e1, e2, hs, hx, q x H1 g1.self rx⟩
/-- an item of a list that was just made -/
theorem ev_ixL {ds : List D} (ha : EvL T K ta δ H ds) (hb : EvD T K tb δ H (.int i)) (h : atI ds i = some d) : EvD T K (tOp (rIxL K) ta tb) δ H d := fun σ H1 g s Q q =>
  ha σ H1 g s _ fun p xs H2 hp g2 e1 rs => hb σ H2 (g.trans g2) (s.up g2) _ fun w H3 g3 e2 => by
    obtain ⟨x, hx, rx⟩ := atI_rep (rs.up g3) h
    exact ⟨p, xs, i, x, rfl, e2, .inl (.inl (g3.lst e1 (by simp))), hx, q x H3 (g2.trans g3) rx⟩
theorem eo_none : EvO T K tNoPart δ H none := fun σ H1 g s Q q => q H1 g.self
theorem eo_some (h : EvD T K te δ H (.int i)) : EvO T K (tPart te) δ H (some i) := fun σ H1 g s Q q => h σ H1 g s _ fun v H2 g2 e => ⟨i, e, q H2 g2⟩
def cutD (ds : List D) (lo hi : Option Int) : List D := (ds.drop (HT.sIx ds.length 0 lo)).take (HT.sIx ds.length ds.length hi - HT.sIx ds.length 0 lo)
theorem ev_slT {tl th : TO} {ds : List D} {lo hi : Option Int} (ha : EvD T K ta δ H (.tup ds)) (hl : EvO T K tl δ H lo) (hh : EvO T K th δ H hi) : EvD T K (tSl (rSlA K) ta tl th) δ H (.tup (cutD ds lo hi)) := fun σ H1 g s Q q =>
  ha σ H1 g s _ fun v H2 g2 r => hl σ H2 (g.trans g2) (s.up g2) _ fun H3 g3 => hh σ H3 ((g.trans g2).trans g3) ((s.up g2).up g3) _ fun H4 g4 => by
    obtain ⟨p, xs, e, hs, rs⟩ := (r.up g3).up g4
    refine ⟨p, xs, e, hs, fun hw => q _ H4 ((g2.trans g3).trans g4) ⟨p, xs, rfl, hs, ?_⟩, fun _ b hb => q _ _ (((g2.trans g3).trans g4).trans (Gr.new g4.tbs hb)) ⟨b, _, rfl, .inl (.inl upd_same), (rs.cut lo hi).up (Gr.new (S := []) g4.tbs hb)⟩⟩
    have e2 : cutD ds lo hi = ds := by
      unfold cutD
      rw [← rs.len, hw.1, hw.2, List.drop_zero, Nat.sub_zero, rs.len, List.take_length]
    rw [e2]; exact rs
theorem ev_catT {ds es : List D} (ha : EvD T K ta δ H (.tup ds)) (hb : EvD T K tb δ H (.tup es)) (hl : ds.length + es.length ≤ 100000) : EvD T K (tOp (rCatA K) ta tb) δ H (.tup (ds ++ es)) :=
  ev_op ha hb fun v w H1 g1 r1 r2 Q q => by
    obtain ⟨a, xs, e1, h1, s1⟩ := r1
    obtain ⟨b, ys, e2, h2, s2⟩ := r2
    refine ⟨a, b, xs, ys, e1, e2, h1, h2, sz (by rw [s1.len, s2.len]; exact hl), fun z => q _ H1 g1.self ⟨b, ys, rfl, h2, ?_⟩, fun _ z => q _ H1 g1.self ⟨a, xs, rfl, h1, ?_⟩, fun _ _ p hp => q _ _ (Gr.new g1.tbs hp) ⟨p, _, rfl, .inl (.inl upd_same), (s1.app s2).up (Gr.new (S := []) g1.tbs hp)⟩⟩
    · have l := s1.len; rw [z] at l
      have : ds = [] := List.length_eq_zero_iff.mp l.symm
      subst this; exact s2
    · have l := s2.len; rw [z] at l
      have : es = [] := List.length_eq_zero_iff.mp l.symm
      subst this; rw [List.append_nil]; exact s1
/-! built-in calls -/
def rLenS (K : PySem.W.Frag) : List V → Hp → VK → Prop := fun xs H Q => ∃ p ys, xs = [.ref p] ∧ (SqL K H p ys ∨ SqT K H p ys) ∧ Q (.int ys.length) H
theorem ev_lenT {ds : List D} (ha : EvD T K ta δ H (.tup ds)) : EvD T K (tCB (rLenS K) (tCons ta tNil)) δ H (.int ds.length) := fun σ H1 g s Q q =>
  ha σ H1 g s _ fun v H2 g2 r => by
    obtain ⟨p, xs, e, hs, rs⟩ := r
    subst e
    exact ⟨p, xs, rfl, .inr hs, by rw [rs.len]; exact q _ H2 g2 rfl⟩
theorem ev_lenN {ds : List D} (ha : EvL T K ta δ H ds) : EvD T K (tCB (rLenS K) (tCons ta tNil)) δ H (.int ds.length) := fun σ H1 g s Q q =>
  ha σ H1 g s _ fun p xs H2 hp g2 e rs => ⟨p, xs, rfl, .inl (.inl (.inl e)), by rw [rs.len]; exact q _ H2 g2 rfl⟩
/-- of a list that stands at l -/
theorem ev_lenL {l : Addr} {xs : List V} (ha : EvV T K ta δ H (.ref l)) (h : H l = some (.lst xs)) : EvD T K (tCB (rLenS K) (tCons ta tNil)) δ H (.int xs.length) := fun σ H1 g s Q q =>
  ha σ H1 g s _ fun H2 g2 => ⟨l, xs, rfl, .inl (.inl (.inl (g2.lst (g.lst h (by simp)) (by simp)))), q _ H2 g2 rfl⟩
def rLenTx : List V → Hp → VK → Prop := fun xs H Q => ∃ z : Str, xs = [.str z] ∧ z.length ≤ sizeLine ∧ Q (.int z.length) H
theorem ev_lenS {z : Str} (ha : EvD T K ta δ H (.str z)) (hz : z.length ≤ 100000) : EvD T K (tCB rLenTx (tCons ta tNil)) δ H (.int z.length) := fun σ H1 g s Q q =>
  ha σ H1 g s _ fun v H2 g2 e => by
    cases (show v = .str z from e)
    exact ⟨z, rfl, sz hz, q _ H2 g2 rfl⟩
def rMin2 : List V → Hp → VK → Prop := fun xs H Q => ∃ i j, xs = [.int i, .int j] ∧ Q (.int (if j < i then j else i)) H
def rMax2 : List V → Hp → VK → Prop := fun xs H Q => ∃ i j, xs = [.int i, .int j] ∧ Q (.int (if j > i then j else i)) H
theorem ev_min2 {ta tb : TE} (ha : EvD T K ta δ H (.int i)) (hb : EvD T K tb δ H (.int j)) : EvD T K (tCB rMin2 (tCons ta (tCons tb tNil))) δ H (.int (min i j)) := fun σ H1 g s Q q =>
  ha σ H1 g s _ fun v H2 g2 e1 => hb σ H2 (g.trans g2) (s.up g2) _ fun w H3 g3 e2 => by
    cases (show v = .int i from e1); cases (show w = .int j from e2)
    refine ⟨i, j, rfl, ?_⟩
    have e : (if j < i then j else i) = min i j := by omega
    rw [e]; exact q _ H3 (g2.trans g3) rfl
theorem ev_max2 {ta tb : TE} (ha : EvD T K ta δ H (.int i)) (hb : EvD T K tb δ H (.int j)) : EvD T K (tCB rMax2 (tCons ta (tCons tb tNil))) δ H (.int (max i j)) := fun σ H1 g s Q q =>
  ha σ H1 g s _ fun v H2 g2 e1 => hb σ H2 (g.trans g2) (s.up g2) _ fun w H3 g3 e2 => by
    cases (show v = .int i from e1); cases (show w = .int j from e2)
    refine ⟨i, j, rfl, ?_⟩
    have e : (if j > i then j else i) = max i j := by omega
    rw [e]; exact q _ H3 (g2.trans g3) rfl
/-- tuple(of a new list) -/
def rTupOf (K : PySem.W.Frag) : List V → Hp → VK → Prop := fun xs H Q => ∃ p ys, xs = [.ref p] ∧ ((SqL K H p ys ∧ ∀ l, H l = none → Q (.ref l) (upd H l (.tup ys))) ∨ (SqT K H p ys ∧ Q (.ref p) H))
theorem ev_tupN {ds : List D} (ha : EvL T K ta δ H ds) : EvD T K (tCB (rTupOf K) (tCons ta tNil)) δ H (.tup ds) := fun σ H1 g s Q q =>
  ha σ H1 g s _ fun p xs H2 hp g2 e rs => ⟨p, xs, rfl, .inl ⟨.inl (.inl e), fun l hl => q _ _ (g2.trans (Gr.new g2.tbs hl)) ⟨l, xs, rfl, .inl (.inl upd_same), rs.up (Gr.new (S := []) g2.tbs hl)⟩⟩⟩
theorem ev_tupL {l : Addr} {xs : List V} {ds : List D} (ha : EvV T K ta δ H (.ref l)) (h : H l = some (.lst xs)) (hr : Reps K H ds xs) : EvD T K (tCB (rTupOf K) (tCons ta tNil)) δ H (.tup ds) := fun σ H1 g s Q q =>
  ha σ H1 g s _ fun H2 g2 => ⟨l, xs, rfl, .inl ⟨.inl (.inl (g2.lst (g.lst h (by simp)) (by simp))), fun p hp => q _ _ (g2.trans (Gr.new g2.tbs hp)) ⟨p, xs, rfl, .inl (.inl upd_same), ((hr.up g).up g2).up (Gr.new (S := []) g2.tbs hp)⟩⟩⟩
/-- isinstance(x, str) -/
def isStr : D → Bool
  | .str _ => true
  | _ => false
theorem ev_isStr (ha : EvD T K ta δ H d) : EvD T K (tCB (rIsi K) (tCons ta (tCons (tC (.ty "str")) tNil))) δ H (.bl (isStr d)) := fun σ H1 g s Q q =>
  ha σ H1 g s _ fun v H2 g2 r => by
    have fin : ∀ t b, TyX K H2 v (.type t) → kitB t "str" = some b → b = isStr d → rIsi K [v, .ty "str"] H2 Q := fun t b ty e eb => ⟨v, .ty "str", .type t, .type "str", b, rfl, .ty _, ty, kit_ty e, by rw [eb]; exact q _ H2 g2 rfl⟩
    cases d with
    | non => cases (show v = .non from r); exact fin "NoneType" false (.base .non) (by decide +kernel) rfl
    | bl b => cases (show v = .bl b from r); exact fin "bool" false (.base (.bl b)) (by decide +kernel) rfl
    | int i => cases (show v = .int i from r); exact fin "int" false (.base (.int i)) (by decide +kernel) rfl
    | str x => cases (show v = .str x from r); exact fin "str" true (.base (.str x)) (by decide +kernel) rfl
    | tup ds =>
      obtain ⟨a, xs, e, hs, _⟩ := r
      subst e
      exact fin "tuple" false (tyx_tup hs) (by decide +kernel) rfl
/-! calls of one's own defs -/
/-- a def of data: R tells what it hands back of what -/
def spR (T : Tb) (K : PySem.W.Frag) (R : List D → D → Prop) : Sp := fun vs H Q _ => ∃ ds d, R ds d ∧ Reps K H ds vs ∧ Tbs T H ∧ ∀ v H', Gr T [] H H' → Rep K H' d v → Q v H'
theorem ev_call {E : XK} {ta : TA} {R : List D → D → Prop} {ds : List D} (h : EvA T K ta δ H ds) (hR : R ds d) : EvD T K (tCall (spR T K R) [] E ta) δ H d := fun σ H1 g s Q q =>
  h σ H1 g s _ fun vs H2 g2 r => ⟨ds, d, hR, by rw [List.append_nil]; exact r, g2.tbs, fun v H3 g3 rv => q v H3 (g2.trans g3) rv⟩
/-- a def of data that hands back a new list -/
def spRL (T : Tb) (K : PySem.W.Frag) (R : List D → List D → Prop) : Sp := fun vs H Q _ => ∃ ds es, R ds es ∧ Reps K H ds vs ∧ Tbs T H ∧ ∀ p xs H', H p = none → Gr T [] H H' → H' p = some (.lst xs) → Reps K H' es xs → Q (.ref p) H'
theorem ev_callL {E : XK} {ta : TA} {R : List D → List D → Prop} {ds es : List D} (h : EvA T K ta δ H ds) (hR : R ds es) : EvL T K (tCall (spRL T K R) [] E ta) δ H es := fun σ H1 g s Q q =>
  h σ H1 g s _ fun vs H2 g2 r => ⟨ds, es, hR, by rw [List.append_nil]; exact r, g2.tbs, fun p xs H3 n1 g3 e rv => q p xs H3 (g2.dom p n1) (g2.trans g3) e rv⟩
end
end Pd
namespace Pd
open PySem L2
section
variable (T : Tb) (K : PySem.W.Frag)
def Run (t : TS) (B : Ends) (δ : List (Option SD)) (H : Hp) : Prop := ∀ σ, Slots K H δ σ → t B σ H
def Off (js : List Nat) (σ σ' : St) : Prop := σ'.length = σ.length ∧ ∀ i, i ∉ js → σ'[i]? = σ[i]?
def EvG (g : TG) (d : D) (δ : List (Option SD)) (H : Hp) (δ' : List (Option SD)) (js : List Nat) : Prop := ∀ v σ H1, Gr T [] H H1 → Rep K H1 d v → Slots K H1 δ σ → ∀ Q : St → Hp → Prop, (∀ σ', Slots K H1 δ' σ' → Off js σ σ' → Q σ' H1) → g v σ H1 Q
def EvGs (g : TGs) (ds : List D) (δ : List (Option SD)) (H : Hp) (δ' : List (Option SD)) (js : List Nat) : Prop := ∀ vs σ H1, Gr T [] H H1 → Reps K H1 ds vs → Slots K H1 δ σ → ∀ Q : St → Hp → Prop, (∀ σ', Slots K H1 δ' σ' → Off js σ σ' → Q σ' H1) → g vs σ H1 Q
/-- what is walked: these, one after another -/
def EvI (S : List Addr) (wi : TI) (δ : List (Option SD)) (H : Hp) (ds : List D) : Prop := ∀ σ H1, Gr T [] H H1 → Slots K H1 δ σ → ∀ R : It → Hp → Prop,
  (∀ J H2, Gr T [] H1 H2 → Walk J ds.length (fun H' => Gr T S H2 H') (fun i Ha x Hb => Gr T [] Ha Hb ∧ ∃ d, ds[i]? = some d ∧ Rep K Hb d x) → R J H2) → wi σ H1 R
end
section
variable {T : Tb} {S : List Addr} {K : PySem.W.Frag} {δ δ' δ2 : List (Option SD)} {H H' : Hp} {ta tb tc te : TE} {t u w : TS} {tt : TT} {B : Ends} {d : D} {i j : Int} {js js2 : List Nat}
theorem run_asg {n : Nat} (hT : Tbs T H) (h : EvD T K te δ H d) (k : ∀ H1, Gr T [] H H1 → Run K u B (δ.set n (some (.d d))) H1) : Run K (tSeq (tAsg te (gName n)) u) B δ H := fun σ s =>
  h σ H (Gr.refl hT) s _ fun v H1 g r => k H1 g _ ((s.up g).set n (show SlotOk K H1 (some (.d d)) (some v) from r))
theorem run_asgV {n : Nat} {v : V} (hT : Tbs T H) (h : EvV T K te δ H v) (k : ∀ H1, Gr T [] H H1 → Run K u B (δ.set n (some (.v v))) H1) : Run K (tSeq (tAsg te (gName n)) u) B δ H := fun σ s =>
  h σ H (Gr.refl hT) s _ fun H1 g => k H1 g _ ((s.up g).set n (show SlotOk K H1 (some (.v v)) (some v) from rfl))
theorem run_asgL {n : Nat} {ds : List Pd.D} (hT : Tbs T H) (h : EvL T K te δ H ds) (k : ∀ p xs H1, H p = none → Gr T [] H H1 → H1 p = some (.lst xs) → Reps K H1 ds xs → Run K u B (δ.set n (some (.v (.ref p)))) H1) : Run K (tSeq (tAsg te (gName n)) u) B δ H := fun σ s =>
  h σ H (Gr.refl hT) s _ fun p xs H1 n1 g e r => k p xs H1 n1 g e r _ ((s.up g).set n (show SlotOk K H1 (some (.v (.ref p))) (some (.ref p)) from rfl))
theorem run_asgG {g : TG} (hT : Tbs T H) (h : EvD T K te δ H d) (hg : ∀ H1, Gr T [] H H1 → EvG T K g d δ H1 δ' js) (k : ∀ H1, Gr T [] H H1 → Run K u B δ' H1) : Run K (tSeq (tAsg te g) u) B δ H := fun σ s =>
  h σ H (Gr.refl hT) s _ fun v H1 g1 r => hg H1 g1 v σ H1 (Gr.refl g1.tbs) r (s.up g1) _ fun σ' s' _ => k H1 g1 σ' s'
theorem run_drop (hT : Tbs T H) (h : EvD T K te δ H d) (k : ∀ H1, Gr T [] H H1 → Run K u B δ H1) : Run K (tSeq (tDrop te) u) B δ H := fun σ s =>
  h σ H (Gr.refl hT) s _ fun v H1 g r => k H1 g _ (s.up g)
theorem run_ret (hT : Tbs T H) (h : EvD T K te δ H d) (k : ∀ v H1, Gr T [] H H1 → Rep K H1 d v → B.rt v H1) : Run K (tRet te) B δ H := fun σ s => h σ H (Gr.refl hT) s _ k
theorem run_retV {v : V} (hT : Tbs T H) (h : EvV T K te δ H v) (k : ∀ H1, Gr T [] H H1 → B.rt v H1) : Run K (tRet te) B δ H := fun σ s => h σ H (Gr.refl hT) s _ k
theorem run_retL {ds : List Pd.D} (hT : Tbs T H) (h : EvL T K te δ H ds) (k : ∀ p xs H1, H p = none → Gr T [] H H1 → H1 p = some (.lst xs) → Reps K H1 ds xs → B.rt (.ref p) H1) : Run K (tRet te) B δ H := fun σ s => h σ H (Gr.refl hT) s _ k
theorem run_next (k : ∀ σ, Slots K H δ σ → B.nx σ H) : Run K tNext B δ H := k
theorem run_seq (h : Run K t { B with nx := u B } δ H) : Run K (tSeq t u) B δ H := h
/-- the last of a block -/
theorem run_last (h : Run K (tSeq t tNext) B δ H) : Run K t B δ H := h
theorem run_if {b : Bool} (hT : Tbs T H) (h : EvT T K tt δ H b) (h1 : b = true → ∀ H1, Gr T [] H H1 → Run K t B δ H1) (h2 : b = false → ∀ H1, Gr T [] H H1 → Run K u B δ H1) : Run K (tIfS tt t u) B δ H := fun σ s =>
  h σ H (Gr.refl hT) s _ fun H1 g => by
    cases b with
    | true => exact (show t B σ H1 from h1 rfl H1 g σ (s.up g))
    | false => exact (show u B σ H1 from h2 rfl H1 g σ (s.up g))
theorem run_ifS {b : Bool} (hT : Tbs T H) (h : EvT T K tt δ H b) (h1 : b = true → ∀ H1, Gr T [] H H1 → Run K t { B with nx := w B } δ H1) (h2 : b = false → ∀ H1, Gr T [] H H1 → Run K u { B with nx := w B } δ H1) : Run K (tSeq (tIfS tt t u) w) B δ H :=
  run_if (B := { B with nx := w B }) hT h h1 h2
/-- an if without else, whose suite leaves -/
theorem run_when {b : Bool} (hT : Tbs T H) (h : EvT T K tt δ H b) (h1 : b = true → ∀ H1, Gr T [] H H1 → Run K t { B with nx := w B } δ H1) (h2 : b = false → ∀ H1, Gr T [] H H1 → Run K w B δ H1) : Run K (tSeq (tIfS tt t tNext) w) B δ H :=
  run_if (B := { B with nx := w B }) hT h h1 fun e H1 g σ s => h2 e H1 g σ s
theorem run_aug {n : Nat} {f : Int → Int → Int} (hT : Tbs T H) (hx : δ[n]? = some (some (.d (.int i)))) (h : EvD T K te δ H (.int j)) (k : ∀ H1, Gr T [] H H1 → Run K u B (δ.set n (some (.d (.int (f i j))))) H1) : Run K (tSeq (tAug n te (ipI f)) u) B δ H := fun σ s => by
  obtain ⟨v, e, r⟩ := s.dat hx
  cases (show v = .int i from r)
  exact ⟨_, e, h σ H (Gr.refl hT) s _ fun w H1 g r2 => ⟨i, j, rfl, r2, k H1 g _ ((s.up g).set n (show SlotOk K H1 (some (.d (.int (f i j)))) (some (.int (f i j))) from rfl))⟩⟩
/-! targets -/
theorem eg_name {n : Nat} : EvG T K (gName n) d δ H (δ.set n (some (.d d))) [n] := fun v σ H1 g r s Q q => q _ (s.set n (show SlotOk K H1 (some (.d d)) (some v) from r))
  ⟨List.length_set, fun i hi => List.getElem?_set_ne (by simpa using fun z => hi (by simp [z]))⟩
theorem eg_nil : EvGs T K gNil [] δ H δ [] := fun vs σ H1 g r s Q q => ⟨r, q σ s ⟨rfl, fun _ _ => rfl⟩⟩
theorem eg_cons {g : TG} {gs : TGs} {ds : List Pd.D} (h1 : EvG T K g d δ H δ' js) (h2 : EvGs T K gs ds δ' H δ2 js2) : EvGs T K (gCons g gs) (d :: ds) δ H δ2 (js ++ js2) := fun vs σ H1 g1 r s Q q => by
  obtain ⟨x, xs, e, r1, r2⟩ := r
  exact ⟨x, xs, e, h1 x σ H1 g1 r1 s _ fun σ' s' o1 => h2 xs σ' H1 g1 r2 s' Q fun σ2 s2 o2 => q σ2 s2 ⟨o2.1.trans o1.1, fun i hi => (o2.2 i fun z => hi (List.mem_append_right _ z)).trans (o1.2 i fun z => hi (List.mem_append_left _ z))⟩⟩
theorem eg_tup {n : Nat} {gs : TGs} {ds : List Pd.D} (hn : ds.length = n) (h : EvGs T K gs ds δ H δ' js) : EvG T K (gTup K n gs) (.tup ds) δ H δ' js := fun v σ H1 g1 r s Q q => by
  obtain ⟨a, xs, e, hs, rs⟩ := r
  exact ⟨a, xs, e, hs, by rw [rs.len]; exact hn, h xs σ H1 g1 rs s Q q⟩
/-! loops -/
theorem ei_tup {ds : List Pd.D} (h : EvD T K te δ H (.tup ds)) : EvI T K S (iTup K te) δ H ds := fun σ H1 g s R q =>
  h σ H1 g s _ fun v H2 g2 r => by
    obtain ⟨a, xs, e, hs, rs⟩ := r
    refine ⟨a, e, ⟨xs, hs⟩, q _ H2 g2 ?_⟩
    rw [← rs.len]
    refine (walk_tup (K := K) (a := a) (xs := xs)).mono (fun H' g' => g'.sqT hs) fun i Ha x Hb hi g' y => ?_
    obtain ⟨e1, e2⟩ := y
    subst e1
    obtain ⟨d, hd, rd⟩ := rs.got e2
    exact ⟨Gr.refl g'.tbs, d, hd, rd.up g'⟩
theorem ei_range {ta : TA} {n : Int} (h : EvA T K ta δ H [.int n]) (h0 : -(2 ^ 62) ≤ n) (h1 : n < 2 ^ 62) : EvI T K S (iRng1 ta) δ H ((List.range n.toNat).map fun k => .int (k : Nat)) := fun σ H1 g s R q =>
  h σ H1 g s _ fun vs H2 g2 r => by
    obtain ⟨x, r', e, h2, h3⟩ := r
    cases (show x = .int n from h2); cases h3
    refine ⟨n, e, h0, h1, q _ H2 g2 ?_⟩
    rw [List.length_map, List.length_range]
    refine (walk_range (lo := 0) (n := n.toNat)).mono (fun _ _ => trivial) fun i Ha x Hb hi g' y => ?_
    obtain ⟨e1, e2⟩ := y
    subst e1
    refine ⟨Gr.refl g'.tbs, .int (i : Nat), ?_, ?_⟩
    · rw [List.getElem?_map, List.getElem?_range hi]; rfl
    · rw [e2]; show V.int (0 + (i : Int)) = V.int (i : Nat); rw [Int.zero_add]
/-- a for: δs tells the slots ahead of each turn, I what else is known of the heap -/
theorem run_for {wi : TI} {g : TG} {ds : List Pd.D} (hT : Tbs T H) (hi : EvI T K S wi δ H ds) (δs : Nat → List (Option SD)) (I : Nat → Hp → Prop)
    (h0 : Less δ (δs 0)) (hI : ∀ H1, Gr T [] H H1 → I 0 H1) (hIm : ∀ i H1 H2, Gr T [] H1 H2 → I i H1 → I i H2)
    (hs : ∀ i d H1 (N : St → Hp → Prop), ds[i]? = some d → Gr T S H H1 → I i H1 → (∀ σ H2, Gr T S H1 H2 → I (i + 1) H2 → Slots K H2 (δs (i + 1)) σ → N σ H2) → ∃ δ' js, EvG T K g d (δs i) H1 δ' js ∧ Run K t { nx := N, rt := B.rt, bk := u B, ct := N } δ' H1)
    (hd : ∀ H1, Gr T S H H1 → I ds.length H1 → Run K u B (δs ds.length) H1) : Run K (tSeq (tFor wi g t) u) B δ H := fun σ s =>
  hi σ H (Gr.refl hT) s _ fun J H2 g2 W => by
    refine for_it W (fun i σ' H' => Gr T S H2 H' ∧ I i H' ∧ Slots K H' (δs i) σ') ⟨Gr.refl g2.tbs, hI H2 g2, Slots.less h0 (s.up g2)⟩ (fun i σ' H' _ p => p.1) (fun i x σ' Ha Hb hlt p y => ?_) (fun σ' H' p => hd H' (g2.any.trans p.1) p.2.1 σ' p.2.2)
    obtain ⟨p1, p2, p3⟩ := p
    obtain ⟨ga, d, hd, rd⟩ := y
    have gb : Gr T S H Hb := (g2.any.trans p1).trans ga.any
    obtain ⟨δ', js, hg, hr⟩ := hs i d Hb (fun σ' H' => Gr T S H2 H' ∧ I (i + 1) H' ∧ Slots K H' (δs (i + 1)) σ') hd gb (hIm i Ha Hb ga p2) fun σ2 H3 g3 i3 s3 => ⟨(p1.trans ga.any).trans g3, i3, s3⟩
    exact hg x σ' Hb (Gr.refl ga.tbs) rd (p3.up ga) _ fun σ2 s2 _ => hr σ2 s2
/-- a while: W by a number that falls -/
theorem run_while (hT : Tbs T H) (W : Nat → List (Option SD) → Hp → Prop) (hW : ∀ m δ H1 H2, Gr T [] H1 H2 → W m δ H1 → W m δ H2) (m : Nat) (h0 : W m δ H)
    (hs : ∀ m δ H1, Gr T S H H1 → W m δ H1 → ∃ b, EvT T K tt δ H1 b ∧ (b = true → ∀ H2, Gr T [] H1 H2 → ∀ N : St → Hp → Prop, (∀ m' δ' σ H3, m' < m → Gr T S H2 H3 → W m' δ' H3 → Slots K H3 δ' σ → N σ H3) → Run K t { nx := N, rt := B.rt, bk := u B, ct := N } δ H2) ∧
      (b = false → ∀ H2, Gr T [] H1 H2 → Run K u B δ H2)) : Run K (tSeq (tWhile tt t) u) B δ H := fun σ s => by
  refine ⟨fun m σ' H' => Gr T S H H' ∧ ∃ δ', W m δ' H' ∧ Slots K H' δ' σ', ⟨m, Gr.refl hT, δ, h0, s⟩, fun m σ' H' p => ?_⟩
  obtain ⟨g1, δ', w1, s1⟩ := p
  obtain ⟨b, ht, hy, hn⟩ := hs m δ' H' g1 w1
  refine ht σ' H' (Gr.refl g1.tbs) s1 _ fun H2 g2 => ?_
  cases b with
  | true =>
    show ∃ N : St → Hp → Prop, _
    exact ⟨fun σ2 H3 => ∃ m', m' < m ∧ Gr T S H H3 ∧ ∃ δ2, W m' δ2 H3 ∧ Slots K H3 δ2 σ2, fun σ2 H3 ⟨m', l, g3, δ2, w2, s2⟩ => ⟨m', l, g3, δ2, w2, s2⟩,
      hy rfl H2 g2 _ (fun m2 δ2 σ2 H3 l g3 w3 s3 => ⟨m2, l, (g1.trans g2.any).trans g3, δ2, w3, s3⟩) σ' (s1.up g2)⟩
  | false =>
    show u B σ' H2
    exact hn rfl H2 g2 σ' (s1.up g2)
/-! comprehensions -/
def wipeD (δ : List (Option SD)) : List Nat → List (Option SD)
  | [] => δ
  | v :: vs => (wipeD δ vs).set v none
theorem Slots.wipe {σ : St} (s : Slots K H δ σ) : ∀ vs : List Nat, Slots K H (wipeD δ vs) (L2.wipe σ vs)
  | [] => s
  | v :: vs => (Slots.wipe s vs).set v (show SlotOk K H none none from trivial)
theorem wipe_get (σ : St) : ∀ (vs : List Nat) (i : Nat), i ∉ vs → (L2.wipe σ vs)[i]? = σ[i]?
  | [], _, _ => rfl
  | v :: vs, i, h => by
    show ((L2.wipe σ vs).set v none)[i]? = _
    rw [List.getElem?_set_ne (fun z => h (by simp [z])), wipe_get σ vs i fun z => h (List.mem_cons_of_mem _ z)]
theorem wipe_in (σ : St) : ∀ (vs : List Nat) (i : Nat), i ∈ vs → (L2.wipe σ vs)[i]? = if i < σ.length then some none else none
  | v :: vs, i, h => by
    show ((L2.wipe σ vs).set v none)[i]? = _
    by_cases e : v = i
    · subst e
      by_cases hl : v < σ.length
      · rw [List.getElem?_set_self (by rw [L2.wipe_length]; exact hl), if_pos hl]
      · rw [if_neg hl, List.getElem?_eq_none (by rw [List.length_set, L2.wipe_length]; omega)]
    · rw [List.getElem?_set_ne e]
      exact wipe_in σ vs i ((List.mem_cons.mp h).resolve_left fun z => e z.symm)
theorem Off.wipe {σ σ' : St} {vs : List Nat} (o : Off js (L2.wipe σ vs) σ') (h : ∀ j ∈ js, j ∈ vs) : L2.wipe σ' vs = L2.wipe σ vs := by
  refine List.ext_getElem? fun i => ?_
  by_cases hi : i ∈ vs
  · rw [wipe_in σ' vs i hi, wipe_in σ vs i hi, o.1, L2.wipe_length]
  · rw [wipe_get σ' vs i hi, o.2 i fun z => hi (h i z)]
/-- what a comprehension has made by turn i -/
def madeD (p : Nat → Bool) (f : Nat → Pd.D) (i : Nat) : List Pd.D := ((List.range i).filter p).map f
theorem madeD_succ (p : Nat → Bool) (f : Nat → Pd.D) (i : Nat) : madeD p f (i + 1) = madeD p f i ++ (if p i then [f i] else []) := by
  unfold madeD
  rw [List.range_succ, List.filter_append, List.map_append, List.filter_cons, List.filter_nil]
  cases p i <;> rfl
theorem madeD_len (p : Nat → Bool) (f : Nat → Pd.D) (i : Nat) : (madeD p f i).length ≤ i := by
  unfold madeD
  rw [List.length_map]
  exact Nat.le_trans (List.length_filter_le _ _) (by simp)
theorem ev_lc {wi : TI} {g : TG} {es : List Pd.D} {vs : List Nat} (p : Nat → Bool) (f : Nat → Pd.D) (hi : EvI T K [] wi δ H es) (hz : es.length ≤ 50000)
    (hs : ∀ (i : Nat) e H1, es[i]? = some e → Gr T [] H H1 → ∃ δ' js, EvG T K g e (wipeD δ vs) H1 δ' js ∧ (∀ j ∈ js, j ∈ vs) ∧ EvT T K tt δ' H1 (p i) ∧ (p i = true → EvD T K te δ' H1 (f i))) :
    EvL T K (tLc wi g tt te vs) δ H (madeD p f es.length) := fun σ H1 g1 s Q q =>
  hi σ H1 g1 s _ fun J H2 g2 W Dl hD => by
    refine lc_it W (fun i H' => Gr T [] H2 H' ∧ ∃ acc, H' Dl = some (.lst acc) ∧ Reps K H' (madeD p f i) acc) ⟨Gr.new g2.tbs hD, [], upd_same, rfl⟩ (fun i H' _ pv => pv.1) (fun i x Ha Hb hlt pv y => ?_) (fun H' pv => ?_)
    · obtain ⟨p1, acc, p2, p3⟩ := pv
      obtain ⟨ga, d, hd, rd⟩ := y
      obtain ⟨δ', js, hg, hj, ht, he⟩ := hs i d Hb hd ((g1.trans g2).trans (p1.trans ga))
      refine hg x (L2.wipe σ vs) Hb (Gr.refl ga.tbs) rd (((s.up g2).up (p1.trans ga)).wipe vs) _ fun σ2 s2 o2 => ⟨o2.wipe hj, ?_⟩
      refine ht σ2 Hb (Gr.refl ga.tbs) s2 _ fun H3 g3 => ?_
      have eD : ∀ Hx, Gr T [] Hb Hx → Hx Dl = some (.lst acc) := fun Hx gx => gx.lst (ga.lst p2 (by simp)) (by simp)
      cases hp : p i with
      | true =>
        show te σ2 H3 _
        refine he hp σ2 H3 g3 (s2.up g3) _ fun v H4 g4 r4 => ⟨acc, eD H4 (g3.trans g4), ?_, ?_, acc ++ [v], upd_same, ?_⟩
        · have l1 := p3.len
          have l2 := madeD_len p f i
          exact Nat.lt_of_le_of_lt (by omega : acc.length ≤ 50000) (by decide)
        · exact (((p1.trans ga).trans g3).trans g4).put (eD H4 (g3.trans g4)) (.inr hD)
        · have gu : Gr T [Dl] H4 (upd H4 Dl (.lst (acc ++ [v]))) := (Gr.refl g4.tbs).put (eD H4 (g3.trans g4)) (.inl (by simp))
          rw [madeD_succ, hp]
          exact (((p3.up ga).up (g3.trans g4)).app (ds := madeD p f i) (es := [f i]) ⟨v, [], rfl, r4, rfl⟩).up gu
      | false =>
        show Gr T [] H2 H3 ∧ _
        refine ⟨(p1.trans ga).trans g3, acc, eD H3 g3, ?_⟩
        rw [madeD_succ, hp, if_neg (by decide), List.append_nil]
        exact (p3.up ga).up g3
    · obtain ⟨p1, acc, p2, p3⟩ := pv
      exact q Dl acc H' (g2.dom Dl hD) (g2.trans p1) p2 p3
/-- every turn makes one -/
theorem madeD_all (f : Nat → Pd.D) (n : Nat) : madeD (fun _ => true) f n = (List.range n).map f := by
  unfold madeD
  rw [List.filter_eq_self.mpr fun _ _ => rfl]
theorem ev_lcA {wi : TI} {g : TG} {es : List Pd.D} {vs : List Nat} {ds : List Pd.D} (hi : EvI T K [] wi δ H es) (hz : es.length ≤ 50000) (hl : ds.length = es.length)
    (hs : ∀ (i : Nat) e y H1, es[i]? = some e → ds[i]? = some y → Gr T [] H H1 → ∃ δ' js, EvG T K g e (wipeD δ vs) H1 δ' js ∧ (∀ j ∈ js, j ∈ vs) ∧ EvD T K te δ' H1 y) :
    EvL T K (tLc wi g tYes te vs) δ H ds := by
  have key := ev_lc (tt := tYes) (te := te) (vs := vs) (g := g) (fun _ => true) (fun i => ds.getD i .non) hi hz fun i e H1 he g1 => by
    have hlt : i < ds.length := by rw [hl]; exact (List.getElem?_eq_some_iff.mp he).1
    obtain ⟨δ', js, a, b, c⟩ := hs i e ds[i] H1 he (List.getElem?_eq_getElem hlt) g1
    refine ⟨δ', js, a, b, fun σ H2 g2 s Q q => q H2 g2.self, fun _ => ?_⟩
    show EvD T K te δ' H1 (ds.getD i .non)
    rw [List.getD_eq_getElem?_getD, List.getElem?_eq_getElem hlt]; exact c
  refine key.is ?_
  rw [madeD_all, ← hl]
  refine List.ext_getElem? fun i => ?_
  rw [List.getElem?_map]
  by_cases h : i < ds.length
  · rw [List.getElem?_range h, List.getElem?_eq_getElem h]
    simp [List.getD_eq_getElem?_getD, List.getElem?_eq_getElem h]
  · rw [List.getElem?_eq_none (by simpa using h), List.getElem?_eq_none (by simpa using h)]; rfl
end
end Pd
namespace Pd
open PySem PySem.Spec PyProof.Rows L2
/-! ### enumerate over a tuple -/
theorem enumT_new (t : Addr) (its : Array Value) :
    Meets (Builtin.«enumerate.__new__» ⟨[.type "enumerate", .ref t], []⟩) (fun _ R s => s.heap.IsTuple t its ∧
      R (.ok (.ret (.ref (s.heap.push { cls := .type "tuple_iterator", data := .fields #[.ref t, .int 0 0] }).objs.size)))
        { s with heap := (s.heap.push { cls := .type "tuple_iterator", data := .fields #[.ref t, .int 0 0] }).push { cls := .type "enumerate", data := .fields #[.none, .bool false, .ref s.heap.objs.size, rawInt 0, .none, .none] } }) :=
  .of_wp fun prog w A R s ⟨hT, hR⟩ => by
    obtain ⟨hp, gs, dr, tk, os⟩ := s
    have known := sub_enumerate
    have it0 : ∀ {A' : Around} {E : Value → Shared → Prop} {Q : Value → Shared → Prop}, Q (.ref hp.objs.size) ⟨hp.push { cls := .type "tuple_iterator", data := .fields #[.ref t, .int 0 0] }, gs, dr, tk, os⟩ → wpAny (model prog w) A' (pyIter (.ref t)) Q E ⟨hp, gs, dr, tk, os⟩ :=
      fun q => wpAny_pyIter_tuple (s := ⟨hp, gs, dr, tk, os⟩) hT q
    wp_walk using it0
    refine wpAny_stack_any fun _ => wpAny_pure ?_
    split
    · rename_i kc _ _ _ _ _
      cases (kc == Value.type "enumerate") <;> (wp_walk using it0; exact ⟨_, rfl, hR⟩)
    · wp_walk using it0; exact ⟨_, rfl, hR⟩
section
variable {prog : Program} {w : World} {A : Around} {E : Value → Shared → Prop} {s : Shared}
theorem enumT_call {t : Addr} {its : Array Value} {Q : Value → Shared → Prop} (hT : s.heap.IsTuple t its)
    (k : ∀ h', IsEnum h' (s.heap.objs.size + 1) s.heap.objs.size 0 .none → h'.IsTupleIter s.heap.objs.size t 0 → (∀ b o, s.heap.get? b = some o → h'.get? b = some o) → Q (.ref (s.heap.objs.size + 1)) { s with heap := h' }) :
    wpAny (model prog w) A (call (.type "enumerate") [.ref t]) Q E s := by
  refine callType_new F.called_enumerate (by decide) (F.typeCall_enumerate_1 _) (F.newCall_enumerate_1 _) (fun obj => F.args_object_init_2 obj _) F.entry_enumerate_new (enumT_new t its) ⟨hT, ?_⟩
  have z1 : (s.heap.push { cls := .type "tuple_iterator", data := .fields #[.ref t, .int 0 0] }).objs.size = s.heap.objs.size + 1 := Heap.size_push ..
  show _ ∧ _
  rw [z1]
  have he := Heap.get?_push_size (s.heap.push { cls := .type "tuple_iterator", data := .fields #[.ref t, .int 0 0] }) (o := { cls := .type "enumerate", data := .fields #[.none, .bool false, .ref s.heap.objs.size, rawInt 0, .none, .none] }) rfl
  rw [z1] at he
  have hi : (s.heap.push { cls := .type "tuple_iterator", data := .fields #[.ref t, .int 0 0] }).get? s.heap.objs.size = some { cls := .type "tuple_iterator", data := .fields #[.ref t, .int 0 0] } := Heap.get?_push_size _ rfl
  exact ⟨⟨_, he, rfl⟩, k _ he ⟨_, Heap.get?_push_of_some _ hi, rfl, rfl⟩ fun b o e => Heap.get?_push_of_some _ (Heap.get?_push_of_some _ e)⟩
end
/-- the tuple at a, each with its number, in new pairs -/
def IteT (K : PySem.W.Frag) (a : Addr) : It :=
  ⟨fun i H => ∃ (xs : List V) (x : V), SqT K H a xs ∧ xs[i]? = some x, fun i H v H' => ∃ P x, v = .ref P ∧ H P = none ∧ H' = upd H P (.tup [.int (i : Nat), x]) ∧ ∀ xs, SqT K H a xs → xs[i]? = some x,
    fun i H => ∃ xs : List V, SqT K H a xs ∧ xs.length = i⟩
theorem enumT_apart {h : Heap} {e it a : Addr} {i : Nat} {old : Value} {its : Array Value} {n : Int} (he : IsEnum h e it n old) (hit : h.IsTupleIter it a i) (pt : IsTup h a its) : a ≠ e ∧ a ≠ it := by
  obtain ⟨oo, hoo, hcc, _⟩ := pt
  refine ⟨fun z => ?_, fun z => ?_⟩
  · subst z
    rw [he] at hoo; cases hoo; injection hcc with z; exact absurd z (by decide)
  · subst z
    obtain ⟨o1, ho1, hc1, _⟩ := hit
    rw [ho1] at hoo; cases hoo; rw [hc1] at hcc; injection hcc with z; exact absurd z (by decide)
theorem turn_enumT {P : Program} {w : World} {K : PySem.W.Frag} {elts : List Expr} {kk : Nat} {tpos : Pos} (a e it : Addr) :
    Turn P w K (.Tuple elts kk tpos) (IteT K a) [e, it] e (fun i h => (∃ old, IsEnum h e it ((i : Nat) : Int) old) ∧ h.IsTupleIter it a i ∧ e ≠ it) where
  mem := List.mem_cons_self
  obj := fun i h ⟨⟨_, he⟩, ⟨o, ho, _, hd⟩, _⟩ b hb => by
    rcases (by simpa using hb : b = e ∨ b = it) with rfl | rfl
    · exact ⟨_, he, fun v q => nomatch q⟩
    · exact ⟨o, ho, fun v q => by rw [hd] at q; cases q⟩
  keep := fun i h h' ⟨⟨old, he⟩, hi, ne⟩ k => ⟨⟨old, k e (by simp) _ he⟩, hi.at fun o q => k it (by simp) o q, ne⟩
  item := by
    intro X hP hw hK hc i pins s σ H E I hf st hg
    subst hP; subst hw; subst hK
    obtain ⟨⟨old, he⟩, hit, ne⟩ := st
    obtain ⟨xs, x, hq, hx⟩ := hg
    obtain ⟨its, rv, pt, _⟩ := I.tuple hq
    obtain ⟨u, hu, ru⟩ := rv.get hx
    have pt' : s.heap.IsTuple a its.toArray := pt
    have l1 : e < s.heap.objs.size := Heap.lt_size he
    have l2 : it < s.heap.objs.size := by obtain ⟨_, q, _⟩ := hit; exact Heap.lt_size q
    obtain ⟨n1, n2⟩ := enumT_apart he hit pt
    have hlt : i < its.toArray.size := by
      have := (List.getElem?_eq_some_iff.mp hu).1
      simpa using this
    refine wpAny_pyNext_enum_itemD (Draws.tuple (A := X.A.in1) (I.ok.hd hc) it a n2 its.toArray) he ⟨hit, pt'⟩ hlt ne (by simp [ne, n1.symm]) fun y h' tk hy ho hst hT hsz hk => ?_
    have ey : y = u := by
      have h1 : its.toArray[i]? = some u := by simpa using hu
      exact Option.some.inj (hy.symm.trans h1)
    subst ey
    refine ⟨_, rfl, wpAny_letOwnedTupleGo_enum (s := { s with heap := h', toks := tk + 1 }) ho fun h2 he2 sb => ?_⟩
    have hT2 : h2.get? s.heap.objs.size = some { cls := .type "tuple", data := .seq #[.int i tk, y] } := (sb.2 _ (Nat.ne_of_gt l1)).trans hT
    have nw : ObjOk X.prog X.w (upd H s.heap.objs.size (.tup [.int (i : Nat), x])) h2 s.heap.objs.size (.tup [.int (i : Nat), x]) :=
      ⟨(by show 2 ≤ sizeLine; decide), [.int i tk, y], .cons ⟨_, rfl⟩ (.cons ru .nil), ⟨_, hT2, rfl, _, rfl⟩⟩
    have I1 : Inv X pins σ (upd H s.heap.objs.size (.tup [.int (i : Nat), x])) { s with heap := h2, toks := tk + 1 } :=
      I.turnedNew (ch := [e, it]) (fun b ob hb q => (sb.2 b (fun z => hb (by simp [z]))).trans (hk b ob (fun z => hb (by simp [z])) (fun z => hb (by simp [z])) q)) hf (Nat.le_refl _) nw
    refine ⟨.ref s.heap.objs.size, _, I1, rfl, ⟨_, x, rfl, I.hok.fresh (Nat.le_refl _), rfl, fun ys hy' => by rw [I.tuple_inj hy' hq]; exact hx⟩, ⟨⟨y, ?_⟩, hst.1.at fun o q => (sb.2 it ne.symm).trans q, ne⟩, fun b hb => ?_⟩
    · rw [show ((i + 1 : Nat) : Int) = (i : Int) + 1 by omega]; exact he2
    · have lb : b < s.heap.objs.size := by rcases (by simpa using hb : b = e ∨ b = it) with rfl | rfl <;> assumption
      rw [upd_ne (Nat.ne_of_lt lb)]; exact (hf b hb).1
  done := by
    intro X hP hw hK hc i pins s σ H E I hf st hg
    subst hP; subst hw; subst hK
    obtain ⟨⟨old, he⟩, hit, ne⟩ := st
    obtain ⟨xs, hq, hx⟩ := hg
    obtain ⟨its, rv, pt, _⟩ := I.tuple hq
    obtain ⟨n1, n2⟩ := enumT_apart he hit pt
    obtain ⟨f0, f1, f2, f3, f4, f5⟩ := hf it (by simp)
    have ez : its.toArray.size = i := by rw [List.size_toArray, ← rv.length, hx]
    exact wpAny_pyNext_enum_endD (Draws.tuple (A := X.A.in1) (I.ok.hd hc) it a n2 its.toArray) he ⟨by rw [ez]; exact hit, pt⟩ fun h' eb => ⟨rfl, I.turned (t' := s.toks) (fun b o hb q => eb b o hb q) f0 f1 f3 f4 f5⟩
  self := fun A i s Q E ⟨⟨_, he⟩, _⟩ h => wpAny_pyIter_enum he h
def iEnumT (K : PySem.W.Frag) (ta : TA) : TI := fun σ H R => ta σ H fun vs H1 => ∃ a xs, vs = [.ref a] ∧ SqT K H1 a xs ∧ R (IteT K a) H1
theorem pi_enumT {X : Cx} {e : Expr} {ta : TA} {p pos tpos : Pos} {elts : List Expr} {kk : Nat} (hg : Gl X "enumerate") (hm : X.mg "enumerate" = none) (ha : PA X [e] ta) (hs : starEach [e] X.env = [(false, eval e X.env)] := by rfl) :
    PI X (.Tuple elts kk tpos) (.Call (.Name "enumerate" p) [e] [] pos) (iEnumT X.K ta) := by
  refine ⟨fun pins s σ H R I h => Call_ (ld_blt I hg hm boot_enumerate (PyProof.Rows.callWith_type1 (thn (ha.run pos pins s σ H _ I h) fun us s1 ⟨vs, H1, I1, r1, a, xs, ex, hq, q⟩ => ?_) hs rfl))⟩
  subst ex
  obtain ⟨u1, rfl, ru⟩ := vals1 r1
  obtain rfl : u1 = Value.ref a := ru
  obtain ⟨its, rv, pt, _⟩ := I1.tuple hq
  refine enumT_call (its := its.toArray) pt fun h' he hit hk => wpAny_pyIter_enum he ?_
  have I2 : Inv X pins σ H1 { s1 with heap := h' } := I1.kept (t' := s1.toks) hk
  refine ⟨s1.heap.objs.size + 1, [s1.heap.objs.size + 1, s1.heap.objs.size], _, _, H1, rfl, I2, turn_enumT a (s1.heap.objs.size + 1) s1.heap.objs.size, ⟨⟨.none, he⟩, hit, Nat.succ_ne_self _⟩, fun b hb => ?_, q⟩
  have hle : s1.heap.objs.size ≤ b := by rcases (by simpa using hb : b = s1.heap.objs.size + 1 ∨ b = s1.heap.objs.size) with rfl | rfl <;> omega
  exact I1.fpOk hle (I1.hok.fresh hle)
def withNo (ds : List D) (k : Nat) : List D := match ds with
  | [] => []
  | d :: r => .tup [.int (k : Nat), d] :: withNo r (k + 1)
theorem withNo_len : ∀ (ds : List D) (k : Nat), (withNo ds k).length = ds.length
  | [], _ => rfl
  | _ :: r, k => congrArg (· + 1) (withNo_len r (k + 1))
theorem withNo_get : ∀ (ds : List D) (k i : Nat), (withNo ds k)[i]? = ds[i]?.map fun d => .tup [.int ((k + i : Nat) : Int), d]
  | [], _, _ => by simp [withNo]
  | d :: r, k, 0 => rfl
  | _ :: r, k, i + 1 => by
    show (withNo r (k + 1))[i]? = _
    rw [withNo_get r (k + 1) i, List.getElem?_cons_succ, show k + 1 + i = k + (i + 1) by omega]
theorem ei_enumT {T : Tb} {S : List Addr} {K : PySem.W.Frag} {δ : List (Option SD)} {H : Hp} {ta : TA} {ds : List D} (h : EvA T K ta δ H [.tup ds]) : EvI T K S (iEnumT K ta) δ H (withNo ds 0) := fun σ H1 g s R q =>
  h σ H1 g s _ fun vs H2 g2 r => by
    obtain ⟨x, r', e, ⟨a, xs, ex, hs, rs⟩, h3⟩ := r
    cases (show r' = [] from h3); subst ex
    refine ⟨a, xs, e, hs, q _ H2 g2 ?_⟩
    rw [withNo_len, ← rs.len]
    refine ⟨fun i Ha hi g' => ⟨xs, xs[i], g'.sqT hs, by simp [hi]⟩, fun Ha g' => ⟨xs, g'.sqT hs, rfl⟩, fun i Ha x Hb hi g' y => ?_⟩
    obtain ⟨p, z, e1, hp, e2, e3⟩ := y
    subst e1; subst e2
    obtain ⟨d, hd, rd⟩ := rs.got (e3 xs (g'.sqT hs))
    have gn : Gr T [] Ha (upd Ha p (.tup [.int (i : Nat), z])) := Gr.new g'.tbs hp
    refine ⟨gn, .tup [.int (i : Nat), d], by rw [withNo_get, hd, Nat.zero_add]; rfl, p, _, rfl, .inl (.inl upd_same), .int (i : Nat), _, rfl, rfl, z, _, rfl, (rd.up g').up gn, rfl⟩
end Pd
namespace Pd
open PySem PySem.Spec PyProof.Rows L2
/-! ### rules under names -/
section
variable {X : Cx}
theorem cr_len : CallR X (.builtin "len") (rLenS X.K) := call_len_seq
theorem cr_lenS : CallR X (.builtin "len") rLenTx := call_len_str
theorem cr_min (hc : X.calm = true) : CallR X (.builtin "min") rMin2 := call_min2 hc
theorem cr_max (hc : X.calm = true) : CallR X (.builtin "max") rMax2 := call_max2 hc
theorem cr_tup : CallR X (.type "tuple") (rTupOf X.K) := call_tuple_of
end
/-! ### a def of the text: where it stands -/
structure At (K : PySem.W.Frag) (mg : Str → Option Value) (x : Str) (st : Stmt) (ps : List Str) (f : Addr) (fd : FuncData) : Prop where
  F : Fun K x x st f fd
  b : Binds K fd ps []
  m : mg x = some (.ref f)
/-- what it promises -/
structure Ok (P : Program) (w : World) (K : PySem.W.Frag) (mg : Str → Option Value) (base : Heap) (k : Nat) (x : Str) (ps : List Str) (sp : Sp) : Prop where
  ex : ∃ f fd, FnOk P w K mg base CX0 k f fd ps sp ∧ mg x = some (.ref f) ∧ PySem.W.keepIn K (.ref f) = true ∧ Binds K fd ps []
section
variable {P : Program} {w : World} {K : PySem.W.Frag} {mg : Str → Option Value} {base : Heap} {x : Str} {st : Stmt} {ps N : List Str} {f : Addr} {fd : FuncData} {k : Nat} {sp : Sp} {T : Tb}
theorem At.ok (a : At K mg x st ps f fd) (G : FnOk P w K mg base CX0 k f fd ps sp) : Ok P w K mg base k x ps sp := ⟨f, fd, G, a.m, a.F.kp, a.b⟩
/-- what can't be asked -/
theorem At.none (a : At K mg x st ps f fd) (h : ∀ vs H Q E, ¬ sp vs H Q E) : Ok P w K mg base k x ps sp :=
  a.ok ⟨fun vs H Q E q => absurd q (h vs H Q E), fun A outer s H args us vs Q E _ _ _ _ q => absurd q (h vs H Q E)⟩
theorem Ok.mono {j : Nat} (o : Ok P w K mg base j x ps sp) (h : j ≤ k) : Ok P w K mg base k x ps sp := by
  obtain ⟨f, fd, G, r⟩ := o.ex
  exact ⟨f, fd, G.mono h, r⟩
theorem Ok.imp {sp' : Sp} (o : Ok P w K mg base k x ps sp) (h : ∀ vs H Q E, sp' vs H Q E → sp vs H Q E) : Ok P w K mg base k x ps sp' := by
  obtain ⟨f, fd, G, r⟩ := o.ex
  exact ⟨f, fd, G.imp h, r⟩
/-- a def of data by its body -/
theorem okR {R : List D → D → Prop} (a : At K mg x st ps f fd) (S : FnScope N ps (defScope st)) (hl : ∀ ds d, R ds d → ds.length = ps.length)
    (body : ∀ (cdv : Value) (A : Around) (outer : List Env) (s : Shared) (H : Hp) (E : XK) (ds : List D) (d : D) (Q : VK), Room k (A.deeper (envOfC x (defScope st) s.heap.objs.size f cdv)) → R ds d → Tbs T H → (∀ v H', Gr T [] H H' → Rep K H' d v → Q v H') →
      ∃ t, PSs (cxOf CX0 P w K mg base N x (defScope st) f cdv A outer s H E).nox (defBody st) t ∧ Run K t { nx := fun _ H' => Q .non H', rt := Q } (ds.map (fun d => some (SD.d d)) ++ List.replicate (N.length - ds.length) none) H) : Ok P w K mg base (k + 1) x ps (spR T K R) := by
  refine a.ok (a.F.ok S (fun vs H Q E ⟨ds, d, hR, hr, _⟩ => by rw [hr.len]; exact hl ds d hR) fun cdv A outer s H vs Q E hr ⟨ds, d, hR, rs, hT, q⟩ => ?_)
  obtain ⟨t, h1, h2⟩ := body cdv A outer s H E ds d Q hr hR hT q
  refine ⟨t, h1, h2 _ ?_⟩
  unfold L2.start
  rw [rs.len]
  exact Slots.start _ rs
theorem okRL {R : List D → List D → Prop} (a : At K mg x st ps f fd) (S : FnScope N ps (defScope st)) (hl : ∀ ds d, R ds d → ds.length = ps.length)
    (body : ∀ (cdv : Value) (A : Around) (outer : List Env) (s : Shared) (H : Hp) (E : XK) (ds es : List D) (Q : VK), Room k (A.deeper (envOfC x (defScope st) s.heap.objs.size f cdv)) → R ds es → Tbs T H → (∀ p xs H', H p = none → Gr T [] H H' → H' p = some (.lst xs) → Reps K H' es xs → Q (.ref p) H') →
      ∃ t, PSs (cxOf CX0 P w K mg base N x (defScope st) f cdv A outer s H E).nox (defBody st) t ∧ Run K t { nx := fun _ H' => Q .non H', rt := Q } (ds.map (fun d => some (SD.d d)) ++ List.replicate (N.length - ds.length) none) H) : Ok P w K mg base (k + 1) x ps (spRL T K R) := by
  refine a.ok (a.F.ok S (fun vs H Q E ⟨ds, es, hR, hr, _⟩ => by rw [hr.len]; exact hl ds es hR) fun cdv A outer s H vs Q E hr ⟨ds, es, hR, rs, hT, q⟩ => ?_)
  obtain ⟨t, h1, h2⟩ := body cdv A outer s H E ds es Q hr hR hT q
  refine ⟨t, h1, h2 _ ?_⟩
  unfold L2.start
  rw [rs.len]
  exact Slots.start _ rs
end
section
variable {X : Cx} {k j : Nat} {x : Str} {ps : List Str} {sp : Sp} {e : Expr} {es : List Expr} {t : TA} {p pos : Pos}
theorem pe_own (G : Ok X.prog X.w X.K X.mg X.base j x ps sp) (hr : Room k X.A) (hjk : j ≤ k) (hg : Gl X x) (ha : PA X (e :: es) t) (hdb : (x == ("__debug__" : Str)) = false := by decide)
    (he : starEach (e :: es) X.env = (false, eval e X.env) :: starEach es X.env := by rfl) (hpl : (backTo pos (starEach es X.env)).any (·.1) = false := by rfl) : PE X (.Call (.Name x p) (e :: es) [] pos) (tCall sp [] E0 t) := by
  obtain ⟨f, fd, F, m, kp, b⟩ := G.ex
  exact pe_call F (hr.mono hjk) hg m kp b .nil pass0 ha hdb he hpl
/-- a constant of the module -/
theorem pe_cstI {i : Int} (hg : Gl X x) (hm : ∃ t, X.mg x = some (.int i t)) (hd : (x == ("__debug__" : Str)) = false := by decide) : PE X (.Name x pos) (tC (.int i)) := by
  obtain ⟨t, h⟩ := hm
  exact pe_glob hg h ⟨t, rfl⟩ hd
theorem pe_cstS {z : Str} (hg : Gl X x) (hm : ∃ t, X.mg x = some (.str z t)) (hd : (x == ("__debug__" : Str)) = false := by decide) : PE X (.Name x pos) (tC (.str z)) := by
  obtain ⟨t, h⟩ := hm
  exact pe_glob hg h ⟨t, rfl⟩ hd
end
end Pd
namespace Pd
open PySem L2
def topS (i : Nat) : Stmt := PySem.Challenge.pw_pushdoors_k12_texts_of_no_house.main.body.getD i (.Pass ⟨0, 0, 0, 0⟩)
abbrev s_BadHouse___init__ : Stmt := inClass (topS 2) 0
theorem sc_BadHouse___init__ : FnScope ["self", "path"] ["self", "path"] (defScope s_BadHouse___init__) := ⟨rfl, rfl, rfl, by decide +kernel, rfl, by decide +kernel, by decide +kernel⟩
abbrev s_NoName___init__ : Stmt := inClass (topS 4) 0
theorem sc_NoName___init__ : FnScope ["self", "name"] ["self", "name"] (defScope s_NoName___init__) := ⟨rfl, rfl, rfl, by decide +kernel, rfl, by decide +kernel, by decide +kernel⟩
abbrev s_NoDoor___init__ : Stmt := inClass (topS 5) 0
theorem sc_NoDoor___init__ : FnScope ["self", "path"] ["self", "path"] (defScope s_NoDoor___init__) := ⟨rfl, rfl, rfl, by decide +kernel, rfl, by decide +kernel, by decide +kernel⟩
abbrev s_BadDeed___init__ : Stmt := inClass (topS 6) 0
theorem sc_BadDeed___init__ : FnScope ["self", "number"] ["self", "number"] (defScope s_BadDeed___init__) := ⟨rfl, rfl, rfl, by decide +kernel, rfl, by decide +kernel, by decide +kernel⟩
abbrev s_BadText___init__ : Stmt := inClass (topS 7) 0
theorem sc_BadText___init__ : FnScope ["self", "row"] ["self", "row"] (defScope s_BadText___init__) := ⟨rfl, rfl, rfl, by decide +kernel, rfl, by decide +kernel, by decide +kernel⟩
abbrev s_is_way_out : Stmt := topS 14
theorem sc_is_way_out : FnScope ["room"] ["room"] (defScope s_is_way_out) := ⟨rfl, rfl, rfl, by decide +kernel, rfl, by decide +kernel, by decide +kernel⟩
abbrev s_is_name : Stmt := topS 15
theorem sc_is_name : FnScope ["text"] ["text"] (defScope s_is_name) := ⟨rfl, rfl, rfl, by decide +kernel, rfl, by decide +kernel, by decide +kernel⟩
abbrev s_is_door : Stmt := topS 16
theorem sc_is_door : FnScope ["door", "need", "stands", "_"] ["door"] (defScope s_is_door) := ⟨rfl, rfl, rfl, by decide +kernel, rfl, by decide +kernel, by decide +kernel⟩
abbrev s_can_be : Stmt := topS 17
theorem sc_can_be : FnScope ["room", "hand", "doors"] ["room"] (defScope s_can_be) := ⟨rfl, rfl, rfl, by decide +kernel, rfl, by decide +kernel, by decide +kernel⟩
abbrev s_rooms_behind : Stmt := topS 18
theorem sc_rooms_behind : FnScope ["room", "path", "at", "door"] ["room", "path"] (defScope s_rooms_behind) := ⟨rfl, rfl, rfl, by decide +kernel, rfl, by decide +kernel, by decide +kernel⟩
abbrev s_check_house : Stmt := topS 19
theorem sc_check_house : FnScope ["house", "found", "waiting", "path", "room", "behind"] ["house"] (defScope s_check_house) := ⟨rfl, rfl, rfl, by decide +kernel, rfl, by decide +kernel, by decide +kernel⟩
abbrev s_is_number : Stmt := topS 23
theorem sc_is_number : FnScope ["word"] ["word"] (defScope s_is_number) := ⟨rfl, rfl, rfl, by decide +kernel, rfl, by decide +kernel, by decide +kernel⟩
abbrev s_can_stand : Stmt := topS 24
theorem sc_can_stand : FnScope ["words", "wanted"] ["words", "wanted"] (defScope s_can_stand) := ⟨rfl, rfl, rfl, by decide +kernel, rfl, by decide +kernel, by decide +kernel⟩
abbrev s_wanted_behind : Stmt := topS 25
theorem sc_wanted_behind : FnScope ["words"] ["words"] (defScope s_wanted_behind) := ⟨rfl, rfl, rfl, by decide +kernel, rfl, by decide +kernel, by decide +kernel⟩
abbrev s_words_of_rows : Stmt := topS 26
theorem sc_words_of_rows : FnScope ["text", "told", "wanted", "number", "row", "words"] ["text"] (defScope s_words_of_rows) := ⟨rfl, rfl, rfl, by decide +kernel, rfl, by decide +kernel, by decide +kernel⟩
abbrev s_built : Stmt := topS 27
theorem sc_built : FnScope ["told", "ready", "words", "rest", "doors"] ["told"] (defScope s_built) := ⟨rfl, rfl, rfl, by decide +kernel, rfl, by decide +kernel, by decide +kernel⟩
abbrev s_read : Stmt := topS 28
theorem sc_read : FnScope ["text", "house"] ["text"] (defScope s_read) := ⟨rfl, rfl, rfl, by decide +kernel, rfl, by decide +kernel, by decide +kernel⟩
abbrev s__law_mix : Stmt := topS 30
theorem sc__law_mix : FnScope ["_law_script", "_law_seed", "_law_mixed", "_law_cell"] ["_law_script", "_law_seed"] (defScope s__law_mix) := ⟨rfl, rfl, rfl, by decide +kernel, rfl, by decide +kernel, by decide +kernel⟩
abbrev s__law_next : Stmt := topS 31
theorem sc__law_next : FnScope ["_law_h", "_law_many", "_law_cell"] ["_law_h", "_law_many"] (defScope s__law_next) := ⟨rfl, rfl, rfl, by decide +kernel, rfl, by decide +kernel, by decide +kernel⟩
abbrev s__law_alike : Stmt := topS 32
theorem sc__law_alike : FnScope ["_law_found", "_law_due_here", "_law_k"] ["_law_found", "_law_due_here"] (defScope s__law_alike) := ⟨rfl, rfl, rfl, by decide +kernel, rfl, by decide +kernel, by decide +kernel⟩
abbrev s__law_door : Stmt := topS 33
theorem sc__law_door : FnScope ["_law_h", "_law_few", "_law_need"] ["_law_h", "_law_few"] (defScope s__law_door) := ⟨rfl, rfl, rfl, by decide +kernel, rfl, by decide +kernel, by decide +kernel⟩
abbrev s__law_room : Stmt := topS 34
theorem sc__law_room : FnScope ["_law_h", "_law_spare", "_law_deep", "_law_few", "_law_many", "_law_doors", "_law_k", "_law_need", "_law_stands", "_law_deeper"] ["_law_h", "_law_spare", "_law_deep", "_law_few"] (defScope s__law_room) := ⟨rfl, rfl, rfl, by decide +kernel, rfl, by decide +kernel, by decide +kernel⟩
abbrev s__law_house : Stmt := topS 35
theorem sc__law_house : FnScope ["_law_h", "_law_few"] ["_law_h", "_law_few"] (defScope s__law_house) := ⟨rfl, rfl, rfl, by decide +kernel, rfl, by decide +kernel, by decide +kernel⟩
abbrev s__law_kind : Stmt := topS 36
theorem sc__law_kind : FnScope ["_law_call", "e", "_law_kinds"] ["_law_call"] (defScope s__law_kind) := ⟨rfl, rfl, rfl, by decide +kernel, rfl, by decide +kernel, by decide +kernel⟩
abbrev s__law_rows : Stmt := topS 37
theorem sc__law_rows : FnScope ["_law_room_here", "_law_found", "_law_need", "_law_stands", "_law_inner"] ["_law_room_here"] (defScope s__law_rows) := ⟨rfl, rfl, rfl, by decide +kernel, rfl, by decide +kernel, by decide +kernel⟩
abbrev s__law_two : Stmt := topS 38
theorem sc__law_two : FnScope ["_law_words", "_law_head", "_law_word", "_law_good", "_law_sign"] ["_law_words", "_law_head"] (defScope s__law_two) := ⟨rfl, rfl, rfl, by decide +kernel, rfl, by decide +kernel, by decide +kernel⟩
abbrev s__law_taken : Stmt := topS 39
theorem sc__law_taken : FnScope ["_law_rows_here", "_law_at", "_law_words", "_law_signs", "_law_good", "_law_head", "_law_doors", "_law_k", "_law_pair", "_law_inner", "_law_sign"] ["_law_rows_here", "_law_at"] (defScope s__law_taken) := ⟨rfl, rfl, rfl, by decide +kernel, rfl, by decide +kernel, by decide +kernel⟩
abbrev s__law_bad : Stmt := topS 40
theorem sc__law_bad : FnScope ["_law_room_here", "_law_path", "_law_hand", "_law_doors", "_law_wrong", "_law_k", "_law_found", "_law_door_here"] ["_law_room_here", "_law_path"] (defScope s__law_bad) := ⟨rfl, rfl, rfl, by decide +kernel, rfl, by decide +kernel, by decide +kernel⟩
abbrev s__law_due : Stmt := topS 41
theorem sc__law_due : FnScope ["_law_text", "_law_rows_here", "_law_house_here", "_law_at", "_law_bad_here", "_law_many", "_law_row"] ["_law_text"] (defScope s__law_due) := ⟨rfl, rfl, rfl, by decide +kernel, rfl, by decide +kernel, by decide +kernel⟩
abbrev s_law : Stmt := topS 42
theorem sc_law : FnScope ["_law_script", "_law_h", "_law_odd", "_law_turn", "_law_rows_here", "_law_at", "_law_wish", "_law_some", "_law_text", "_law_spot", "_law_bent", "_law_one", "_law_found", "_law_kind_here", "_law_told"] ["_law_script"] (defScope s_law) := ⟨rfl, rfl, rfl, by decide +kernel, rfl, by decide +kernel, by decide +kernel⟩
structure Bl (mg : Str → Option Value) : Prop where
  ValueError : mg "ValueError" = none
  all : mg "all" = none
  bool : mg "bool" = none
  enumerate : mg "enumerate" = none
  int : mg "int" = none
  isinstance : mg "isinstance" = none
  len : mg "len" = none
  list : mg "list" = none
  max : mg "max" = none
  min : mg "min" = none
  range : mg "range" = none
  str : mg "str" = none
  tuple : mg "tuple" = none
  LONGEST_NAME : ∃ t, mg "LONGEST_NAME" = some (.int 6 t)
  LETTERS : ∃ t, mg "LETTERS" = some (.str "abcdefghijklmnopqrstuvwxyz" t)
  MOST_NEED : ∃ t, mg "MOST_NEED" = some (.int 99 t)
  MOST_DOORS_OF_A_ROOM : ∃ t, mg "MOST_DOORS_OF_A_ROOM" = some (.int 4 t)
  MOST_DOORS_OF_A_HOUSE : ∃ t, mg "MOST_DOORS_OF_A_HOUSE" = some (.int 12 t)
  MOST_FIGURES : ∃ t, mg "MOST_FIGURES" = some (.int 2 t)
  FIGURES : ∃ t, mg "FIGURES" = some (.str "0123456789" t)
end Pd
set_option maxHeartbeats 4000000
namespace Pd
open PySem PySem.Spec PyProof.Rows L2
/-! ### the kinds of refusals -/
inductive Ek where
  | house | door | name | deed | text | count
def Ek.cls : Ek → Str
  | .house => "BadHouse" | .door => "NoDoor" | .name => "NoName" | .deed => "BadDeed" | .text => "BadText" | .count => "BadCount"
def Ek.fld : Ek → Str
  | .house => "path" | .door => "path" | .name => "name" | .deed => "number" | .text => "row" | .count => ""
instance : DecidableEq Ek := fun a b => by cases a <;> cases b <;> first | exact isTrue rfl | exact isFalse (fun z => nomatch z)
end Pd
namespace Pd
open PySem PySem.Spec PyProof.Rows L2
/-! ### what the head is asked of the errors and the keeper -/
def CK (K : PySem.W.Frag) (k : Ek) : Addr := He.ga K k.cls
def eks : List Ek := [.house, .door, .name, .deed, .text, .count]
def okxs : List Ek := [.house, .door, .name, .deed, .text]
/-- its class's object -/
def clsB (K : PySem.W.Frag) (C : Addr) : Bool := match K.lookup C with
  | some ⟨.type "type", _, .cls cd, sl⟩ => (match cd.mro, sl.toList with
    | .ref C' :: bm, [_, _, _, _, some (.builtin n), _] => C' == C && (n == "ValueError.__new__" && (!cd.hasDel && (cd.hasDict && PySem.HandSPX.refsVE bm)))
    | _, _ => false)
  | _ => false
def oexB (K : PySem.W.Frag) (C : Addr) : Bool := clsB K C && (He.eqO (PySem.W.findIn K (.ref C) "__setattr__") (some (some (.builtin "object.__setattr__"))) && (decide (PySem.W.subIn K (.ref C) (.type "BaseException") = some true) && (decide (PySem.W.typeIn K (.ref C) = some (.type "type")) && PySem.W.keepIn K (.ref C))))
def excB (K : PySem.W.Frag) (C : Addr) : Bool := He.eqO (PySem.W.findIn K (.ref C) "__getattribute__") (some (some (.builtin "BaseException.__getattribute__"))) && (He.eqO (PySem.W.findIn K (.ref C) "__getattr__") (some none) && (decide (PySem.W.subIn K (.ref C) (.type "BaseException") = some true) && (PySem.W.hasDictIn K C &&
  (He.eqO (PySem.W.findIn K (.ref C) "__class__") (some (some (.builtin "object.__class__"))) && (He.eqO (PySem.W.specialIn K (.builtin "object.__class__") "__get__") (some (some (.builtin "getset_descriptor.__get__"))) && (decide (PySem.W.takesIn K (.builtin "object.__class__") = some true) && decide (PySem.W.mroIn K C (.type "object") = some true)))))))
def flds : List Str := ["path", "name", "number", "row"]
def bareB (K : PySem.W.Frag) (D0 : Addr) : Bool := He.eqO (PySem.W.specialIn K (.ref D0) "__getattribute__") (some (some (.builtin "type.__getattribute__"))) && (PySem.W.readsIn K D0 (.type "type") && (match PySem.W.findCls K (.ref D0) (.type "type") "__init__" with
  | some (.val (.builtin n)) => decide (n = "ValueError.__init__")
  | _ => false))
/-- all that is said of them -/
def kcsB (K : PySem.W.Frag) : Bool := (eks.all fun k => eks.all fun j => decide (PySem.W.kitOne K (.ref (CK K k)) (.ref (CK K j)) = some (decide (k = j)))) && ((eks.all fun k => decide (PySem.W.kitOne K (.ref (CK K k)) (.type "ValueError") = some true)) && ((eks.all fun k => excB K (CK K k)) &&
  ((eks.all fun k => flds.all fun n => He.eqO (PySem.W.findIn K (.ref (CK K k)) n) (some none)) && ((eks.all fun k => decide (PySem.W.exmOne K (.ref (CK K k)) (.ref (He.ga K "DoorError")) = some true)) && (bareB K (He.ga K "DoorError") && okxs.all fun k => oexB K (CK K k))))))
def CKp (K : PySem.W.Frag) : Addr := He.ga K "Keeper"
def kflds : List Str := ["_now", "_came", "_went", "_done"]
def keepB (K : PySem.W.Frag) : Bool := PySem.W.plainGet K (CKp K) Str.empty && (PySem.W.hasDictIn K (CKp K) && (PySem.W.plainOver K (CKp K) && (He.eqO (PySem.W.findIn K (.ref (CKp K)) "__setattr__") (some (some (.builtin "object.__setattr__"))) && ((kflds.all fun n => He.eqO (PySem.W.findIn K (.ref (CKp K)) n) (some none)) && (PySem.W.makesIn K (CKp K) && PySem.W.keepIn K (.ref (CKp K)))))))
/-- the two classes that `except (BadCount, NoDoor)` catches are themselves -/
def exmB (K : PySem.W.Frag) : Bool := decide (PySem.W.exmOne K (.ref (CK K .door)) (.ref (CK K .door)) = some true) && decide (PySem.W.exmOne K (.ref (CK K .count)) (.ref (CK K .count)) = some true)
end Pd
set_option maxHeartbeats 2000000
namespace Pd
open PySem PySem.Spec PyProof.Rows L2
/-! ### the head's facts, the interpreter's own statics with them -/
abbrev FrY (g : Addr → Option Obj) (n : Nat) : PySem.W.Frag := He.frT g (He.asD g n ++ [cStatics])
section
variable {n : Nat} {fa : List He.Fa} {fn : List He.DefD} {tf : List He.Defn} {ex : PySem.W.Frag → Bool} {w : World} {h : Heap} {g : Addr → Option Obj}
def obsY (n : Nat) (fa : List He.Fa) (fn : List He.DefD) (tf : List He.Defn) (ex : PySem.W.Frag → Bool) (g : Addr → Option Obj) : He.AlX := (He.obsT fa fn [] (FrY g n), ex (FrY g n) && He.tabsB g tf (FrY g n))
theorem saysY (e : obsY n fa fn tf ex h.get? = He.valX fn [] w) : He.SaysX fa fn [] tf ex w h (FrY h.get? n) := by
  obtain ⟨e1, e2⟩ := Prod.mk.inj e
  generalize hK : FrY h.get? n = K at e1 e2
  rw [Bool.and_eq_true] at e2
  have key : ∀ p ∈ tf, PySem.W.codeHdIn K (He.cT K p).1 (He.cT K p).2 = true ∧ ∃ o, h.get? (He.cT K p).2 = some o ∧ He.emptyTab o = true := by
    intro p hp
    have z := List.all_eq_true.mp e2.2 p hp
    rw [Bool.and_eq_true] at z
    obtain ⟨z1, z2⟩ := z
    refine ⟨z1, ?_⟩
    cases q : h.get? (He.cT K p).2 with
    | none => rw [q] at z2; cases z2
    | some o => rw [q] at z2; exact ⟨o, rfl, z2⟩
  refine ⟨e1, e2.1, fun p hp => (key p hp).1, fun p hp => ?_, fun p hp => ?_⟩
  · obtain ⟨_, o, q, z⟩ := key p hp
    have := He.frT_none (as := He.asD h.get? n ++ [cStatics]) q z
    rw [← hK]
    rw [← hK] at this
    exact this
  · obtain ⟨_, o, q, z⟩ := key p hp
    rw [q, He.emptyTab_eq z]
def hookY (n : Nat) (fa : List He.Fa) (fn : List He.DefD) (tf : List He.Defn) (ex : PySem.W.Frag → Bool) : PySem.W.Hook where
  α := He.AlX
  obs := fun s => obsY n fa fn tf ex s.heap.get?
  val := fun w => He.valX fn [] w
  says := fun w h => ∃ K : PySem.W.Frag, K.In h ∧ He.SaysX fa fn [] tf ex w h K
  of := fun _ _ e => ⟨_, He.frT_in, saysY e⟩
  keeps := fun _ _ _ ⟨K, hK, c⟩ k => ⟨K, hK.keeps k, c.t, c.more, c.hd, c.out, fun p hp => k _ _ (c.empty p hp)⟩
theorem obsY_eq {s : Shared} (q : ∀ a, g a = s.heap.get? a) : obsY n fa fn tf ex g = (hookY n fa fn tf ex).obs s := by
  obtain rfl : g = s.heap.get? := funext q
  rfl
end
end Pd
set_option maxHeartbeats 0
namespace Pd
open PySem PySem.Spec PyProof.Rows L2
def dd (x : Str) (st : Stmt) : He.DefD := ⟨(x, none), x, x, defArgs st, defBody st, defScope st, [], []⟩
def ddm (c m q : Str) (st : Stmt) : He.DefD := ⟨(c, some m), m, q, defArgs st, defBody st, defScope st, [], []⟩
def fnL : List He.DefD := [dd "is_way_out" s_is_way_out, dd "is_name" s_is_name, dd "is_door" s_is_door, dd "can_be" s_can_be, dd "rooms_behind" s_rooms_behind, dd "check_house" s_check_house, dd "is_number" s_is_number, dd "can_stand" s_can_stand, dd "wanted_behind" s_wanted_behind, dd "words_of_rows" s_words_of_rows, dd "built" s_built, dd "read" s_read, dd "_law_mix" s__law_mix, dd "_law_next" s__law_next, dd "_law_alike" s__law_alike, dd "_law_door" s__law_door, dd "_law_room" s__law_room, dd "_law_house" s__law_house, dd "_law_kind" s__law_kind, dd "_law_rows" s__law_rows, dd "_law_two" s__law_two, dd "_law_taken" s__law_taken, dd "_law_bad" s__law_bad, dd "_law_due" s__law_due, dd "law" s_law, ddm "BadHouse" "__init__" "BadHouse.__init__" s_BadHouse___init__, ddm "NoName" "__init__" "NoName.__init__" s_NoName___init__, ddm "NoDoor" "__init__" "NoDoor.__init__" s_NoDoor___init__, ddm "BadDeed" "__init__" "BadDeed.__init__" s_BadDeed___init__, ddm "BadText" "__init__" "BadText.__init__" s_BadText___init__]
def faL0 : List He.Fa := [.glo "is_way_out", .glo "is_name", .glo "is_door", .glo "can_be", .glo "rooms_behind", .glo "check_house", .glo "is_number", .glo "can_stand", .glo "wanted_behind", .glo "words_of_rows", .glo "built", .glo "read", .glo "_law_mix", .glo "_law_next", .glo "_law_alike", .glo "_law_door", .glo "_law_room", .glo "_law_house", .glo "_law_kind", .glo "_law_rows", .glo "_law_two", .glo "_law_taken", .glo "_law_bad", .glo "_law_due", .glo "law", .glo "DoorError", .glo "BadHouse", .glo "BadCount", .glo "NoName", .glo "NoDoor"]
def faL1 : List He.Fa := [.glo "BadDeed", .glo "BadText", .free "ValueError", .free "all", .free "bool", .free "enumerate", .free "int", .free "isinstance", .free "len", .free "list", .free "max", .free "min", .free "range", .free "str", .free "tuple", .int "LONGEST_NAME" 6, .int "MOST_DOORS_OF_A_ROOM" 4, .int "MOST_DOORS_OF_A_HOUSE" 12, .int "MOST_NEED" 99, .int "MOST_FIGURES" 2, .str "LETTERS" "abcdefghijklmnopqrstuvwxyz", .str "FIGURES" "0123456789", .exc "BadCount", .meth "BadHouse" "__init__", .meth "NoName" "__init__", .meth "NoDoor" "__init__", .meth "BadDeed" "__init__", .meth "BadText" "__init__"]
def faL : List He.Fa := faL0 ++ faL1
def tfL : List He.Defn := [("is_name", none), ("can_be", none), ("is_number", none), ("law", none)]
def kit1 (K : PySem.W.Frag) (x : Str) (b : Bool) : Bool := decide (PySem.W.kitOne K (.ref (He.ga K "BadCount")) (.ref (He.ga K x)) = some b)
def exL (K : PySem.W.Frag) : Bool := kcsB K && (tb K 0 3 && (tb K 1 3 && (tb K 2 3)))
where tb (K : PySem.W.Frag) (i j : Nat) : Bool := decide ((tfL.map fun p => (He.cT K p).2)[i]? ≠ (tfL.map fun p => (He.cT K p).2)[j]?)
abbrev R : PySem.W.OpenRow := PySem.W.OpenLaw.row PySem.Challenge.rw_pushdoors_k12_texts_of_no_house
abbrev qV : Program := PySem.W.view R.prog [42]
abbrev hk : PySem.W.Hook := hookY 6 faL fnL tfL exL
def ob (s : PySem.W.SharedT) : He.AlX := obsY 6 faL fnL tfL exL (HandSHeadRun.getT s)
theorem ob_eq (s : PySem.W.SharedT) : ob s = hk.obs s.abs := obsY_eq (HandSHeadRun.getT_eq s)
def loose0 : List PySem.Str := ["DoorError", "BadHouse", "BadCount", "NoName", "NoDoor", "BadDeed", "BadText", "LETTERS", "LONGEST_NAME", "MOST_DOORS_OF_A_ROOM", "MOST_DOORS_OF_A_HOUSE", "MOST_NEED", "FIGURES", "MOST_FIGURES", "is_way_out", "is_name", "is_door", "can_be", "rooms_behind", "check_house", "is_number", "can_stand", "wanted_behind", "words_of_rows", "built"]
def loose1 : List PySem.Str := ["read", "_law_mix", "_law_next", "_law_alike", "_law_door", "_law_room", "_law_house", "_law_kind", "_law_rows", "_law_two", "_law_taken", "_law_bad", "_law_due"]
def loose : List PySem.Str := loose0 ++ loose1
theorem run (w : World) : HandSHeadRun.RunEq R qV hk ob 6000 loose w := by
  intro os
  kernel_rfl
end Pd
set_option maxHeartbeats 2000000
namespace Pd
open PySem PySem.Spec PyProof.Rows L2
/-! ### all(..), any(..) of a generator expression whose element changes nothing -/
section
variable {X : Cx} {pins : List (Addr × Obj)} {σ : L2.St} {H H1 : Hp} {s s1 : Shared}
/-- the element at the value u of x is the truth value b -/
def Quiet (X : Cx) (scope : Scope) (cl : List (Str × Addr)) (x : Str) (elt : Expr) (P : Addr) (s1 : Shared) (u : Value) (b : Bool) : Prop :=
  ∀ (cenv : Env) (A' : Around) (E' : Value → Shared → Prop) (s₂ : Shared) (m₂ : Str → Option Value), cenv.scope = scope → cenv.globals = mainGlobals → cenv.builtins = builtinsNs → cenv.cells = cl → A'.handled = none → A'.depth ≤ X.A.depth + 1 → A'.units ≤ X.A.units + 8 →
    s₂.heap.Ns cenv.locals m₂ → m₂ x = some u → (∀ c o, c ≠ P → s1.heap.get? c = some o → s₂.heap.get? c = some o) → wpAny (model X.prog X.w) A' (eval elt cenv) (fun y s₃ => y = .bool b ∧ Keeps s₂ s₃) E' s₂
theorem kp_refl (s : Shared) : Keeps s s := ⟨s.heap, s.toks, rfl, fun _ _ e => e⟩
/-- behind the iterable: an iterator is new at the heap's end; the generator is made -/
theorem gen_core {c P : Addr} {elt iter : Expr} {x : Str} {px gpos : Pos} {scope : Scope} {k : Nat} {Q' : Value → Shared → Prop} {ps : Array Value} {o : Obj} {fp' : List Addr} {n : Nat} {Pf : Nat → Value → Prop} {St : Nat → Heap → Prop} {pb : Nat → Bool}
    (hr : Room k X.A) (TB : GxR.TabB X.base X.mg c P) (hcode : X.env.code = .ref c) (S : GxR.GenS X.env scope x) (I1 : Inv X pins σ H1 s1) (hP : H1 P = some (.tbl ps)) (ht : TriplesOk ps.toList)
    (W : ∀ A' : Around, A'.handled = none → Walks X.prog X.w A' s1.heap.objs.size (s1.heap.objs.size :: fp') [s1.heap.objs.size] n Pf St) (hst : St 0 (s1.heap.push o)) (hfp : ∀ b ∈ fp', b < s1.heap.objs.size ∧ b ≠ P)
    (hel : ∀ i v, Pf i v → Quiet X scope (cloFrom X.env.cells scope.names []) x elt P s1 v (pb i))
    (hs : ∀ v, genFold iter X.env v = pure v)
    (hQ : ∀ g s5, (∃ (fp wr : List Addr) (G : Array GenState → Array GenState → Prop) (F : Nat → Value → Prop) (St' : Nat → Shared → Prop), WalksS X.prog X.w X.A.in1 g fp wr G n F St' ∧ St' 0 s5 ∧ TruthOf X.prog X.w X.A.in1 F pb ∧
      ∀ s', Moved wr G s5 s' → ∃ H2, GxR.Tabbed P H1 H2 ∧ Inv X pins σ H2 s') → Q' (.ref g) s5) :
    (s1.heap.push o).NoLimit ∧ wpAny (model X.prog X.w) X.A (genexprCode X.env gpos (X.env.qual ++ "<genexpr>") scope) (fun code s₃ => wpAny (model X.prog X.w) X.A (builtinsFor X.env.globals X.env.builtins) (fun bi s₄ =>
        ∃ J fp wr n₀ P0 St₀ pz F, Value.ref s1.heap.objs.size = .ref J ∧ (∀ A' : Around, A'.handled = none → Walks X.prog X.w A' J fp wr n₀ P0 St₀) ∧ St₀ 0 s₄.heap ∧ (∀ b ∈ fp, b < s₄.heap.objs.size) ∧ s₄.heap.NoLimit ∧ cStatics ∉ wr ∧
          (∀ href : Heap, (∀ b o, s₄.heap.get? b = some o → href.get? b = some o) →
            QuietGenD X.prog X.w (genEnv scope (cloFrom X.env.cells scope.names []) s₄.heap.objs.size code bi X.env) x [] elt (List.range s₄.heap.objs.size) wr P0 pz F href (X.A.depth + 1) (X.A.units + 8)) ∧
          (∀ a h₅ tk gs, gs.bare = true → s₄.heap.objs.size < a → h₅.objs.size = a + 1 → (∀ b o, s₄.heap.get? b = some o → h₅.get? b = some o) →
            WalksS X.prog X.w X.A.in4 a (a :: s₄.heap.objs.size :: List.range s₄.heap.objs.size) (s₄.heap.objs.size :: wr) (GenOnlyQ s₄.gens.size) (passing pz n₀ 0).length
              (fun j y => ∃ i, (passing pz n₀ 0)[j]? = some i ∧ F i y) (GenAt X.prog X.w X.A.in4 a s₄.gens.size s₄.heap.objs.size (List.range s₄.heap.objs.size) wr pz n₀ F) →
            GenAt X.prog X.w X.A.in4 a s₄.gens.size s₄.heap.objs.size (List.range s₄.heap.objs.size) wr pz n₀ F 0 { s₄ with gens := s₄.gens.push gs, toks := tk, heap := h₅ } →
            Q' (.ref a) { s₄ with gens := s₄.gens.push gs, toks := tk, heap := h₅ })) X.xe s₃) X.xe { s1 with heap := s1.heap.push o } := by
  have sP := I1.hok P _ hP
  have sP : s1.heap.get? P = some { cls := .none, data := .fields ps } := sP
  have zP := Heap.lt_size sP
  have sP2 : (s1.heap.push o).get? P = some { cls := .none, data := .fields ps } := Heap.get?_push_of_some _ sP
  have lim := I1.nolimit.push o
  have zz : (s1.heap.push o).objs.size = s1.heap.objs.size + 1 := Heap.size_push ..
  have cd : PySem.W.CodeHd (s1.heap.push o) c P := TB.code.keeps fun b u e => Heap.get?_push_of_some _ (I1.bk b u e)
  refine ⟨lim, ?_⟩
  -- with the code object and the table as they are then
  have go : ∀ (code : Value) (h3 : Heap) (tk : Nat) (more : Array Value), Heap.ExtBut P (s1.heap.push o) h3 → (s1.heap.push o).objs.size ≤ h3.objs.size → h3.get? P = some { cls := .none, data := .fields (ps ++ more) } → TriplesOk (ps ++ more).toList →
      wpAny (model X.prog X.w) X.A (builtinsFor X.env.globals X.env.builtins) (fun bi s₄ =>
        ∃ J fp wr n₀ P0 St₀ pz F, Value.ref s1.heap.objs.size = .ref J ∧ (∀ A' : Around, A'.handled = none → Walks X.prog X.w A' J fp wr n₀ P0 St₀) ∧ St₀ 0 s₄.heap ∧ (∀ b ∈ fp, b < s₄.heap.objs.size) ∧ s₄.heap.NoLimit ∧ cStatics ∉ wr ∧
          (∀ href : Heap, (∀ b o, s₄.heap.get? b = some o → href.get? b = some o) →
            QuietGenD X.prog X.w (genEnv scope (cloFrom X.env.cells scope.names []) s₄.heap.objs.size code bi X.env) x [] elt (List.range s₄.heap.objs.size) wr P0 pz F href (X.A.depth + 1) (X.A.units + 8)) ∧
          (∀ a h₅ tk gs, gs.bare = true → s₄.heap.objs.size < a → h₅.objs.size = a + 1 → (∀ b o, s₄.heap.get? b = some o → h₅.get? b = some o) →
            WalksS X.prog X.w X.A.in4 a (a :: s₄.heap.objs.size :: List.range s₄.heap.objs.size) (s₄.heap.objs.size :: wr) (GenOnlyQ s₄.gens.size) (passing pz n₀ 0).length
              (fun j y => ∃ i, (passing pz n₀ 0)[j]? = some i ∧ F i y) (GenAt X.prog X.w X.A.in4 a s₄.gens.size s₄.heap.objs.size (List.range s₄.heap.objs.size) wr pz n₀ F) →
            GenAt X.prog X.w X.A.in4 a s₄.gens.size s₄.heap.objs.size (List.range s₄.heap.objs.size) wr pz n₀ F 0 { s₄ with gens := s₄.gens.push gs, toks := tk, heap := h₅ } →
            Q' (.ref a) { s₄ with gens := s₄.gens.push gs, toks := tk, heap := h₅ })) X.xe { s1 with heap := h3, toks := tk } := by
    intro code h3 tk more hx hge hP3 ht3
    have l3 : s1.heap.objs.size < h3.objs.size := by rw [zz] at hge; exact hge
    have k3 : ∀ b u, b ≠ P → s1.heap.get? b = some u → h3.get? b = some u := fun b u ne e => hx b u ne (Heap.get?_push_of_some _ e)
    obtain ⟨bm, ob, b1, b2, b3, b4, b5, b6, b7, b8⟩ := TB.bm
    have csP : cStatics ≠ P := fun e => by
      obtain ⟨_, ⟨ob', _, _, ho, hd, _⟩, _⟩ := I1.nolimit
      rw [e, sP] at ho; cases ho; cases hd
    have csl : cStatics < s1.heap.objs.size := by
      obtain ⟨_, hns, _⟩ := I1.nolimit
      exact hns.lt
    refine wpAny_builtinsFor (m := X.mg) (by rw [I1.ok.glob]; exact ((I1.mod.glob.keeps I1.bk).push o).extBut hx TB.gP) b1 b2 (k3 _ _ b4 (I1.bk _ _ b5)) b6 b7 b8 ?_
    refine ⟨s1.heap.objs.size, _, _, n, Pf, St, fun _ => true, fun i y => (∃ v, Pf i v) ∧ y = .bool (pb i), rfl, W, ?_, ?_, lim.extBut hx csP, ?_, ?_, ?_⟩
    · refine (W X.A hr.hd).frame 0 _ _ hst fun b hb u e => hx b u (fun z => ?_) e
      rcases List.mem_cons.mp hb with y | y
      · rw [y] at z; rw [← z] at zP; exact absurd zP (Nat.lt_irrefl _)
      · exact (hfp b y).2 z
    · intro b hb
      show b < h3.objs.size
      rcases List.mem_cons.mp hb with y | y
      · rw [y]; exact l3
      · exact Nat.lt_trans (hfp b y).1 l3
    · intro z
      rcases List.mem_cons.mp z with z | z
      · exact absurd csl (by rw [z]; exact Nat.lt_irrefl _)
      · cases z
    · intro href hk
      refine ⟨fun A' E' i v s₂ m₂ _ _ _ _ hn hm hkp => ?_, fun A' E' i v s₂ m₂ hA hD hU hPv _ hn hm hkp => ?_⟩
      · simp only [List.forIn_nil]
        exact wpAny_pure ⟨rfl, kp_refl _⟩
      · refine wpAny_mono (hel i v hPv _ A' E' s₂ m₂ rfl (show X.env.globals = mainGlobals from I1.ok.glob) rfl rfl hA hD hU hn hm fun b u nb e => ?_) (fun y s3 r => ⟨⟨⟨v, hPv⟩, r.1⟩, r.2⟩) fun _ _ e => e
        have lb := Heap.lt_size e
        exact hkp b (List.mem_range.mpr (Nat.lt_trans lb l3)) (fun z => (List.mem_cons.mp z).elim (fun z => by rw [z] at lb; exact Nat.lt_irrefl _ lb) (fun z => nomatch z)) u (hk b u (k3 b u nb e))
    · intro g h5 tk5 gs hgb hag hsz5 hk5 W5 hat
      simp only [GxR.passing_true, List.length_range] at W5
      refine hQ g _ ⟨_, _, _, _, _, W5.in4_1, hat, fun j y sj Qj Ej hy hq => ?_, fun s' hm => ?_⟩
      · obtain ⟨i, hi, _, rfl⟩ := hy
        obtain ⟨_, ei⟩ := List.getElem?_eq_some_iff.mp hi
        rw [List.getElem_range] at ei
        subst ei
        exact wpAny_truthy_bool hq
      · have nw : ∀ b u, s1.heap.get? b = some u → b ∉ h3.objs.size :: [s1.heap.objs.size] := fun b u e hb => by
          have lb := Heap.lt_size e
          rcases List.mem_cons.mp hb with z | z
          · rw [z] at lb; exact absurd (Nat.lt_trans lb l3) (Nat.lt_irrefl _)
          · rcases List.mem_cons.mp z with z | z
            · rw [z] at lb; exact absurd lb (Nat.lt_irrefl _)
            · cases z
        have J2 := GxR.inv_tab (more := more) (h' := s'.heap) (g' := s'.gens) (d' := s'.drawn) (t' := s'.toks) I1 hP (fun b u nb e => hm.heap b u (nw b u e) (hk5 b u (k3 b u nb e))) (hm.heap P _ (nw P _ sP) (hk5 P _ hP3)) (AllBare.movedS (I1.bare.push hgb) hm)
        rw [GxR.sh_eta s1 s' hm.os] at J2
        exact ⟨upd H1 P (.tbl (ps ++ more)), ⟨⟨ps ++ more, upd_same, ht3⟩, fun b nb => upd_ne nb⟩, J2⟩
  cases hf : codeAmong gpos ps.toList with
  | none =>
    refine wpAny_genexprCodeX hcode (cd.code sP2 ht) (cd.tab sP2) hf fun c' h' tk hx hge hlt hco' _ htab' _ => ?_
    obtain ⟨_, _, _, _, _, _, _, _, _, _, _, _, _, _, _, _, _, _, _, htr, _⟩ := hco'
    exact go _ h' tk _ hx (Nat.le_trans hge (Nat.le_of_lt hlt)) htab'.2 htr
  | some cv =>
    refine wpAny_genexprCode_hit hcode (cd.code sP2 ht) hf ?_
    exact go cv (s1.heap.push o) s1.toks #[] (Heap.ExtBut.refl _ _) (Nat.le_refl _) (by rw [Array.append_empty]; exact sP2) (by rw [Array.append_empty]; exact ht)
end
end Pd
namespace Pd
open PySem PySem.Spec PyProof.Rows L2
/-! ### quiet elements -/
theorem kp_trans {s s1 s2 : Shared} (a : Keeps s s1) (b : Keeps s1 s2) : Keeps s s2 := by
  obtain ⟨h1, t1, rfl, k1⟩ := a
  obtain ⟨h2, t2, rfl, k2⟩ := b
  exact ⟨h2, t2, rfl, fun c o e => k2 c o (k1 c o e)⟩
/-- what stands of the module where nothing but the table at P may differ -/
structure Gc (X : Cx) (h : Heap) : Prop where
  kin : X.K.In h
  glob : h.Ns mainGlobals X.mg
  blt : ∃ mb, h.Ns builtinsNs mb ∧ ∀ x : Str, x ≠ "__name__" → mb x = bootBuiltins x
  lim : h.NoLimit
theorem Gc.of {X : Cx} {pins : List (Addr × Obj)} {σ : L2.St} {H : Hp} {s1 s2 : Shared} {P : Addr} (I : Inv X pins σ H s1) (hP : H P ≠ none) (hk : ∀ c o, c ≠ P → s1.heap.get? c = some o → s2.heap.get? c = some o) : Gc X s2.heap := by
  have kb : ∀ b o, X.base.get? b = some o → s2.heap.get? b = some o := fun b o e => hk b o (fun z => hP (by rw [← z]; exact (I.bs b o e).2)) (I.bs b o e).1
  refine ⟨I.ok.mod.kin.keeps kb, I.ok.mod.glob.keeps kb, ?_, I.ok.mod.nolimit.keeps kb⟩
  obtain ⟨mb, h1, h2⟩ := I.ok.mod.blt
  exact ⟨mb, h1.keeps kb, h2⟩
theorem Gc.keeps {X : Cx} {h h' : Heap} (g : Gc X h) (k : ∀ b o, h.get? b = some o → h'.get? b = some o) : Gc X h' := by
  obtain ⟨mb, h1, h2⟩ := g.blt
  exact ⟨g.kin.keeps k, g.glob.keeps k, ⟨mb, h1.keeps k, h2⟩, g.lim.keeps k⟩
section
variable {X : Cx}
/-- letter in LETTERS -/
theorem quiet_letter {scope : Scope} {cl : List (Str × Addr)} {P : Addr} {pins : List (Addr × Obj)} {σ : L2.St} {H : Hp} {s1 : Shared} {z : Str} {x y : Str} {p1 p2 p3 : Pos} (I : Inv X pins σ H s1) (hP : H P ≠ none)
    (hk : scope.kind = .function) (hx : scope.names.lookup x = some .local) (hy : scope.names.lookup y = some .globalImplicit) (hm : ∃ t, X.mg y = some (.str z t)) (dx : (x == ("__debug__" : Str)) = false) (dy : (y == ("__debug__" : Str)) = false) (c : Nat) (t : Tok) :
    Quiet X scope cl x (.Compare (.Name x p1) [.In] [.Name y p2] p3) P s1 (.str ⟨#[c]⟩ t) (decide (c ∈ z.cps.toList)) := by
  intro cenv A' E' s₂ m₂ e1 e2 e3 e4 hA hD hU hn hv hkp
  obtain ⟨tz, hz⟩ := hm
  have g := Gc.of I hP hkp
  refine wpAny_Compare1 ?_ rfl
  refine wpAny_Name (wpAny_loadName_local (by rw [e1]; exact hk) (show cenv.scope.names.lookup x = _ by rw [e1]; exact hx) hn hv ?_) dx
  refine Calls.Name_function_global (by rw [e1]; exact hk) (show cenv.scope.names.lookup y = _ by rw [e1]; exact hy) (Calls.loadGlobal_global (by rw [e2]; exact g.glob) hz ?_) dy
  exact PyProof.Rows.in_str ⟨by rw [PySem.StrLaws.found_one z c], kp_refl _⟩
def doorOk (n s : Int) : Bool := (decide (1 ≤ n) && decide (n ≤ 99)) && (decide (0 ≤ s) && decide (s ≤ n))
/-- an expression that changes nothing: its value -/
def RQ (X : Cx) (env : Env) (m : Str → Option Value) (e : Expr) (v : V) : Prop := ∀ (A : Around) (E : Value → Shared → Prop) (s : Shared) (Q : Value → Shared → Prop), s.heap.Ns env.locals m → Gc X s.heap → (∀ u s', RelV v u → Keeps s s' → Q u s') → wpAny (model X.prog X.w) A (eval e env) Q E s
theorem kp_heap {s s' : Shared} (k : Keeps s s') : ∀ b o, s.heap.get? b = some o → s'.heap.get? b = some o := by
  obtain ⟨h, t, rfl, q⟩ := k
  exact q
theorem kp_tok (s : Shared) (t : Nat) : Keeps s { s with toks := t } := ⟨s.heap, t, rfl, fun _ _ e => e⟩
variable {env : Env} {m : Str → Option Value} {i j k : Int} {e e1 e2 e3 : Expr} {pos p1 p2 : Pos} {v : V} {u : Value} {x : Str}
theorem rq_loc (hk : env.scope.kind = .function) (hx : env.scope.names.lookup x = some .local) (hm : m x = some u) (r : RelV v u) (d : (x == ("__debug__" : Str)) = false := by decide) : RQ X env m (.Name x pos) v := fun A E s Q hn g q =>
  wpAny_Name (wpAny_loadName_local hk hx hn hm (q u s r (kp_refl s))) d
theorem rq_int {kk} : RQ X env m (.Constant (.int i) kk pos) (.int i) := fun A E s Q hn g q => wpAny_Constant_int (q _ _ ⟨_, rfl⟩ (kp_tok s _))
theorem rq_glob (hk : env.scope.kind = .function) (hx : env.scope.names.lookup x = some .globalImplicit) (hg : env.globals = mainGlobals) (hm : X.mg x = some u) (r : RelV v u) (d : (x == ("__debug__" : Str)) = false := by decide) : RQ X env m (.Name x pos) v := fun A E s Q hn g q =>
  Calls.Name_function_global hk hx (Calls.loadGlobal_global (by rw [hg]; exact g.glob) hm (q u s r (kp_refl s))) d
theorem rq_le2 (h1 : RQ X env m e1 (.int i)) (h2 : RQ X env m e2 (.int j)) (h3 : RQ X env m e3 (.int k)) (hm : lastMarks [.LtE, .LtE] [e2, e3] = false := by with_unfolding_all rfl) : RQ X env m (.Compare e1 [.LtE, .LtE] [e2, e3] pos) (.bl (decide (i ≤ j) && decide (j ≤ k))) := fun A E s Q hn g q =>
  Compare_chain (h1 A E s _ hn g fun u1 s1 r1 k1 => chain_link (h2 A E s1 _ (hn.keeps (kp_heap k1)) (g.keeps (kp_heap k1)) fun u2 s2 r2 k2 => by
    obtain ⟨t1, rfl⟩ := r1
    obtain ⟨t2, rfl⟩ := r2
    have k12 := kp_trans k1 k2
    refine le_int (wpAny_truthy_bool ?_)
    cases hb : decide (i ≤ j) with
    | false => exact ite_ff (q _ _ (by rw [hb]; rfl) k12)
    | true =>
      refine ite_tt (chain_last (h3 A E s2 _ (hn.keeps (kp_heap k12)) (g.keeps (kp_heap k12)) fun u3 s3 r3 k3 => ?_))
      obtain ⟨t3, rfl⟩ := r3
      exact le_int (q _ _ (by rw [hb]; rfl) (kp_trans k12 k3)))) hm
theorem rq_and {a b : Bool} {pos : Pos} (h1 : RQ X env m e1 (.bl a)) (h2 : RQ X env m e2 (.bl b)) : RQ X env m (.BoolOp .And [e1, e2] pos) (.bl (a && b)) := fun A E s Q hn g q =>
  BoolOp_and (h1 A E s _ hn g fun u1 s1 r1 k1 => by
    cases r1
    refine wpAny_truthy_bool ?_
    cases a with
    | true => exact BoolOp_one (h2 A E s1 _ (hn.keeps (kp_heap k1)) (g.keeps (kp_heap k1)) fun u2 s2 r2 k2 => q u2 s2 r2 (kp_trans k1 k2))
    | false => exact q _ _ rfl k1)
/-- a call of a def of the module, its body run quietly: f(e) -/
theorem rq_call1 {f : Addr} {fd : FuncData} {st : Stmt} {y : Str} {w' : V} {D U : Nat} {A0 : Around} (F : Fun X.K x x st f fd) (b : Binds X.K fd [y] []) (hm : X.mg x = some (.ref f)) (hnc : ∀ z ∈ (defScope st).names, z.2 ≠ .cell) (hyl : (defScope st).names.lookup y = some .local) : True := trivial
end
end Pd
namespace Pd
open PySem PySem.Spec PyProof.Rows L2
section
variable {X : Cx}
theorem nc_door : ∀ x ∈ (defScope s_is_door).names, x.2 ≠ .cell := by decide +kernel
theorem lc_door {u : Value} : ∀ x ∈ [("door" : Str)].zip ([u] ++ []), (defScope s_is_door).names.lookup x.1 = some .local := fun x hx => by
  have e : x = (("door" : Str), u) := by simpa using hx
  rw [e]; exact (by decide +kernel : (defScope s_is_door).names.lookup ("door" : Str) = some .local)
/-- is_door(door) -/
theorem quiet_isdoor {scope : Scope} {cl : List (Str × Addr)} {P : Addr} {pins : List (Addr × Obj)} {σ : L2.St} {H : Hp} {s1 : Shared} {x : Str} {p1 p2 p3 : Pos} {f : Addr} {fd : FuncData} {i j : Int} {a : Addr} {t1 t2 : Tok} {u3 : Value} {k : Nat}
    (I : Inv X pins σ H s1) (hP : H P ≠ none) (hr : Room k X.A) (B : Bl X.mg) (D : At X.K X.mg "is_door" s_is_door ["door"] f fd)
    (hk : scope.kind = .function) (hx : scope.names.lookup x = some .local) (hy : scope.names.lookup ("is_door" : Str) = some .globalImplicit) (dx : (x == ("__debug__" : Str)) = false)
    (hT : IsTup s1.heap a #[.int i t1, .int j t2, u3]) (haP : a ≠ P) :
    Quiet X scope cl x (.Call (.Name "is_door" p1) [.Name x p2] [] p3) P s1 (.ref a) (doorOk i j) := by
  intro cenv A' E' s₂ m₂ e1 e2 e3 e4 hA hD hU hn hv hkp
  have g := Gc.of I hP hkp
  have hT2 : IsTup s₂.heap a #[.int i t1, .int j t2, u3] := by
    obtain ⟨o, h1, h2⟩ := hT
    exact ⟨o, hkp a o haP h1, h2⟩
  refine wpAny_Call_Name_kw (Calls.Name_function_global (by rw [e1]; exact hk) (show cenv.scope.names.lookup ("is_door" : Str) = _ by rw [e1]; exact hy) (Calls.loadGlobal_global (by rw [e2]; exact g.glob) D.m ?_))
  refine PySem.W.callWith_K g.kin D.F.kp (Calls.spliced_cons (wpAny_Name (wpAny_loadName_local (by rw [e1]; exact hk) (show cenv.scope.names.lookup x = _ by rw [e1]; exact hx) hn hv (Calls.spliced_nil ⟨g.kin, ?_⟩)) dx))
  refine wpAny_call ?_
  obtain ⟨oc, od, kV, doc, pm, an, cdv, ct, osl, efd, lk, hcd⟩ := D.F.ex
  have hb := D.b s₂ [.ref a] g.kin rfl
  subst efd
  refine codeAny_call_def (body := defBody s_is_door) (by have := hr.dp; omega) (g.kin _ _ lk) rfl g.lim (PySem.W.codeRec_of g.kin hcd) rfl hb nc_door lc_door (fun h0 hn0 hk0 => ?_)
  refine wpAny_execs_cons (wpAny_Assign_stores (wpAny_Name (wpAny_loadName_local rfl rfl hn0 rfl ?_)) rfl rfl)
  have hT3 : IsTup h0 a #[.int i t1, .int j t2, u3] := by
    obtain ⟨o, h1, h2⟩ := hT2
    exact ⟨o, hk0 a o h1, h2⟩
  -- need, stands, _ = door
  refine wpAny_mono (show wpAny _ _ (assign _ _ _) (fun _ s3 => ∃ h3 tk m3, s3 = { s₂ with heap := h3, toks := tk } ∧ h3.Ns s₂.heap.objs.size m3 ∧ (∀ b o, s₂.heap.get? b = some o → h3.get? b = some o) ∧ m3 "need" = some (.int i t1) ∧ m3 "stands" = some (.int j t2)) _ _ from assign_Tuple_tuple hA hT3 rfl rfl fun h1 hx1 => ?_) (fun _ s3 ⟨h3, tk, m3, e3, hn3, hk3, hm1, hm2⟩ => ?_) fun _ _ q => q
  · have nl : ∀ b o, s₂.heap.get? b = some o → b ≠ s₂.heap.objs.size := fun b o e => Nat.ne_of_lt (Heap.lt_size e)
    have hk1 : ∀ b o, h0.get? b = some o → h1.get? b = some o := fun b o e => hx1 b o (Nat.ne_of_lt (Heap.lt_size e)) e
    refine assignInOrder_cons (assign_Name (wpAny_storeName_local rfl (hn0.keeps hk1) fun h2 hn2 sb2 => ?_))
    refine assignInOrder_cons (assign_Name (wpAny_storeName_local rfl hn2 fun h3 hn3 sb3 => ?_))
    refine assignInOrder_cons (assign_Name (wpAny_storeName_local rfl hn3 fun h4 hn4 sb4 => ?_))
    refine assignInOrder_nil ⟨h4, _, _, rfl, hn4, fun b o e => ?_, ?_, ?_⟩
    · rw [sb4.2 b (nl b o e), sb3.2 b (nl b o e), sb2.2 b (nl b o e)]
      exact hk1 b o (hk0 b o e)
    · rfl
    · rfl
  · subst e3
    have g3 := g.keeps hk3
    refine wpAny_execs_cons (wpAny_Return_some ?_)
    refine rq_and (X := X) (rq_le2 rq_int (rq_loc rfl rfl hm1 ⟨_, rfl⟩) (rq_glob rfl rfl rfl B.MOST_NEED.choose_spec ⟨_, rfl⟩)) (rq_le2 rq_int (rq_loc rfl rfl hm2 ⟨_, rfl⟩) (rq_loc rfl rfl hm1 ⟨_, rfl⟩)) _ _ _ _ hn3 g3 fun u s' r kp => ?_
    obtain ⟨h', tk', rfl, kq⟩ := kp
    exact ⟨r, h', tk', rfl, fun b o e => kq b o (hk3 b o e)⟩
end
end Pd
namespace Pd
open PySem PySem.Spec PyProof.Rows L2
section
variable {X : Cx}
def ReadyG (X : Cx) (pins : List (Addr × Obj)) (σ : L2.St) (P : Addr) (R : Nat → (Nat → Bool) → Hp → Prop) (gv : Value) (s5 : Shared) : Prop :=
  ∃ (g : Addr) (n : Nat) (pb : Nat → Bool) (H1 : Hp), gv = .ref g ∧ R n pb H1 ∧ ∃ (fp wr : List Addr) (G : Array GenState → Array GenState → Prop) (F : Nat → Value → Prop) (St' : Nat → Shared → Prop), WalksS X.prog X.w X.A.in1 g fp wr G n F St' ∧ St' 0 s5 ∧ TruthOf X.prog X.w X.A.in1 F pb ∧
      ∀ s', Moved wr G s5 s' → ∃ H2, GxR.Tabbed P H1 H2 ∧ Inv X pins σ H2 s'
/-- all(test for x in e), e a text -/
theorem pe_allTx {c P : Addr} {elt iter : Expr} {x : Str} {px p pos gpos : Pos} {scope : Scope} {pb : Nat → Bool} {te : TE} {k : Nat}
    (hr : Room k X.A) (hg : Gl X "all") (hm : X.mg "all" = none) (hb : bootBuiltins "all" = some (.builtin "all")) (TB : GxR.TabB X.base X.mg c P) (hcode : X.env.code = .ref c) (S : GxR.GenS X.env scope x) (hi : PE X iter te)
    (hel : ∀ (pins : List (Addr × Obj)) (σ : L2.St) (H : Hp) (s1 : Shared), Inv X pins σ H s1 → H P ≠ none → ∀ (c : Nat) (t : Tok), Quiet X scope (cloFrom X.env.cells scope.names []) x elt P s1 (.str ⟨#[c]⟩ t) (pb c))
    (hs : ∀ v, genFold iter X.env v = pure v)
    (he : starEach [.GeneratorExp elt [⟨.Name x px, iter, [], 0⟩] scope gpos] X.env = (false, eval (.GeneratorExp elt [⟨.Name x px, iter, [], 0⟩] scope gpos) X.env) :: starEach [] X.env := by rfl) :
    PE X (.Call (.Name "all" p) [.GeneratorExp elt [⟨.Name x px, iter, [], 0⟩] scope gpos] [] pos) (GxR.tAllS P pb te) := by
  refine ⟨fun pins s σ H Q I h => ?_⟩
  refine wpAny_Call_Name_kw (ld_blt I hg hm hb (PyProof.Rows.callWith_builtin1 ?_ he (by rfl)))
  rw [he]
  show wpAny _ _ (spliced ((false, eval (.GeneratorExp elt [⟨.Name x px, iter, [], 0⟩] scope gpos) X.env) :: backTo pos (starEach [] X.env))) _ _ s
  refine Calls.spliced_cons (thn (show wpAny _ _ _ (ReadyG X pins σ P fun n bs H1 => ∀ H2, GxR.Tabbed P H1 H2 → Q (.bl ((List.range n).all bs)) H2) _ s from wpAny_GeneratorExp_walksQD hr.hd S.co (closure_ok S.free) S.cell S.dot S.loc S.kind (by have := hr.dp; omega) ?_ hs) fun gv s5 ⟨g, n, bs, H1, eg, hR, fp, wr, G, F, St', W', hst', htr, hI⟩ => ?_)
  rotate_left
  · subst eg
    refine Calls.spliced_nil (call_all_walkS (W'.self 0 _ _ _ hst' ⟨g, fp, wr, G, _, F, St', _, rfl, W', hst', htr, fun s' hmv => ?_⟩))
    obtain ⟨H2, hT, J⟩ := hI s' hmv
    exact ⟨.bl _, H2, J, rfl, hR H2 hT⟩
  refine thn (hi.run pins s σ H _ I h) fun xv s1 ⟨v, H1, I1, r1, z, ev, ⟨ps, hP, ht⟩, q⟩ => ?_
  subst ev
  obtain ⟨t, rfl⟩ := _root_.id r1
  refine wpAny_pyIter_str fun o St W hst => gen_core (px := px) (fp' := []) (pb := GxR.trF pb z.cps.toList) hr TB hcode S I1 hP ht W hst (fun b hb => nomatch hb) (fun i v hv => ?_) hs fun g s5 hG => ?_
  · obtain ⟨cc, u, hcc, rfl⟩ := hv
    have e9 : z.cps.toList[i]? = some cc := by rw [Array.getElem?_toList]; exact hcc
    rw [GxR.trF_some e9]
    exact hel pins σ H1 s1 I1 (by rw [hP]; simp) cc u
  · exact ⟨g, _, _, H1, rfl, by intro H2 hT; rw [GxR.all_signs z pb]; exact q H2 hT, hG⟩
/-- all(test for x in e), e a tuple -/
def tAllT (K : PySem.W.Frag) (P : Addr) (Pel : V → Hp → Bool → Prop) (te : TE) : TE := fun σ H Q => te σ H fun v H1 => ∃ (a : Addr) (xs : List V) (bs : Nat → Bool), v = .ref a ∧ SqT K H1 a xs ∧ GxR.TabG H1 P ∧ (∀ i x, xs[i]? = some x → Pel x H1 (bs i)) ∧ ∀ H2, GxR.Tabbed P H1 H2 → Q (.bl ((List.range xs.length).all bs)) H2
theorem pe_allTup {c P : Addr} {elt iter : Expr} {x : Str} {px p pos gpos : Pos} {scope : Scope} {Pel : V → Hp → Bool → Prop} {te : TE} {k : Nat}
    (hr : Room k X.A) (hg : Gl X "all") (hm : X.mg "all" = none) (hb : bootBuiltins "all" = some (.builtin "all")) (TB : GxR.TabB X.base X.mg c P) (hcode : X.env.code = .ref c) (S : GxR.GenS X.env scope x) (hi : PE X iter te)
    (hel : ∀ (pins : List (Addr × Obj)) (σ : L2.St) (H : Hp) (s1 : Shared), Inv X pins σ H s1 → (∃ ps, H P = some (.tbl ps)) → ∀ v u b, Pel v H b → RelV v u → Quiet X scope (cloFrom X.env.cells scope.names []) x elt P s1 u b)
    (hs : ∀ v, genFold iter X.env v = pure v)
    (he : starEach [.GeneratorExp elt [⟨.Name x px, iter, [], 0⟩] scope gpos] X.env = (false, eval (.GeneratorExp elt [⟨.Name x px, iter, [], 0⟩] scope gpos) X.env) :: starEach [] X.env := by rfl) :
    PE X (.Call (.Name "all" p) [.GeneratorExp elt [⟨.Name x px, iter, [], 0⟩] scope gpos] [] pos) (tAllT X.K P Pel te) := by
  refine ⟨fun pins s σ H Q I h => ?_⟩
  refine wpAny_Call_Name_kw (ld_blt I hg hm hb (PyProof.Rows.callWith_builtin1 ?_ he (by rfl)))
  rw [he]
  show wpAny _ _ (spliced ((false, eval (.GeneratorExp elt [⟨.Name x px, iter, [], 0⟩] scope gpos) X.env) :: backTo pos (starEach [] X.env))) _ _ s
  refine Calls.spliced_cons (thn (show wpAny _ _ _ (ReadyG X pins σ P fun n bs H1 => ∀ H2, GxR.Tabbed P H1 H2 → Q (.bl ((List.range n).all bs)) H2) _ s from wpAny_GeneratorExp_walksQD hr.hd S.co (closure_ok S.free) S.cell S.dot S.loc S.kind (by have := hr.dp; omega) ?_ hs) fun gv s5 ⟨g, n, bs, H1, eg, hR, fp, wr, G, F, St', W', hst', htr, hI⟩ => ?_)
  rotate_left
  · subst eg
    refine Calls.spliced_nil (call_all_walkS (W'.self 0 _ _ _ hst' ⟨g, fp, wr, G, _, F, St', _, rfl, W', hst', htr, fun s' hmv => ?_⟩))
    obtain ⟨H2, hT, J⟩ := hI s' hmv
    exact ⟨.bl _, H2, J, rfl, hR H2 hT⟩
  refine thn (hi.run pins s σ H _ I h) fun xv s1 ⟨v, H1, I1, r1, a, xs, bs, ev, hq, ⟨ps, hP, ht⟩, hp, q⟩ => ?_
  subst ev
  obtain rfl : xv = Value.ref a := r1
  obtain ⟨its, rv, pt, _⟩ := I1.tuple hq
  have pt' : s1.heap.IsTuple a its.toArray := pt
  have la : a < s1.heap.objs.size := by obtain ⟨_, e, _⟩ := pt'; exact Heap.lt_size e
  have naP : a ≠ P := fun z => by
    have sP : s1.heap.get? P = some { cls := .none, data := .fields ps } := I1.hok P _ hP
    obtain ⟨o, e, e2, _⟩ := pt'
    rw [z, sP] at e; cases e; cases e2
  have hi0 := Heap.get?_push_size s1.heap (o := { cls := .type "tuple_iterator", data := .fields #[.ref a, .int 0 0] }) rfl
  refine wpAny_pyIter_tuple pt' (gen_core (px := px) (fp' := [a]) (n := its.toArray.size) (Pf := fun i v => its.toArray[i]? = some v) (St := fun i h => h.IsTupleIter s1.heap.objs.size a i ∧ h.IsTuple a its.toArray) (pb := bs) hr TB hcode S I1 hP ht
    (fun A' hA => Walks.tuple hA _ a (Nat.ne_of_lt la) its.toArray) ⟨⟨_, hi0, rfl, rfl⟩, pt'.at fun o e => Heap.get?_push_of_some _ e⟩ (fun b hb => ?_) (fun i v hv => ?_) hs fun g s5 hG => ?_)
  · obtain rfl : b = a := by simpa using hb
    exact ⟨la, naP⟩
  · have hv' : its[i]? = some v := by simpa using hv
    have hl : i < xs.length := by rw [rv.length]; exact (List.getElem?_eq_some_iff.mp hv').1
    obtain ⟨u, hu, ru⟩ := rv.get (List.getElem?_eq_getElem hl)
    rw [hv'] at hu; cases hu
    exact hel pins σ H1 s1 I1 ⟨ps, hP⟩ _ v (bs i) (hp i _ (List.getElem?_eq_getElem hl)) ru
  · exact ⟨g, _, _, H1, rfl, by intro H2 hT; rw [List.size_toArray, ← rv.length]; exact q H2 hT, hG⟩
end
end Pd
namespace Pd
open PySem PySem.Spec PyProof.Rows L2
/-! ### defs with tables -/
theorem Gr.tab {T : Tb} {H1 H2 : Hp} {P : Addr} (hT : Tbs T H1) (hP : GxR.TabG H1 P) (hl : ∀ p ∈ T.l, p.1 ≠ P) (t : GxR.Tabbed P H1 H2) : Gr T [] H1 H2 := by
  obtain ⟨ps, h1, _⟩ := hP
  obtain ⟨t1, t2⟩ := t
  have ne : ∀ b o, H1 b = some o → (∀ qs, o ≠ .tbl qs) → b ≠ P := fun b o e q z => by subst z; rw [h1] at e; cases e; exact q ps rfl
  refine ⟨fun b o _ e q => by rw [t2 b (ne b o e q)]; exact e, fun b o e q => by rw [t2 b (ne b o e fun qs z => by subst z; exact q)]; exact e, fun b e => ?_, fun R hR => ?_, fun p hp => ?_⟩
  · by_cases z : b = P
    · subst z; obtain ⟨qs, e2, _⟩ := t1; rw [e2] at e; cases e
    · rw [t2 b z] at e; exact e
  · by_cases z : R = P
    · subst z; exact t1
    · obtain ⟨qs, e, r⟩ := hT.1 R hR
      exact ⟨qs, by rw [t2 R z]; exact e, r⟩
  · obtain ⟨qs, e, r, q⟩ := hT.2 p hp
    refine ⟨qs, by rw [t2 _ (hl p hp)]; exact e, r, fun pos cv hc => ?_⟩
    obtain ⟨c, e1, e2⟩ := q pos cv hc
    exact ⟨c, e1, by rw [t2 c (ne c _ e2 fun qs z => by unfold LamX.CodeO at z; cases z)]; exact e2⟩
structure FunC (K : PySem.W.Frag) (x qual : Str) (st : Stmt) (f : Addr) (fd : FuncData) (c : Addr) : Prop where
  ex : ∃ (oc : Value) (od : Option Addr) (kV doc pm : Value) (an : Option Addr) (ct : Value) (osl : Array (Option Value)),
    fd = PySem.W.fnOf x qual (defArgs st) (defBody st) (defScope st) .none kV doc pm an (.ref c) ct ∧ K.lookup f = some ⟨oc, od, .func fd, osl⟩ ∧ PySem.W.codeIn K (.ref c) qual = true
  kp : PySem.W.keepIn K (.ref f) = true
structure AtC (K : PySem.W.Frag) (mg : Str → Option Value) (x : Str) (st : Stmt) (ps : List Str) (f : Addr) (fd : FuncData) (c : Addr) : Prop where
  F : FunC K x x st f fd c
  b : Binds K fd ps []
  m : mg x = some (.ref f)
section
variable {P : Program} {w : World} {K : PySem.W.Frag} {mg : Str → Option Value} {base : Heap} {x : Str} {st : Stmt} {ps N : List Str} {f c : Addr} {fd : FuncData} {k : Nat} {sp : Sp} {T : Tb}
theorem AtC.ok (a : AtC K mg x st ps f fd c) (G : FnOk P w K mg base CX0 k f fd ps sp) : Ok P w K mg base k x ps sp := ⟨f, fd, G, a.m, a.F.kp, a.b⟩
theorem FunC.ok {qual : Str} (F : FunC K x qual st f fd c) (S : FnScope N ps (defScope st)) (len : ∀ vs H Q E, sp vs H Q E → vs.length = ps.length)
    (hbody : ∀ (A : Around) (outer : List Env) (s : Shared) (H : Hp) (vs : List V) (Q : VK) (E : XK), Room k (A.deeper (envOfC qual (defScope st) s.heap.objs.size f (.ref c))) → sp vs H Q E →
      ∃ t, PSs (cxOf CX0 P w K mg base N qual (defScope st) f (.ref c) A outer s H E).nox (defBody st) t ∧ t { nx := fun _ H' => Q .non H', rt := Q } (start N vs) H) : FnOk P w K mg base CX0 (k + 1) f fd ps sp := by
  obtain ⟨oc, od, kV, doc, pm, an, ct, osl, rfl, lk, hcd⟩ := F.ex
  refine fn_of lk hcd S len fun A outer s H vs Q E hr hsp => ?_
  obtain ⟨t, h, q⟩ := hbody A outer s H vs Q E hr hsp
  exact ⟨t, h.nox, q⟩
theorem okRC {R : List D → D → Prop} (a : AtC K mg x st ps f fd c) (S : FnScope N ps (defScope st)) (hl : ∀ ds d, R ds d → ds.length = ps.length)
    (body : ∀ (A : Around) (outer : List Env) (s : Shared) (H : Hp) (E : XK) (ds : List D) (d : D) (Q : VK), Room k (A.deeper (envOfC x (defScope st) s.heap.objs.size f (.ref c))) → R ds d → Tbs T H → (∀ v H', Gr T [] H H' → Rep K H' d v → Q v H') →
      ∃ t, PSs (cxOf CX0 P w K mg base N x (defScope st) f (.ref c) A outer s H E).nox (defBody st) t ∧ Run K t { nx := fun _ H' => Q .non H', rt := Q } (ds.map (fun d => some (SD.d d)) ++ List.replicate (N.length - ds.length) none) H) : Ok P w K mg base (k + 1) x ps (spR T K R) := by
  refine a.ok (a.F.ok S (fun vs H Q E ⟨ds, d, hR, hr, _⟩ => by rw [hr.len]; exact hl ds d hR) fun A outer s H vs Q E hr ⟨ds, d, hR, rs, hT, q⟩ => ?_)
  obtain ⟨t, h1, h2⟩ := body A outer s H E ds d Q hr hR hT q
  refine ⟨t, h1, h2 _ ?_⟩
  unfold L2.start
  rw [rs.len]
  exact Slots.start _ rs
end
section
variable {T : Tb} {K : PySem.W.Frag} {δ : List (Option SD)} {H : Hp} {te : TE} {P : Addr}
theorem ev_allTx {z : Str} {pb : Nat → Bool} (h : EvD T K te δ H (.str z)) (hP : P ∈ T.g) (hl : ∀ p ∈ T.l, p.1 ≠ P) : EvD T K (GxR.tAllS P pb te) δ H (.bl (z.cps.toList.all pb)) := fun σ H1 g s Q q =>
  h σ H1 g s _ fun v H2 g2 r => ⟨z, r, g2.tbs.1 P hP, fun H3 t => q _ H3 (g2.trans (Gr.tab g2.tbs (g2.tbs.1 P hP) hl t)) rfl⟩
theorem ev_allT {ds : List D} {Pel : V → Hp → Bool → Prop} {bd : D → Bool} (h : EvD T K te δ H (.tup ds)) (hP : P ∈ T.g) (hl : ∀ p ∈ T.l, p.1 ≠ P) (he : ∀ d ∈ ds, ∀ v H1, Rep K H1 d v → Pel v H1 (bd d)) : EvD T K (tAllT K P Pel te) δ H (.bl (ds.all bd)) := fun σ H1 g s Q q =>
  h σ H1 g s _ fun v H2 g2 r => by
    obtain ⟨a, xs, e, hs, rs⟩ := r
    refine ⟨a, xs, fun i => (ds[i]?.map bd).getD true, e, hs, g2.tbs.1 P hP, fun i x hx => ?_, fun H3 t => ?_⟩
    · obtain ⟨d, hd, rd⟩ := rs.got hx
      show Pel x H2 ((Option.map bd ds[i]?).getD true)
      rw [hd]
      exact he d (List.mem_of_getElem? hd) x H2 rd
    · have e2 : (List.range xs.length).all (fun i => (ds[i]?.map bd).getD true) = ds.all bd := by
        rw [rs.len, Bool.eq_iff_iff, List.all_eq_true, List.all_eq_true]
        constructor
        · intro hh d hd
          obtain ⟨i, hi, rfl⟩ := List.getElem_of_mem hd
          have := hh i (List.mem_range.mpr hi)
          simpa [List.getElem?_eq_getElem hi] using this
        · intro hh i hi
          have hi' := List.mem_range.mp hi
          simpa [List.getElem?_eq_getElem hi'] using hh _ (List.getElem_mem hi')
      rw [e2]
      exact q _ H3 (g2.trans (Gr.tab g2.tbs (g2.tbs.1 P hP) hl t)) rfl
end
end Pd
namespace Pd
open PySem PySem.Spec PyProof.Rows L2
/-! ### what may change some lists (those of S, while J stands) and hands back something (p) -/
section
variable (T : Tb) (K : PySem.W.Frag) (S : List Addr) (J : Hp → Prop)
def EvX (te : TE) (δ : List (Option SD)) (H : Hp) (p : D → Prop) : Prop := ∀ σ H1, Gr T S H H1 → J H1 → Slots K H1 δ σ → ∀ Q : VK, (∀ d v H2, p d → Gr T S H1 H2 → J H2 → Rep K H2 d v → Q v H2) → te σ H1 Q
def ExT (tt : TT) (δ : List (Option SD)) (H : Hp) (p : Bool → Prop) : Prop := ∀ σ H1, Gr T S H H1 → J H1 → Slots K H1 δ σ → ∀ Q : Bool → Hp → Prop, (∀ b H2, p b → Gr T S H1 H2 → J H2 → Q b H2) → tt σ H1 Q
def ExA (ta : TA) (δ : List (Option SD)) (H : Hp) (p : List D → Prop) : Prop := ∀ σ H1, Gr T S H H1 → J H1 → Slots K H1 δ σ → ∀ Q : List V → Hp → Prop, (∀ ds vs H2, p ds → Gr T S H1 H2 → J H2 → Reps K H2 ds vs → Q vs H2) → ta σ H1 Q
def ExS (ta : TA) (δ : List (Option SD)) (H : Hp) (p : List SD → Prop) : Prop := ∀ σ H1, Gr T S H H1 → J H1 → Slots K H1 δ σ → ∀ Q : List V → Hp → Prop, (∀ ss vs H2, p ss → Gr T S H1 H2 → J H2 → ArgOk K H2 ss vs → Q vs H2) → ta σ H1 Q
def ExL (te : TE) (δ : List (Option SD)) (H : Hp) (p : List D → Prop) : Prop := ∀ σ H1, Gr T S H H1 → J H1 → Slots K H1 δ σ → ∀ Q : VK, (∀ ds l xs H2, p ds → H1 l = none → Gr T S H1 H2 → J H2 → H2 l = some (.lst xs) → Reps K H2 ds xs → Q (.ref l) H2) → te σ H1 Q
def OpSem (r : R2) (x y d : D) : Prop := ∀ v w H1, Tbs T H1 → Rep K H1 x v → Rep K H1 y w → ∀ Q : VK, (∀ u H2, Gr T [] H1 H2 → Rep K H2 d u → Q u H2) → r v w H1 Q
end
section
variable {T : Tb} {S : List Addr} {J : Hp → Prop} {K : PySem.W.Frag} {δ δ' : List (Option SD)} {H H' : Hp} {ta tb te : TE} {tt : TT} {x y d : D} {i j : Int} {p p1 p2 : D → Prop} {B : Ends} {t u : TS}
theorem EvX.imp (h : EvX T K S J te δ H p) (hp : ∀ d, p d → p1 d) : EvX T K S J te δ H p1 := fun σ H1 g j s Q q => h σ H1 g j s Q fun d v H2 pd => q d v H2 (hp d pd)
theorem EvX.up (h : EvX T K S J te δ H p) (g : Gr T S H H') : EvX T K S J te δ H' p := fun σ H1 a => h σ H1 (g.trans a)
theorem ExS.imp {ta : TA} {p p1 : List SD → Prop} (h : ExS T K S J ta δ H p) (hp : ∀ d, p d → p1 d) : ExS T K S J ta δ H p1 := fun σ H1 g j s Q q => h σ H1 g j s Q fun d v H2 pd => q d v H2 (hp d pd)
def Stays (T : Tb) (J : Hp → Prop) : Prop := ∀ H1 H2, Gr T [] H1 H2 → J H1 → J H2
theorem ex_pure (hJ : Stays T J) (h : ∀ H1, Gr T S H H1 → EvD T K te δ H1 d) : EvX T K S J te δ H (fun z => z = d) := fun σ H1 g j s Q q =>
  h H1 g σ H1 g.self s Q fun v H2 g2 r => q d v H2 rfl g2.any (hJ H1 H2 g2 j) r
theorem ex_op {r : R2} (hJ : Stays T J) (ha : EvX T K S J ta δ H p1) (hb : EvX T K S J tb δ H p2) (hr : ∀ x y, p1 x → p2 y → ∃ d, p d ∧ OpSem T K r x y d) : EvX T K S J (tOp r ta tb) δ H p := fun σ H1 g j s Q q =>
  ha σ H1 g j s _ fun x v H2 px g2 j2 rx => hb σ H2 (g.trans g2) j2 (s.up g2) _ fun y w H3 py g3 j3 ry => by
    obtain ⟨d, pd, op⟩ := hr x y px py
    exact op v w H3 g3.tbs (rx.up g3) ry Q fun u H4 g4 ru => q d u H4 pd ((g2.trans g3).trans g4.any) (hJ H3 H4 g4 j3) ru
theorem os_I0 {g : Int → Int → Int} : OpSem T K (rI0 fun i j => .int (g i j)) (.int i) (.int j) (.int (g i j)) := fun v w H1 hT e1 e2 Q q => ⟨i, j, e1, e2, q _ H1 (Gr.refl hT) rfl⟩
theorem os_I {C : Int → Int → Prop} {g : Int → Int → Int} (hc : C i j) : OpSem T K (rI C fun i j => .int (g i j)) (.int i) (.int j) (.int (g i j)) := fun v w H1 hT e1 e2 Q q => ⟨i, j, e1, e2, hc, q _ H1 (Gr.refl hT) rfl⟩
theorem os_B0 {g : Int → Int → Bool} : OpSem T K (rI0 fun i j => .bl (g i j)) (.int i) (.int j) (.bl (g i j)) := fun v w H1 hT e1 e2 Q q => ⟨i, j, e1, e2, q _ H1 (Gr.refl hT) rfl⟩
theorem os_eqI : OpSem T K rEq (.int i) (.int j) (.bl (decide (i = j))) := fun v w H1 hT e1 e2 Q q => by
  cases (show v = .int i from e1); cases (show w = .int j from e2)
  exact ⟨rfl, by have := q (.bl (decide (i = j))) H1 (Gr.refl hT) rfl; simpa using this⟩
theorem xa_nil : ExA T K S J tNil δ H (fun ds => ds = []) := fun σ H1 g j s Q q => q [] [] H1 rfl g.self j rfl
theorem xa_cons {tr : TA} {pr : List D → Prop} (h : EvX T K S J ta δ H p) (hr : ExA T K S J tr δ H pr) : ExA T K S J (tCons ta tr) δ H (fun ds => ∃ d r, ds = d :: r ∧ p d ∧ pr r) := fun σ H1 g j s Q q =>
  h σ H1 g j s _ fun d v H2 pd g2 j2 r => hr σ H2 (g.trans g2) j2 (s.up g2) _ fun ds vs H3 pds g3 j3 rs => q (d :: ds) (v :: vs) H3 ⟨d, ds, rfl, pd, pds⟩ (g2.trans g3) j3 ⟨v, vs, rfl, r.up g3, rs⟩
theorem xs_nil : ExS T K S J tNil δ H (fun ds => ds = []) := fun σ H1 g j s Q q => q [] [] H1 rfl g.self j rfl
theorem xs_d {tr : TA} {pr : List SD → Prop} (h : EvX T K S J ta δ H p) (hr : ExS T K S J tr δ H pr) : ExS T K S J (tCons ta tr) δ H (fun ds => ∃ d r, ds = .d d :: r ∧ p d ∧ pr r) := fun σ H1 g j s Q q =>
  h σ H1 g j s _ fun d v H2 pd g2 j2 r => hr σ H2 (g.trans g2) j2 (s.up g2) _ fun ds vs H3 pds g3 j3 rs => q (.d d :: ds) (v :: vs) H3 ⟨d, ds, rfl, pd, pds⟩ (g2.trans g3) j3 ⟨v, vs, rfl, Rep.up r g3, rs⟩
theorem xs_v {tr : TA} {pr : List SD → Prop} {v : V} (hJ : Stays T J) (h : ∀ H1, Gr T S H H1 → EvV T K ta δ H1 v) (hr : ExS T K S J tr δ H pr) : ExS T K S J (tCons ta tr) δ H (fun ds => ∃ r, ds = .v v :: r ∧ pr r) := fun σ H1 g j s Q q =>
  h H1 g σ H1 g.self s _ fun H2 g2 => hr σ H2 (g.trans g2.any) (hJ H1 H2 g2 j) (s.up g2) _ fun ds vs H3 pds g3 j3 rs => q (.v v :: ds) (v :: vs) H3 ⟨ds, rfl, pds⟩ (g2.any.trans g3) j3 ⟨v, vs, rfl, rfl, rs⟩
theorem ex_tup {ta : TA} {pa : List D → Prop} (hJ : Stays T J) (h : ExA T K S J ta δ H pa) (hl : ∀ ds, pa ds → ds.length ≤ 100000 ∧ p (.tup ds)) : EvX T K S J (tTup ta) δ H p := fun σ H1 g j s Q q =>
  h σ H1 g j s _ fun ds vs H2 pds g2 j2 rs => ⟨sz (by rw [rs.len]; exact (hl ds pds).1), fun b hb => by
    have gn : Gr T [] H2 (upd H2 b (.tup vs)) := Gr.new g2.tbs hb
    exact q (.tup ds) (.ref b) _ (hl ds pds).2 (g2.trans gn.any) (hJ _ _ gn j2) ⟨b, vs, rfl, .inl (.inl upd_same), rs.up gn⟩⟩
theorem ex_lst {ta : TA} {pa : List D → Prop} (hJ : Stays T J) (h : ExA T K S J ta δ H pa) (hl : ∀ ds, pa ds → ds.length ≤ 100000) : ExL T K S J (tLst ta) δ H pa := fun σ H1 g j s Q q =>
  h σ H1 g j s _ fun ds vs H2 pds g2 j2 rs => ⟨sz (by rw [rs.len]; exact hl ds pds), fun b hb => by
    have gn : Gr T [] H2 (upd H2 b (.lst vs)) := Gr.new g2.tbs hb
    exact q ds b vs _ pds (g2.dom b hb) (g2.trans gn.any) (hJ _ _ gn j2) upd_same (rs.up gn)⟩
theorem ex_ixL {pa : List D → Prop} (ha : ExL T K S J ta δ H pa) (hb : EvX T K S J tb δ H p2) (hr : ∀ ds y, pa ds → p2 y → ∃ i d, y = .int i ∧ atI ds i = some d ∧ p d) (hS : ∀ H1 l, J H1 → l ∈ S → H1 l ≠ none) : EvX T K S J (tOp (rIxL K) ta tb) δ H p := fun σ H1 g j s Q q =>
  ha σ H1 g j s _ fun ds l xs H2 pds nl g2 j2 el rs => hb σ H2 (g.trans g2) j2 (s.up g2) _ fun y w H3 py g3 j3 ry => by
    obtain ⟨i, d, rfl, e, pd⟩ := hr ds y pds py
    obtain ⟨v, hv, rv⟩ := atI_rep (rs.up g3) e
    have nS : l ∉ S := fun z => hS H1 l j z nl
    exact ⟨l, xs, i, v, rfl, ry, .inl (.inl (g3.lst el nS)), hv, q d v H3 pd (g2.trans g3) j3 rv⟩
/-! statements -/
theorem runx_asg {n : Nat} (hT : Tbs T H) (hj : J H) (h : EvX T K S J te δ H p) (k : ∀ d H1, p d → Gr T S H H1 → J H1 → Run K u B (δ.set n (some (.d d))) H1) : Run K (tSeq (tAsg te (gName n)) u) B δ H := fun σ s =>
  h σ H (Gr.refl hT) hj s _ fun d v H1 pd g j r => k d H1 pd g j _ ((s.up g).set n (show SlotOk K H1 (some (.d d)) (some v) from r))
theorem runx_asgG {g : TG} (hT : Tbs T H) (hj : J H) (h : EvX T K S J te δ H p) (k : ∀ d H1, p d → Gr T S H H1 → J H1 → ∃ δ' js, EvG T K g d δ H1 δ' js ∧ Run K u B δ' H1) : Run K (tSeq (tAsg te g) u) B δ H := fun σ s =>
  h σ H (Gr.refl hT) hj s _ fun d v H1 pd g j r => by
    obtain ⟨δ', js, hg, hk⟩ := k d H1 pd g j
    exact hg v σ H1 g.self r (s.up g) _ fun σ' s' _ => hk σ' s'
theorem runx_ret (hT : Tbs T H) (hj : J H) (h : EvX T K S J te δ H p) (k : ∀ d v H1, p d → Gr T S H H1 → J H1 → Rep K H1 d v → B.rt v H1) : Run K (tRet te) B δ H := fun σ s => h σ H (Gr.refl hT) hj s _ k
/-! ### lists by what stands in them -/
/-- a new list of just these -/
def EvN (T : Tb) (K : PySem.W.Frag) (te : TE) (δ : List (Option SD)) (H : Hp) (xs : List V) : Prop := ∀ σ H1, Gr T [] H H1 → Slots K H1 δ σ → ∀ Q : VK, (∀ l H2, H1 l = none → Gr T [] H1 H2 → H2 l = some (.lst xs) → Q (.ref l) H2) → te σ H1 Q
variable {v : V} {l : Addr} {xs ys : List V}
theorem ev_ofV {z : Int} (h : EvV T K te δ H (.int z)) : EvD T K te δ H (.int z) := fun σ H1 g s Q q => h σ H1 g s Q fun H2 g2 => q _ H2 g2 rfl
theorem ev_toV {z : Int} (h : EvD T K te δ H (.int z)) : EvV T K te δ H (.int z) := fun σ H1 g s Q q => h σ H1 g s Q fun v H2 g2 e => by cases (show v = .int z from e); exact q H2 g2
theorem ev_toS {z : Str} (h : EvD T K te δ H (.str z)) : EvV T K te δ H (.str z) := fun σ H1 g s Q q => h σ H1 g s Q fun v H2 g2 e => by cases (show v = .str z from e); exact q H2 g2
theorem ev_ixV (ha : EvV T K ta δ H (.ref l)) (hb : EvD T K tb δ H (.int i)) (hl : H l = some (.lst xs)) (h : atI xs i = some v) : EvV T K (tOp (rIxL K) ta tb) δ H v := fun σ H1 g s Q q =>
  ha σ H1 g s _ fun H2 g2 => hb σ H2 (g.trans g2) (s.up g2) _ fun w H3 g3 e => ⟨l, xs, i, v, rfl, e, .inl (.inl (((g.trans g2).trans g3).lst hl (by simp))), h, q H3 (g2.trans g3)⟩
theorem ev_ixI {z : Int} (ha : EvV T K ta δ H (.ref l)) (hb : EvD T K tb δ H (.int i)) (hl : H l = some (.lst xs)) (h : atI xs i = some (.int z)) : EvD T K (tOp (rIxL K) ta tb) δ H (.int z) := ev_ofV (ev_ixV ha hb hl h)
theorem en_one (h : EvV T K te δ H v) : EvN T K (tLst (tCons te tNil)) δ H [v] := fun σ H1 g s Q q =>
  h σ H1 g s _ fun H2 g2 => ⟨sz (by simp), fun b hb => q b _ (g2.dom b hb) (g2.trans (Gr.new g2.tbs hb)) upd_same⟩
theorem en_cat (ha : EvV T K ta δ H (.ref l)) (hb : EvN T K tb δ H ys) (hl : H l = some (.lst xs)) (hz : xs.length + ys.length ≤ 100000) : EvN T K (tOp rCat ta tb) δ H (xs ++ ys) := fun σ H1 g s Q q =>
  ha σ H1 g s _ fun H2 g2 => hb σ H2 (g.trans g2) (s.up g2) _ fun m H3 nm g3 hm => ⟨l, m, xs, ys, rfl, rfl, ((g.trans g2).trans g3).lst hl (by simp), hm, sz hz, fun b hb => q b _ (g2.dom b (g3.dom b hb)) ((g2.trans g3).trans (Gr.new g3.tbs hb)) upd_same⟩
theorem ev_ixN (ha : EvN T K ta δ H xs) (hb : EvD T K tb δ H (.int i)) (h : atI xs i = some v) : EvV T K (tOp (rIxL K) ta tb) δ H v := fun σ H1 g s Q q =>
  ha σ H1 g s _ fun m H2 nm g2 hm => hb σ H2 (g.trans g2) (s.up g2) _ fun w H3 g3 e => ⟨m, xs, i, v, rfl, e, .inl (.inl (g3.lst hm (by simp))), h, q H3 (g2.trans g3)⟩
theorem run_setL {to ti : TE} {n : Nat} (hT : Tbs T H) (h : EvV T K te δ H v) (ho : EvV T K to δ H (.ref l)) (hi : EvD T K ti δ H (.int i)) (hl : H l = some (.lst xs)) (hx : ixN xs.length i = some n)
    (k : ∀ H1, Gr T [] H H1 → H1 l = some (.lst xs) → Run K u B δ (upd H1 l (.lst (xs.set n v)))) : Run K (tSeq (tAsg te (gSub to ti rSetL)) u) B δ H := fun σ s =>
  h σ H (Gr.refl hT) s _ fun H1 g1 => ho σ H1 g1 (s.up g1) _ fun H2 g2 => hi σ H2 (g1.trans g2) ((s.up g1).up g2) _ fun w H3 g3 e => by
    have g := (g1.trans g2).trans g3
    have hl3 := g.lst hl (by simp)
    have gp : Gr T [l] H3 (upd H3 l (.lst (xs.set n v))) := (Gr.refl g.tbs).put hl3 (.inl (by simp))
    exact ⟨l, xs, i, n, rfl, e, hl3, hx, k H3 g hl3 σ ((s.up g).up gp)⟩
theorem run_app {tl te : TE} (hT : Tbs T H) (hl : EvV T K tl δ H (.ref l)) (h : EvV T K te δ H v) (e : H l = some (.lst xs)) (hz : xs.length < 50000)
    (k : ∀ H1, Gr T [] H H1 → H1 l = some (.lst xs) → Run K u B δ (upd H1 l (.lst (xs ++ [v])))) : Run K (tSeq (tDrop (tBM K "list" rAppend tl (tCons te tNil))) u) B δ H := fun σ s =>
  hl σ H (Gr.refl hT) s _ fun H1 g1 => ⟨.inl ⟨rfl, xs, .inl (.inl (g1.lst e (by simp)))⟩, h σ H1 g1 (s.up g1) _ fun H2 g2 => by
    have g := g1.trans g2
    have hl3 := g.lst e (by simp)
    have gp : Gr T [l] H2 (upd H2 l (.lst (xs ++ [v]))) := (Gr.refl g.tbs).put hl3 (.inl (by simp))
    exact ⟨l, xs, v, rfl, rfl, hl3, Nat.lt_trans hz (by decide), k H2 g hl3 σ ((s.up g).up gp)⟩⟩
/-- a datum is appended -/
theorem run_appD {tl te : TE} (hT : Tbs T H) (hl : EvV T K tl δ H (.ref l)) (h : EvD T K te δ H d) (e : H l = some (.lst xs)) (hz : xs.length < 50000)
    (k : ∀ v H1, Gr T [] H H1 → H1 l = some (.lst xs) → Rep K H1 d v → Run K u B δ (upd H1 l (.lst (xs ++ [v])))) : Run K (tSeq (tDrop (tBM K "list" rAppend tl (tCons te tNil))) u) B δ H := fun σ s =>
  hl σ H (Gr.refl hT) s _ fun H1 g1 => ⟨.inl ⟨rfl, xs, .inl (.inl (g1.lst e (by simp)))⟩, h σ H1 g1 (s.up g1) _ fun v H2 g2 r => by
    have g := g1.trans g2
    have hl3 := g.lst e (by simp)
    have gp : Gr T [l] H2 (upd H2 l (.lst (xs ++ [v]))) := (Gr.refl g.tbs).put hl3 (.inl (by simp))
    exact ⟨l, xs, v, rfl, rfl, hl3, Nat.lt_trans hz (by decide), k v H2 g hl3 r σ ((s.up g).up gp)⟩⟩
theorem Rep.put {o : HO} (h : Rep K H d v) (hl : H l = some (.lst xs)) (hT : Tbs T H) : Rep K (upd H l o) d v := h.up ((Gr.refl (T := T) (S := [l]) hT).put hl (.inl (by simp)))
theorem Reps.put {o : HO} {ds : List D} (h : Reps K H ds ys) (hl : H l = some (.lst xs)) (hT : Tbs T H) : Reps K (upd H l o) ds ys := h.up ((Gr.refl (T := T) (S := [l]) hT).put hl (.inl (by simp)))
theorem Gr.sqL {c : Addr} (g : Gr T [] H H') (h : SqL K H c xs) : SqL K H' c xs := by
  rcases h with (h | ⟨o, h⟩) | h
  · exact .inl (.inl (g.lst h (by simp)))
  · exact .inl (.inr ⟨o, g.fast _ _ h trivial⟩)
  · exact .inr h
/-- a list of ints that stands at c -/
theorem ei_ints {c : Addr} {ns : List Int} {tl : TE} (h : EvV T K tl δ H (.ref c)) (hs : SqL K H c (ns.map V.int)) : EvI T K [] (iList K tl) δ H (ns.map D.int) := fun σ H1 g s R q =>
  h σ H1 g s _ fun H2 g2 => by
    have hs2 := g2.sqL (g.sqL hs)
    refine ⟨c, rfl, ⟨_, hs2⟩, q _ H2 g2 ?_⟩
    rw [List.length_map, ← List.length_map (f := V.int)]
    refine (walk_list (K := K) (a := c) (xs := ns.map V.int)).mono (fun H' g' => g'.sqL hs2) fun i Ha x Hb hi g' y => ?_
    obtain ⟨e1, e2⟩ := y
    subst e1
    rw [List.getElem?_map] at e2
    cases e : ns[i]? with
    | none => rw [e] at e2; cases e2
    | some n => rw [e] at e2; cases e2; exact ⟨g'.self, .int n, by rw [List.getElem?_map, e]; rfl, rfl⟩
def rListOf (K : PySem.W.Frag) : List V → Hp → VK → Prop := fun xs H Q => ∃ p ys, xs = [.ref p] ∧ (SqL K H p ys ∨ SqT K H p ys) ∧ ∀ l, H l = none → Q (.ref l) (upd H l (.lst ys))
theorem cr_list {X : Cx} : CallR X (.type "list") (rListOf X.K) := call_list_of
theorem ext_test {pb : Bool → Prop} (h : EvX T K S J te δ H p) (hp : ∀ d, p d → ∃ b, d = .bl b ∧ pb b) : ExT T K S J (tTest te) δ H pb := fun σ H1 g j s Q q => h σ H1 g j s _ fun d v H2 pd g2 j2 r => by
  obtain ⟨b, rfl, pb⟩ := hp d pd
  exact ⟨b, r, q b H2 pb g2 j2⟩
theorem ex_if {pb : Bool → Prop} (h : ExT T K S J tt δ H pb) (h1 : EvX T K S J ta δ H p) (h2 : EvX T K S J tb δ H p) : EvX T K S J (tIf tt ta tb) δ H p := fun σ H1 g j s Q q => h σ H1 g j s _ fun b H2 _ g2 j2 => by
  cases b with
  | true => exact (show ta σ H2 Q from h1 σ H2 (g.trans g2) j2 (s.up g2) Q fun d v H3 pd g3 j3 r => q d v H3 pd (g2.trans g3) j3 r)
  | false => exact (show tb σ H2 Q from h2 σ H2 (g.trans g2) j2 (s.up g2) Q fun d v H3 pd g3 j3 r => q d v H3 pd (g2.trans g3) j3 r)
theorem ex_min2 {ta tb : TE} (hJ : Stays T J) (ha : EvX T K S J ta δ H p1) (hb : EvX T K S J tb δ H p2) (hr : ∀ x y, p1 x → p2 y → ∃ i j, x = .int i ∧ y = .int j ∧ p (.int (min i j))) : EvX T K S J (tCB rMin2 (tCons ta (tCons tb tNil))) δ H p := fun σ H1 g j s Q q =>
  ha σ H1 g j s _ fun x v H2 px g2 j2 rx => hb σ H2 (g.trans g2) j2 (s.up g2) _ fun y w H3 py g3 j3 ry => by
    obtain ⟨i, k, rfl, rfl, pm⟩ := hr x y px py
    cases (show v = .int i from rx); cases (show w = .int k from ry)
    refine ⟨i, k, rfl, ?_⟩
    have e : (if k < i then k else i) = min i k := by omega
    rw [e]; exact q _ _ H3 pm (g2.trans g3) j3 rfl
theorem Gr.drop {l : Addr} (a : Gr T S H H') {H2 : Hp} (b : Gr T (l :: S) H' H2) (h : H l = none) : Gr T S H H2 :=
  ⟨fun c o n e q => by
      have nc : c ≠ l := fun z => by subst z; rw [h] at e; cases e
      exact b.keep c o (fun z => (List.mem_cons.mp z).elim nc n) (a.keep c o n e q) q,
    fun c o e q => b.fast c o (a.fast c o e q) q, fun c e => a.dom c (b.dom c e), b.tbs⟩
end
end Pd
namespace Pd
open PySem L2
/-! ### houses -/
mutual
inductive House where
  | out (n : Str)
  | room (hand : Int) (ds : Doors)
inductive Doors where
  | nil
  | cons (need stands : Int) (h : House) (r : Doors)
end
mutual
def House.toD : House → D
  | .out n => .str n
  | .room hand ds => .tup [.int hand, .tup ds.toDs]
def Doors.toDs : Doors → List D
  | .nil => []
  | .cons need stands h r => .tup [.int need, .int stands, h.toD] :: r.toDs
end
def Doors.len : Doors → Nat
  | .nil => 0
  | .cons _ _ _ r => r.len + 1
def Doors.app : Doors → Doors → Doors
  | .nil, b => b
  | .cons n s h r, b => .cons n s h (r.app b)
theorem Doors.toDs_app : ∀ a b : Doors, (a.app b).toDs = a.toDs ++ b.toDs
  | .nil, b => by simp [Doors.app, Doors.toDs]
  | .cons n s h r, b => by simp [Doors.app, Doors.toDs, Doors.toDs_app r b]
theorem Doors.len_app : ∀ a b : Doors, (a.app b).len = a.len + b.len
  | .nil, b => by simp [Doors.app, Doors.len]
  | .cons n s h r, b => by simp only [Doors.app, Doors.len, Doors.len_app r b]; omega
theorem Doors.toDs_len : ∀ a : Doors, a.toDs.length = a.len
  | .nil => rfl
  | .cons _ _ _ r => by simp [Doors.toDs, Doors.len, Doors.toDs_len r]
/-- a name that a way out may have -/
def okName (n : Str) : Prop := 1 ≤ n.length ∧ n.length ≤ 6 ∧ ∀ c ∈ n.cps.toList, 97 ≤ c ∧ c ≤ 122
instance (n : Str) : Decidable (okName n) := by unfold okName; infer_instance
mutual
def House.many : House → Nat
  | .out _ => 0
  | .room _ ds => ds.many
def Doors.many : Doors → Nat
  | .nil => 0
  | .cons _ _ h r => 1 + h.many + r.many
end
mutual
def House.ok : House → Prop
  | .out n => okName n
  | .room hand ds => 0 ≤ hand ∧ hand < ds.len ∧ ds.len ≤ 4 ∧ ds.ok
def Doors.ok : Doors → Prop
  | .nil => True
  | .cons need stands h r => 1 ≤ need ∧ need ≤ 99 ∧ 0 ≤ stands ∧ stands ≤ need ∧ h.ok ∧ r.ok
end
mutual
def House.deep : House → Nat
  | .out _ => 0
  | .room _ ds => ds.deep + 1
def Doors.deep : Doors → Nat
  | .nil => 0
  | .cons _ _ h r => max h.deep r.deep
end
theorem Doors.ok_app : ∀ a b : Doors, a.ok → b.ok → (a.app b).ok
  | .nil, b, _, h => h
  | .cons n s h r, b, ⟨h1, h2, h3, h4, h5, h6⟩, hb => ⟨h1, h2, h3, h4, h5, Doors.ok_app r b h6 hb⟩
theorem Doors.many_app : ∀ a b : Doors, (a.app b).many = a.many + b.many
  | .nil, b => by simp [Doors.app, Doors.many]
  | .cons n s h r, b => by simp only [Doors.app, Doors.many, Doors.many_app r b]; omega
theorem Doors.len_le : ∀ a : Doors, a.len ≤ a.many
  | .nil => Nat.le_refl _
  | .cons _ _ h r => by have := Doors.len_le r; simp only [Doors.len, Doors.many]; omega
mutual
theorem House.deep_le : ∀ h : House, h.ok → h.deep ≤ h.many
  | .out _, _ => Nat.le_refl _
  | .room hand .nil, ⟨h0, h1, _⟩ => by exfalso; simp [Doors.len] at h1; omega
  | .room hand (.cons n s h r), ⟨h0, h1, h2, h3⟩ => by
    have := Doors.deep_le (.cons n s h r) h3
    simp only [House.deep, House.many, Doors.deep, Doors.many] at this ⊢
    have a := House.deep_le h h3.2.2.2.2.1
    have b := Doors.deep_le r h3.2.2.2.2.2
    omega
theorem Doors.deep_le : ∀ ds : Doors, ds.ok → ds.deep ≤ ds.many
  | .nil, _ => Nat.le_refl _
  | .cons n s h r, h3 => by
    have a := House.deep_le h h3.2.2.2.2.1
    have b := Doors.deep_le r h3.2.2.2.2.2
    simp only [Doors.deep, Doors.many]
    omega
end
/-- the i-th -/
def Doors.get? : Doors → Nat → Option (Int × Int × House)
  | .nil, _ => none
  | .cons n s h _, 0 => some (n, s, h)
  | .cons _ _ _ r, i + 1 => r.get? i
theorem Doors.get_some : ∀ (ds : Doors) (i : Nat), i < ds.len → ∃ n s h, ds.get? i = some (n, s, h)
  | .nil, _, h => absurd h (Nat.not_lt_zero _)
  | .cons n s h _, 0, _ => ⟨n, s, h, rfl⟩
  | .cons _ _ _ r, i + 1, h => Doors.get_some r i (Nat.lt_of_succ_lt_succ h)
theorem Doors.get_toDs : ∀ (ds : Doors) (i : Nat), ds.toDs[i]? = (ds.get? i).map fun x => .tup [.int x.1, .int x.2.1, x.2.2.toD]
  | .nil, _ => by simp [Doors.toDs, Doors.get?]
  | .cons n s h _, 0 => rfl
  | .cons _ _ _ r, i + 1 => by simpa [Doors.toDs, Doors.get?] using Doors.get_toDs r i
theorem Doors.get_ok : ∀ (ds : Doors) (i : Nat) {n s : Int} {h : House}, ds.ok → ds.get? i = some (n, s, h) → 1 ≤ n ∧ n ≤ 99 ∧ 0 ≤ s ∧ s ≤ n ∧ h.ok
  | .nil, _, _, _, _, _, e => nomatch e
  | .cons _ _ _ _, 0, _, _, _, ⟨h1, h2, h3, h4, h5, _⟩, e => by cases e; exact ⟨h1, h2, h3, h4, h5⟩
  | .cons _ _ _ r, i + 1, _, _, _, ⟨_, _, _, _, _, h6⟩, e => Doors.get_ok r i h6 e
theorem Doors.get_deep : ∀ (ds : Doors) (i : Nat) {n s : Int} {h : House}, ds.get? i = some (n, s, h) → h.deep ≤ ds.deep
  | .nil, _, _, _, _, e => nomatch e
  | .cons _ _ h r, 0, _, _, _, e => by cases e; exact Nat.le_max_left _ _
  | .cons _ _ h r, i + 1, _, _, _, e => Nat.le_trans (Doors.get_deep r i e) (Nat.le_max_right _ _)
/-- another one there -/
def Doors.set : Doors → Nat → Int → Int → House → Doors
  | .nil, _, _, _, _ => .nil
  | .cons _ _ _ r, 0, n, s, h => .cons n s h r
  | .cons a b c r, i + 1, n, s, h => .cons a b c (r.set i n s h)
theorem Doors.toDs_set : ∀ (ds : Doors) (i : Nat) (n s : Int) (h : House), (ds.set i n s h).toDs = ds.toDs.set i (.tup [.int n, .int s, h.toD])
  | .nil, _, _, _, _ => rfl
  | .cons _ _ _ _, 0, _, _, _ => rfl
  | .cons _ _ _ r, i + 1, n, s, h => by simp [Doors.set, Doors.toDs, Doors.toDs_set r i n s h]
theorem Doors.len_set : ∀ (ds : Doors) (i : Nat) (n s : Int) (h : House), (ds.set i n s h).len = ds.len
  | .nil, _, _, _, _ => rfl
  | .cons _ _ _ _, 0, _, _, _ => rfl
  | .cons _ _ _ r, i + 1, n, s, h => by simp [Doors.set, Doors.len, Doors.len_set r i n s h]
end Pd
namespace Pd
open PySem PySem.Spec PyProof.Rows L2
section
variable {P : Program} {w : World} {K : PySem.W.Frag} {mg : Str → Option Value} {base : Heap} {T : Tb} {f : Addr} {fd : FuncData}
theorem genS_by {env : Env} {scope : Scope} {x : Str} (h1 : scope.kind = .function) (h2 : scope.isCoroutine = false) (h3 : (scope.names.all fun y => !decide (y.2 = .cell) && !decide (y.2 = .free)) = true) (h4 : scope.names.lookup (".0" : Str) = some NameKind.local) (h5 : scope.names.lookup x = some .local) : GxR.GenS env scope x := by
  simp only [List.all_eq_true, Bool.and_eq_true, Bool.not_eq_true', decide_eq_false_iff_not] at h3
  exact ⟨h1, h2, fun y hy => (h3 y hy).1, h4, h5, fun y hy e => absurd e (h3 y hy).2⟩
def RWay (ds : List D) (d : D) : Prop := ∃ x, ds = [x] ∧ d = .bl (isStr x)
theorem ok_way (B : Bl mg) (a : At K mg "is_way_out" s_is_way_out ["room"] f fd) : Ok P w K mg base 1 "is_way_out" ["room"] (spR T K RWay) := by
  refine okR a sc_is_way_out (fun ds d ⟨_, e, _⟩ => by rw [e]; rfl) fun cdv A outer s H E ds d Q hr hR hT q => ⟨_, (pss_one (ps_ret (pe_callB call_isi (by rfl) B.isinstance (by decide +kernel) (pa_cons (pv 0) (pa_cons (pe_bltn (v := .ty "str") (by rfl) B.str (by decide +kernel) rfl) pa_nil))))), ?_⟩
  obtain ⟨x, rfl, rfl⟩ := hR
  exact run_ret hT (ev_isStr (ev_var rfl)) q
theorem letters_eq : ("abcdefghijklmnopqrstuvwxyz" : Str).cps.toList = List.range' 97 26 := by decide +kernel
theorem okName.all {z : Str} (h : okName z) : z.cps.toList.all (fun c => decide (c ∈ ("abcdefghijklmnopqrstuvwxyz" : Str).cps.toList)) = true := by
  rw [List.all_eq_true]
  intro c hc
  obtain ⟨h1, h2⟩ := h.2.2 c hc
  rw [letters_eq, decide_eq_true_eq, List.mem_range'_1]
  omega
def RName (ds : List D) (d : D) : Prop := ∃ z, ds = [.str z] ∧ okName z ∧ d = .bl true
theorem ok_isname {c Pt : Addr} (B : Bl mg) (TB : GxR.TabB base mg c Pt) (hP : Pt ∈ T.g) (hl : ∀ p ∈ T.l, p.1 ≠ Pt) (a : AtC K mg "is_name" s_is_name ["text"] f fd c) : Ok P w K mg base 1 "is_name" ["text"] (spR T K RName) := by
  refine okRC a sc_is_name (fun ds d ⟨_, e, _⟩ => by rw [e]; rfl) fun A outer s H E ds d Q hr hR hT q => ⟨_, (pss_one (ps_ret (pe_and (pe_chain op_le op_le pe_int (pe_callB cr_lenS (by rfl) B.len (by decide +kernel) (pa_cons (pv 0) pa_nil)) (pe_cstI (by rfl) B.LONGEST_NAME)) (pe_one
    (pe_allTx hr (by rfl) B.all (by decide +kernel) TB rfl (genS_by rfl rfl (by decide +kernel) rfl rfl) (pv 0) (fun pins σ H s1 I hP cc t => quiet_letter I hP rfl rfl rfl B.LETTERS (by decide) (by decide) cc t) (fun _ => rfl)))))), ?_⟩
  obtain ⟨z, rfl, hz, rfl⟩ := hR
  refine run_ret hT ((ev_andV (ev_chain ev_int (ev_lenS (ev_var rfl) (by have := hz.2.1; omega)) ev_int) fun _ => ev_allTx (ev_var rfl) hP hl).is ?_) q
  rw [hz.all]
  have h1 := hz.1
  have h2 := hz.2.1
  simp
  omega
end
end Pd
namespace Pd
open PySem PySem.Spec PyProof.Rows L2
section
variable {T : Tb} {S : List Addr} {K : PySem.W.Frag} {δ δ' : List (Option SD)} {H H' : Hp} {te to tb : TE} {u : TS} {B : Ends} {d : D} {l : Addr} {xs : List V} {js : List Nat}
/-- is a list empty -/
theorem et_truL (h : EvV T K te δ H (.ref l)) (e : H l = some (.lst xs)) : EvT T K (fun σ H Q => te σ H fun x H' => ∃ k, TruV K x H' k ∧ Q k H') δ H (!xs.isEmpty) := fun σ H1 g s Q q =>
  h σ H1 g s _ fun H2 g2 => ⟨_, .inl ⟨xs, .inl (.inl (g2.lst (g.lst e (by simp)) (by simp))), rfl⟩, q H2 g2⟩
/-- target = list.pop() -/
theorem run_popG {g : TG} {y : V} (hT : Tbs T H) (ho : EvV T K to δ H (.ref l)) (e : H l = some (.lst (xs ++ [y]))) (r : Rep K H d y) (hg : ∀ H1, EvG T K g d δ H1 δ' js)
    (k : ∀ H1, Gr T [] H H1 → H1 l = some (.lst (xs ++ [y])) → Run K u B δ' (upd H1 l (.lst xs))) : Run K (tSeq (tAsg (tBM0 K "list" rPop to) g) u) B δ H := fun σ s =>
  ho σ H (Gr.refl hT) s _ fun H1 g1 => by
    have el := g1.lst e (by simp)
    have gp : Gr T [l] H1 (upd H1 l (.lst xs)) := (Gr.refl g1.tbs).put el (.inl (by simp))
    refine ⟨.inl ⟨rfl, _, .inl (.inl el)⟩, l, _, y, rfl, rfl, el, by simp, ?_⟩
    rw [List.dropLast_concat]
    exact hg _ y σ _ (Gr.refl gp.tbs) ((r.up g1).up gp) ((s.up g1).up gp) _ fun σ' s' _ => k H1 g1 el σ' s'
/-- a.extend(b[::-1]) -/
theorem run_extR {b : Addr} {ys : List V} (hT : Tbs T H) (ho : EvV T K to δ H (.ref l)) (hb : EvV T K tb δ H (.ref b)) (e : H l = some (.lst xs)) (e2 : H b = some (.lst ys)) (hz : xs.length + ys.length ≤ 50000)
    (k : ∀ H1, Gr T [] H H1 → H1 l = some (.lst xs) → Run K u B δ (upd H1 l (.lst (xs ++ ys.reverse)))) : Run K (tSeq (tDrop (tBM K "list" rExtend to (tCons (tRevL K tb) tNil))) u) B δ H := fun σ s =>
  ho σ H (Gr.refl hT) s _ fun H1 g1 => ⟨.inl ⟨rfl, _, .inl (.inl (g1.lst e (by simp)))⟩, hb σ H1 g1 (s.up g1) _ fun H2 g2 => ⟨b, ys, rfl, .inl (.inl ((g1.trans g2).lst e2 (by simp))), fun p hp => by
    have gn : Gr T [] H2 (upd H2 p (.lst ys.reverse)) := Gr.new g2.tbs hp
    have g := (g1.trans g2).trans gn
    have el := g.lst e (by simp)
    have gp : Gr T [l] (upd H2 p (.lst ys.reverse)) (upd (upd H2 p (.lst ys.reverse)) l (.lst (xs ++ ys.reverse))) := (Gr.refl g.tbs).put el (.inl (by simp))
    exact ⟨l, p, xs, ys.reverse, rfl, rfl, el, upd_same, by rw [List.length_reverse]; exact Nat.le_trans hz (by decide), k _ g el σ ((s.up g).up gp)⟩⟩⟩
end
end Pd
namespace Pd
open PySem PySem.Spec PyProof.Rows L2
/-! ### rules whose readings name K itself (for blocks of comprehensions) -/
section
variable {X : Cx} {K : PySem.W.Frag}
theorem pgTup {es : List Expr} {k n : Nat} {t : TGs} {pos : Pos} (h : PGs X es t) (hK : X.K = K := by rfl) (hc : X.calm = true := by rfl)
    (hn : (assignEach es X.env).length = n := by rfl) (hst : (assignEach es X.env).findIdx? (·.1) = none := by rfl) : PG X (.Tuple es k pos) (gTup K n t) := hK ▸ pg_tup hc h hn hst
theorem pgUnl {es : List Expr} {k n : Nat} {t : TGs} {pos : Pos} (h : PGs X es t) (hK : X.K = K := by rfl) (hc : X.calm = true := by rfl)
    (hn : (assignEach es X.env).length = n := by rfl) (hst : (assignEach es X.env).findIdx? (·.1) = none := by rfl) : PG X (.Tuple es k pos) (gUnl K n t) := hK ▸ pg_unl hc h hn hst
theorem ixTup (hK : X.K = K := by rfl) : IxR X (rIxT K) := hK ▸ ix_tup
theorem ixLst (hK : X.K = K := by rfl) : IxR X (rIxL K) := hK ▸ ix_list
theorem catA (hK : X.K = K := by rfl) : OpR X (binaryOp .Add) (rCatA K) := hK ▸ op_catA
theorem slTup (hK : X.K = K := by rfl) : SlR X (rSlA K) := hK ▸ sl_tupA
theorem crLen (hK : X.K = K := by rfl) : CallR X (.builtin "len") (rLenS K) := hK ▸ cr_len
theorem crIsi (hK : X.K = K := by rfl) : CallR X (.builtin "isinstance") (rIsi K) := hK ▸ call_isi
theorem crTup (hK : X.K = K := by rfl) : CallR X (.type "tuple") (rTupOf K) := hK ▸ cr_tup
theorem crLst (hK : X.K = K := by rfl) : CallR X (.type "list") (rListOf K) := hK ▸ cr_list
theorem piTup {tg l : Expr} {tl : TE} (hl : PE X l tl) (hK : X.K = K := by rfl) : PI X tg l (iTup K tl) := hK ▸ pi_tup hl
theorem piLst {tg l : Expr} {tl : TE} (hl : PE X l tl) (hK : X.K = K := by rfl) : PI X tg l (iList K tl) := hK ▸ pi_list hl
end
end Pd
namespace Pd
open PySem PySem.Spec PyProof.Rows L2
theorem House.isStr_out (n : Str) : isStr (House.out n).toD = true := rfl
theorem House.isStr_room (hand : Int) (ds : Doors) : isStr (House.room hand ds).toD = false := rfl
/-- the rooms behind a room, with their paths -/
def Doors.behind (p : List D) : Doors → Nat → List (List D × House)
  | .nil, _ => []
  | .cons _ _ h r, k => (p ++ [.int (k : Nat)], h) :: r.behind p (k + 1)
def House.behind (p : List D) : House → List (List D × House)
  | .out _ => []
  | .room _ ds => ds.behind p 0
def toPend (x : List D × House) : D := .tup [.tup x.1, x.2.toD]
theorem Doors.behind_get (p : List D) : ∀ (ds : Doors) (k i : Nat), (ds.behind p k)[i]? = (ds.get? i).map fun x => (p ++ [.int ((k + i : Nat) : Int)], x.2.2)
  | .nil, _, _ => by simp [Doors.behind, Doors.get?]
  | .cons n s h r, k, 0 => rfl
  | .cons n s h r, k, i + 1 => by
    show (r.behind p (k + 1))[i]? = _
    rw [Doors.behind_get p r (k + 1) i, show k + 1 + i = k + (i + 1) by omega]; rfl
theorem Doors.behind_len (p : List D) : ∀ (ds : Doors) (k : Nat), (ds.behind p k).length = ds.len
  | .nil, _ => rfl
  | .cons _ _ _ r, k => congrArg (· + 1) (Doors.behind_len p r (k + 1))
section
variable {P : Program} {w : World} {K : PySem.W.Frag} {mg : Str → Option Value} {base : Heap} {T : Tb} {f : Addr} {fd : FuncData}
def RCan (ds : List D) (d : D) : Prop := ∃ h : House, ds = [h.toD] ∧ h.ok ∧ d = .bl true
/-- what is_door is asked of -/
def PelDoor (K : PySem.W.Frag) (v : V) (H : Hp) (b : Bool) : Prop := ∃ (a : Addr) (n s : Int) (r : V), v = .ref a ∧ SqT K H a [.int n, .int s, r] ∧ b = doorOk n s
def bdDoor : D → Bool
  | .tup [.int n, .int s, _] => doorOk n s
  | _ => false
theorem Doors.all_ok : ∀ ds : Doors, ds.ok → ds.toDs.all bdDoor = true
  | .nil, _ => by simp [Doors.toDs]
  | .cons n s h r, ⟨h1, h2, h3, h4, _, h6⟩ => by
    simp only [Doors.toDs, List.all_cons, Bool.and_eq_true]
    refine ⟨?_, Doors.all_ok r h6⟩
    show doorOk n s = true
    unfold doorOk
    simp [h1, h2, h3, h4]
theorem Doors.mem_toDs : ∀ (ds : Doors) (d : D), d ∈ ds.toDs → ∃ n s r, d = .tup [.int n, .int s, r]
  | .nil, d, h => by simp [Doors.toDs] at h
  | .cons n s h r, d, hd => by
    simp only [Doors.toDs, List.mem_cons] at hd
    rcases hd with rfl | hd
    · exact ⟨n, s, _, rfl⟩
    · exact Doors.mem_toDs r d hd
theorem ok_canbe {c Pt : Addr} {fdoor : Addr} {fddoor : FuncData} (B : Bl mg) (TB : GxR.TabB base mg c Pt) (hP : Pt ∈ T.g) (hl : ∀ p ∈ T.l, p.1 ≠ Pt) (a : AtC K mg "can_be" s_can_be ["room"] f fd c) (Dr : At K mg "is_door" s_is_door ["door"] fdoor fddoor)
    (G_is_way_out : Ok P w K mg base 1 "is_way_out" ["room"] (spR T K RWay)) (G_is_name : Ok P w K mg base 1 "is_name" ["text"] (spR T K RName)) : Ok P w K mg base 2 "can_be" ["room"] (spR T K RCan) := by
  refine okRC a sc_can_be (fun ds d ⟨_, e, _⟩ => by rw [e]; rfl) fun A outer s H E ds d Q hr hR hT q => ⟨_, (pss_cons (ps_if (pt_val (pe_own G_is_way_out hr (by decide) (by rfl) (pa_cons (pv 0) pa_nil))) (pss_one (ps_ret (pe_own G_is_name hr (by decide) (by rfl) (pa_cons (pv 0) pa_nil)))) pss_nil)
    (pss_cons (ps_asg (pv 0) (pg_tup rfl (pgs_cons (pg_name (i := 1) sc_can_be.nd rfl (Or.inl rfl)) (pgs_cons (pg_name (i := 2) sc_can_be.nd rfl (Or.inl rfl)) pgs_nil))))
    (pss_cons (ps_if (PW.pt (pw_or (pt_not (pt_chain op_le op_le pe_int (pe_callB cr_len (by rfl) B.len (by decide +kernel) (pa_cons (pv 2) pa_nil)) (pe_cstI (by rfl) B.MOST_DOORS_OF_A_ROOM))) (pw_or1 (pt_not (pt_chain op_le op_lt pe_int (pv 1) (pe_callB cr_len (by rfl) B.len (by decide +kernel) (pa_cons (pv 2) pa_nil))))))) (pss_one (ps_ret pe_bl)) pss_nil)
    (pss_one (ps_ret (pe_allTup (Pel := PelDoor K) hr (by rfl) B.all (by decide +kernel) TB rfl (genS_by rfl rfl (by decide +kernel) rfl rfl) (pv 2) (fun pins σ H s1 I hPt v u b hv ru => by
      obtain ⟨aa, n, ss, r, rfl, hq, rfl⟩ := hv
      obtain ⟨its, rv, pt, _⟩ := I.tuple hq
      cases rv with
      | cons r1 rv => cases rv with
        | cons r2 rv => cases rv with
          | cons r3 rv =>
            cases rv
            obtain ⟨t1, rfl⟩ := r1
            obtain ⟨t2, rfl⟩ := r2
            obtain rfl : u = Value.ref aa := ru
            obtain ⟨ps, hP2⟩ := hPt
            refine quiet_isdoor I (by rw [hP2]; simp) hr B Dr rfl rfl rfl (by decide) pt fun z => ?_
            have sP : s1.heap.get? Pt = some { cls := .none, data := .fields ps } := I.hok Pt _ hP2
            obtain ⟨o, e, e2, _⟩ := pt
            rw [z, sP] at e; cases e; cases e2) (fun _ => rfl))))))), ?_⟩
  obtain ⟨h, rfl, hok, rfl⟩ := hR
  cases h with
  | out n =>
    exact run_when hT (et_B (ev_call (ea_cons (ev_var rfl) ea_nil) ⟨_, rfl, rfl⟩)) (fun _ H1 g1 => run_ret g1.tbs (ev_call (ea_cons (ev_var rfl) ea_nil) ⟨n, rfl, hok, rfl⟩) fun v H2 g2 r => q v H2 (g1.trans g2) r) fun e => nomatch e
  | room hand ds =>
    obtain ⟨h0, h1, h2, h3⟩ := hok
    refine run_when hT (et_B (ev_call (ea_cons (ev_var rfl) ea_nil) ⟨_, rfl, rfl⟩)) (fun e => nomatch e) fun _ H1 g1 => ?_
    refine run_asgG g1.tbs (ev_var rfl) (fun H1 g1 => eg_tup rfl (eg_cons eg_name (eg_cons eg_name eg_nil))) fun H2 g2 => ?_
    have len1 : 1 ≤ ds.len := by omega
    refine run_when g2.tbs ((et_or (a := false) ((et_not (et_test (ev_chain ev_int (ev_lenT (ev_var rfl)) ev_int))).is (by rw [Doors.toDs_len]; simp; omega)) fun _ => (et_not (et_test (ev_chain ev_int (ev_var rfl) (ev_lenT (ev_var rfl))))).is (b := _) (c := false) (by rw [Doors.toDs_len]; simp; omega))) (fun e => nomatch e) fun _ H3 g3 => ?_
    refine run_ret g3.tbs ((ev_allT (bd := bdDoor) (ev_var rfl) hP hl fun d hd v H4 r => ?_).is (by rw [Doors.all_ok ds h3])) fun v H4 g4 r => q v H4 (((g1.trans g2).trans g3).trans g4) r
    obtain ⟨n, s, r', rfl⟩ := Doors.mem_toDs ds d hd
    obtain ⟨aa, xs, e, hs, x1, l1, e1, r1, x2, l2, e2, r2, x3, l3, e3, r3, e4⟩ := r
    cases (show x1 = _ from r1); cases (show x2 = _ from r2); cases (show l3 = [] from e4)
    subst e1; subst e2; subst e3
    exact ⟨aa, n, s, x3, e, hs, rfl⟩
def RBehind (ds : List D) (es : List D) : Prop := ∃ (h : House) (p : List D), ds = [h.toD, .tup p] ∧ h.ok ∧ p.length ≤ 100 ∧ es = (h.behind p).map toPend
theorem ok_behind (B : Bl mg) (a : At K mg "rooms_behind" s_rooms_behind ["room", "path"] f fd) (G_is_way_out : Ok P w K mg base 1 "is_way_out" ["room"] (spR T K RWay)) : Ok P w K mg base 2 "rooms_behind" ["room", "path"] (spRL T K RBehind) := by
  refine okRL a sc_rooms_behind (fun ds d ⟨_, _, e, _⟩ => by rw [e]; rfl) fun cdv A outer s H E ds es Q hr hR hT q => ⟨_, (pss_cons (ps_if (pt_val (pe_own G_is_way_out hr (by decide) (by rfl) (pa_cons (pv 0) pa_nil))) (pss_one (ps_ret (pe_lst pa_nil))) pss_nil)
    (pss_one (ps_ret (pe_lc (own := [("at", 2), ("door", 3)]) rfl sc_rooms_behind.nd (pi_enumT (by rfl) B.enumerate (pa_cons (pe_ix ix_tup (pv 0) pe_int (fun _ _ => rfl)) pa_nil)) (blkOk_by (N := ["room", "path", "at", "door"]) (sc := defScope s_rooms_behind) (by decide +kernel)) (fun _ _ _ _ _ => (pgTup (n := 2) (pgs_cons (pg_name (i := 2) sc_rooms_behind.nd rfl (Or.inl rfl)) (pgs_cons (pg_name (i := 3) sc_rooms_behind.nd rfl (Or.inl rfl)) pgs_nil)))) (fun _ _ _ _ _ => pts_nil) (fun _ _ _ _ _ => (pe_tup (pa_cons (pe_op catA (pv 1) (pe_tup (pa_cons (pv 2) pa_nil))) (pa_cons (pe_ix ixTup (pv 3) pe_int (fun _ _ => rfl)) pa_nil)))))))), ?_⟩
  obtain ⟨h, p, rfl, hok, hp, rfl⟩ := hR
  cases h with
  | out n => exact run_when hT (et_B (ev_call (ea_cons (ev_var rfl) ea_nil) ⟨_, rfl, rfl⟩)) (fun _ H1 g1 => run_retL g1.tbs (ev_lst ea_nil (by decide)) fun l xs H2 n1 g2 e r => q l xs H2 (g1.dom l n1) (g1.trans g2) e r) fun e => nomatch e
  | room hand ds =>
    obtain ⟨h0, h1, h2, h3⟩ := hok
    refine run_when hT (et_B (ev_call (ea_cons (ev_var rfl) ea_nil) ⟨_, rfl, rfl⟩)) (fun e => nomatch e) fun _ H1 g1 => ?_
    refine run_retL g1.tbs (ev_lcA (ds := (ds.behind p 0).map toPend) (ei_enumT (ea_cons (ev_ixT (ev_var rfl) ev_int (atI_nat (j := 1) rfl)) ea_nil)) (by rw [withNo_len, Doors.toDs_len]; omega) (by rw [withNo_len, Doors.toDs_len, List.length_map, Doors.behind_len]) fun i e y H2 he hy g2 => ?_) fun l xs H2 n1 g2 e r => q l xs H2 (g1.dom l n1) (g1.trans g2) e r
    rw [withNo_get, Doors.get_toDs] at he
    rw [List.getElem?_map, Doors.behind_get] at hy
    cases hd : ds.get? i with
    | none => rw [hd] at he; cases he
    | some x =>
      rw [hd] at he hy
      cases he; cases hy
      refine ⟨_, _, eg_tup rfl (eg_cons eg_name (eg_cons eg_name eg_nil)), by decide, ?_⟩
      exact ev_tup (ea_cons (ev_catT (ev_var rfl) (ev_tup (ea_cons (ev_var rfl) ea_nil) (by simp)) (by simp; omega)) (ea_cons (ev_ixT (ev_var rfl) ev_int (atI_nat (j := 2) rfl)) ea_nil)) (by simp)
end
end Pd
namespace Pd
open PySem PySem.Spec PyProof.Rows L2
def sumMany : List (List D × House) → Nat
  | [] => 0
  | x :: r => x.2.many + sumMany r
theorem sumMany_app : ∀ a b, sumMany (a ++ b) = sumMany a + sumMany b
  | [], b => by simp [sumMany]
  | x :: r, b => by simp only [List.cons_append, sumMany, sumMany_app r b]; omega
theorem sumMany_rev : ∀ a, sumMany a.reverse = sumMany a
  | [] => rfl
  | x :: r => by rw [List.reverse_cons, sumMany_app, sumMany_rev r]; simp only [sumMany]; omega
theorem Doors.sum_behind (p : List D) : ∀ (ds : Doors) (k : Nat), sumMany (ds.behind p k) + (ds.behind p k).length = ds.many
  | .nil, _ => rfl
  | .cons n s h r, k => by
    have := Doors.sum_behind p r (k + 1)
    simp only [Doors.behind, sumMany, List.length_cons, Doors.many]
    omega
theorem House.sum_behind (p : List D) : ∀ h : House, sumMany (h.behind p) + (h.behind p).length = h.many
  | .out _ => rfl
  | .room _ ds => ds.sum_behind p 0
theorem Doors.behind_ok (p : List D) : ∀ (ds : Doors) (k : Nat), ds.ok → ∀ x ∈ ds.behind p k, x.2.ok ∧ x.1.length = p.length + 1 ∧ x.2.many + 1 ≤ ds.many
  | .nil, _, _, x, h => by simp [Doors.behind] at h
  | .cons n s h r, k, ⟨_, _, _, _, h5, h6⟩, x, hx => by
    simp only [Doors.behind, List.mem_cons] at hx
    rcases hx with rfl | hx
    · exact ⟨h5, by simp, by simp only [Doors.many]; omega⟩
    · obtain ⟨a, b, c⟩ := Doors.behind_ok p r (k + 1) h6 x hx
      exact ⟨a, b, by simp only [Doors.many]; omega⟩
theorem House.behind_ok (p : List D) : ∀ h : House, h.ok → ∀ x ∈ h.behind p, x.2.ok ∧ x.1.length = p.length + 1 ∧ x.2.many + 1 ≤ h.many
  | .out _, _, x, hx => by simp [House.behind] at hx
  | .room _ ds, h, x, hx => ds.behind_ok p 0 h.2.2.2 x hx
section
variable {P : Program} {w : World} {K : PySem.W.Frag} {mg : Str → Option Value} {base : Heap} {T : Tb} {f : Addr} {fd : FuncData}
def RCheck (ds : List D) (d : D) : Prop := ∃ h : House, ds = [h.toD] ∧ h.ok ∧ h.many ≤ 12 ∧ d = .non
theorem ok_check (B : Bl mg) (a : At K mg "check_house" s_check_house ["house"] f fd) (G_can_be : Ok P w K mg base 2 "can_be" ["room"] (spR T K RCan)) (G_rooms_behind : Ok P w K mg base 2 "rooms_behind" ["room", "path"] (spRL T K RBehind)) : Ok P w K mg base 3 "check_house" ["house"] (spR T K RCheck) := by
  refine okR a sc_check_house (fun ds d ⟨_, e, _⟩ => by rw [e]; rfl) fun cdv A outer s H E ds d Q hr hR hT q => ⟨_, (pss_cons (ps_set (i := 1) sc_check_house.nd rfl (Or.inl rfl) pe_int)
    (pss_cons (ps_set (i := 2) sc_check_house.nd rfl (Or.inl rfl) (pe_lst (pa_cons (pe_tup (pa_cons (pe_tup pa_nil) (pa_cons (pv 0) pa_nil))) pa_nil)))
    (pss_cons (ps_while PassesOwn.never (pt_truth (pv 2) (by intro _; rfl)) (pss_cons (ps_asg (pe_bm0 PySem.F.plainAttrs_list PySem.F.slot_list_pop PySem.F.type_list_pop mt_pop (pv 2)) (pg_tup rfl (pgs_cons (pg_name (i := 3) sc_check_house.nd rfl (Or.inl rfl)) (pgs_cons (pg_name (i := 4) sc_check_house.nd rfl (Or.inl rfl)) pgs_nil))))
    (pss_cons (ps_if (pt_not (pt_val (pe_own G_can_be hr (by decide) (by rfl) (pa_cons (pv 4) pa_nil)))) (pss_one ps_never) pss_nil)
    (pss_cons (ps_set (i := 5) sc_check_house.nd rfl (Or.inl rfl) (pe_own G_rooms_behind hr (by decide) (by rfl) (pa_cons (pv 4) (pa_cons (pv 3) pa_nil))))
    (pss_cons (ps_aug (i := 1) sc_check_house.nd rfl (Or.inl rfl) (pe_callB cr_len (by rfl) B.len (by decide +kernel) (pa_cons (pv 5) pa_nil)) ip_add)
    (pss_one (ps_expr (pe_bm PySem.F.plainAttrs_list PySem.F.slot_list_extend PySem.F.type_list_extend mt_extend (pv 2) (pa_cons (pe_revL (pv 5)) pa_nil)))))))))
    (pss_one (ps_if (pt_cmpR op_gt (pv 1) (pe_cstI (by rfl) B.MOST_DOORS_OF_A_HOUSE) (nomark _)) (pss_one ps_never) pss_nil))))), ?_⟩
  obtain ⟨h, rfl, hok, h12, rfl⟩ := hR
  refine run_asg hT ev_int fun H1 g1 => ?_
  refine run_asgL g1.tbs (ev_lst (ea_cons (ev_tup (ea_cons (ev_tup ea_nil (by decide)) (ea_cons (ev_var rfl) ea_nil)) (by simp)) ea_nil) (by simp)) fun l xs H2 nl g2 el rl => ?_
  have nl0 : H l = none := g1.dom l nl
  refine run_while (S := [l]) g2.tbs (fun m δ H => ∃ (pend : List (List D × House)) (found : Int) (s3 s4 s5 : Option SD) (xs : List V), δ = [some (.d h.toD), some (.d (.int found)), some (.v (.ref l)), s3, s4, s5] ∧ found + sumMany pend = h.many ∧ m = sumMany pend + pend.length ∧ m ≤ 13 ∧
      (∀ x ∈ pend, x.2.ok ∧ x.1.length + x.2.many ≤ 12) ∧ H l = some (.lst xs) ∧ Reps K H (pend.map toPend) xs)
    (fun m δ Ha Hb g ⟨pend, found, s3, s4, s5, ys, e1, e2, e3, em, e4, e5, e6⟩ => ⟨pend, found, s3, s4, s5, ys, e1, e2, e3, em, e4, g.lst e5 (by simp), e6.up g⟩)
    (h.many + 1) ⟨[([], h)], 0, none, none, none, xs, rfl, by simp [sumMany], by simp [sumMany], by omega, fun x hx => ?_, el, rl⟩ fun m δ Ha ga ⟨pend, found, s3, s4, s5, ys, e1, e2, e3, em, e4, e5, e6⟩ => ?_
  · obtain rfl : x = ([], h) := by simpa using hx
    exact ⟨hok, by simpa using h12⟩
  subst e1
  refine ⟨_, et_truL (ev_raw rfl) e5, fun hb Hb gb N hN => ?_, fun hb Hb gb => ?_⟩
  · -- a turn
    have ne : ys ≠ [] := fun z => by rw [z] at hb; exact absurd hb (by decide)
    have nep : pend ≠ [] := fun z => by subst z; exact ne (show ys = [] from e6)
    obtain ⟨rest, x, rfl⟩ : ∃ rest x, pend = rest ++ [x] := ⟨pend.dropLast, pend.getLast nep, (List.dropLast_concat_getLast nep).symm⟩
    obtain ⟨p, hh⟩ := x
    obtain ⟨ys0, y, rfl⟩ : ∃ ys0 y, ys = ys0 ++ [y] := ⟨ys.dropLast, ys.getLast ne, (List.dropLast_concat_getLast ne).symm⟩
    have elen := e6.len
    rw [List.map_append, List.length_append, List.length_append] at elen
    have elen' : ys0.length = (rest.map toPend).length := by simpa using elen
    have r0 : Reps K Ha (rest.map toPend) ys0 := by
      have := e6.take (rest.map toPend).length
      rw [List.map_append, List.take_left' rfl, List.take_left' elen'] at this
      exact this
    have ry : Rep K Ha (toPend (p, hh)) y := by
      obtain ⟨z, hz, rz⟩ := e6.get (i := (rest.map toPend).length) (d := toPend (p, hh)) (by rw [List.map_append, List.getElem?_append_right (Nat.le_refl _)]; simp)
      rw [← elen', List.getElem?_append_right (Nat.le_refl _)] at hz
      simp at hz
      rw [hz]; exact rz
    obtain ⟨hhok, hh12⟩ := e4 (p, hh) (by simp)
    have hh12' : p.length + hh.many ≤ 12 := hh12
    refine run_popG gb.tbs (ev_raw rfl) (gb.lst e5 (by simp)) (ry.up gb) (fun H1 => eg_tup rfl (eg_cons eg_name (eg_cons eg_name eg_nil))) fun Hc gc elc => ?_
    have gl : Gr T [l] Hc (upd Hc l (.lst ys0)) := (Gr.refl gc.tbs).put elc (.inl (by simp))
    refine run_when gl.tbs ((et_not (et_B (ev_call (ea_cons (ev_var rfl) ea_nil) ⟨hh, rfl, hhok, rfl⟩))).is rfl) (fun e => nomatch e) fun _ Hd gd => ?_
    refine run_asgL gd.tbs (ev_callL (ea_cons (ev_var rfl) (ea_cons (ev_var rfl) ea_nil)) ⟨hh, p, rfl, hhok, by show p.length ≤ 100; have : p.length + hh.many ≤ 12 := hh12; omega, rfl⟩) fun l2 zs He nl2 ge el2 rl2 => ?_
    refine run_aug ge.tbs rfl (ev_lenL (ev_raw rfl) el2) fun Hf gf => ?_
    have elf : Hf l = some (.lst ys0) := gf.lst (ge.lst (gd.lst upd_same (by simp)) (by simp)) (by simp)
    have el2f := gf.lst el2 (by simp)
    have hsb := House.sum_behind p hh
    have lz : zs.length = (hh.behind p).length := by rw [rl2.len, List.length_map]
    have hys : ys0.length = rest.length := by rw [elen', List.length_map]
    have hrest : rest.length ≤ 13 := by
      rw [List.length_append] at e3
      omega
    refine run_last (run_extR gf.tbs (ev_raw rfl) (ev_raw rfl) elf el2f (by omega) fun Hg gg elg => run_next fun σ sl => ?_)
    have glg : Gr T [l] Hg (upd Hg l (.lst (ys0 ++ zs.reverse))) := (Gr.refl gg.tbs).put elg (.inl (by simp))
    have gall : Gr T [l] Hb (upd Hg l (.lst (ys0 ++ zs.reverse))) := ((((gc.any.trans gl).trans gd.any).trans ge.any).trans (gf.any.trans gg.any)).trans glg
    refine hN (sumMany rest + sumMany (hh.behind p) + (rest.length + (hh.behind p).length)) _ σ _ ?_ gall ⟨rest ++ (hh.behind p).reverse, _, _, _, _, _, rfl, ?_, ?_, ?_, ?_, upd_same, ?_⟩ sl
    · rw [e3, sumMany_app]; simp only [sumMany, List.length_append, List.length_cons, List.length_nil]; omega
    · rw [sumMany_app] at e2; rw [sumMany_app, sumMany_rev, lz]; simp only [sumMany] at e2; omega
    · rw [sumMany_app, sumMany_rev, List.length_append, List.length_reverse]
    · rw [sumMany_app, List.length_append] at e3; simp only [sumMany, List.length_cons, List.length_nil] at e3; omega
    · intro x hx
      rcases List.mem_append.mp hx with hx | hx
      · exact e4 x (List.mem_append_left _ hx)
      · obtain ⟨b1, b2, b3⟩ := House.behind_ok p hh hhok x (List.mem_reverse.mp hx)
        refine ⟨b1, ?_⟩
        have : p.length + hh.many ≤ 12 := hh12
        omega
    · rw [List.map_append, List.map_reverse]
      have r0g : Reps K Hg (rest.map toPend) ys0 := (((((r0.up gb).up gc).up gl).up gd).up ge).up (gf.trans gg)
      have r2g : Reps K Hg ((hh.behind p).map toPend) zs := (rl2.up gf).up gg
      exact (r0g.app r2g.rev).up glg
  · -- behind the loop
    have hy : ys = [] := by cases ys with
      | nil => rfl
      | cons z zs => simp at hb
    have hp : pend = [] := by
      subst hy
      have := e6.len
      simpa using this.symm
    subst hp
    have g0b : Gr T [] H Hb := ((g1.trans g2).drop (ga.trans gb.any) nl0)
    have e2' : found = h.many := by simpa [sumMany] using e2
    refine run_last (run_when gb.tbs ((et_test (ev_B0 (ev_var rfl) ev_int)).is (c := false) (by simp; omega)) (fun e => nomatch e) fun _ Hc gc => run_next fun σ sl => ?_)
    exact q .non Hc (g0b.trans gc) rfl
end
end Pd
namespace Pd
open PySem L2
/-! ### what leavings and pushes do to a house -/
def turns (hand len k l : Int) : Int := (l - (k - hand).fmod len + len - 1).fdiv len
mutual
def House.W : House → Int → Int
  | .out _, l => l
  | .room hand ds, l => ds.W hand ds.len 0 l
def Doors.W : Doors → Int → Int → Int → Int → Int
  | .nil, _, _, _, _ => 0
  | .cons n s h r, hand, len, k, l => (if turns hand len k l > 0 then turns hand len k l * n - s + h.W (turns hand len k l) else 0) + r.W hand len (k + 1) l
end
mutual
def House.BL : House → Int → House
  | .out n, _ => .out n
  | .room hand ds, l => .room ((hand + l).fmod ds.len) (ds.BL hand ds.len 0 l)
def Doors.BL : Doors → Int → Int → Int → Int → Doors
  | .nil, _, _, _, _ => .nil
  | .cons n s h r, hand, len, k, l => .cons n (if turns hand len k l = 0 then s else 0) (h.BL (turns hand len k l)) (r.BL hand len (k + 1) l)
end
mutual
def House.BP : House → Int → House
  | .out n, _ => .out n
  | .room hand ds, w => .room hand (ds.BP hand.toNat w)
def Doors.BP : Doors → Nat → Int → Doors
  | .nil, _, _ => .nil
  | .cons n s h r, 0, w => .cons n (s + min w (n - s)) (h.BP (w - min w (n - s))) r
  | .cons n s h r, i + 1, w => .cons n s h (r.BP i w)
end
/-- the path, and by what name, if by one -/
abbrev Told := List Int × Option Str
mutual
def House.step : House → Told × House
  | .out n => (([], some n), .out n)
  | .room hand ds => ((hand :: (ds.step hand.toNat).1.1, (ds.step hand.toNat).1.2), .room (if (ds.step hand.toNat).1.2 = none then hand else (hand + 1).fmod ds.len) (ds.step hand.toNat).2)
def Doors.step : Doors → Nat → Told × Doors
  | .nil, _ => (([], none), .nil)
  | .cons n s h r, 0 => if s < n then (([], none), .cons n (s + 1) h r) else (h.step.1, .cons n (if h.step.1.2 = none then s else 0) h.step.2 r)
  | .cons n s h r, i + 1 => ((r.step i).1, .cons n s h (r.step i).2)
end
/-! ### turns -/
theorem turns_all {hand len k l : Int} (P : Int → Int → Int → Int → Prop)
    (H : ∀ len : Int, (len = 1 ∨ len = 2 ∨ len = 3 ∨ len = 4) → ∀ hand k : Int, 0 ≤ hand → hand < len → 0 ≤ k → k < len → P hand len k l) (h0 : 0 ≤ hand) (h1 : hand < len) (h4 : len ≤ 4) (k0 : 0 ≤ k) (k1 : k < len) : P hand len k l :=
  H len (by omega) hand k h0 h1 k0 k1
theorem fmod4 {x len : Int} (h : 0 < len) : x.fmod len = x % len := Int.fmod_eq_emod_of_nonneg x (by omega)
theorem fdiv4 {x len : Int} (h : 0 < len) : x.fdiv len = x / len := Int.fdiv_eq_ediv_of_nonneg x (by omega)
theorem turns_zero {hand len k : Int} (h0 : 0 ≤ hand) (h1 : hand < len) (h4 : len ≤ 4) (k0 : 0 ≤ k) (k1 : k < len) : turns hand len k 0 = 0 := by
  unfold turns
  rw [fmod4 (by omega), fdiv4 (by omega)]
  have : len = 1 ∨ len = 2 ∨ len = 3 ∨ len = 4 := by omega
  rcases this with rfl | rfl | rfl | rfl <;> omega
theorem turns_succ {hand len k l : Int} (h0 : 0 ≤ hand) (h1 : hand < len) (h4 : len ≤ 4) (k0 : 0 ≤ k) (k1 : k < len) (l0 : 0 ≤ l) : turns hand len k (l + 1) = turns hand len k l + (if (hand + l).fmod len = k then 1 else 0) := by
  unfold turns
  rw [fmod4 (by omega), fdiv4 (by omega), fdiv4 (by omega), fmod4 (by omega)]
  have : len = 1 ∨ len = 2 ∨ len = 3 ∨ len = 4 := by omega
  rcases this with rfl | rfl | rfl | rfl <;> split <;> omega
theorem turns_nonneg {hand len k l : Int} (h0 : 0 ≤ hand) (h1 : hand < len) (h4 : len ≤ 4) (k0 : 0 ≤ k) (k1 : k < len) (l0 : 0 ≤ l) : 0 ≤ turns hand len k l := by
  unfold turns
  rw [fmod4 (by omega), fdiv4 (by omega)]
  have : len = 1 ∨ len = 2 ∨ len = 3 ∨ len = 4 := by omega
  rcases this with rfl | rfl | rfl | rfl <;> omega
theorem turns_add {hand len k l m : Int} (h0 : 0 ≤ hand) (h1 : hand < len) (h4 : len ≤ 4) (k0 : 0 ≤ k) (k1 : k < len) (l0 : 0 ≤ l) (m0 : 0 ≤ m) : turns ((hand + l).fmod len) len k m = turns hand len k (l + m) - turns hand len k l := by
  unfold turns
  rw [fmod4 (by omega), fdiv4 (by omega), fdiv4 (by omega), fdiv4 (by omega), fmod4 (by omega), fmod4 (by omega)]
  have : len = 1 ∨ len = 2 ∨ len = 3 ∨ len = 4 := by omega
  rcases this with rfl | rfl | rfl | rfl <;> omega
theorem hand_rng {hand len l : Int} (h1 : 0 < len) : 0 ≤ (hand + l).fmod len ∧ (hand + l).fmod len < len := ⟨Int.fmod_nonneg_of_pos _ h1, Int.fmod_lt_of_pos _ h1⟩
end Pd
namespace Pd
open PySem L2
theorem Doors.len_BL : ∀ (ds : Doors) (hand len k l : Int), (ds.BL hand len k l).len = ds.len
  | .nil, _, _, _, _ => rfl
  | .cons _ _ _ r, hand, len, k, l => congrArg (· + 1) (Doors.len_BL r hand len (k + 1) l)
theorem Doors.len_BP : ∀ (ds : Doors) (i : Nat) (w : Int), (ds.BP i w).len = ds.len
  | .nil, _, _ => rfl
  | .cons _ _ _ _, 0, _ => rfl
  | .cons _ _ _ r, i + 1, w => congrArg (· + 1) (Doors.len_BP r i w)
theorem Doors.len_step : ∀ (ds : Doors) (i : Nat), (ds.step i).2.len = ds.len
  | .nil, _ => rfl
  | .cons n s h r, 0 => by
    unfold Doors.step
    split <;> rfl
  | .cons _ _ _ r, i + 1 => congrArg (· + 1) (Doors.len_step r i)
/-! no leavings -/
mutual
theorem House.W_zero : ∀ h : House, h.ok → h.W 0 = 0
  | .out _, _ => rfl
  | .room hand ds, ⟨h0, h1, h2, h3⟩ => Doors.W_zero ds hand ds.len 0 h3 h0 h1 (by omega) (by omega) (by omega)
theorem Doors.W_zero : ∀ (ds : Doors) (hand len k : Int), ds.ok → 0 ≤ hand → hand < len → len ≤ 4 → 0 ≤ k → k + ds.len ≤ len → ds.W hand len k 0 = 0
  | .nil, _, _, _, _, _, _, _, _, _ => rfl
  | .cons n s h r, hand, len, k, ⟨_, _, _, _, h5, h6⟩, a, b, c, d, e => by
    simp only [Doors.len] at e
    simp only [Doors.W]
    rw [turns_zero a b c d (by omega), Doors.W_zero r hand len (k + 1) h6 a b c (by omega) (by omega)]
    simp
end
mutual
theorem House.BL_zero : ∀ h : House, h.ok → h.BL 0 = h
  | .out _, _ => rfl
  | .room hand ds, ⟨h0, h1, h2, h3⟩ => by
    simp only [House.BL]
    rw [Doors.BL_zero ds hand ds.len 0 h3 h0 h1 (by omega) (by omega) (by omega), fmod4 (by omega)]
    congr 1
    rw [Int.add_zero, Int.emod_eq_of_lt h0 h1]
theorem Doors.BL_zero : ∀ (ds : Doors) (hand len k : Int), ds.ok → 0 ≤ hand → hand < len → len ≤ 4 → 0 ≤ k → k + ds.len ≤ len → ds.BL hand len k 0 = ds
  | .nil, _, _, _, _, _, _, _, _, _ => rfl
  | .cons n s h r, hand, len, k, ⟨_, _, _, _, h5, h6⟩, a, b, c, d, e => by
    simp only [Doors.len] at e
    simp only [Doors.BL]
    rw [turns_zero a b c d (by omega), Doors.BL_zero r hand len (k + 1) h6 a b c (by omega) (by omega), House.BL_zero h h5]
    simp
end
/-! more leavings -/
mutual
theorem House.W_add : ∀ (h : House) (l m : Int), h.ok → 0 ≤ l → 0 ≤ m → (h.BL l).W m = h.W (l + m) - h.W l
  | .out _, l, m, _, _, _ => by simp only [House.BL, House.W]; omega
  | .room hand ds, l, m, ⟨h0, h1, h2, h3⟩, l0, m0 => by
    simp only [House.BL, House.W]
    rw [Doors.len_BL]
    exact Doors.W_add ds hand ds.len 0 l m h3 h0 h1 (by omega) (by omega) (by omega) l0 m0
theorem Doors.W_add : ∀ (ds : Doors) (hand len k l m : Int), ds.ok → 0 ≤ hand → hand < len → len ≤ 4 → 0 ≤ k → k + ds.len ≤ len → 0 ≤ l → 0 ≤ m →
    (ds.BL hand len k l).W ((hand + l).fmod len) len k m = ds.W hand len k (l + m) - ds.W hand len k l
  | .nil, _, _, _, _, _, _, _, _, _, _, _, _, _ => rfl
  | .cons n s h r, hand, len, k, l, m, ⟨_, _, _, _, h5, h6⟩, a, b, c, d, e, l0, m0 => by
    simp only [Doors.len] at e
    simp only [Doors.BL, Doors.W]
    have t1 := turns_add a b c d (by omega : k < len) l0 m0
    have t2 := turns_nonneg a b c d (by omega : k < len) l0
    have t3 : 0 ≤ turns ((hand + l).fmod len) len k m := turns_nonneg (hand_rng (by omega)).1 (hand_rng (by omega)).2 c d (by omega) m0
    have ih := Doors.W_add r hand len (k + 1) l m h6 a b c (by omega) (by omega) l0 m0
    have hw := House.W_add h (turns hand len k l) (turns ((hand + l).fmod len) len k m) h5 t2 t3
    have hz := House.W_zero h h5
    rw [ih, hw]
    generalize hT : turns hand len k l = T at *
    generalize hT2 : turns ((hand + l).fmod len) len k m = T2 at *
    rw [show turns hand len k (l + m) = T + T2 by omega]
    have hm : (T + T2) * n = T * n + T2 * n := Int.add_mul _ _ _
    rw [hm]
    have hx : T = 0 → T * n = 0 := fun z => by rw [z, Int.zero_mul]
    have hy : T2 = 0 → T2 * n = 0 := fun z => by rw [z, Int.zero_mul]
    generalize T * n = x at hx ⊢
    generalize T2 * n = y at hy ⊢
    by_cases c1 : T = 0
    · subst c1
      simp only [if_true, Int.zero_add, hz]
      rw [if_neg (show ¬ ((0 : Int) > 0) by omega)]
      by_cases c2 : T2 > 0
      · rw [if_pos c2, if_pos c2]
        have := hx rfl
        omega
      · rw [if_neg c2, if_neg c2]; omega
    · rw [if_neg c1, if_pos (show T > 0 by omega), if_pos (show T + T2 > 0 by omega)]
      by_cases c2 : T2 > 0
      · rw [if_pos c2]; omega
      · have : T2 = 0 := by omega
        subst this
        rw [if_neg c2]
        have := hy rfl
        simp only [Int.add_zero] at *
        omega
end
/-! one leaving -/
/-- how many walkers till one leaves by the i-th door -/
def Doors.b : Doors → Nat → Int
  | .nil, _ => 0
  | .cons n s h _, 0 => n - s + h.W 1
  | .cons _ _ _ r, i + 1 => r.b i
theorem turns_one {hand len k : Int} (h0 : 0 ≤ hand) (h1 : hand < len) (h4 : len ≤ 4) (k0 : 0 ≤ k) (k1 : k < len) : turns hand len k 1 = if hand = k then 1 else 0 := by
  have := turns_succ (l := 0) h0 h1 h4 k0 k1 (by omega)
  rw [turns_zero h0 h1 h4 k0 k1, Int.add_zero, fmod4 (by omega), Int.emod_eq_of_lt h0 h1] at this
  simpa using this
theorem Doors.W_far : ∀ (ds : Doors) (hand len k : Int), ds.ok → 0 ≤ hand → hand < k → len ≤ 4 → k + ds.len ≤ len → ds.W hand len k 1 = 0
  | .nil, _, _, _, _, _, _, _, _ => rfl
  | .cons n s h r, hand, len, k, ⟨_, _, _, _, h5, h6⟩, a, b, c, e => by
    simp only [Doors.len] at e
    simp only [Doors.W]
    rw [turns_one a (by omega) c (by omega) (by omega), if_neg (show ¬ hand = k by omega), Doors.W_far r hand len (k + 1) h6 a (by omega) c (by omega)]
    simp
theorem Doors.W_one : ∀ (ds : Doors) (i : Nat) (len k : Int), ds.ok → i < ds.len → len ≤ 4 → 0 ≤ k → k + ds.len ≤ len → ds.W (k + i) len k 1 = ds.b i
  | .nil, i, _, _, _, h, _, _, _ => absurd h (Nat.not_lt_zero _)
  | .cons n s h r, 0, len, k, ⟨_, _, _, _, h5, h6⟩, _, c, d, e => by
    simp only [Doors.len] at e
    simp only [Doors.W, Doors.b]
    rw [show k + ((0 : Nat) : Int) = k by omega, turns_one d (by omega) c d (by omega), if_pos rfl, Doors.W_far r k len (k + 1) h6 d (by omega) c (by omega)]
    simp
  | .cons n s h r, i + 1, len, k, ⟨_, _, _, _, h5, h6⟩, hi, c, d, e => by
    simp only [Doors.len] at e hi
    simp only [Doors.W, Doors.b]
    rw [turns_one (by omega) (by omega) c d (by omega), if_neg (show ¬ k + ((i + 1 : Nat) : Int) = k by omega)]
    have := Doors.W_one r i len (k + 1) h6 (by omega) c (by omega) (by omega)
    rw [show k + ((i + 1 : Nat) : Int) = k + 1 + (i : Int) by omega, this]
    simp
theorem House.W_one (hand : Int) (ds : Doors) (h : (House.room hand ds).ok) : (House.room hand ds).W 1 = ds.b hand.toNat := by
  obtain ⟨h0, h1, h2, h3⟩ := h
  have := Doors.W_one ds hand.toNat ds.len 0 h3 (by omega) (by omega) (by omega) (by omega)
  rw [show (0 : Int) + (hand.toNat : Int) = hand by omega] at this
  exact this
mutual
theorem House.W_pos : ∀ h : House, h.ok → 1 ≤ h.W 1
  | .out _, _ => by simp only [House.W]; omega
  | .room hand ds, h => by
    rw [House.W_one hand ds h]
    exact Doors.b_pos ds hand.toNat h.2.2.2 (by have := h.1; have := h.2.1; omega)
theorem Doors.b_pos : ∀ (ds : Doors) (i : Nat), ds.ok → i < ds.len → 1 ≤ ds.b i
  | .nil, _, _, h => absurd h (Nat.not_lt_zero _)
  | .cons n s h r, 0, ⟨_, _, _, h4, h5, _⟩, _ => by
    have := House.W_pos h h5
    simp only [Doors.b]; omega
  | .cons n s h r, i + 1, ⟨_, _, _, _, _, h6⟩, hi => Doors.b_pos r i h6 (Nat.lt_of_succ_lt_succ hi)
end
mutual
theorem House.ok_BL : ∀ (h : House) (l : Int), h.ok → 0 ≤ l → (h.BL l).ok
  | .out _, _, h, _ => h
  | .room hand ds, l, ⟨h0, h1, h2, h3⟩, l0 => by
    refine ⟨(hand_rng (by omega)).1, ?_, ?_, Doors.ok_BL ds hand ds.len 0 l h3 h0 h1 (by omega) (by omega) (by omega) l0⟩
    · rw [Doors.len_BL]; exact (hand_rng (by omega)).2
    · rw [Doors.len_BL]; exact h2
theorem Doors.ok_BL : ∀ (ds : Doors) (hand len k l : Int), ds.ok → 0 ≤ hand → hand < len → len ≤ 4 → 0 ≤ k → k + ds.len ≤ len → 0 ≤ l → (ds.BL hand len k l).ok
  | .nil, _, _, _, _, _, _, _, _, _, _, _ => trivial
  | .cons n s h r, hand, len, k, l, ⟨h1, h2, h3, h4, h5, h6⟩, a, b, c, d, e, l0 => by
    simp only [Doors.len] at e
    refine ⟨h1, h2, ?_, ?_, House.ok_BL h _ h5 (turns_nonneg a b c d (by omega) l0), Doors.ok_BL r hand len (k + 1) l h6 a b c (by omega) (by omega) l0⟩
    · split <;> omega
    · split <;> omega
end
theorem House.W_succ {h : House} {l : Int} (ok : h.ok) (l0 : 0 ≤ l) : h.W (l + 1) = h.W l + (h.BL l).W 1 ∧ 1 ≤ (h.BL l).W 1 := by
  have := House.W_add h l 1 ok l0 (by omega)
  exact ⟨by omega, House.W_pos _ (House.ok_BL h l ok l0)⟩
mutual
theorem House.BL_add : ∀ (h : House) (l m : Int), h.ok → 0 ≤ l → 0 ≤ m → (h.BL l).BL m = h.BL (l + m)
  | .out _, l, m, _, _, _ => rfl
  | .room hand ds, l, m, ⟨h0, h1, h2, h3⟩, l0, m0 => by
    simp only [House.BL]
    rw [Doors.len_BL, Doors.BL_add ds hand ds.len 0 l m h3 h0 h1 (by omega) (by omega) (by omega) l0 m0]
    congr 1
    rw [fmod4 (by omega), fmod4 (by omega), fmod4 (by omega), Int.emod_add_emod, Int.add_assoc]
theorem Doors.BL_add : ∀ (ds : Doors) (hand len k l m : Int), ds.ok → 0 ≤ hand → hand < len → len ≤ 4 → 0 ≤ k → k + ds.len ≤ len → 0 ≤ l → 0 ≤ m →
    (ds.BL hand len k l).BL ((hand + l).fmod len) len k m = ds.BL hand len k (l + m)
  | .nil, _, _, _, _, _, _, _, _, _, _, _, _, _ => rfl
  | .cons n s h r, hand, len, k, l, m, ⟨_, _, _, _, h5, h6⟩, a, b, c, d, e, l0, m0 => by
    simp only [Doors.len] at e
    simp only [Doors.BL]
    have t1 := turns_add a b c d (by omega : k < len) l0 m0
    have t2 := turns_nonneg a b c d (by omega : k < len) l0
    have t3 : 0 ≤ turns ((hand + l).fmod len) len k m := turns_nonneg (hand_rng (by omega)).1 (hand_rng (by omega)).2 c d (by omega) m0
    rw [Doors.BL_add r hand len (k + 1) l m h6 a b c (by omega) (by omega) l0 m0, House.BL_add h _ _ h5 t2 t3]
    rw [show turns hand len k l + turns ((hand + l).fmod len) len k m = turns hand len k (l + m) by omega]
    congr 1
    split <;> split <;> (try split) <;> first | rfl | omega
end
/-! pushes -/
mutual
theorem House.BP_zero : ∀ h : House, h.ok → h.BP 0 = h
  | .out _, _ => rfl
  | .room hand ds, ⟨_, _, _, h3⟩ => by
    simp only [House.BP]
    rw [Doors.BP_zero ds hand.toNat h3]
theorem Doors.BP_zero : ∀ (ds : Doors) (i : Nat), ds.ok → ds.BP i 0 = ds
  | .nil, _, _ => rfl
  | .cons n s h r, 0, ⟨_, _, _, h4, h5, _⟩ => by
    simp only [Doors.BP]
    rw [show min 0 (n - s) = 0 by omega, Int.sub_zero, House.BP_zero h h5, Int.add_zero]
  | .cons n s h r, i + 1, ⟨_, _, _, _, _, h6⟩ => by
    simp only [Doors.BP]
    rw [Doors.BP_zero r i h6]
end
/-! steps -/
mutual
/-- a push -/
theorem House.step_push : ∀ (h : House) (w : Int), h.ok → 0 ≤ w → w + 1 < h.W 1 → (h.BP w).step.1.2 = none ∧ (h.BP w).step.2 = h.BP (w + 1)
  | .out _, w, _, w0, w1 => by simp only [House.W] at w1; omega
  | .room hand ds, w, h, w0, w1 => by
    rw [House.W_one hand ds h] at w1
    obtain ⟨h0, h1, h2, h3⟩ := h
    obtain ⟨a, b⟩ := Doors.step_push ds hand.toNat w h3 (by omega) w0 w1
    simp only [House.BP, House.step]
    rw [a, b]
    simp
theorem Doors.step_push : ∀ (ds : Doors) (i : Nat) (w : Int), ds.ok → i < ds.len → 0 ≤ w → w + 1 < ds.b i → ((ds.BP i w).step i).1.2 = none ∧ ((ds.BP i w).step i).2 = ds.BP i (w + 1)
  | .nil, _, _, _, h, _, _ => absurd h (Nat.not_lt_zero _)
  | .cons n s h r, 0, w, ⟨_, _, _, h4, h5, _⟩, _, w0, w1 => by
    simp only [Doors.b] at w1
    simp only [Doors.BP, Doors.step]
    by_cases c : w < n - s
    · rw [show min w (n - s) = w by omega, show min (w + 1) (n - s) = w + 1 by omega, if_pos (by omega)]
      refine ⟨rfl, ?_⟩
      rw [show s + (w + 1) = s + w + 1 by omega, show w - w = 0 by omega, show w + 1 - (w + 1) = 0 by omega]
    · rw [show min w (n - s) = n - s by omega, show min (w + 1) (n - s) = n - s by omega, if_neg (by omega)]
      obtain ⟨a, b⟩ := House.step_push h (w - (n - s)) h5 (by omega) (by omega)
      refine ⟨a, ?_⟩
      rw [if_pos a, b, show w - (n - s) + 1 = w + 1 - (n - s) by omega]
  | .cons n s h r, i + 1, w, ⟨_, _, _, _, _, h6⟩, hi, w0, w1 => by
    simp only [Doors.BP, Doors.step]
    obtain ⟨a, b⟩ := Doors.step_push r i w h6 (Nat.lt_of_succ_lt_succ hi) w0 w1
    exact ⟨a, by rw [b]⟩
end
theorem Doors.BL_far : ∀ (ds : Doors) (hand len k : Int), ds.ok → 0 ≤ hand → hand < k → len ≤ 4 → k + ds.len ≤ len → ds.BL hand len k 1 = ds
  | .nil, _, _, _, _, _, _, _, _ => rfl
  | .cons n s h r, hand, len, k, ⟨_, _, _, _, h5, h6⟩, a, b, c, e => by
    simp only [Doors.len] at e
    simp only [Doors.BL]
    rw [turns_one a (by omega) c (by omega) (by omega), if_neg (show ¬ hand = k by omega), Doors.BL_far r hand len (k + 1) h6 a (by omega) c (by omega), House.BL_zero h h5]
    simp
mutual
/-- a leaving -/
theorem House.step_out : ∀ (h : House) (w : Int), h.ok → w + 1 = h.W 1 → (h.BP w).step.1.2 ≠ none ∧ (h.BP w).step.2 = h.BL 1
  | .out n, w, _, _ => by simp [House.BP, House.step, House.BL]
  | .room hand ds, w, h, w1 => by
    rw [House.W_one hand ds h] at w1
    obtain ⟨h0, h1, h2, h3⟩ := h
    obtain ⟨a, b⟩ := Doors.step_out ds hand.toNat ds.len 0 w h3 (by omega) (by omega) (by omega) (by omega) w1
    simp only [House.BP, House.step, House.BL]
    rw [if_neg a, b, Doors.len_BP, show (0 : Int) + (hand.toNat : Int) = hand by omega]
    exact ⟨a, rfl⟩
theorem Doors.step_out : ∀ (ds : Doors) (i : Nat) (len k w : Int), ds.ok → i < ds.len → len ≤ 4 → 0 ≤ k → k + ds.len ≤ len → w + 1 = ds.b i → ((ds.BP i w).step i).1.2 ≠ none ∧ ((ds.BP i w).step i).2 = ds.BL (k + i) len k 1
  | .nil, _, _, _, _, _, h, _, _, _, _ => absurd h (Nat.not_lt_zero _)
  | .cons n s h r, 0, len, k, w, ⟨_, _, _, h4, h5, h6⟩, _, c, d, e, w1 => by
    simp only [Doors.len] at e
    simp only [Doors.b] at w1
    simp only [Doors.BP, Doors.step, Doors.BL]
    have hp := House.W_pos h h5
    rw [show k + ((0 : Nat) : Int) = k by omega, turns_one d (by omega) c d (by omega), if_pos rfl, if_neg (show ¬ (1 : Int) = 0 by omega), Doors.BL_far r k len (k + 1) h6 d (by omega) c (by omega)]
    rw [show min w (n - s) = n - s by omega, if_neg (by omega)]
    obtain ⟨a, b⟩ := House.step_out h (w - (n - s)) h5 (by omega)
    refine ⟨a, ?_⟩
    rw [if_neg a, b]
  | .cons n s h r, i + 1, len, k, w, ⟨_, _, _, _, h5, h6⟩, hi, c, d, e, w1 => by
    simp only [Doors.len] at e hi
    simp only [Doors.BP, Doors.step, Doors.BL]
    rw [turns_one (by omega) (by omega) c d (by omega), if_neg (show ¬ k + ((i + 1 : Nat) : Int) = k by omega), House.BL_zero h h5]
    obtain ⟨a, b⟩ := Doors.step_out r i len (k + 1) w h6 (by omega) c (by omega) (by omega) w1
    refine ⟨a, ?_⟩
    rw [b, show k + 1 + (i : Int) = k + ((i + 1 : Nat) : Int) by omega]
    simp
end
end Pd
namespace Pd
open PySem L2
mutual
theorem House.ok_step : ∀ h : House, h.ok → h.step.2.ok
  | .out _, h => h
  | .room hand ds, ⟨h0, h1, h2, h3⟩ => by
    refine ⟨?_, ?_, ?_, Doors.ok_step ds hand.toNat h3⟩
    · split
      · exact h0
      · exact (hand_rng (by omega)).1
    · rw [Doors.len_step]; split
      · exact h1
      · exact (hand_rng (by omega)).2
    · rw [Doors.len_step]; exact h2
theorem Doors.ok_step : ∀ (ds : Doors) (i : Nat), ds.ok → (ds.step i).2.ok
  | .nil, _, _ => trivial
  | .cons n s h r, 0, ⟨h1, h2, h3, h4, h5, h6⟩ => by
    unfold Doors.step
    split
    · exact ⟨h1, h2, by omega, by omega, h5, h6⟩
    · refine ⟨h1, h2, ?_, ?_, House.ok_step h h5, h6⟩ <;> split <;> omega
  | .cons n s h r, i + 1, ⟨h1, h2, h3, h4, h5, h6⟩ => ⟨h1, h2, h3, h4, h5, Doors.ok_step r i h6⟩
end
mutual
theorem House.many_step : ∀ h : House, h.step.2.many = h.many
  | .out _ => rfl
  | .room hand ds => Doors.many_step ds hand.toNat
theorem Doors.many_step : ∀ (ds : Doors) (i : Nat), (ds.step i).2.many = ds.many
  | .nil, _ => rfl
  | .cons n s h r, 0 => by
    unfold Doors.step
    split
    · rfl
    · simp only [Doors.many, House.many_step h]
  | .cons n s h r, i + 1 => by simp only [Doors.step, Doors.many, Doors.many_step r i]
end
mutual
theorem House.many_BL : ∀ (h : House) (l : Int), (h.BL l).many = h.many
  | .out _, _ => rfl
  | .room hand ds, l => Doors.many_BL ds hand ds.len 0 l
theorem Doors.many_BL : ∀ (ds : Doors) (hand len k l : Int), (ds.BL hand len k l).many = ds.many
  | .nil, _, _, _, _ => rfl
  | .cons n s h r, hand, len, k, l => by simp only [Doors.BL, Doors.many, House.many_BL h, Doors.many_BL r]
end
mutual
theorem House.many_BP : ∀ (h : House) (w : Int), (h.BP w).many = h.many
  | .out _, _ => rfl
  | .room hand ds, w => Doors.many_BP ds hand.toNat w
theorem Doors.many_BP : ∀ (ds : Doors) (i : Nat) (w : Int), (ds.BP i w).many = ds.many
  | .nil, _, _ => rfl
  | .cons n s h r, 0, w => by simp only [Doors.BP, Doors.many, House.many_BP h]
  | .cons n s h r, i + 1, w => by simp only [Doors.BP, Doors.many, Doors.many_BP r]
end
/-! so many walkers -/
def IsL (h : House) (n L : Int) : Prop := 0 ≤ L ∧ h.W L ≤ n ∧ n < h.W (L + 1)
def behindW (h : House) (n L : Int) : House := (h.BL L).BP (n - h.W L)
theorem IsL.lt {h : House} {n L : Int} (ok : h.ok) (i : IsL h n L) : 0 ≤ n - h.W L ∧ n - h.W L < (h.BL L).W 1 := by
  obtain ⟨a, b, c⟩ := i
  have := (House.W_succ ok a).1
  omega
theorem IsL.zero {h : House} (ok : h.ok) : IsL h 0 0 := by
  have := House.W_pos h ok
  have z := House.W_zero h ok
  exact ⟨Int.le_refl _, by omega, by rw [Int.zero_add]; omega⟩
theorem behindW_zero {h : House} (ok : h.ok) : behindW h 0 0 = h := by
  unfold behindW
  rw [House.BL_zero h ok, House.W_zero h ok]
  exact House.BP_zero h ok
theorem IsL.next {h : House} {n L : Int} (ok : h.ok) (i : IsL h n L) :
    ((behindW h n L).step.1.2 = none ∧ IsL h (n + 1) L ∧ (behindW h n L).step.2 = behindW h (n + 1) L) ∨
    ((behindW h n L).step.1.2 ≠ none ∧ IsL h (n + 1) (L + 1) ∧ (behindW h n L).step.2 = behindW h (n + 1) (L + 1)) := by
  obtain ⟨a, b⟩ := i.lt ok
  obtain ⟨l0, l1, l2⟩ := i
  obtain ⟨w1, w2⟩ := House.W_succ ok l0
  have okL := House.ok_BL h L ok l0
  by_cases c : n - h.W L + 1 < (h.BL L).W 1
  · left
    obtain ⟨s1, s2⟩ := House.step_push (h.BL L) (n - h.W L) okL a c
    refine ⟨s1, ⟨l0, by omega, by omega⟩, ?_⟩
    unfold behindW
    rw [s2, show n + 1 - h.W L = n - h.W L + 1 by omega]
  · right
    obtain ⟨s1, s2⟩ := House.step_out (h.BL L) (n - h.W L) okL (by omega)
    have w3 := House.W_succ (l := L + 1) ok (by omega)
    refine ⟨s1, ⟨by omega, by omega, by omega⟩, ?_⟩
    unfold behindW
    rw [s2, House.BL_add h L 1 ok l0 (by omega), show n + 1 - h.W (L + 1) = 0 by omega, House.BP_zero _ (House.ok_BL h (L + 1) ok (by omega))]
/-- the walkers one by one -/
def House.iter : Nat → House → House
  | 0, h => h
  | n + 1, h => (House.iter n h).step.2
def House.outs : Nat → House → Int
  | 0, _ => 0
  | n + 1, h => House.outs n h + (if (House.iter n h).step.1.2 = none then 0 else 1)
theorem House.iter_ok : ∀ (n : Nat) (h : House), h.ok → (House.iter n h).ok
  | 0, _, o => o
  | n + 1, h, o => House.ok_step _ (House.iter_ok n h o)
theorem House.iter_many : ∀ (n : Nat) (h : House), (House.iter n h).many = h.many
  | 0, _ => rfl
  | n + 1, h => (House.many_step _).trans (House.iter_many n h)
theorem iter_is {h : House} (ok : h.ok) : ∀ n : Nat, IsL h n (House.outs n h) ∧ House.iter n h = behindW h n (House.outs n h)
  | 0 => ⟨IsL.zero ok, (behindW_zero ok).symm⟩
  | n + 1 => by
    obtain ⟨a, b⟩ := iter_is ok n
    simp only [House.iter, House.outs]
    rw [show ((n + 1 : Nat) : Int) = (n : Int) + 1 by omega, b]
    rcases a.next ok with ⟨c, d, e⟩ | ⟨c, d, e⟩
    · rw [if_pos c, Int.add_zero]; exact ⟨d, e⟩
    · rw [if_neg c]; exact ⟨d, e⟩
theorem House.W_mono {h : House} (ok : h.ok) {l : Int} (l0 : 0 ≤ l) : ∀ m : Nat, h.W l + m ≤ h.W (l + m)
  | 0 => by simp
  | m + 1 => by
    have := House.W_mono ok l0 m
    have w := House.W_succ (l := l + m) ok (by omega)
    rw [show l + ((m + 1 : Nat) : Int) = l + m + 1 by omega]
    omega
theorem House.W_lt {h : House} (ok : h.ok) {l m : Int} (l0 : 0 ≤ l) (lt : l < m) : h.W l < h.W m := by
  have := House.W_mono ok l0 (m - l).toNat
  rw [show l + ((m - l).toNat : Int) = m by omega] at this
  omega
theorem House.W_ge {h : House} (ok : h.ok) {l : Int} (l0 : 0 ≤ l) : l ≤ h.W l := by
  have := House.W_mono ok (Int.le_refl 0) l.toNat
  rw [House.W_zero h ok, show (0 : Int) + (l.toNat : Int) = l by omega] at this
  omega
theorem IsL.uniq {h : House} (ok : h.ok) {n L M : Int} (a : IsL h n L) (b : IsL h n M) : L = M := by
  obtain ⟨a0, a1, a2⟩ := a
  obtain ⟨b0, b1, b2⟩ := b
  by_cases c : L < M
  · by_cases d : L + 1 = M
    · rw [d] at a2; omega
    · have := House.W_lt ok (l := L + 1) (m := M) (by omega) (by omega); omega
  · by_cases d : M < L
    · by_cases d : M + 1 = L
      · rw [d] at b2; omega
      · have := House.W_lt ok (l := M + 1) (m := L) (by omega) (by omega); omega
    · omega
theorem IsL.some {h : House} (ok : h.ok) {n : Int} (n0 : 0 ≤ n) : ∃ L, IsL h n L := ⟨_, by
  have := (iter_is ok n.toNat).1
  rw [show ((n.toNat : Nat) : Int) = n by omega] at this
  exact this⟩
theorem IsL.le {h : House} (ok : h.ok) {n L : Int} (a : IsL h n L) : L ≤ n := by
  have := House.W_ge ok a.1
  have := a.2.1
  omega
end Pd
namespace Pd
open PySem L2
/-! ### by which way a leaving is -/
mutual
def House.way : House → Int → List Int × Str
  | .out n, _ => ([], n)
  | .room hand ds, l => ((hand + l - 1).fmod ds.len :: (ds.way (((hand + l - 1).fmod ds.len).toNat) ((l - 1).fdiv ds.len + 1)).1, (ds.way (((hand + l - 1).fmod ds.len).toNat) ((l - 1).fdiv ds.len + 1)).2)
def Doors.way : Doors → Nat → Int → List Int × Str
  | .nil, _, _ => ([], "")
  | .cons _ _ h _, 0, l => h.way l
  | .cons _ _ _ r, i + 1, l => r.way i l
end
theorem Doors.way_get : ∀ (ds : Doors) (i : Nat) (l : Int) {n s : Int} {h : House}, ds.get? i = some (n, s, h) → ds.way i l = h.way l
  | .nil, _, _, _, _, _, e => nomatch e
  | .cons _ _ _ _, 0, _, _, _, _, e => by cases e; rfl
  | .cons _ _ _ r, i + 1, l, _, _, _, e => Doors.way_get r i l e
theorem Doors.get_lt : ∀ (ds : Doors) (i : Nat) {x : Int × Int × House}, ds.get? i = some x → i < ds.len
  | .nil, _, _, e => nomatch e
  | .cons _ _ _ _, 0, _, _ => Nat.succ_pos _
  | .cons _ _ _ r, i + 1, _, e => Nat.succ_lt_succ (Doors.get_lt r i e)
theorem Doors.get_BL : ∀ (ds : Doors) (hand len k l : Int) (i : Nat), (ds.BL hand len k l).get? i = (ds.get? i).map fun x => (x.1, (if turns hand len (k + i) l = 0 then x.2.1 else 0), x.2.2.BL (turns hand len (k + i) l))
  | .nil, _, _, _, _, _ => rfl
  | .cons n s h r, hand, len, k, l, 0 => by simp [Doors.BL, Doors.get?]
  | .cons n s h r, hand, len, k, l, i + 1 => by
    simp only [Doors.BL, Doors.get?]
    rw [Doors.get_BL r hand len (k + 1) l i, show k + 1 + (i : Int) = k + ((i + 1 : Nat) : Int) by omega]
theorem Doors.get_BP : ∀ (ds : Doors) (i : Nat) (w : Int) {n s : Int} {h : House}, ds.get? i = some (n, s, h) → (ds.BP i w).get? i = some (n, s + min w (n - s), h.BP (w - min w (n - s)))
  | .nil, _, _, _, _, _, e => nomatch e
  | .cons _ _ _ _, 0, _, _, _, _, e => by cases e; rfl
  | .cons _ _ _ r, i + 1, w, _, _, _, e => Doors.get_BP r i w e
theorem Doors.step_told : ∀ (ds : Doors) (i : Nat) {n s : Int} {h : House}, ds.get? i = some (n, s, h) → (ds.step i).1 = if s < n then ([], none) else h.step.1
  | .nil, _, _, _, _, e => nomatch e
  | .cons _ _ _ _, 0, _, _, _, e => by
    cases e
    simp only [Doors.step]
    split <;> rfl
  | .cons _ _ _ r, i + 1, _, _, _, e => Doors.step_told r i e
theorem Doors.b_at : ∀ (ds : Doors) (i : Nat) {n s : Int} {h : House}, ds.get? i = some (n, s, h) → ds.b i = n - s + h.W 1
  | .nil, _, _, _, _, e => nomatch e
  | .cons _ _ _ r, 0, _, _, _, e => by cases e; rfl
  | .cons _ _ _ r, i + 1, _, _, _, e => Doors.b_at r i e
theorem turns_at {hand len k l : Int} (h0 : 0 ≤ hand) (h1 : hand < len) (h4 : len ≤ 4) (k0 : 0 ≤ k) (k1 : k < len) (l0 : 0 ≤ l) (e : (hand + l).fmod len = k) : turns hand len k l = l.fdiv len := by
  unfold turns
  rw [fmod4 (by omega)] at e
  rw [fmod4 (by omega), fdiv4 (by omega), fdiv4 (by omega)]
  have : len = 1 ∨ len = 2 ∨ len = 3 ∨ len = 4 := by omega
  rcases this with rfl | rfl | rfl | rfl <;> omega
theorem fdiv_nonneg4 {len l : Int} (h1 : 0 < len) (l0 : 0 ≤ l) : 0 ≤ l.fdiv len := by
  rw [fdiv4 h1]; exact Int.ediv_nonneg l0 (by omega)
/-- the room behind so many leavings and pushes, at the door where its hand points -/
theorem House.here {hand : Int} {ds : Doors} (ok : (House.room hand ds).ok) {L : Int} (l0 : 0 ≤ L) :
    ∃ (i : Nat) (n s s' : Int) (hh : House), ((hand + L).fmod ds.len) = (i : Int) ∧ i < ds.len ∧ ds.get? i = some (n, s, hh) ∧ 1 ≤ n ∧ n ≤ 99 ∧ 0 ≤ s ∧ s ≤ n ∧ hh.ok ∧ hh.deep < (House.room hand ds).deep ∧ turns hand ds.len i L = L.fdiv ds.len ∧ 0 ≤ L.fdiv ds.len ∧
      s' = (if L.fdiv ds.len = 0 then s else 0) ∧ 0 ≤ s' ∧ s' ≤ n ∧ ((House.room hand ds).BL L).W 1 = n - s' + (hh.BL (L.fdiv ds.len)).W 1 ∧
      ∀ w, (((House.room hand ds).BL L).BP w).step.1 = ((i : Int) :: (if s' + min w (n - s') < n then (([], none) : Told) else ((hh.BL (L.fdiv ds.len)).BP (w - min w (n - s'))).step.1).1, (if s' + min w (n - s') < n then (([], none) : Told) else ((hh.BL (L.fdiv ds.len)).BP (w - min w (n - s'))).step.1).2) := by
  have okL := House.ok_BL _ L ok l0
  obtain ⟨h0, h1, h2, h3⟩ := ok
  obtain ⟨r0, r1⟩ := hand_rng (hand := hand) (len := ds.len) (l := L) (by omega)
  have hi : (((hand + L).fmod ds.len).toNat : Int) = (hand + L).fmod ds.len := by omega
  have hlt : ((hand + L).fmod ds.len).toNat < ds.len := by omega
  obtain ⟨n, s, hh, he⟩ := ds.get_some _ hlt
  obtain ⟨n1, n2, n3, n4, hok⟩ := Doors.get_ok ds _ h3 he
  have ht : turns hand ds.len (((hand + L).fmod ds.len).toNat : Int) L = L.fdiv ds.len := turns_at h0 h1 (by omega) (by omega) (by omega) l0 hi.symm
  have gL : (ds.BL hand ds.len 0 L).get? ((hand + L).fmod ds.len).toNat = some (n, (if L.fdiv ds.len = 0 then s else 0), hh.BL (L.fdiv ds.len)) := by
    rw [Doors.get_BL, he, Int.zero_add, ht]; rfl
  have hd := Doors.get_deep ds _ he
  refine ⟨((hand + L).fmod ds.len).toNat, n, s, _, hh, hi.symm, hlt, he, n1, n2, n3, n4, hok, by show hh.deep < ds.deep + 1; omega, ht, fdiv_nonneg4 (by omega) l0, rfl, ?_, ?_, ?_, fun w => ?_⟩
  · split <;> omega
  · split <;> omega
  · simp only [House.BL] at okL ⊢
    rw [House.W_one _ _ okL, Doors.b_at _ _ gL]
  · simp only [House.BL, House.BP, House.step]
    rw [Doors.step_told _ _ (Doors.get_BP _ _ w gL), hi]
theorem House.way_step : ∀ (d : Nat) (h : House) (L w : Int), h.deep < d → h.ok → 0 ≤ L → w + 1 = (h.BL L).W 1 → ((h.BL L).BP w).step.1 = ((h.way (L + 1)).1, some (h.way (L + 1)).2)
  | 0, _, _, _, hd, _, _, _ => absurd hd (Nat.not_lt_zero _)
  | d + 1, .out n, L, w, hd, ok, l0, e => rfl
  | d + 1, .room hand ds, L, w, hd, ok, l0, e => by
    obtain ⟨i, n, s, s', hh, hi, hlt, he, n1, n2, n3, n4, hok, hdp, ht, t0, es, s0, s1, hW, hs⟩ := House.here ok l0
    have hp := House.W_pos _ (House.ok_BL hh _ hok t0)
    rw [hW] at e
    rw [hs w, show min w (n - s') = n - s' by omega, if_neg (by omega)]
    rw [House.way_step d hh (L.fdiv ds.len) (w - (n - s')) (by omega) hok t0 (by omega)]
    simp only [House.way]
    rw [show hand + (L + 1) - 1 = hand + L by omega, show L + 1 - 1 = L by omega, hi, Int.toNat_natCast, Doors.way_get ds i _ he]
/-! ### leavings by a name -/
mutual
def House.LN : House → Str → Int → Int
  | .out n, nm, l => if n = nm then l else 0
  | .room hand ds, nm, l => ds.LN nm hand ds.len 0 l
def Doors.LN : Doors → Str → Int → Int → Int → Int → Int
  | .nil, _, _, _, _, _ => 0
  | .cons _ _ h r, nm, hand, len, k, l => h.LN nm (turns hand len k l) + r.LN nm hand len (k + 1) l
end
mutual
theorem House.LN_zero : ∀ (h : House) (nm : Str), h.ok → h.LN nm 0 = 0
  | .out _, _, _ => by simp [House.LN]
  | .room hand ds, nm, ⟨h0, h1, h2, h3⟩ => Doors.LN_zero ds nm hand ds.len 0 h3 h0 h1 (by omega) (by omega) (by omega)
theorem Doors.LN_zero : ∀ (ds : Doors) (nm : Str) (hand len k : Int), ds.ok → 0 ≤ hand → hand < len → len ≤ 4 → 0 ≤ k → k + ds.len ≤ len → ds.LN nm hand len k 0 = 0
  | .nil, _, _, _, _, _, _, _, _, _, _ => rfl
  | .cons n s h r, nm, hand, len, k, ⟨_, _, _, _, h5, h6⟩, a, b, c, d, e => by
    simp only [Doors.len] at e
    simp only [Doors.LN]
    rw [turns_zero a b c d (by omega), Doors.LN_zero r nm hand len (k + 1) h6 a b c (by omega) (by omega), House.LN_zero h nm h5]
    rfl
end
theorem Doors.LN_far : ∀ (ds : Doors) (nm : Str) (hand len k l : Int), ds.ok → 0 ≤ hand → hand < len → len ≤ 4 → 0 ≤ k → k + ds.len ≤ len → 0 ≤ l → (hand + l).fmod len < k → ds.LN nm hand len k (l + 1) = ds.LN nm hand len k l
  | .nil, _, _, _, _, _, _, _, _, _, _, _, _, _ => rfl
  | .cons n s h r, nm, hand, len, k, l, ⟨_, _, _, _, h5, h6⟩, a, b, c, d, e, l0, hf => by
    simp only [Doors.len] at e
    simp only [Doors.LN]
    rw [turns_succ a b c d (by omega) l0, if_neg (by omega), Int.add_zero, Doors.LN_far r nm hand len (k + 1) l h6 a b c (by omega) (by omega) l0 (by omega)]
mutual
theorem House.LN_succ : ∀ (h : House) (nm : Str) (l : Int), h.ok → 0 ≤ l → h.LN nm (l + 1) = h.LN nm l + (if (h.way (l + 1)).2 = nm then 1 else 0)
  | .out n, nm, l, _, _ => by
    have e : ((House.out n).way (l + 1)).2 = n := rfl
    rw [e]
    simp only [House.LN]
    by_cases c : n = nm
    · simp [c]
    · simp [c]
  | .room hand ds, nm, l, ⟨h0, h1, h2, h3⟩, l0 => by
    obtain ⟨r0, r1⟩ := hand_rng (hand := hand) (len := ds.len) (l := l) (by omega)
    have hi : (((hand + l).fmod ds.len).toNat : Int) = (hand + l).fmod ds.len := by omega
    have := Doors.LN_succ ds nm hand ds.len 0 l ((hand + l).fmod ds.len).toNat h3 h0 h1 (by omega) (by omega) (by omega) l0 (by omega) (by omega)
    have e : ((House.room hand ds).way (l + 1)).2 = (ds.way ((hand + l).fmod ds.len).toNat (l.fdiv ds.len + 1)).2 := by
      simp only [House.way]
      rw [show hand + (l + 1) - 1 = hand + l by omega, show l + 1 - 1 = l by omega]
    rw [e]
    exact this
theorem Doors.LN_succ : ∀ (ds : Doors) (nm : Str) (hand len k l : Int) (i : Nat), ds.ok → 0 ≤ hand → hand < len → len ≤ 4 → 0 ≤ k → k + ds.len ≤ len → 0 ≤ l → i < ds.len → (hand + l).fmod len = k + i →
    ds.LN nm hand len k (l + 1) = ds.LN nm hand len k l + (if (ds.way i (l.fdiv len + 1)).2 = nm then 1 else 0)
  | .nil, _, _, _, _, _, _, _, _, _, _, _, _, _, hi, _ => absurd hi (Nat.not_lt_zero _)
  | .cons n s h r, nm, hand, len, k, l, 0, ⟨_, _, _, _, h5, h6⟩, a, b, c, d, e, l0, hi, hf => by
    simp only [Doors.len] at e
    have ew : (Doors.cons n s h r).way 0 (l.fdiv len + 1) = h.way (l.fdiv len + 1) := rfl
    rw [ew]
    simp only [Doors.LN]
    have ht := turns_at a b c d (by omega) l0 (by omega : (hand + l).fmod len = k)
    have t0 := fdiv_nonneg4 (len := len) (by omega) l0
    rw [turns_succ a b c d (by omega) l0, if_pos (by omega), ht, House.LN_succ h nm _ h5 t0, Doors.LN_far r nm hand len (k + 1) l h6 a b c (by omega) (by omega) l0 (by omega)]
    omega
  | .cons n s h r, nm, hand, len, k, l, i + 1, ⟨_, _, _, _, h5, h6⟩, a, b, c, d, e, l0, hi, hf => by
    simp only [Doors.len] at e hi
    have ew : (Doors.cons n s h r).way (i + 1) (l.fdiv len + 1) = r.way i (l.fdiv len + 1) := rfl
    rw [ew]
    simp only [Doors.LN]
    rw [turns_succ a b c d (by omega) l0, if_neg (by omega), Int.add_zero, Doors.LN_succ r nm hand len (k + 1) l i h6 a b c (by omega) (by omega) l0 (by omega) (by omega)]
    omega
end
mutual
def House.has : House → Str → Bool
  | .out n, nm => decide (n = nm)
  | .room _ ds, nm => ds.has nm
def Doors.has : Doors → Str → Bool
  | .nil, _ => false
  | .cons _ _ h r, nm => h.has nm || r.has nm
end
mutual
theorem House.way_has : ∀ (h : House) (l : Int), h.ok → h.has (h.way l).2 = true
  | .out n, l, _ => by simp [House.has, House.way]
  | .room hand ds, l, ⟨h0, h1, h2, h3⟩ => by
    obtain ⟨r0, r1⟩ := hand_rng (hand := hand) (len := ds.len) (l := l - 1) (by omega)
    simp only [House.has, House.way]
    rw [show hand + l - 1 = hand + (l - 1) by omega]
    exact Doors.way_has ds _ _ h3 (by omega)
theorem Doors.way_has : ∀ (ds : Doors) (i : Nat) (l : Int), ds.ok → i < ds.len → ds.has (ds.way i l).2 = true
  | .nil, _, _, _, h => absurd h (Nat.not_lt_zero _)
  | .cons _ _ h r, 0, l, ⟨_, _, _, _, h5, _⟩, _ => by
    simp only [Doors.has, Doors.way]
    rw [House.way_has h l h5]; rfl
  | .cons _ _ h r, i + 1, l, ⟨_, _, _, _, _, h6⟩, hi => by
    simp only [Doors.has, Doors.way]
    rw [Doors.way_has r i l h6 (Nat.lt_of_succ_lt_succ hi), Bool.or_true]
end
theorem House.LN_mono {h : House} (ok : h.ok) (nm : Str) {l : Int} (l0 : 0 ≤ l) : ∀ m : Nat, h.LN nm l ≤ h.LN nm (l + m)
  | 0 => by simp
  | m + 1 => by
    have := House.LN_mono ok nm l0 m
    rw [show l + ((m + 1 : Nat) : Int) = l + m + 1 by omega, House.LN_succ h nm (l + m) ok (by omega)]
    split <;> omega
theorem House.LN_le {h : House} (ok : h.ok) (nm : Str) {l m : Int} (l0 : 0 ≤ l) (lm : l ≤ m) : h.LN nm l ≤ h.LN nm m := by
  have := House.LN_mono ok nm l0 (m - l).toNat
  rwa [show l + ((m - l).toNat : Int) = m by omega] at this
theorem House.LN_nonneg {h : House} (ok : h.ok) (nm : Str) {l : Int} (l0 : 0 ≤ l) : 0 ≤ h.LN nm l := by
  have := House.LN_le ok nm (Int.le_refl 0) l0
  rwa [House.LN_zero h nm ok] at this
/-- no more leavings by a name than leavings -/
theorem House.LN_top {h : House} (ok : h.ok) (nm : Str) : ∀ m : Nat, h.LN nm m ≤ m
  | 0 => by have := House.LN_zero h nm ok; simp [this]
  | m + 1 => by
    have := House.LN_top ok nm m
    rw [show ((m + 1 : Nat) : Int) = m + 1 by omega, House.LN_succ h nm m ok (by omega)]
    split <;> omega
theorem turns_big {hand len k M : Int} (h0 : 0 ≤ hand) (h1 : hand < len) (h4 : len ≤ 4) (k0 : 0 ≤ k) (k1 : k < len) (m0 : 0 ≤ M) : M ≤ turns hand len k (4 * M) := by
  unfold turns
  rw [fmod4 (by omega), fdiv4 (by omega)]
  have : len = 1 ∨ len = 2 ∨ len = 3 ∨ len = 4 := by omega
  rcases this with rfl | rfl | rfl | rfl <;> omega
theorem Doors.LN_nonneg : ∀ (ds : Doors) (nm : Str) (hand len k l : Int), ds.ok → 0 ≤ hand → hand < len → len ≤ 4 → 0 ≤ k → k + ds.len ≤ len → 0 ≤ l → 0 ≤ ds.LN nm hand len k l
  | .nil, _, _, _, _, _, _, _, _, _, _, _, _ => Int.le_refl _
  | .cons n s h r, nm, hand, len, k, l, ⟨_, _, _, _, h5, h6⟩, a, b, c, d, e, l0 => by
    simp only [Doors.len] at e
    simp only [Doors.LN]
    have h1 := House.LN_nonneg h5 nm (turns_nonneg a b c d (by omega : k < len) l0)
    have h2 := Doors.LN_nonneg r nm hand len (k + 1) l h6 a b c (by omega) (by omega) l0
    omega
mutual
theorem House.LN_big : ∀ (h : House) (nm : Str) (N : Int), h.ok → h.has nm = true → 0 ≤ N → ∃ M, 0 ≤ M ∧ N ≤ h.LN nm M
  | .out n, nm, N, _, hh, n0 => by
    have : n = nm := by simpa [House.has] using hh
    exact ⟨N, n0, by simp only [House.LN]; rw [if_pos this]; omega⟩
  | .room hand ds, nm, N, ⟨h0, h1, h2, h3⟩, hh, n0 => Doors.LN_big ds nm hand ds.len 0 N h3 h0 h1 (by omega) (by omega) (by omega) hh n0
theorem Doors.LN_big : ∀ (ds : Doors) (nm : Str) (hand len k N : Int), ds.ok → 0 ≤ hand → hand < len → len ≤ 4 → 0 ≤ k → k + ds.len ≤ len → ds.has nm = true → 0 ≤ N → ∃ M, 0 ≤ M ∧ N ≤ ds.LN nm hand len k M
  | .nil, _, _, _, _, _, _, _, _, _, _, _, hh, _ => by simp [Doors.has] at hh
  | .cons n s h r, nm, hand, len, k, N, ⟨_, _, _, _, h5, h6⟩, a, b, c, d, e, hh, n0 => by
    simp only [Doors.len] at e
    simp only [Doors.has, Bool.or_eq_true] at hh
    rcases hh with hh | hh
    · obtain ⟨M, m0, hM⟩ := House.LN_big h nm N h5 hh n0
      refine ⟨4 * M, by omega, ?_⟩
      simp only [Doors.LN]
      have t := turns_big a b c d (by omega : k < len) m0
      have x1 := House.LN_le h5 nm m0 t
      have x2 := Doors.LN_nonneg r nm hand len (k + 1) (4 * M) h6 a b c (by omega) (by omega) (by omega)
      omega
    · obtain ⟨M, m0, hM⟩ := Doors.LN_big r nm hand len (k + 1) N h6 a b c (by omega) (by omega) hh n0
      refine ⟨M, m0, ?_⟩
      simp only [Doors.LN]
      have x1 := House.LN_nonneg h5 nm (turns_nonneg a b c d (by omega : k < len) m0)
      omega
end
end Pd
namespace Pd
open PySem PySem.Spec PyProof.Rows L2
section
variable {P : Program} {w : World} {K : PySem.W.Frag} {mg : Str → Option Value} {base : Heap} {T : Tb} {f : Addr} {fd : FuncData}
def RTurns (ds : List D) (d : D) : Prop := ∃ (hand at' l : Int) (dd : List D), ds = [.tup [.int hand, .tup dd], .int at', .int l] ∧ dd ≠ [] ∧ dd.length ≤ 100 ∧ d = .int ((l - (at' - hand).fmod dd.length + dd.length - 1).fdiv dd.length)
def RWith (ds : List D) (d : D) : Prop := ∃ (dd : List D) (n : Nat) (x : D), ds = [.tup dd, .int (n : Int), x] ∧ n < dd.length ∧ dd.length ≤ 100 ∧ d = .tup (dd.set n x)
theorem cut_lo (dd : List D) (n : Nat) (h : n ≤ dd.length) : cutD dd none (some (n : Int)) = dd.take n := by
  unfold cutD
  rw [HT.sIx_none, HT.sIx_nat, List.drop_zero, Nat.sub_zero, Nat.min_eq_left h]
theorem cut_hi (dd : List D) (n : Nat) (h : n ≤ dd.length) : cutD dd (some (n : Int)) none = dd.drop n := by
  unfold cutD
  rw [HT.sIx_none, HT.sIx_nat, Nat.min_eq_left h, List.take_of_length_le (by rw [List.length_drop]; omega)]
end
end Pd
namespace Pd
open PySem PySem.Spec PyProof.Rows L2
def Doors.drop : Doors → Nat → Doors
  | ds, 0 => ds
  | .nil, _ + 1 => .nil
  | .cons _ _ _ r, i + 1 => r.drop i
theorem Doors.drop_get : ∀ (ds : Doors) (i : Nat) {n s : Int} {h : House}, ds.get? i = some (n, s, h) → ds.drop i = .cons n s h (ds.drop (i + 1))
  | .nil, _, _, _, _, e => nomatch e
  | .cons _ _ _ r, 0, _, _, _, e => by cases e; cases r <;> rfl
  | .cons _ _ _ r, i + 1, _, _, _, e => by
    have := Doors.drop_get r i e
    simpa [Doors.drop] using this
theorem Doors.drop_len : ∀ ds : Doors, ds.drop ds.len = .nil
  | .nil => rfl
  | .cons _ _ _ r => Doors.drop_len r
theorem withNo_doors {ds : Doors} {i : Nat} {d : D} (h : (withNo ds.toDs 0)[i]? = some d) : ∃ n s hh, ds.get? i = some (n, s, hh) ∧ d = .tup [.int (i : Nat), .tup [.int n, .int s, hh.toD]] := by
  rw [withNo_get, Doors.get_toDs, Nat.zero_add] at h
  cases hd : ds.get? i with
  | none => rw [hd] at h; cases h
  | some x => rw [hd] at h; cases h; exact ⟨_, _, _, rfl, rfl⟩
section
variable {P : Program} {w : World} {K : PySem.W.Frag} {mg : Str → Option Value} {base : Heap} {T : Tb} {f : Addr} {fd : FuncData}
def RWf (lv : Nat) (ds : List D) (d : D) : Prop := ∃ (h : House) (l : Int), ds = [h.toD, .int l] ∧ h.ok ∧ 0 ≤ l ∧ h.deep < lv ∧ d = .int (h.W l)
end
end Pd
namespace Pd
open PySem PySem.Spec PyProof.Rows L2
theorem take_succ' {α : Type} {l : List α} {i : Nat} {x : α} (h : l[i]? = some x) : l.take (i + 1) = l.take i ++ [x] := by
  rw [List.take_succ, h]; rfl
section
variable {P : Program} {w : World} {K : PySem.W.Frag} {mg : Str → Option Value} {base : Heap} {T : Tb} {f : Addr} {fd : FuncData}
def RBl (lv : Nat) (ds : List D) (d : D) : Prop := ∃ (h : House) (l : Int), ds = [h.toD, .int l] ∧ h.ok ∧ 0 ≤ l ∧ h.deep < lv ∧ d = (h.BL l).toD
end
end Pd
namespace Pd
open PySem PySem.Spec PyProof.Rows L2
theorem atI_int {α : Type} {l : List α} {i : Int} {x : α} (h0 : 0 ≤ i) (h : l[i.toNat]? = some x) : atI l i = some x := by
  obtain ⟨n, rfl⟩ := Int.eq_ofNat_of_zero_le h0
  exact atI_nat (by simpa using h)
theorem Doors.BP_set : ∀ (ds : Doors) (i : Nat) (w : Int) {n s : Int} {h : House}, ds.get? i = some (n, s, h) → ds.BP i w = ds.set i n (s + min w (n - s)) (h.BP (w - min w (n - s)))
  | .nil, _, _, _, _, _, e => nomatch e
  | .cons _ _ _ r, 0, _, _, _, _, e => by cases e; rfl
  | .cons _ _ _ r, i + 1, w, _, _, _, e => by simp only [Doors.BP, Doors.set]; rw [Doors.BP_set r i w e]
theorem Doors.b_get : ∀ (ds : Doors) (i : Nat) {n s : Int} {h : House}, ds.get? i = some (n, s, h) → ds.b i = n - s + h.W 1
  | .nil, _, _, _, _, e => nomatch e
  | .cons _ _ _ r, 0, _, _, _, e => by cases e; rfl
  | .cons _ _ _ r, i + 1, _, _, _, e => Doors.b_get r i e
theorem Doors.step_get : ∀ (ds : Doors) (i : Nat) {n s : Int} {h : House}, ds.get? i = some (n, s, h) → ds.step i = if s < n then (([], none), ds.set i n (s + 1) h) else (h.step.1, ds.set i n (if h.step.1.2 = none then s else 0) h.step.2)
  | .nil, _, _, _, _, e => nomatch e
  | .cons _ _ _ r, 0, _, _, _, e => by cases e; rfl
  | .cons _ _ _ r, i + 1, _, _, _, e => by
    simp only [Doors.step, Doors.set]
    rw [Doors.step_get r i e]
    split <;> rfl
section
variable {P : Program} {w : World} {K : PySem.W.Frag} {mg : Str → Option Value} {base : Heap} {T : Tb} {f : Addr} {fd : FuncData}
def RBp (lv : Nat) (ds : List D) (d : D) : Prop := ∃ (h : House) (w : Int), ds = [h.toD, .int w] ∧ h.ok ∧ 0 ≤ w ∧ w < h.W 1 ∧ h.deep < lv ∧ d = (h.BP w).toD
def toldD (p : List D) : Told → D
  | (r, none) => .tup [.str "push", .tup (p ++ r.map D.int)]
  | (r, some n) => .tup [.str "out", .tup (p ++ r.map D.int), .str n]
def RLw (lv : Nat) (ds : List D) (d : D) : Prop := ∃ (h : House) (p : List D), ds = [h.toD, .tup p] ∧ h.ok ∧ h.deep < lv ∧ p.length + lv ≤ 1000 ∧ d = .tup [toldD p h.step.1, h.step.2.toD]
end
end Pd
namespace Pd
open PySem PySem.Spec PyProof.Rows L2
/-! ### a lambda with parameters -/
abbrev lamName : Str := "<lambda>"
def lamNF (X : Cx) (params : Arguments) (scope : Scope) (c : Addr) : NdefX.NF := ⟨lamName, X.env.qual ++ lamName, params, [], scope, cloFrom X.env.cells scope.names [], c⟩
abbrev lamObj (X : Cx) (params : Arguments) (body : Expr) (scope : Scope) (pm : Value) (c : Addr) (ctv : Value) : Obj := PySem.W.kla_obj lamName (X.env.qual ++ lamName) params body scope (cloFrom X.env.cells scope.names []) pm c ctv
section
variable {X : Cx} {pins : List (Addr × Obj)} {σ : L2.St} {H HZ : Hp} {s s1 : Shared} {T : Tb}
/-- captured cells stay, what is tracked may grow -/
theorem cells_un {cl : List (Str × Addr)} {fr : List Str} {ws : List (Option V)} {fs : List Addr} (C : NdefX.CellsAt cl fr ws s.heap H) (un : Un fs [] H HZ s.heap s1.heap) : NdefX.CellsAt cl fr ws s1.heap HZ := by
  have kp : ∀ c v, H c = none → s.heap.IsCell c v → s1.heap.IsCell c v := fun c v n ⟨o, ho, hd⟩ => by
    obtain ⟨sl, e⟩ := un.any ho n (by simp)
    exact ⟨_, e, hd⟩
  refine ⟨C.len, fun y c e => ?_, C.inj, fun i y e => ?_⟩
  · obtain ⟨n, v, z⟩ := C.all y c e
    refine ⟨?_, v, kp c v n z⟩
    obtain ⟨o, ho, _⟩ := z
    exact un.free c o ho n (by simp)
  · obtain ⟨c, hc, hv⟩ := C.has i y e
    refine ⟨c, hc, fun v ev => ?_⟩
    obtain ⟨u, r, z⟩ := hv v ev
    exact ⟨u, r, kp c _ (C.all y c hc).1 z⟩
/-- the lambda's object is made -/
theorem lam_mk {c P : Addr} {params : Arguments} {body : Expr} {scope : Scope} {pos : Pos} {E : Value → Shared → Prop} {Q : Value → Shared → Prop} (I : Inv X pins σ H s) (TB : LamX.TabB X.base X.mg c P) (hcode : X.env.code = .ref c)
    (hm : (P, X.env.qual ++ lamName) ∈ T.l) (hu : ∀ p ∈ T.l, p.1 = P → p.2 = X.env.qual ++ lamName) (hg : P ∉ T.g) (hT : Tbs T H) (hdef : defaultsOf params X.env = ([], [])) (hfree : ∀ y ∈ scope.names, y.2 = .free → ∃ c, X.env.cells.lookup y.1 = some c)
    (h : ∀ (f c' : Addr) (pm ctv : Value) (H1 : Hp) (s' : Shared), Inv X pins σ H1 s' → Gr T [] H H1 → s'.heap.get? f = some (lamObj X params body scope pm c' ctv) → H1 f = none → f ∉ frs X.stack → H1 c' = some (LamX.CodeO c' (X.env.qual ++ lamName)) → Q (.ref f) s') :
    wpAny (model X.prog X.w) X.A (eval (.Lambda params body scope pos) X.env) Q E s := by
  obtain ⟨ps, hP, ht, ha⟩ := hT.2 _ hm
  have hP : H P = some (.tbl ps) := hP
  refine PySem.W.kla_eval hdef ?_
  have sP : s.heap.get? P = some { cls := .none, data := .fields ps } := I.hok P _ hP
  have off : ∀ a, s.heap.objs.size ≤ a → a ∉ frs X.stack := fun a la z => (List.mem_cons.mp (I.stkSub _ z)).elim
    (fun e => by have l := I.lt; rw [← e] at l; exact absurd (Nat.lt_of_lt_of_le l la) (Nat.lt_irrefl _)) (fun e => I.nofs la e)
  cases hc : codeAmong pos ps.toList with
  | some cv =>
    obtain ⟨c', rfl, hco⟩ := ha pos cv hc
    refine PySem.W.kla_makeFunctionHit (mg := X.mg) (c := c) (P := P) (ps := ps) (closure_ok hfree) I.ok.glob (I.mod.glob.keeps I.bk) hcode (TB.code.keeps I.bk) sP ht hc (TB.bm.keeps I.bk) fun ctv h' tk hx hz => ?_
    exact h _ c' _ ctv H _ (I.kept fun b o e => Heap.get?_push_of_some _ (hx b o e)) (Gr.refl hT) (Heap.get?_push_size _ rfl) (I.hok.fresh hz) (off _ hz) hco
  | none =>
    refine PySem.W.kla_makeFunction (mg := X.mg) (c := c) (P := P) (ps := ps) (closure_ok hfree) I.ok.glob (I.mod.glob.keeps I.bk) hcode (TB.code.keeps I.bk) sP ht hc TB.gP (TB.bm.keeps I.bk) fun c' ctv h' tk hx hge hlt hrec htb => ?_
    obtain ⟨c2, oc, vs, t, e2, hoc, hd, hv⟩ := hrec
    cases e2
    have nC : H c' = none := I.hok.fresh hge
    have lP : P < s.heap.objs.size := Heap.lt_size sP
    have hPc : P ≠ c' := Nat.ne_of_lt (Nat.lt_of_lt_of_le lP hge)
    have hz : s.heap.objs.size ≤ h'.objs.size := Nat.le_trans hge (Nat.le_of_lt hlt)
    have J := LamX.inv_table (t' := tk) (more := #[rawInt pos.line, rawInt pos.col, .ref c']) (h' := h'.push (lamObj X params body scope ((X.mg "__name__").getD .none) c' ctv)) I hP (fun b o nb e => Heap.get?_push_of_some _ (hx b o nb e)) (Heap.get?_push_of_some _ htb) hge ⟨oc, vs, t, Heap.get?_push_of_some _ hoc, hd, hv⟩
    have kp : ∀ b o, H b = some o → (∀ qs, o ≠ .tbl qs) → upd (upd H P (.tbl (ps ++ #[rawInt pos.line, rawInt pos.col, .ref c']))) c' (LamX.CodeO c' (X.env.qual ++ lamName)) b = some o := fun b o e nt => by
      rw [upd_ne (ne_of_none e nC), upd_ne fun z => by subst z; rw [hP] at e; cases e; exact nt ps rfl]
      exact e
    have g : Gr T [] H (upd (upd H P (.tbl (ps ++ #[rawInt pos.line, rawInt pos.col, .ref c']))) c' (LamX.CodeO c' (X.env.qual ++ lamName))) := by
      refine ⟨fun b o _ e nt => kp b o e nt, fun b o e fo => kp b o e fun qs z => by subst z; exact fo, fun b e => ?_, fun R hR => ?_, fun p hp => ?_⟩
      · by_cases z : b = c'
        · subst z; exact nC
        · rw [upd_ne z] at e
          by_cases z2 : b = P
          · subst z2; rw [upd_same] at e; cases e
          · rw [upd_ne z2] at e; exact e
      · obtain ⟨qs, e, r⟩ := hT.1 R hR
        exact ⟨qs, by rw [upd_ne (ne_of_none e nC), upd_ne fun z => hg (by rw [← z]; exact hR)]; exact e, r⟩
      · obtain ⟨qs, e, r, al⟩ := hT.2 p hp
        by_cases z : p.1 = P
        · rw [hu p hp z]
          refine ⟨_, by rw [z, upd_ne hPc, upd_same], by rw [Array.toList_append]; exact PySem.TriplesOk_snoc _ _ _ _ ht, fun p' cv hcv => ?_⟩
          rw [Array.toList_append] at hcv
          rcases LamX.among_app _ ht hcv with y | y
          · obtain ⟨c0, e1, e2⟩ := ha p' cv y
            exact ⟨c0, e1, kp _ _ e2 LamX.codeO_ne⟩
          · exact ⟨c', y, upd_same⟩
        · refine ⟨qs, by rw [upd_ne (ne_of_none e nC), upd_ne z]; exact e, r, fun p' cv hcv => ?_⟩
          obtain ⟨c0, e1, e2⟩ := al p' cv hcv
          exact ⟨c0, e1, kp _ _ e2 LamX.codeO_ne⟩
    refine h _ c' _ ctv _ _ J g (Heap.get?_push_size _ rfl) ?_ (off _ hz) upd_same
    have n1 : h'.objs.size ≠ c' := Nat.ne_of_gt hlt
    have n2 : h'.objs.size ≠ P := Nat.ne_of_gt (Nat.lt_of_lt_of_le lP hz)
    rw [upd_ne n1, upd_ne n2]
    exact I.hok.fresh hz
end
section
variable {P : Program} {w : World} {K : PySem.W.Frag} {mg : Str → Option Value} {base : Heap} {N ps fr : List Str} {F : NdefX.NF} {f : Addr} {k : Nat} {A : Around} {outer : List Env} {s : Shared} {H : Hp} {us : List Value} {vs : List V} {ws : List (Option V)} {Q : VK} {E : XK} {body : Expr} {tb : TE} {pm ctv : Value} {CX : CXT}
/-- a call of such an object -/
theorem lam_call (S : NdefX.NScope N ps fr F.scope) (hr : Room (k + 1) A) (e0 : Env0 P w K mg base A outer s H) (hf : s.heap.get? f = some (PySem.W.kla_obj lamName F.qual F.params body F.scope F.cl pm F.c ctv)) (hc : H F.c = some (LamX.CodeO F.c F.qual))
    (hb : bindArgs (PySem.W.kla_fn lamName F.qual F.params body F.scope F.cl pm (.ref F.c) ctv) ⟨us, []⟩ = pure (ps.zip us)) (hl : vs.length = ps.length) (C : NdefX.CellsAt F.cl fr ws s.heap H) (r : Vals vs us)
    (hbody : Room k (A.deeper (NdefX.envF F f s.heap.objs.size)) → PE (NdefX.ncx CX P w K mg base N F f A outer s H E) body tb) (q : tb (NdefX.startF N vs ws) H Q) : codeAny (model P w) A (.call (.ref f) ⟨us, []⟩) (CR CX outer P w H s Q E) s := by
  have lim : s.heap.NoLimit := e0.mod.nolimit.keeps fun b o e => (e0.bs b o e).1
  refine PySem.W.kla_callFunE hr.depth hf rfl S.co S.gen rfl (NdefX.codeO_at e0.hok hc) ?_
  rw [hb]
  refine wpAny_pure (wpAny_newFunctionEnv S.nocell (fun y hy => S.par y.1 (List.of_mem_zip hy).1) (fun h₁ hns hsb => ⟨lim.fresh _ hsb, ?_⟩) S.kind)
  have kp : ∀ b o, s.heap.get? b = some o → h₁.get? b = some o := fun b o e => hsb.extBut b o (Nat.ne_of_lt (Heap.lt_size e)) (Heap.get?_push_of_some _ e)
  have I : Inv (NdefX.ncx CX P w K mg base N F f A outer s H E) [] (NdefX.startF N vs ws) H { s with heap := h₁, toks := s.toks + (ps.zip us).length } := NdefX.inv_startN S hr.hd e0 hl r C hns kp
  refine PySem.W.kla_codeExpr (wpAny_mono ((hbody (hr.deeper _)).run [] _ _ H Q I q) (fun v s' hq => ?_) fun e s' hq => hq)
  obtain ⟨w', H', J, rv, q'⟩ := hq
  exact ⟨w', H', J.os, J.bare, J.base, J.hok, rv, q'⟩
end
end Pd
namespace Pd
open PySem PySem.Spec PyProof.Rows L2
/-- f(e), f the lambda that slot i holds -/
def tHold (i : Nat) (f c' : Addr) (q : Str) (t1 : TE) (tl : V → Hp → VK → Prop) : TE := fun σ H Q => σ[i]? = some (some (.ref f)) ∧ t1 σ H fun v H1 => H1 c' = some (LamX.CodeO c' q) ∧ tl v H1 Q
section
variable {X : Cx} {pins : List (Addr × Obj)} {σ : L2.St} {H : Hp} {s : Shared} {T : Tb}
abbrev inCx (X : Cx) (Ng : List Str) (qg : Str) (sg : Scope) (g : Addr) (cdg : Value) (s : Shared) (H : Hp) : Cx := (cxOf CX0 X.prog X.w X.K X.mg X.base Ng qg sg g cdg X.A X.stack s H E0).nox
theorem pe_hold {Ng : List Str} {qg : Str} {sg : Scope} {g f c' : Addr} {cdg pm ctv : Value} {params : Arguments} {body e1 : Expr} {scope : Scope} {k i : Nat} {a b : Str} {N fr : List Str} {ws : List (Option V)} {tb t1 : TE} {p1 p2 : Pos}
    (I : Inv X pins σ H s) (S : NdefX.NScope N [b] fr scope) (hf : s.heap.get? f = some (lamObj X params body scope pm c' ctv)) (hfn : H f = none) (hfr : f ∉ frs X.stack) (C : NdefX.CellsAt (cloFrom X.env.cells scope.names []) fr ws s.heap H)
    (hbind : ∀ u : Value, bindArgs (PySem.W.kla_fn lamName (X.env.qual ++ lamName) params body scope (cloFrom X.env.cells scope.names []) pm (.ref c') ctv) ⟨[u], []⟩ = pure ([b].zip [u])) (hr : Room (k + 1) (X.A.deeper (envOfC qg sg s.heap.objs.size g cdg)))
    (hbody : ∀ (A : Around) (outer : List Env) (s : Shared) (H : Hp), Room k (A.deeper (NdefX.envF (lamNF X params scope c') f s.heap.objs.size)) → PE (NdefX.ncx CX0 X.prog X.w X.K X.mg X.base N (lamNF X params scope c') f A outer s H E0) body tb)
    (ha : PE (inCx X Ng qg sg g cdg s H) e1 t1) (hN : Ng[i]? = some a) (hv : Vis sg a) (hd : (a == ("__debug__" : Str)) = false := by decide) (hcd : (a == ("__classdict__" : Str)) = false := by decide)
    (he : starEach [e1] (inCx X Ng qg sg g cdg s H).env = (false, eval e1 (inCx X Ng qg sg g cdg s H).env) :: starEach [] (inCx X Ng qg sg g cdg s H).env := by rfl) :
    PE (inCx X Ng qg sg g cdg s H) (.Call (.Name a p1) [e1] [] p2) (tHold i f c' (X.env.qual ++ lamName) t1 fun v H1 Q => tb (NdefX.startF N [v] ws) H1 Q) := by
  refine ⟨fun pinsZ sZ σZ HZ Q IZ h => ?_⟩
  obtain ⟨hs, ht⟩ := h
  have there : ∀ {pn : List (Addr × Obj)} {σ2 : L2.St} {H2 : Hp} {s2 : Shared}, Inv (inCx X Ng qg sg g cdg s H) pn σ2 H2 s2 → s2.heap.get? f = some (lamObj X params body scope pm c' ctv) := fun J => J.base.keep f _ hf hfn hfr (fun z => nomatch (show f ∈ ([] : List Addr) from z))
  refine wpAny_Call_Name_kw (thn ((pe_var (pos := p1) (i := i) hN hv hd hcd).run pinsZ sZ σZ HZ (fun v H1 => v = .ref f ∧ H1 = HZ) IZ ⟨.ref f, hs, rfl, rfl⟩) fun u s1 ⟨v, H1, I1, r1, q1⟩ => ?_)
  obtain ⟨rfl, rfl⟩ := q1
  obtain rfl : u = Value.ref f := r1
  refine PySem.W.callWith_F (first := []) ⟨_, _, _, _, there I1⟩ (thn ((pa_cons ha pa_nil he).run p2 pinsZ s1 σZ H1 (fun vs H2 => match vs with
    | [v] => H2 c' = some (LamX.CodeO c' (X.env.qual ++ lamName)) ∧ tb (NdefX.startF N [v] ws) H2 Q
    | _ => False) I1 ht) fun us s2 ⟨vs, H2, I2, r, qm⟩ => ⟨⟨_, _, _, _, there I2⟩, ?_⟩) he rfl
  match vs, r, qm with
  | [w'], r, ⟨hc, qb⟩ =>
    obtain ⟨u, rfl, ru⟩ := vals1 r
    have un : Un (frs X.stack) [] H H2 s.heap s2.heap := I2.base
    refine wpAny_call (codeAny_mono (lam_call (F := lamNF X params scope c') (CX := CX0) (E := E0) (vs := [w']) S hr I2.env0 (there I2) hc (hbind u) rfl (cells_un C un) (.cons ru .nil) (fun hr' => hbody _ _ _ _ hr') qb) fun r s' hq => ?_)
    cases r with
    | error e => exact (show False from hq).elim
    | ok fl =>
      cases fl with
      | ret u => exact I2.after hq
      | next => exact False.elim hq
      | brk => exact False.elim hq
      | cont => exact False.elim hq
/-- what a def that calls its third argument makes of what that argument does -/
def Calls3 (X : Cx) (Ng : List Str) (qg : Str) (sg : Scope) (g : Addr) (cdg : Value) (bg : List Stmt) (a m : Str) (j : Nat) (q : Str) (TT : (V → Hp → VK → Prop) → V → V → Addr → Hp → VK → Prop) : Prop :=
  ∀ (f c' : Addr) (s : Shared) (H : Hp) (Q : VK) (va vb : V) (tl : V → Hp → VK → Prop), (∀ p1 p2 p3 : Pos, PE (inCx X Ng qg sg g cdg s H) (.Call (.Name a p1) [.Name m p3] [] p2) (tHold 2 f c' q (tVar j) tl)) → TT tl va vb c' H Q →
    ∃ t, PSs (inCx X Ng qg sg g cdg s H) bg t ∧ t { nx := fun _ H' => Q .non H', rt := Q } (L2.start Ng [va, vb, .ref f]) H
def tLam3 (T : Tb) (q : Str) (TT : (V → Hp → VK → Prop) → V → V → Addr → Hp → VK → Prop) (t1 t2 : TE) (tl : L2.St → V → Hp → VK → Prop) : TE := fun σ H Q => t1 σ H fun va H1 => t2 σ H1 fun vb H2 => Tbs T H2 ∧ ∀ c' H3, Gr T [] H2 H3 → H3 c' = some (LamX.CodeO c' q) → TT (tl σ) va vb c' H3 Q
theorem pe_lam3 {x a1 a2 a m : Str} {st : Stmt} {g c P : Addr} {fd : FuncData} {Ng N fr : List Str} {js : List Nat} {k j : Nat} {TT : (V → Hp → VK → Prop) → V → V → Addr → Hp → VK → Prop} {params : Arguments} {body e1 e2 : Expr} {scope : Scope} {b : Str} {tb t1 t2 : TE} {p lpos pos : Pos}
    (Ag : At X.K X.mg x st [a1, a2, a] g fd) (Sg : FnScope Ng [a1, a2, a] (defScope st)) (hg : Gl X x) (hNa : Ng[2]? = some a) (hva : Vis (defScope st) a) (hNm : Ng[j]? = some m) (hvm : Vis (defScope st) m)
    (hG : ∀ cdg : Value, Calls3 X Ng x (defScope st) g cdg (defBody st) a m j (X.env.qual ++ lamName) TT)
    (TB : LamX.TabB X.base X.mg c P) (hcode : X.env.code = .ref c) (hmT : (P, X.env.qual ++ lamName) ∈ T.l) (hu : ∀ p ∈ T.l, p.1 = P → p.2 = X.env.qual ++ lamName) (hgP : P ∉ T.g) (hr : Room (k + 2) X.A)
    (S : NdefX.NScope N [b] fr scope) (hfree : ∀ y ∈ scope.names, y.2 = .free → X.env.scope.names.lookup y.1 = some .cell ∨ X.env.scope.names.lookup y.1 = some .free) (hfr : ∀ y ∈ fr, (y, NameKind.free) ∈ scope.names) (hjs : js.map (fun j => X.N[j]?) = fr.map some)
    (hdef : defaultsOf params X.env = ([], [])) (hbind : ∀ (cl : List (Str × Addr)) (pm cv ctv u : Value), bindArgs (PySem.W.kla_fn lamName (X.env.qual ++ lamName) params body scope cl pm cv ctv) ⟨[u], []⟩ = pure ([b].zip [u]))
    (hbody : ∀ (f c' : Addr) (A : Around) (outer : List Env) (s : Shared) (H : Hp), Room k (A.deeper (NdefX.envF (lamNF X params scope c') f s.heap.objs.size)) → PE (NdefX.ncx CX0 X.prog X.w X.K X.mg X.base N (lamNF X params scope c') f A outer s H E0) body tb)
    (h1 : PE X e1 t1) (h2 : PE X e2 t2)
    (hdb : (x == ("__debug__" : Str)) = false := by decide) (hd : (a == ("__debug__" : Str)) = false := by decide) (hcd : (a == ("__classdict__" : Str)) = false := by decide) (hd2 : (m == ("__debug__" : Str)) = false := by decide) (hcd2 : (m == ("__classdict__" : Str)) = false := by decide)
    (he1 : starEach [e1, e2, .Lambda params body scope lpos] X.env = (false, eval e1 X.env) :: starEach [e2, .Lambda params body scope lpos] X.env := by rfl)
    (he2 : starEach [e2, .Lambda params body scope lpos] X.env = [(false, eval e2 X.env), (false, eval (.Lambda params body scope lpos) X.env)] := by rfl)
    (hst : ∀ s H cdg (p3 : Pos), starEach [.Name m p3] (inCx X Ng x (defScope st) g cdg s H).env = (false, eval (.Name m p3) (inCx X Ng x (defScope st) g cdg s H).env) :: starEach [] (inCx X Ng x (defScope st) g cdg s H).env := by intros; rfl) :
    PE X (.Call (.Name x p) [e1, e2, .Lambda params body scope lpos] [] pos) (tLam3 T (X.env.qual ++ lamName) TT t1 t2 fun σ v H' Q' => tb (NdefX.startF N [v] (js.map (NdefX.slotAt σ))) H' Q') := by
  refine ⟨fun pins s σ H Q I h => ?_⟩
  refine wpAny_Call_Name_kw (ld_glob I hg Ag.m ?_ hdb)
  refine PySem.W.callWith_K (h₀ := X.base) I.ok.mod.kin Ag.F.kp ?_ he1 (by rw [he2]; rfl)
  rw [he1, he2]
  show wpAny _ _ (spliced ((false, eval e1 X.env) :: (false, eval e2 X.env) :: (false, eval (.Lambda params body scope lpos) X.env) :: backTo pos (starEach [] X.env))) _ _ s
  refine Calls.spliced_cons (thn (h1.run pins s σ H _ I h) fun u1 s1 ⟨va, H1, I1, r1, q1⟩ => Calls.spliced_cons (thn (h2.run pins s1 σ H1 _ I1 q1) fun u2 s2 ⟨vb, H2, I2, r2, hT, q2⟩ => Calls.spliced_cons (lam_mk I2 TB hcode hmT hu hgP hT hdef (fun y hy e => (hfree y hy e).elim (fun z => I2.ok.has _ (.inl z)) fun z => I2.ok.has _ (.inr z)) fun f c' pm ctv H3 s' I3 g3 hf hfn hff hco => Calls.spliced_nil ⟨I3.kIn, ?_⟩)))
  obtain ⟨oc, od, kV, doc, pm', an, cdv, ct, osl, efd, lk, hcg⟩ := Ag.F.ex
  have hb := Ag.b s' [u1, u2, .ref f] I3.kIn rfl
  subst efd
  have rc : codeAny (model X.prog X.w) X.A (.call (.ref g) ⟨[u1, u2, .ref f], []⟩) (CR CX0 X.stack X.prog X.w H3 s' Q E0) s' := by
    refine LamX.run_ofS (N := Ng) (ps := [a1, a2, a]) (us := [u1, u2, .ref f]) (vs := [va, vb, .ref f]) lk hcg Sg hr I3.env0 hb (.cons r1 (.cons r2 (.cons rfl .nil))) rfl fun hr' => ?_
    have C := NdefX.cells_of I3 (NdefX.Caps.made I3.ok hfree hfr hjs)
    obtain ⟨t, ht, hq⟩ := hG cdv f c' s' H3 Q va vb (fun v H' Q' => tb (NdefX.startF N [v] (js.map (NdefX.slotAt σ))) H' Q') (fun p1 p2 p3 => pe_hold I3 S hf hfn hff C (fun u => hbind _ _ _ _ u) hr' (fun A outer s H hr2 => hbody f c' A outer s H hr2) (pe_var hNm hvm hd2 hcd2) hNa hva hd hcd (hst _ _ _ _)) (q2 c' H3 g3 hco)
    exact ⟨t, ht.nox, hq⟩
  refine wpAny_call (codeAny_mono rc fun r s2 hq => ?_)
  cases r with
  | error e => exact (show False from hq).elim
  | ok fl =>
    cases fl with
    | ret u => exact I3.after hq
    | next => exact False.elim hq
    | brk => exact False.elim hq
    | cont => exact False.elim hq
end
end Pd
namespace Pd
open PySem PySem.Spec PyProof.Rows L2
def TTfirst (T : Tb) (q : Str) : (V → Hp → VK → Prop) → V → V → Addr → Hp → VK → Prop := fun tl va vb c' H Q => ∃ (lo hi : Int) (pr : Int → Bool), va = .int lo ∧ vb = .int hi ∧ lo ≤ hi ∧ H c' = some (LamX.CodeO c' q) ∧ Tbs T H ∧
  (∀ m H1, Gr T [] H H1 → lo ≤ m → m < hi → ∀ Q' : VK, (∀ H2, Gr T [] H1 H2 → Q' (.bl (pr m)) H2) → tl (.int m) H1 Q') ∧
  ∀ r H', lo ≤ r → r ≤ hi → (r = lo ∨ pr (r - 1) = false) → (r = hi ∨ pr r = true) → Gr T [] H H' → Q (.int r) H'
end Pd
namespace Pd
open PySem PySem.Spec PyProof.Rows L2
section
variable {P : Program} {w : World} {K : PySem.W.Frag} {mg : Str → Option Value} {base : Heap} {T : Tb} {f : Addr} {fd : FuncData}
def RLeav (lv : Nat) (ds : List D) (d : D) : Prop := ∃ (h : House) (n L : Int), ds = [h.toD, .int n] ∧ h.ok ∧ 0 ≤ n ∧ h.deep < lv ∧ IsL h n L ∧ d = .int L
end
end Pd
namespace Pd
open PySem PySem.Spec PyProof.Rows L2
section
variable {P : Program} {w : World} {K : PySem.W.Frag} {mg : Str → Option Value} {base : Heap} {T : Tb} {f : Addr} {fd : FuncData}
def RCount (ds : List D) (d : D) : Prop := ∃ n lo hi : Int, ds = [.int n, .int lo, .int hi] ∧ lo ≤ n ∧ n ≤ hi ∧ d = .non
end
end Pd
namespace Pd
open PySem PySem.Spec PyProof.Rows L2
mutual
theorem House.deep_step : ∀ h : House, h.step.2.deep = h.deep
  | .out _ => rfl
  | .room hand ds => congrArg (· + 1) (Doors.deep_step ds hand.toNat)
theorem Doors.deep_step : ∀ (ds : Doors) (i : Nat), (ds.step i).2.deep = ds.deep
  | .nil, _ => rfl
  | .cons n s h r, 0 => by
    unfold Doors.step
    split
    · rfl
    · simp only [Doors.deep, House.deep_step h]
  | .cons n s h r, i + 1 => by simp only [Doors.step, Doors.deep, Doors.deep_step r i]
end
mutual
theorem House.deep_BL : ∀ (h : House) (l : Int), (h.BL l).deep = h.deep
  | .out _, _ => rfl
  | .room hand ds, l => congrArg (· + 1) (Doors.deep_BL ds hand ds.len 0 l)
theorem Doors.deep_BL : ∀ (ds : Doors) (hand len k l : Int), (ds.BL hand len k l).deep = ds.deep
  | .nil, _, _, _, _ => rfl
  | .cons n s h r, hand, len, k, l => by simp only [Doors.BL, Doors.deep, House.deep_BL h, Doors.deep_BL r]
end
mutual
theorem House.deep_BP : ∀ (h : House) (w : Int), (h.BP w).deep = h.deep
  | .out _, _ => rfl
  | .room hand ds, w => congrArg (· + 1) (Doors.deep_BP ds hand.toNat w)
theorem Doors.deep_BP : ∀ (ds : Doors) (i : Nat) (w : Int), (ds.BP i w).deep = ds.deep
  | .nil, _, _ => rfl
  | .cons n s h r, 0, w => by simp only [Doors.BP, Doors.deep, House.deep_BP h]
  | .cons n s h r, i + 1, w => by simp only [Doors.BP, Doors.deep, Doors.deep_BP r]
end
theorem House.iter_deep : ∀ (n : Nat) (h : House), (House.iter n h).deep = h.deep
  | 0, _ => rfl
  | n + 1, h => (House.deep_step _).trans (House.iter_deep n h)
theorem behindW_ok {h : House} {n L : Int} (ok : h.ok) (i : IsL h n L) (n0 : 0 ≤ n) : (behindW h n L).ok := by
  have e := iter_is ok n.toNat
  rw [show ((n.toNat : Nat) : Int) = n by omega] at e
  rw [← e.1.uniq ok i, ← e.2]
  exact House.iter_ok _ h ok
theorem deep12 {h : House} (ok : h.ok) (m : h.many ≤ 12) : h.deep < 13 := by
  have := House.deep_le h ok
  omega
section
variable {P : Program} {w : World} {K : PySem.W.Frag} {mg : Str → Option Value} {base : Heap} {T : Tb} {f : Addr} {fd : FuncData}
def RBw (ds : List D) (d : D) : Prop := ∃ (h : House) (n L : Int), ds = [h.toD, .int n] ∧ h.ok ∧ 0 ≤ n ∧ h.deep < 13 ∧ IsL h n L ∧ d = (behindW h n L).toD
def RCf (ds : List D) (d : D) : Prop := ∃ n : Int, ds = [.int n] ∧ 0 ≤ n ∧ n ≤ 300 ∧ d = .non
def RCw (ds : List D) (d : D) : Prop := ∃ n : Int, ds = [.int n] ∧ 0 ≤ n ∧ n ≤ 1000000000000000000 ∧ d = .non
/-- what is asked of a house and a number of walkers -/
def RFar (r : House → Int → Int → D) (ds : List D) (d : D) : Prop := ∃ (h : House) (n L : Int), ds = [h.toD, .int n] ∧ h.ok ∧ h.many ≤ 12 ∧ 0 ≤ n ∧ n ≤ 1000000000000000000 ∧ IsL h n L ∧ d = r h n L
def fatesD (h : House) (n : Nat) : List D := (List.range n).map fun i => toldD [] (House.iter i h).step.1
theorem fatesD_succ (h : House) (n : Nat) : fatesD h (n + 1) = fatesD h n ++ [toldD [] (House.iter n h).step.1] := by
  unfold fatesD
  rw [List.range_succ, List.map_append]; rfl
theorem fatesD_len (h : House) (n : Nat) : (fatesD h n).length = n := by simp [fatesD]
def RFates (ds : List D) (es : List D) : Prop := ∃ (h : House) (n : Nat), ds = [h.toD, .int n] ∧ h.ok ∧ h.many ≤ 12 ∧ n ≤ 300 ∧ es = fatesD h n
end
end Pd
namespace Pd
open PySem L2
/-! ### houses as lists: where each list stands -/
mutual
inductive LH where
  | out (n : Str)
  | room (a b : Addr) (hand : Int) (ds : LD)
inductive LD where
  | nil
  | cons (c : Addr) (n s : Int) (h : LH) (r : LD)
end
def LH.val : LH → V
  | .out n => .str n
  | .room a _ _ _ => .ref a
def LD.refs : LD → List V
  | .nil => []
  | .cons c _ _ _ r => .ref c :: r.refs
mutual
def LH.house : LH → House
  | .out n => .out n
  | .room _ _ hand ds => .room hand ds.doors
def LD.doors : LD → Doors
  | .nil => .nil
  | .cons _ n s h r => .cons n s h.house r.doors
end
abbrev Cells := List (Addr × List V)
mutual
def LH.cells : LH → Cells
  | .out _ => []
  | .room a b hand ds => (a, [.int hand, .ref b]) :: (b, ds.refs) :: ds.cells
def LD.cells : LD → Cells
  | .nil => []
  | .cons c n s h r => (c, [.int n, .int s, h.val]) :: (h.cells ++ r.cells)
end
def CAt (H : Hp) (C : Cells) : Prop := ∀ e ∈ C, H e.1 = some (.lst e.2)
def fps (C : Cells) : List Addr := C.map (·.1)
def putC (C : Cells) (x : Addr) (ys : List V) : Cells := C.map fun e => if e.1 = x then (x, ys) else e
theorem fps_put (C : Cells) (x : Addr) (ys : List V) : fps (putC C x ys) = fps C := by
  unfold fps putC
  rw [List.map_map]
  refine List.map_congr_left fun e _ => ?_
  show (if e.1 = x then (x, ys) else e).1 = e.1
  split
  · rename_i h; exact h.symm
  · rfl
theorem CAt.put {H : Hp} {C : Cells} (h : CAt H C) (x : Addr) (ys : List V) : CAt (upd H x (.lst ys)) (putC C x ys) := fun e he => by
  obtain ⟨e0, h0, rfl⟩ := List.mem_map.mp he
  show upd H x (.lst ys) (if e0.1 = x then (x, ys) else e0).1 = some (.lst (if e0.1 = x then (x, ys) else e0).2)
  split
  · exact upd_same
  · rename_i n; rw [upd_ne n]; exact h e0 h0
theorem CAt.up {T : Tb} {S : List Addr} {H H' : Hp} {C : Cells} (h : CAt H C) (g : Gr T S H H') (d : ∀ x ∈ fps C, x ∉ S) : CAt H' C := fun e he => g.lst (h e he) (d _ (List.mem_map.mpr ⟨e, he, rfl⟩))
theorem put_off {C : Cells} {x : Addr} (ys : List V) (h : x ∉ fps C) : putC C x ys = C := by
  unfold putC
  conv => rhs; rw [← List.map_id C]
  refine List.map_congr_left fun e he => ?_
  show (if e.1 = x then (x, ys) else e) = e
  rw [if_neg fun z => h (by rw [← z]; exact List.mem_map.mpr ⟨e, he, rfl⟩)]
theorem put_cons (e : Addr × List V) (C : Cells) (x : Addr) (ys : List V) : putC (e :: C) x ys = (if e.1 = x then (x, ys) else e) :: putC C x ys := rfl
theorem put_app (C D : Cells) (x : Addr) (ys : List V) : putC (C ++ D) x ys = putC C x ys ++ putC D x ys := List.map_append
theorem fps_app (C D : Cells) : fps (C ++ D) = fps C ++ fps D := List.map_append
/-! the i-th door -/
def LD.get? : LD → Nat → Option (Addr × Int × Int × LH)
  | .nil, _ => none
  | .cons c n s h _, 0 => some (c, n, s, h)
  | .cons _ _ _ _ r, i + 1 => r.get? i
def LD.set : LD → Nat → Int → LH → LD
  | .nil, _, _, _ => .nil
  | .cons c n _ _ r, 0, s, h => .cons c n s h r
  | .cons c n s h r, i + 1, s', h' => .cons c n s h (r.set i s' h')
theorem LD.refs_set : ∀ (ds : LD) (i : Nat) (s : Int) (h : LH), (ds.set i s h).refs = ds.refs
  | .nil, _, _, _ => rfl
  | .cons _ _ _ _ _, 0, _, _ => rfl
  | .cons c _ _ _ r, i + 1, s, h => congrArg (V.ref c :: ·) (LD.refs_set r i s h)
theorem LD.refs_get : ∀ (ds : LD) (i : Nat), ds.refs[i]? = (ds.get? i).map fun x => .ref x.1
  | .nil, _ => by simp [LD.refs, LD.get?]
  | .cons _ _ _ _ _, 0 => rfl
  | .cons _ _ _ _ r, i + 1 => by simpa [LD.refs, LD.get?] using LD.refs_get r i
theorem LD.refs_len : ∀ ds : LD, ds.refs.length = ds.doors.len
  | .nil => rfl
  | .cons _ _ _ _ r => congrArg (· + 1) (LD.refs_len r)
theorem LD.doors_get : ∀ (ds : LD) (i : Nat), ds.doors.get? i = (ds.get? i).map fun x => (x.2.1, x.2.2.1, x.2.2.2.house)
  | .nil, _ => rfl
  | .cons _ _ _ _ _, 0 => rfl
  | .cons _ _ _ _ r, i + 1 => LD.doors_get r i
theorem LD.doors_set : ∀ (ds : LD) (i : Nat) {c : Addr} {n s : Int} {h : LH} (s' : Int) (h' : LH), ds.get? i = some (c, n, s, h) → (ds.set i s' h').doors = ds.doors.set i n s' h'.house
  | .nil, _, _, _, _, _, _, _, e => nomatch e
  | .cons _ _ _ _ _, 0, _, _, _, _, _, _, e => by cases e; rfl
  | .cons _ _ _ _ r, i + 1, _, _, _, _, s', h', e => by simp only [LD.set, LD.doors, Doors.set]; rw [LD.doors_set r i s' h' e]
theorem LD.cell_get : ∀ (ds : LD) (i : Nat) {c : Addr} {n s : Int} {h : LH}, ds.get? i = some (c, n, s, h) → (c, [V.int n, .int s, h.val]) ∈ ds.cells ∧ ∀ e ∈ h.cells, e ∈ ds.cells
  | .nil, _, _, _, _, _, e => nomatch e
  | .cons _ _ _ _ _, 0, _, _, _, _, e => by
    cases e
    exact ⟨List.mem_cons_self, fun e he => List.mem_cons_of_mem _ (List.mem_append_left _ he)⟩
  | .cons _ _ _ _ r, i + 1, _, _, _, _, e => by
    obtain ⟨a, b⟩ := LD.cell_get r i e
    exact ⟨List.mem_cons_of_mem _ (List.mem_append_right _ a), fun e he => List.mem_cons_of_mem _ (List.mem_append_right _ (b e he))⟩
theorem LD.get_nodup : ∀ (ds : LD) (i : Nat) {c : Addr} {n s : Int} {h : LH}, ds.get? i = some (c, n, s, h) → (fps ds.cells).Nodup → (fps h.cells).Nodup ∧ c ∉ fps h.cells
  | .nil, _, _, _, _, _, e, _ => nomatch e
  | .cons _ _ _ _ _, 0, _, _, _, _, e, nd => by
    cases e
    simp only [LD.cells, fps, List.map_cons, List.map_append] at nd
    obtain ⟨n1, n2⟩ := List.nodup_cons.mp nd
    exact ⟨(List.nodup_append.mp n2).1, fun z => n1 (List.mem_append_left _ z)⟩
  | .cons _ _ _ _ r, i + 1, _, _, _, _, e, nd => by
    simp only [LD.cells, fps, List.map_cons, List.map_append] at nd
    exact LD.get_nodup r i e (List.nodup_append.mp (List.nodup_cons.mp nd).2).2.1
/-- what is written inside the i-th door changes nothing else -/
theorem LD.put_in : ∀ (ds : LD) (i : Nat) {c : Addr} {n s : Int} {h : LH} (h' : LH) (x : Addr) (ys : List V), ds.get? i = some (c, n, s, h) → (fps ds.cells).Nodup → x ∈ fps h.cells → h'.val = h.val → h'.cells = putC h.cells x ys → (ds.set i s h').cells = putC ds.cells x ys
  | .nil, _, _, _, _, _, _, _, _, e, _, _, _, _ => nomatch e
  | .cons c0 n0 s0 h0 r, 0, _, _, _, _, h', x, ys, e, nd, hx, hv, hc => by
    cases e
    simp only [LD.cells, fps, List.map_cons, List.map_append] at nd
    obtain ⟨n1, n2⟩ := List.nodup_cons.mp nd
    obtain ⟨m1, m2, m3⟩ := List.nodup_append.mp n2
    simp only [LD.set, LD.cells]
    rw [put_cons, put_app, if_neg (fun z => n1 (by rw [show c0 = x from z]; exact List.mem_append_left _ hx)), hv, hc, put_off (C := r.cells) ys fun z => m3 x hx x z rfl]
  | .cons c0 n0 s0 h0 r, i + 1, _, _, _, _, h', x, ys, e, nd, hx, hv, hc => by
    simp only [LD.cells, fps, List.map_cons, List.map_append] at nd
    obtain ⟨n1, n2⟩ := List.nodup_cons.mp nd
    obtain ⟨m1, m2, m3⟩ := List.nodup_append.mp n2
    have hx2 : x ∈ fps r.cells := by
      obtain ⟨e0, he0, rfl⟩ := List.mem_map.mp hx
      exact List.mem_map.mpr ⟨e0, (LD.cell_get r i e).2 e0 he0, rfl⟩
    simp only [LD.set, LD.cells]
    rw [put_cons, put_app, if_neg (fun z => n1 (by rw [show c0 = x from z]; exact List.mem_append_right _ hx2)), LD.put_in r i h' x ys e m2 hx hv hc, put_off (C := h0.cells) ys fun z => m3 x z x hx2 rfl]
/-- the i-th door itself is written -/
theorem LD.put_at : ∀ (ds : LD) (i : Nat) {c : Addr} {n s : Int} {h : LH} (s' : Int), ds.get? i = some (c, n, s, h) → (fps ds.cells).Nodup → (ds.set i s' h).cells = putC ds.cells c [.int n, .int s', h.val]
  | .nil, _, _, _, _, _, _, e, _ => nomatch e
  | .cons c0 n0 s0 h0 r, 0, _, _, _, _, s', e, nd => by
    cases e
    simp only [LD.cells, fps, List.map_cons, List.map_append] at nd
    obtain ⟨n1, n2⟩ := List.nodup_cons.mp nd
    simp only [LD.set, LD.cells]
    rw [put_cons, put_app, if_pos rfl, put_off (C := h0.cells) _ (fun z => n1 (List.mem_append_left _ z)), put_off (C := r.cells) _ (fun z => n1 (List.mem_append_right _ z))]
  | .cons c0 n0 s0 h0 r, i + 1, c, _, _, _, s', e, nd => by
    simp only [LD.cells, fps, List.map_cons, List.map_append] at nd
    obtain ⟨n1, n2⟩ := List.nodup_cons.mp nd
    obtain ⟨m1, m2, m3⟩ := List.nodup_append.mp n2
    have hx2 : c ∈ fps r.cells := List.mem_map.mpr ⟨_, (LD.cell_get r i e).1, rfl⟩
    simp only [LD.set, LD.cells]
    rw [put_cons, put_app, if_neg (fun z => n1 (by rw [show c0 = c from z]; exact List.mem_append_right _ hx2)), LD.put_at r i s' e m2, put_off (C := h0.cells) _ fun z => m3 c z c hx2 rfl]
end Pd
namespace Pd
open PySem L2
theorem LD.get_set : ∀ (ds : LD) (i : Nat) {c : Addr} {n s : Int} {h : LH} (s' : Int) (h' : LH), ds.get? i = some (c, n, s, h) → (ds.set i s' h').get? i = some (c, n, s', h')
  | .nil, _, _, _, _, _, _, _, e => nomatch e
  | .cons _ _ _ _ _, 0, _, _, _, _, _, _, e => by cases e; rfl
  | .cons _ _ _ _ r, i + 1, _, _, _, _, s', h', e => LD.get_set r i s' h' e
theorem LD.set_set : ∀ (ds : LD) (i : Nat) (s s' : Int) (h h' : LH), (ds.set i s h).set i s' h' = ds.set i s' h'
  | .nil, _, _, _, _, _ => rfl
  | .cons _ _ _ _ _, 0, _, _, _, _ => rfl
  | .cons c n s0 h0 r, i + 1, s, s', h, h' => congrArg (LD.cons c n s0 h0) (LD.set_set r i s s' h h')
theorem LD.set_self : ∀ (ds : LD) (i : Nat) {c : Addr} {n s : Int} {h : LH}, ds.get? i = some (c, n, s, h) → ds.set i s h = ds
  | .nil, _, _, _, _, _, e => nomatch e
  | .cons _ _ _ _ _, 0, _, _, _, _, e => by cases e; rfl
  | .cons c n s0 h0 r, i + 1, _, _, _, _, e => congrArg (LD.cons c n s0 h0) (LD.set_self r i e)
/-- the way down to where one stands: the numbers of the doors, the rooms' lists -/
inductive Down : LH → List Int → List Addr → LH → Prop
  | here (t : LH) : Down t [] [] t
  | go {a b c : Addr} {hand n s : Int} {ds : LD} {inner cur : LH} {p : List Int} {as : List Addr} (h0 : 0 ≤ hand) (g : ds.get? hand.toNat = some (c, n, s, inner)) (f : ¬ s < n) (d : Down inner p as cur) : Down (.room a b hand ds) (hand :: p) (a :: as) cur
theorem Down.snoc {t : LH} {p : List Int} {as : List Addr} {cur : LH} (d : Down t p as cur) : ∀ {a b c : Addr} {hand n s : Int} {ds : LD} {inner : LH}, cur = .room a b hand ds → 0 ≤ hand → ds.get? hand.toNat = some (c, n, s, inner) → ¬ s < n → Down t (p ++ [hand]) (as ++ [a]) inner := by
  induction d with
  | here t => intro a b c hand n s ds inner e h0 g f; subst e; exact .go h0 g f (.here _)
  | go h0 g f d ih => intro a b c hand n s ds inner e h0' g' f'; exact .go h0 g f (ih e h0' g' f')
theorem Down.cells {t : LH} {p : List Int} {as : List Addr} {cur : LH} (d : Down t p as cur) : ∀ e ∈ cur.cells, e ∈ t.cells := by
  induction d with
  | here t => exact fun e h => h
  | go h0 g f d ih => exact fun e h => List.mem_cons_of_mem _ (List.mem_cons_of_mem _ ((LD.cell_get _ _ g).2 e (ih e h)))
theorem Down.house {t : LH} {p : List Int} {as : List Addr} {cur : LH} (d : Down t p as cur) : t.house.ok → cur.house.ok ∧ cur.house.deep + p.length ≤ t.house.deep ∧ as.length = p.length := by
  induction d with
  | here t => exact fun h => ⟨h, Nat.le_refl _, rfl⟩
  | go h0 g f d ih =>
    rename_i a b c hand n s ds inner cur p as
    intro ⟨_, _, _, h3⟩
    have hg : ds.doors.get? hand.toNat = some (n, s, inner.house) := by rw [LD.doors_get, g]; rfl
    obtain ⟨_, _, _, _, ho⟩ := Doors.get_ok _ _ h3 hg
    obtain ⟨a1, a2, a3⟩ := ih ho
    refine ⟨a1, ?_, by simp [a3]⟩
    have := Doors.get_deep _ _ hg
    simp only [LH.house, House.deep, List.length_cons]
    omega
theorem nd_room {a b : Addr} {hand : Int} {ds : LD} (nd : (fps (LH.room a b hand ds).cells).Nodup) : a ∉ fps ds.cells ∧ b ∉ fps ds.cells ∧ a ≠ b ∧ (fps ds.cells).Nodup := by
  simp only [LH.cells, fps, List.map_cons] at nd
  obtain ⟨n1, n2⟩ := List.nodup_cons.mp nd
  obtain ⟨n3, n4⟩ := List.nodup_cons.mp n2
  exact ⟨fun z => n1 (List.mem_cons_of_mem _ z), n3, fun z => n1 (by rw [z]; exact List.mem_cons_self), n4⟩
theorem room_put {a b x : Addr} {hand : Int} {ds ds' : LD} {ys : List V} (nd : (fps (LH.room a b hand ds).cells).Nodup) (hx : x ∈ fps ds.cells) (hr : ds'.refs = ds.refs) (hc : ds'.cells = putC ds.cells x ys) : (LH.room a b hand ds').cells = putC (LH.room a b hand ds).cells x ys := by
  obtain ⟨n1, n2, _, _⟩ := nd_room nd
  simp only [LH.cells]
  rw [put_cons, put_cons, if_neg (fun z => n1 (by rw [show a = x from z]; exact hx)), if_neg (fun z => n2 (by rw [show b = x from z]; exact hx)), hr, hc]
theorem fps_in {ds : LD} {i : Nat} {c : Addr} {n s : Int} {h : LH} (g : ds.get? i = some (c, n, s, h)) {x : Addr} (hx : x ∈ fps h.cells) : x ∈ fps ds.cells := by
  obtain ⟨e, he, rfl⟩ := List.mem_map.mp hx
  exact List.mem_map.mpr ⟨e, (LD.cell_get _ _ g).2 e he, rfl⟩
/-- a push: one list is written -/
theorem Down.push {t : LH} {p : List Int} {as : List Addr} {cur : LH} (d : Down t p as cur) : ∀ {a b c : Addr} {hand n s : Int} {ds : LD} {inner : LH}, cur = .room a b hand ds → 0 ≤ hand → ds.get? hand.toNat = some (c, n, s, inner) → s < n → (fps t.cells).Nodup →
    ∃ t' : LH, t'.house = t.house.step.2 ∧ t.house.step.1 = (p ++ [hand], none) ∧ t'.val = t.val ∧ t'.cells = putC t.cells c [.int n, .int (s + 1), inner.val] ∧ c ∈ fps t.cells := by
  induction d with
  | here t =>
    intro a b c hand n s ds inner e h0 g f nd
    subst e
    have hg : ds.doors.get? hand.toNat = some (n, s, inner.house) := by rw [LD.doors_get, g]; rfl
    have hs := Doors.step_get _ _ hg
    rw [if_pos f] at hs
    have hx : c ∈ fps ds.cells := List.mem_map.mpr ⟨_, (LD.cell_get _ _ g).1, rfl⟩
    refine ⟨.room a b hand (ds.set hand.toNat (s + 1) inner), ?_, ?_, rfl, room_put nd hx (LD.refs_set _ _ _ _) (LD.put_at ds _ _ g (nd_room nd).2.2.2), List.mem_cons_of_mem _ (List.mem_cons_of_mem _ hx)⟩
    · simp only [LH.house, House.step, hs, if_true]
      rw [LD.doors_set _ _ _ _ g]
    · simp only [LH.house, House.step, hs, List.nil_append]
  | go h0 g f d ih =>
    rename_i a0 b0 c0 hand0 n0 s0 ds0 inner0 cur0 p0 as0
    intro a b c hand n s ds inner e h0' g' f' nd
    obtain ⟨_, _, _, nd2⟩ := nd_room nd
    obtain ⟨nd3, _⟩ := LD.get_nodup _ _ g nd2
    obtain ⟨t', e1, e2, e3, e4, e5⟩ := ih e h0' g' f' nd3
    have hg : ds0.doors.get? hand0.toNat = some (n0, s0, inner0.house) := by rw [LD.doors_get, g]; rfl
    have hs := Doors.step_get _ _ hg
    rw [if_neg f, e2] at hs
    have hx := fps_in g e5
    refine ⟨.room a0 b0 hand0 (ds0.set hand0.toNat s0 t'), ?_, ?_, rfl, room_put nd hx (LD.refs_set _ _ _ _) ?_, List.mem_cons_of_mem _ (List.mem_cons_of_mem _ hx)⟩
    · simp only [LH.house, House.step, hs, if_true]
      rw [LD.doors_set _ _ _ _ g, e1]
    · simp only [LH.house, House.step, hs, List.cons_append]
    · exact LD.put_in ds0 hand0.toNat t' c _ g nd2 e5 e3 e4
/-- one room that a leaving turns: its door's list, then its own -/
structure Turn1 (t tm t' : LH) (a : Addr) : Prop where
  ex : ∃ (b c : Addr) (hand : Int) (refs : List V) (n s : Int) (v : V), (a, [V.int hand, .ref b]) ∈ t.cells ∧ (b, refs) ∈ t.cells ∧ refs[hand.toNat]? = some (.ref c) ∧ 0 ≤ hand ∧ refs.length ≤ 4 ∧ (c, [V.int n, .int s, v]) ∈ t.cells ∧
    tm.cells = putC t.cells c [.int n, .int 0, v] ∧ t'.cells = putC tm.cells a [.int ((hand + 1).fmod refs.length), .ref b] ∧ (a, [V.int hand, .ref b]) ∈ tm.cells ∧ (b, refs) ∈ tm.cells ∧ a ∈ fps t.cells ∧ c ∈ fps t.cells
  vm : tm.val = t.val
  v : t'.val = t.val
theorem Turn1.fps {t tm t' : LH} {a : Addr} (h : Turn1 t tm t' a) : fps t'.cells = fps t.cells := by
  obtain ⟨b, c, hand, refs, n, s, v, _, _, _, _, _, _, e1, e2, _⟩ := h.ex
  rw [e2, fps_put, e1, fps_put]
/-- .. lies in the door of a room -/
theorem Turn1.lift {u um u' : LH} {a x y c : Addr} {hand n s : Int} {ds : LD} (h : Turn1 u um u' a) (g : ds.get? hand.toNat = some (c, n, s, u)) (hand' : Int) (nd : (Pd.fps (LH.room x y hand' ds).cells).Nodup) :
    Turn1 (.room x y hand' ds) (.room x y hand' (ds.set hand.toNat s um)) (.room x y hand' (ds.set hand.toNat s u')) a := by
  obtain ⟨b, c1, hd, refs, n1, s1, v, m1, m2, m3, m4, m4', m5, e1, e2, m6, m7, m8, m9⟩ := h.ex
  have inn : ∀ {e}, e ∈ u.cells → e ∈ (LH.room x y hand' ds).cells := fun he => List.mem_cons_of_mem _ (List.mem_cons_of_mem _ ((LD.cell_get _ _ g).2 _ he))
  have gm : (ds.set hand.toNat s um).get? hand.toNat = some (c, n, s, um) := LD.get_set _ _ _ _ g
  have inm : ∀ {e}, e ∈ um.cells → e ∈ (LH.room x y hand' (ds.set hand.toNat s um)).cells := fun he => List.mem_cons_of_mem _ (List.mem_cons_of_mem _ ((LD.cell_get _ _ gm).2 _ he))
  obtain ⟨_, _, _, nd2⟩ := nd_room nd
  have c1e : (LH.room x y hand' (ds.set hand.toNat s um)).cells = putC (LH.room x y hand' ds).cells c1 [.int n1, .int 0, v] := room_put nd (fps_in g m9) (LD.refs_set _ _ _ _) (LD.put_in ds _ um _ _ g nd2 m9 h.vm e1)
  have ndm : (Pd.fps (LH.room x y hand' (ds.set hand.toNat s um)).cells).Nodup := by rw [c1e, fps_put]; exact nd
  obtain ⟨_, _, _, nd3⟩ := nd_room ndm
  have am : a ∈ Pd.fps um.cells := by rw [e1, fps_put]; exact m8
  have c2e : (LH.room x y hand' (ds.set hand.toNat s u')).cells = putC (LH.room x y hand' (ds.set hand.toNat s um)).cells a [.int ((hd + 1).fmod refs.length), .ref b] := by
    rw [← LD.set_set ds hand.toNat s s um u']
    exact room_put ndm (fps_in gm am) (LD.refs_set _ _ _ _) (LD.put_in _ _ u' _ _ gm nd3 am (h.v.trans h.vm.symm) e2)
  exact ⟨⟨b, c1, hd, refs, n1, s1, v, inn m1, inn m2, m3, m4, m4', inn m5, c1e, c2e, inm m6, inm m7, List.mem_cons_of_mem _ (List.mem_cons_of_mem _ (fps_in g m8)), List.mem_cons_of_mem _ (List.mem_cons_of_mem _ (fps_in g m9))⟩, rfl, rfl⟩
/-- a leaving: the rooms on its way are turned, from the outermost -/
theorem Down.out {t : LH} {p : List Int} {as : List Addr} {cur : LH} (d : Down t p as cur) : ∀ {nm : Str}, cur = .out nm → t.house.ok → (fps t.cells).Nodup →
    ∃ ts tm : Nat → LH, ts 0 = t ∧ (ts as.length).house = t.house.step.2 ∧ t.house.step.1 = (p, some nm) ∧ ∀ i a, as[i]? = some a → Turn1 (ts i) (tm i) (ts (i + 1)) a := by
  induction d with
  | here t =>
    intro nm e ok nd
    subst e
    exact ⟨fun _ => .out nm, fun _ => .out nm, rfl, rfl, rfl, fun i a h => by simp at h⟩
  | go h0 g f d ih =>
    rename_i a0 b0 c0 hand0 n0 s0 ds0 inner0 cur0 p0 as0
    intro nm e ok nd
    obtain ⟨na, nb, nab, nd2⟩ := nd_room nd
    obtain ⟨nd3, _⟩ := LD.get_nodup _ _ g nd2
    obtain ⟨_, _, k2, k3⟩ := ok
    have hg : ds0.doors.get? hand0.toNat = some (n0, s0, inner0.house) := by rw [LD.doors_get, g]; rfl
    obtain ⟨_, _, _, _, ho⟩ := Doors.get_ok _ _ k3 hg
    obtain ⟨us, um, u0, u1, u2, u3⟩ := ih e ho nd3
    have hs := Doors.step_get _ _ hg
    rw [if_neg f, u2] at hs
    have hx : c0 ∈ fps ds0.cells := List.mem_map.mpr ⟨_, (LD.cell_get _ _ g).1, rfl⟩
    have lenr : ds0.refs.length = ds0.doors.len := LD.refs_len ds0
    -- the first room
    have c1 : (LH.room a0 b0 hand0 (ds0.set hand0.toNat 0 inner0)).cells = putC (LH.room a0 b0 hand0 ds0).cells c0 [.int n0, .int 0, inner0.val] := room_put nd hx (LD.refs_set _ _ _ _) (LD.put_at ds0 _ _ g nd2)
    have ndm : (fps (LH.room a0 b0 hand0 (ds0.set hand0.toNat 0 inner0)).cells).Nodup := by rw [c1, fps_put]; exact nd
    obtain ⟨ma, _, mab, nd4⟩ := nd_room ndm
    have c2 : (LH.room a0 b0 ((hand0 + 1).fmod ds0.refs.length) (ds0.set hand0.toNat 0 inner0)).cells = putC (LH.room a0 b0 hand0 (ds0.set hand0.toNat 0 inner0)).cells a0 [.int ((hand0 + 1).fmod ds0.refs.length), .ref b0] := by
      simp only [LH.cells]
      rw [put_cons, put_cons, if_pos rfl, if_neg (fun z => mab (Eq.symm z)), put_off (C := (ds0.set hand0.toNat 0 inner0).cells) _ ma]
    have first : Turn1 (.room a0 b0 hand0 ds0) (.room a0 b0 hand0 (ds0.set hand0.toNat 0 inner0)) (.room a0 b0 ((hand0 + 1).fmod ds0.refs.length) (ds0.set hand0.toNat 0 inner0)) a0 :=
      ⟨⟨b0, c0, hand0, ds0.refs, n0, s0, inner0.val, List.mem_cons_self, List.mem_cons_of_mem _ List.mem_cons_self, by rw [LD.refs_get, g]; rfl, h0, by rw [lenr]; exact k2, List.mem_cons_of_mem _ (List.mem_cons_of_mem _ (LD.cell_get _ _ g).1), c1, c2, List.mem_cons_self, by
        show _ ∈ (LH.room a0 b0 hand0 (ds0.set hand0.toNat 0 inner0)).cells
        simp only [LH.cells, LD.refs_set]; exact List.mem_cons_of_mem _ List.mem_cons_self, List.mem_cons_self, List.mem_cons_of_mem _ (List.mem_cons_of_mem _ hx)⟩, rfl, rfl⟩
    have ndi : ∀ i, i ≤ as0.length → (fps (us i).cells) = fps inner0.cells := by
      intro i
      induction i with
      | zero => intro _; rw [u0]
      | succ i ihh => intro hi; rw [(u3 i as0[i] (List.getElem?_eq_getElem (by omega))).fps]; exact ihh (by omega)
    have vi : ∀ i, i ≤ as0.length → (us i).val = inner0.val := by
      intro i
      induction i with
      | zero => intro _; rw [u0]
      | succ i ihh => intro hi; rw [(u3 i as0[i] (List.getElem?_eq_getElem (by omega))).v]; exact ihh (by omega)
    let R : LH → LH := fun u => .room a0 b0 ((hand0 + 1).fmod ds0.refs.length) (ds0.set hand0.toNat 0 u)
    have gset : ∀ u, (ds0.set hand0.toNat 0 u).get? hand0.toNat = some (c0, n0, 0, u) := fun u => LD.get_set _ _ _ _ g
    have rfps : ∀ i, i ≤ as0.length → (fps (R (us i)).cells).Nodup := by
      intro i
      induction i with
      | zero => intro _; rw [u0]; show (fps (R inner0).cells).Nodup; rw [first.fps]; exact nd
      | succ i ihh =>
        intro hi
        have lf := (u3 i as0[i] (List.getElem?_eq_getElem (by omega))).lift (gset (us i)) ((hand0 + 1).fmod ds0.refs.length) (ihh (by omega))
        rw [LD.set_set, LD.set_set] at lf
        rw [lf.fps]; exact ihh (by omega)
    refine ⟨fun i => match i with | 0 => .room a0 b0 hand0 ds0 | i + 1 => R (us i), fun i => match i with | 0 => .room a0 b0 hand0 (ds0.set hand0.toNat 0 inner0) | i + 1 => R (um i), rfl, ?_, ?_, fun i a hi => ?_⟩
    · show (R (us as0.length)).house = _
      simp only [R, LH.house, House.step, hs]
      rw [LD.doors_set _ _ _ _ g, u1, lenr]
      simp
    · simp only [LH.house, House.step, hs]
    · cases i with
      | zero =>
        simp at hi
        subst hi
        show Turn1 _ _ (R (us 0)) a0
        rw [u0]; exact first
      | succ i =>
        have hi' : as0[i]? = some a := by simpa using hi
        have hl := (List.getElem?_eq_some_iff.mp hi').1
        have lf := (u3 i a hi').lift (gset (us i)) ((hand0 + 1).fmod ds0.refs.length) (rfps i (by omega))
        rw [LD.set_set, LD.set_set] at lf
        exact lf
end Pd
namespace Pd
open PySem PySem.Spec PyProof.Rows L2
/-! ### rules for lists that stand where they are known to stand -/
section
variable {T : Tb} {S : List Addr} {K : PySem.W.Frag} {δ δ' : List (Option SD)} {H H' : Hp} {te ta tb tl to : TE} {t u : TS} {B : Ends} {d : D} {a l : Addr} {xs : List V} {v x y : V} {i : Int} {z : Str}
theorem ev_ofS (h : EvV T K te δ H (.str z)) : EvD T K te δ H (.str z) := fun σ H1 g s Q q => h σ H1 g s Q fun H2 g2 => q _ H2 g2 rfl
theorem ev_isStrS (h : EvV T K ta δ H (.str z)) : EvD T K (tCB (rIsi K) (tCons ta (tCons (tC (.ty "str")) tNil))) δ H (.bl true) := (ev_isStr (ev_ofS h)).is rfl
theorem ev_isStrL (h : EvV T K ta δ H (.ref l)) (e : H l = some (.lst xs)) : EvD T K (tCB (rIsi K) (tCons ta (tCons (tC (.ty "str")) tNil))) δ H (.bl false) := fun σ H1 g s Q q =>
  h σ H1 g s _ fun H2 g2 => ⟨.ref l, .ty "str", .type "list", .type "str", false, rfl, .ty _, .base (.lst ((g.trans g2).lst e (by simp))), kit_ty (by decide +kernel), q _ H2 g2 rfl⟩
/-- x, y = list of two -/
theorem run_unl2 {m n : Nat} (hT : Tbs T H) (h : EvV T K te δ H (.ref a)) (e : H a = some (.lst [x, y])) (k : ∀ H1, Gr T [] H H1 → Run K u B ((δ.set m (some (.v x))).set n (some (.v y))) H1) :
    Run K (tSeq (tAsg te (gUnl K 2 (gCons (gName m) (gCons (gName n) gNil)))) u) B δ H := fun σ s =>
  h σ H (Gr.refl hT) s _ fun H1 g1 => ⟨a, [x, y], rfl, .inl (.inl (g1.lst e (by simp))), rfl, x, [y], rfl, y, [], rfl, rfl, k H1 g1 _ (((s.up g1).set m (show SlotOk K H1 (some (.v x)) (some x) from rfl)).set n (show SlotOk K H1 (some (.v y)) (some y) from rfl))⟩
/-- for x in a list that stands at l and is not changed -/
theorem run_forL {n : Nat} (hT : Tbs T H) (hl : EvV T K tl δ H (.ref l)) (e : H l = some (.lst xs)) (nS : l ∉ S) (δs : Nat → List (Option SD)) (I : Nat → Hp → Prop)
    (h0 : Less δ (δs 0)) (hI : ∀ H1, Gr T [] H H1 → I 0 H1) (hIm : ∀ i H1 H2, Gr T [] H1 H2 → I i H1 → I i H2)
    (hs : ∀ i x H1 (N : L2.St → Hp → Prop), xs[i]? = some x → Gr T S H H1 → I i H1 → (∀ σ H2, Gr T S H1 H2 → I (i + 1) H2 → Slots K H2 (δs (i + 1)) σ → N σ H2) → Run K t { nx := N, rt := B.rt, bk := u B, ct := N } ((δs i).set n (some (.v x))) H1)
    (hd : ∀ H1, Gr T S H H1 → I xs.length H1 → Run K u B (δs xs.length) H1) : Run K (tSeq (tFor (iList K tl) (gName n) t) u) B δ H := fun σ s =>
  hl σ H (Gr.refl hT) s _ fun H2 g2 => by
    have e2 := g2.lst e (by simp)
    refine ⟨l, rfl, ⟨xs, .inl (.inl e2)⟩, ?_⟩
    have W : Walk (Itl K l) xs.length (fun H' => Gr T S H2 H') (fun i Ha x Hb => Ha = Hb ∧ xs[i]? = some x) := (walk_list (K := K) (a := l) (xs := xs)).mono (fun H' g => .inl (.inl (Gr.lst g e2 nS))) fun i Ha x Hb hi g q => ⟨q.1.symm, q.2⟩
    refine for_it W (fun i σ' H' => Gr T S H2 H' ∧ I i H' ∧ Slots K H' (δs i) σ') ⟨Gr.refl g2.tbs, hI H2 g2, Slots.less h0 (s.up g2)⟩ (fun i σ' H' _ p => p.1) (fun i x σ' Ha Hb hlt p y => ?_) (fun σ' H' p => hd H' (g2.any.trans p.1) p.2.1 σ' p.2.2)
    obtain ⟨p1, p2, p3⟩ := p
    obtain ⟨rfl, hx⟩ := y
    exact hs i x Ha (fun σ' H' => Gr T S H2 H' ∧ I (i + 1) H' ∧ Slots K H' (δs (i + 1)) σ') hx (g2.any.trans p1) p2 (fun σ2 H3 g3 i3 s3 => ⟨p1.trans g3, i3, s3⟩) _ (p3.set n (show SlotOk K Ha (some (.v x)) (some x) from rfl))
end
end Pd
namespace Pd
open PySem L2
/-! ### numbers of one or two figures, as texts -/
def num (i : Int) : Str := toString i
def isNum (z : Str) : Bool := (decide (1 ≤ z.length) && decide (z.length ≤ 2)) && z.cps.toList.all (fun c => decide (c ∈ ("0123456789" : Str).cps.toList)) && (decide (z.length = 1) || !decide (z.cps.toList[0]? = some 48))
def numOk (i : Int) : Bool := isNum (num i) && decide (PySem.intText? (num i) = some i) && (num i).cps.toList.all (fun c => decide (48 ≤ c) && decide (c ≤ 57)) && decide (i.natAbs.log2 < 1920)
theorem numOk_all : (List.range 100).all (fun k => numOk (k : Nat)) = true := by decide +kernel
theorem num_ok {i : Int} (h0 : 0 ≤ i) (h1 : i ≤ 99) : numOk i = true := by
  have := List.all_eq_true.mp numOk_all i.toNat (List.mem_range.mpr (by omega))
  rwa [Int.toNat_of_nonneg h0] at this
end Pd
namespace Pd
open PySem L2 TL
def fig (i : Int) : Prop := 0 ≤ i ∧ i ≤ 99
section
variable {i : Int}
theorem fig.isNum (h : fig i) : isNum (num i) = true := by
  have := num_ok h.1 h.2
  simp only [numOk, Bool.and_eq_true] at this
  exact this.1.1.1
theorem fig.val (h : fig i) : PySem.intText? (num i) = some i := by
  have := num_ok h.1 h.2
  simp only [numOk, Bool.and_eq_true, decide_eq_true_eq] at this
  exact this.1.1.2
theorem fig.figs (h : fig i) : ∀ c ∈ tl (num i), 48 ≤ c ∧ c ≤ 57 := by
  have := num_ok h.1 h.2
  simp only [numOk, Bool.and_eq_true, decide_eq_true_eq, List.all_eq_true] at this
  exact this.1.2
theorem fig.log (h : fig i) : i.natAbs.log2 < 1920 := by
  have := num_ok h.1 h.2
  simp only [numOk, Bool.and_eq_true, decide_eq_true_eq] at this
  exact this.2
theorem fig.len (h : fig i) : 1 ≤ (num i).length ∧ (num i).length ≤ 2 := by
  have := h.isNum
  simp only [Pd.isNum, Bool.and_eq_true, decide_eq_true_eq] at this
  exact this.1.1
end
mutual
def House.words : House → List (List Str)
  | .out n => [["out", n]]
  | .room hand ds => ["room", num hand, num ds.len] :: ds.words
def Doors.words : Doors → List (List Str)
  | .nil => []
  | .cons n s h r => ["door", num n, num s] :: (h.words ++ r.words)
end
mutual
theorem House.words_len : ∀ h : House, h.words.length = 1 + 2 * h.many
  | .out _ => rfl
  | .room _ ds => by simp only [House.words, List.length_cons, House.many, Doors.words_len ds]; omega
theorem Doors.words_len : ∀ ds : Doors, ds.words.length = 2 * ds.many
  | .nil => rfl
  | .cons _ _ h r => by simp only [Doors.words, List.length_cons, List.length_append, Doors.many, House.words_len h, Doors.words_len r]; omega
end
def rowT (ws : List Str) : Str := Txt.join " " ws
def House.text (h : House) : Str := Txt.join "\n" (h.words.map rowT)
inductive RowOk : List Str → Prop
  | out (n : Str) : okName n → RowOk ["out", n]
  | room (a b : Int) : fig a → fig b → RowOk ["room", num a, num b]
  | door (a b : Int) : fig a → fig b → RowOk ["door", num a, num b]
mutual
theorem House.words_ok : ∀ h : House, h.ok → ∀ w ∈ h.words, RowOk w
  | .out n, o, w, hw => by
    simp only [House.words, List.mem_singleton] at hw
    subst hw; exact .out n o
  | .room hand ds, ⟨o1, o2, o3, o4⟩, w, hw => by
    simp only [House.words, List.mem_cons] at hw
    rcases hw with rfl | hw
    · exact .room _ _ ⟨o1, by omega⟩ ⟨by omega, by omega⟩
    · exact Doors.words_ok ds o4 w hw
theorem Doors.words_ok : ∀ ds : Doors, ds.ok → ∀ w ∈ ds.words, RowOk w
  | .nil, _, w, hw => by simp [Doors.words] at hw
  | .cons n s h r, ⟨o1, o2, o3, o4, o5, o6⟩, w, hw => by
    simp only [Doors.words, List.mem_cons, List.mem_append] at hw
    rcases hw with rfl | hw | hw
    · exact .door _ _ ⟨by omega, o2⟩ ⟨o3, by omega⟩
    · exact House.words_ok h o5 w hw
    · exact Doors.words_ok r o6 w hw
end
theorem tl_rowT (ws : List Str) : tl (rowT ws) = joinL [32] (ws.map tl) := by
  unfold rowT
  rw [join_eq, tl_join]; rfl
theorem tl_row2 (a b : Str) : tl (rowT [a, b]) = tl a ++ (32 :: tl b) := by rw [tl_rowT]; simp [joinL]
theorem tl_row3 (a b c : Str) : tl (rowT [a, b, c]) = tl a ++ (32 :: (tl b ++ (32 :: tl c))) := by rw [tl_rowT]; simp [joinL]
theorem tl_out : tl "out" = [111, 117, 116] := by decide +kernel
theorem tl_room : tl "room" = [114, 111, 111, 109] := by decide +kernel
theorem tl_door : tl "door" = [100, 111, 111, 114] := by decide +kernel
theorem tl_out_ : tl "out " = [111, 117, 116, 32] := by decide +kernel
theorem tl_room_ : tl "room " = [114, 111, 111, 109, 32] := by decide +kernel
theorem tl_door_ : tl "door " = [100, 111, 111, 114, 32] := by decide +kernel
theorem tl_sp : tl " " = [32] := by decide +kernel
theorem tl_nl : tl "\n" = [10] := by decide +kernel
theorem tl_empty : tl Str.empty = [] := rfl
theorem row_out (n : Str) : "out " ++ n = rowT ["out", n] := ext_tl (by rw [tl_row2, tl_append, tl_out_, tl_out]; rfl)
theorem row_room (a b : Str) : "room " ++ a ++ " " ++ b = rowT ["room", a, b] := ext_tl (by rw [tl_row3, tl_append, tl_append, tl_append, tl_room_, tl_room, tl_sp]; simp)
theorem row_door (a b : Str) : "door " ++ a ++ " " ++ b = rowT ["door", a, b] := ext_tl (by rw [tl_row3, tl_append, tl_append, tl_append, tl_door_, tl_door, tl_sp]; simp)
theorem empty_app (a : Str) : Str.empty ++ a = a := ext_tl (by rw [tl_append, tl_empty]; rfl)
theorem RowOk.signs {w : List Str} (h : RowOk w) : w ≠ [] ∧ (∀ p ∈ w, 32 ∉ tl p) ∧ 10 ∉ tl (rowT w) ∧ (rowT w).length ≤ 10 := by
  cases h with
  | out n o =>
    have hc : ∀ c ∈ tl n, 97 ≤ c ∧ c ≤ 122 := o.2.2
    refine ⟨by simp, fun p hp => ?_, ?_, ?_⟩
    · rcases (by simpa using hp : p = "out" ∨ p = n) with rfl | rfl
      · rw [tl_out]; decide
      · exact fun z => absurd (hc 32 z).1 (by decide)
    · rw [tl_row2, tl_out]
      simp only [List.mem_append, List.mem_cons]
      rintro (z | z | z)
      · simp at z
      · cases z
      · exact absurd (hc 10 z).1 (by decide)
    · rw [len_tl, tl_row2, tl_out]
      have := o.2.1
      rw [len_tl] at this
      simp only [List.length_append, List.length_cons, List.length_nil]; omega
  | room a b ha hb =>
    refine ⟨by simp, fun p hp => ?_, ?_, ?_⟩
    · rcases (by simpa using hp : p = "room" ∨ p = num a ∨ p = num b) with rfl | rfl | rfl
      · rw [tl_room]; decide
      · exact fun z => absurd (ha.figs 32 z).1 (by decide)
      · exact fun z => absurd (hb.figs 32 z).1 (by decide)
    · rw [tl_row3, tl_room]
      simp only [List.mem_append, List.mem_cons]
      rintro (z | z | z | z | z)
      · simp at z
      · cases z
      · exact absurd (ha.figs 10 z).1 (by decide)
      · cases z
      · exact absurd (hb.figs 10 z).1 (by decide)
    · rw [len_tl, tl_row3, tl_room]
      have h1 := ha.len.2
      have h2 := hb.len.2
      rw [len_tl] at h1 h2
      simp only [List.length_append, List.length_cons, List.length_nil]; omega
  | door a b ha hb =>
    refine ⟨by simp, fun p hp => ?_, ?_, ?_⟩
    · rcases (by simpa using hp : p = "door" ∨ p = num a ∨ p = num b) with rfl | rfl | rfl
      · rw [tl_door]; decide
      · exact fun z => absurd (ha.figs 32 z).1 (by decide)
      · exact fun z => absurd (hb.figs 32 z).1 (by decide)
    · rw [tl_row3, tl_door]
      simp only [List.mem_append, List.mem_cons]
      rintro (z | z | z | z | z)
      · simp at z
      · cases z
      · exact absurd (ha.figs 10 z).1 (by decide)
      · cases z
      · exact absurd (hb.figs 10 z).1 (by decide)
    · rw [len_tl, tl_row3, tl_door]
      have h1 := ha.len.2
      have h2 := hb.len.2
      rw [len_tl] at h1 h2
      simp only [List.length_append, List.length_cons, List.length_nil]; omega
theorem RowOk.split {w : List Str} (h : RowOk w) : Txt.split (rowT w) " " = w := split_join (s := 32) (S := []) tl_sp (by decide +kernel) h.signs.1 h.signs.2.1
theorem words_ne (h : House) : h.words ≠ [] := by
  cases h <;> simp [House.words]
theorem text_split {h : House} (o : h.ok) : Txt.split h.text "\n" = h.words.map rowT := by
  refine split_join (s := 10) (S := []) tl_nl (by decide +kernel) (fun e => words_ne h (List.map_eq_nil_iff.mp e)) fun p hp => ?_
  obtain ⟨w, hw, rfl⟩ := List.mem_map.mp hp
  exact (House.words_ok h o w hw).signs.2.2.1
theorem sum_rows : ∀ ws : List (List Str), (∀ w ∈ ws, RowOk w) → ((ws.map rowT).map (·.length)).sum ≤ 10 * ws.length
  | [], _ => Nat.le_refl _
  | w :: ws, h => by
    have a := (h w (by simp)).signs.2.2.2
    have b := sum_rows ws fun x hx => h x (by simp [hx])
    simp only [List.map_cons, List.sum_cons, List.length_cons]; omega
theorem joinL_len (S : List Nat) : ∀ ls : List (List Nat), (joinL S ls).length ≤ (ls.map (·.length)).sum + S.length * ls.length
  | [] => by simp [joinL]
  | [a] => by simp [joinL]
  | a :: b :: r => by
    have := joinL_len S (b :: r)
    simp only [joinL, List.length_append, List.map_cons, List.sum_cons, List.length_cons, Nat.mul_add] at this ⊢
    omega
theorem text_len {h : House} (o : h.ok) : h.text.length ≤ 11 * h.words.length := by
  have a := sum_rows h.words (House.words_ok h o)
  unfold House.text
  rw [len_tl, join_eq, tl_join, tl_nl]
  have b := joinL_len [10] ((h.words.map rowT).map tl)
  have e : (((h.words.map rowT).map tl).map (·.length)) = ((h.words.map rowT).map (·.length)) := by
    rw [List.map_map]; exact List.map_congr_left fun x _ => (len_tl x).symm
  rw [e] at b
  simp only [List.length_map, List.length_cons, List.length_nil] at b
  omega
/-! ### the doors from the i-th on -/
def Doors.skip : Doors → Nat → Doors
  | ds, 0 => ds
  | .nil, _ + 1 => .nil
  | .cons _ _ _ r, i + 1 => r.skip i
theorem Doors.skip_zero (ds : Doors) : ds.skip 0 = ds := by cases ds <;> rfl
theorem Doors.skip_get : ∀ (ds : Doors) (i : Nat) {n s : Int} {h : House}, ds.get? i = some (n, s, h) → ds.skip i = .cons n s h (ds.skip (i + 1))
  | .nil, _, _, _, _, e => nomatch e
  | .cons _ _ _ r, 0, _, _, _, e => by cases e; simp only [Doors.skip, Doors.skip_zero]
  | .cons _ _ _ r, i + 1, _, _, _, e => by simp only [Doors.skip]; exact Doors.skip_get r i e
theorem Doors.skip_len : ∀ ds : Doors, ds.skip ds.len = .nil
  | .nil => rfl
  | .cons _ _ _ r => Doors.skip_len r
theorem Doors.get_manyW : ∀ (ds : Doors) (i : Nat) {n s : Int} {h : House}, ds.get? i = some (n, s, h) → h.many + 1 ≤ ds.many
  | .nil, _, _, _, _, e => nomatch e
  | .cons _ _ h r, 0, _, _, _, e => by cases e; simp only [Doors.many]; omega
  | .cons _ _ h r, i + 1, _, _, _, e => by have := Doors.get_manyW r i e; simp only [Doors.many]; omega
/-! ### which rows can stand -/
inductive Stands : List Str → Str → List Str → Prop
  | out (n : Str) : okName n → Stands ["out", n] "room" []
  | room (a b : Int) : fig a → fig b → Stands ["room", num a, num b] "room" (List.replicate b.toNat ("door" : Str))
  | door (a b : Int) : fig a → fig b → Stands ["door", num a, num b] "door" ["room"]
def Goes : List Str → List (List Str) → List Str → Prop
  | st, [], fin => st = fin
  | st, w :: ws, fin => ∃ st0 x n, st = st0 ++ [x] ∧ Stands w x n ∧ Goes (st0 ++ n) ws fin
theorem Goes.app : ∀ {u v : List (List Str)} {a b c : List Str}, Goes a u b → Goes b v c → Goes a (u ++ v) c
  | [], _, _, _, _, h, h2 => by cases (show _ = _ from h); exact h2
  | _ :: u, _, _, _, _, ⟨st0, x, n, e, s, g⟩, h2 => ⟨st0, x, n, e, s, Goes.app (u := u) g h2⟩
mutual
theorem House.goes : ∀ h : House, h.ok → ∀ st, Goes (st ++ [("room" : Str)]) h.words st
  | .out n, o, st => ⟨st, "room", [], rfl, .out n o, by simp [Goes]⟩
  | .room hand ds, ⟨o1, o2, o3, o4⟩, st => by
    have := Doors.goes ds o4 st
    exact ⟨st, "room", _, rfl, .room _ _ ⟨o1, by omega⟩ ⟨by omega, by omega⟩, by rw [Int.toNat_natCast]; exact this⟩
theorem Doors.goes : ∀ ds : Doors, ds.ok → ∀ st, Goes (st ++ List.replicate ds.len ("door" : Str)) ds.words st
  | .nil, _, st => by simp [Goes, Doors.words, Doors.len]
  | .cons n s h r, ⟨o1, o2, o3, o4, o5, o6⟩, st => by
    refine ⟨st ++ List.replicate r.len ("door" : Str), "door", ["room"], ?_, .door _ _ ⟨by omega, o2⟩ ⟨o3, by omega⟩, Goes.app (House.goes h o5 _) (Doors.goes r o6 st)⟩
    rw [Doors.len, List.replicate_succ', List.append_assoc]
end
/-! ### what they build, from the last -/
inductive Step : List Str → List D → List D → Prop
  | out (n : Str) (st : List D) : Step ["out", n] st (.str n :: st)
  | door (a b : Int) (x : D) (st : List D) : fig a → fig b → Step ["door", num a, num b] (x :: st) (.tup [.int a, .int b, x] :: st)
  | room (a : Int) (ds st : List D) : fig a → ds.length ≤ 99 → Step ["room", num a, num ds.length] (ds ++ st) (.tup [.int a, .tup ds] :: st)
def Comes : List (List Str) → List D → List D → Prop
  | [], st, fin => st = fin
  | w :: ws, st, fin => ∃ st', Step w st st' ∧ Comes ws st' fin
theorem Comes.app : ∀ {u v : List (List Str)} {a b c : List D}, Comes u a b → Comes v b c → Comes (u ++ v) a c
  | [], _, _, _, _, h, h2 => by cases (show _ = _ from h); exact h2
  | _ :: u, _, _, _, _, ⟨st, s, g⟩, h2 => ⟨st, s, Comes.app (u := u) g h2⟩
mutual
theorem House.ends : ∀ h : House, h.ok → ∀ st, Comes h.words.reverse st (h.toD :: st)
  | .out n, o, st => ⟨_, .out n st, rfl⟩
  | .room hand ds, ⟨o1, o2, o3, o4⟩, st => by
    simp only [House.words, List.reverse_cons]
    refine Comes.app (Doors.ends ds o4 st) ⟨_, ?_, rfl⟩
    have := Step.room hand ds.toDs st ⟨o1, by omega⟩ (by rw [Doors.toDs_len]; omega)
    rw [Doors.toDs_len] at this
    exact this
theorem Doors.ends : ∀ ds : Doors, ds.ok → ∀ st, Comes ds.words.reverse st (ds.toDs ++ st)
  | .nil, _, st => by simp [Comes, Doors.words, Doors.toDs]
  | .cons n s h r, ⟨o1, o2, o3, o4, o5, o6⟩, st => by
    simp only [Doors.words, List.reverse_cons, List.reverse_append, Doors.toDs, List.append_assoc, List.cons_append]
    rw [← List.append_assoc]
    exact Comes.app (Comes.app (Doors.ends r o6 st) (House.ends h o5 _)) ⟨_, .door n s h.toD _ ⟨by omega, o2⟩ ⟨o3, by omega⟩, rfl⟩
end
end Pd
namespace L2
open PySem PySem.Spec PyProof.Rows
/-! ### del xs[a:] -/
section
variable {prog : Program} {w : World} {A : Around} {E : Value → Shared → Prop} {s : Shared}
theorem zip_keep {α : Type} (sel : Nat → Bool) (a : Nat) : ∀ (xs : List α) (k : Nat), (∀ i, k ≤ i → i < k + xs.length → sel i = decide (a ≤ i)) → (xs.zipIdx k).filterMap (fun x => if sel x.2 then none else some x.1) = xs.take (a - k)
  | [], k, _ => by simp
  | x :: xs, k, h => by
    rw [List.zipIdx_cons, List.filterMap_cons]
    have h0 := h k (Nat.le_refl _) (by simp)
    have ih := zip_keep sel a xs (k + 1) fun i h1 h2 => h i (by omega) (by simp only [List.length_cons]; omega)
    simp only [h0]
    by_cases c : a ≤ k
    · rw [decide_eq_true c, if_pos rfl, ih, show a - (k + 1) = 0 by omega, show a - k = 0 by omega]; simp
    · rw [decide_eq_false c, if_neg (by decide), ih, show a - k = (a - (k + 1)) + 1 by omega]; rfl
theorem bounds_from {a n : Nat} (ha : a ≤ n) : sliceBounds (some (a : Int)) none none n = ((a : Int), (n : Int), 1) := by
  simp only [sliceBounds, Option.getD_none]
  have h1 : ¬ ((a : Int) < 0) := by omega
  simp only [h1, if_false, show (1 : Int) > 0 by decide, if_true]
  congr 1
  omega
theorem delItem_slice {l sl : Addr} {items : Array Value} {n : Nat} {vl vu : Value} {a : Nat} {Q : Unit → Shared → Prop}
    (e : s.heap.get? l = some { cls := .type "list", data := .seq items n }) (hs : s.heap.IsSliceOf sl vl vu .none) (pl : IsPart vl (some (a : Int))) (pu : IsPart vu none) (ha : a ≤ items.size)
    (hsz : items.size ≤ sizeLine) (h : ∀ F : Array Value → Array Value, F items = (items.toList.take a).toArray → Q () { s with heap := s.heap.update l (Obj.mapSeq F) }) :
    wpAny (model prog w) A (delItem (.ref l) (.ref sl)) Q E s := by
  have hl : s.heap.IsList l items := PySem.IsL.isList e
  obtain ⟨os, hos, hcs, hds⟩ := id hs
  have hTs : s.TypeIs (.ref sl) "slice" := ⟨os, hos, hcs⟩
  have hstep : ¬ ((rawPart none == rawInt 0) = true) := Bool.false_ne_true
  unfold delItem
  try with_reducible refine wpAny_holding ?_
  first | refine wpAny_bind (wpAny_pure ?_) | skip
  refine wpAny_bind (wpAny_sequenceKey hl.typeIs (by decide) ?_)
  refine wpAny_bind (wpAny_callSpecial?_slot (name := Str.ofString "__delitem__") hl.typeIs PySem.F.slot_list_delitem
    (wpAny_call_entry PySem.F.slot_list_delitem hl.typeIs PySem.F.entry_list_delitem ?_ (PySem.F.args_list_delitem_2 _ _)))
  show wpAny _ _ (Builtin.List.listSubscript? (.ref sl) >>= _) _ _ s
  refine wpAny_bind ?_
  unfold Builtin.List.listSubscript?
  refine wpAny_bind (wpAny_specialOf hTs slice_no_index ?_)
  simp only [Option.isNone_none, if_true]
  refine wpAny_pure ?_
  show wpAny _ _ (typeOf (.ref sl) >>= _) _ _ s
  refine wpAny_bind (wpAny_typeOf hTs ?_)
  first
    | rw [if_neg (by decide)]
    | refine PySem.W.KFB.if_not (by decide) ?_
  rw [listSliceParts_eq]
  refine wpAny_bind (wpAny_bind (wpAny_field hos hds (x := .none) rfl (wpAny_bind (wpAny_listPart .none ?_))))
  rw [if_neg hstep]
  refine wpAny_bind (wpAny_field hos hds (x := vl) rfl (wpAny_bind (wpAny_listPart pl ?_)))
  refine wpAny_bind (wpAny_field hos hds (x := vu) rfl (wpAny_bind (wpAny_listPart pu (wpAny_pure ?_))))
  unfold Builtin.List.listItems
  refine wpAny_bind (wpAny_bind (wpAny_seqItems e rfl (wpAny_pure ?_)))
  refine wpAny_bind (wpAny_of_eq ((sliceIndices_raw (some (a : Int)) none none items.size (by simp)).trans (congrArg (pure : Int × Int × Int → Sem (Int × Int × Int)) (bounds_from ha))) ?_)
  refine wpAny_bind (wpAny_rule ?_)
  generalize hF : (fun xs : Array Value => (List.filterMap _ xs.toList.zipIdx).toArray) = F
  have hFi : F items = (items.toList.take a).toArray := by
    rw [← hF]
    show (List.filterMap _ items.toList.zipIdx).toArray = _
    refine congrArg List.toArray ?_
    have := zip_keep (fun i => (decide ((a : Int) ≤ (i : Int)) && decide ((i : Int) < (items.size : Int))) && (((i : Int) - a) % 1 == 0)) a items.toList 0 fun i _ h2 => by
      have : (i : Int) < (items.size : Int) := by simpa using h2
      rw [decide_eq_true this, Bool.and_true]
      by_cases c : a ≤ i
      · rw [decide_eq_true c, decide_eq_true (by omega)]; simp
      · rw [decide_eq_false c, decide_eq_false (by omega)]; rfl
    exact this
  refine wpAny_bind (wpAny_updateSeq (hz := hsz) (_hz' := by rw [hFi]; simp; omega) e rfl ?_)
  refine wpAny_bind (wpAny_letGo ?_)
  exact wpAny_pure ⟨.none, rfl, wpAny_pure (h F hFi)⟩
end
section
variable {X : Cx}
/-- del o[lo:] -/
def tDelS (to : TE) (tl : TO) : TS := fun D σ H => to σ H fun x H1 => tl σ H1 fun lo H2 => ∃ (l : Addr) (xs : List V) (a : Nat), x = .ref l ∧ lo = some (a : Int) ∧ H2 l = some (.lst xs) ∧ a ≤ xs.length ∧ D.nx σ (upd H2 l (.lst (xs.take a)))
theorem ps_delS {o : Expr} {lo : Option Expr} {to : TE} {tl : TO} {p2 tpos pos : Pos} (ho : PE X o to) (hl : PO X lo tl) : PS X (.Delete [.Subscript o (.Slice lo none none p2) tpos] pos) (tDelS to tl) := by
  refine ⟨fun pins s σ H D I h => ?_⟩
  refine wpAny_Delete (wpAny_deleteEach_cons (wpAny_delete_Subscript (thn (ho.run pins s σ H _ I h) fun u s1 ⟨x, H1, I1, rx, q1⟩ => ?_)))
  refine wpAny_Slice (thn (hl.run pins s1 σ H1 _ I1 q1) fun vl s2 ⟨lo', H2, I2, pl, q2⟩ => thn ((po_none : PO X none tNoPart).run pins s2 σ H2 (fun u' H3 => u' = none ∧ H3 = H2) I2 ⟨rfl, rfl⟩) fun vu s3 ⟨u', H3, I3, pu, q3⟩ => ?_)
  obtain ⟨rfl, rfl⟩ := q3
  rw [evalPart_none]
  refine wpAny_pure ?_
  have I4 : Inv X pins σ H3 { s3 with heap := s3.heap.push { cls := .type "slice", data := .fields #[vl, vu, .none] } } := I3.kept (t' := s3.toks) fun b ob q => Heap.get?_push_of_some _ q
  obtain ⟨l, xs, a, ex, ea, hH, hale, q⟩ := q2
  subst ex; subst ea
  cases (show u = Value.ref l from rx)
  obtain ⟨z, its, n, r, hlz, e⟩ := I4.lstM hH
  have hlen := r.length
  refine delItem_slice (a := a) e (Heap.IsSliceOf.new ..) pl pu (by rw [List.size_toArray]; omega) (by rw [List.size_toArray]; omega) fun F hF => ?_
  refine wpAny_deleteEach_nil ⟨σ, _, ?_, q⟩
  refine I4.lset (its' := its.take a) (t' := s3.toks) hH e (by rw [hF]) (r.take a) ?_
  rw [List.length_take]; omega
end
end L2
namespace Pd
open PySem PySem.Spec PyProof.Rows L2
theorem run_delS {T : Tb} {K : PySem.W.Frag} {δ : List (Option SD)} {H : Hp} {to : TE} {tl : TO} {u : TS} {B : Ends} {l : Addr} {xs : List V} {a : Nat} (hT : Tbs T H) (ho : EvV T K to δ H (.ref l)) (hl : EvO T K tl δ H (some (a : Int))) (e : H l = some (.lst xs)) (ha : a ≤ xs.length)
    (k : ∀ H1, Gr T [] H H1 → H1 l = some (.lst xs) → Run K u B δ (upd H1 l (.lst (xs.take a)))) : Run K (tSeq (tDelS to tl) u) B δ H := fun σ s =>
  ho σ H (Gr.refl hT) s _ fun H1 g1 => hl σ H1 g1 (s.up g1) _ fun H2 g2 => by
    have g := g1.trans g2
    have e2 := g.lst e (by simp)
    have gp : Gr T [l] H2 (upd H2 l (.lst (xs.take a))) := (Gr.refl g.tbs).put e2 (.inl (by simp))
    exact ⟨l, xs, a, rfl, rfl, e2, ha, k H2 g e2 σ ((s.up g).up gp)⟩
end Pd
namespace Pd
open PySem PySem.Spec PyProof.Rows L2
/-! ### rules for texts and lists of texts -/
section
variable {T : Tb} {S : List Addr} {K : PySem.W.Frag} {δ δ' : List (Option SD)} {H H' : Hp} {te ta tb tl to : TE} {t u : TS} {B : Ends} {d : D} {l : Addr} {xs ys : List V} {i : Int} {x y z : Str} {ws : List Str} {ds : List D}
theorem Reps.strs : ∀ {ws : List Str} {xs : List V}, Reps K H (ws.map D.str) xs → xs = ws.map V.str
  | [], _, h => h
  | w :: ws, _, ⟨x, r, e, h1, h2⟩ => by
    subst e
    cases (show x = .str w from h1)
    rw [Reps.strs (ws := ws) h2]; rfl
theorem Reps.ofStrs : ∀ ws : List Str, Reps K H (ws.map D.str) (ws.map V.str)
  | [] => rfl
  | w :: ws => ⟨.str w, _, rfl, rfl, Reps.ofStrs ws⟩
theorem en_ofL (h : EvL T K te δ H (ws.map D.str)) : EvN T K te δ H (ws.map V.str) := fun σ H1 g s Q q => h σ H1 g s Q fun p xs H2 n g2 e r => q p H2 n g2 (by rw [← r.strs]; exact e)
theorem el_ofN (h : EvN T K te δ H (ws.map V.str)) : EvL T K te δ H (ws.map D.str) := fun σ H1 g s Q q => h σ H1 g s Q fun p H2 n g2 e => q p _ H2 n g2 e (Reps.ofStrs ws)
theorem ev_addS (ha : EvD T K ta δ H (.str x)) (hb : EvD T K tb δ H (.str y)) (hz : x.length + y.length ≤ 100000) : EvD T K (tOp (fun x y H Q => ∃ i j : Str, x = .str i ∧ y = .str j ∧ i.length + j.length ≤ sizeLine ∧ Q (.str (i ++ j)) H) ta tb) δ H (.str (x ++ y)) :=
  ev_op ha hb fun v w H1 g1 e1 e2 Q q => ⟨x, y, e1, e2, sz hz, q _ H1 g1.self rfl⟩
theorem ev_strI (h : EvD T K te δ H (.int i)) (hf : fig i) : EvD T K (tCB (fun xs H Q => ∃ i : Int, xs = [.int i] ∧ i.natAbs.log2 < 1920 ∧ Q (.str (toString i)) H) (tCons te tNil)) δ H (.str (num i)) := fun σ H1 g s Q q =>
  h σ H1 g s _ fun v H2 g2 e => by
    cases (show v = .int i from e)
    exact ⟨i, rfl, hf.log, q _ H2 g2 rfl⟩
theorem ev_intS (h : EvD T K te δ H (.str (num i))) (hf : fig i) : EvD T K (tCB (fun xs H Q => ∃ a n, xs = [.str a] ∧ PySem.intText? a = some n ∧ a.length ≤ 640 ∧ Q (.int n) H) (tCons te tNil)) δ H (.int i) := fun σ H1 g s Q q =>
  h σ H1 g s _ fun v H2 g2 e => by
    cases (show v = .str (num i) from e)
    exact ⟨num i, i, rfl, hf.val, by have := hf.len.2; omega, q _ H2 g2 rfl⟩
/-! f-strings -/
def EvJ (T : Tb) (K : PySem.W.Frag) (ts : List TE) (acc : Str) (δ : List (Option SD)) (H : Hp) (out : Str) : Prop := ∀ σ H1, Gr T [] H H1 → Slots K H1 δ σ → ∀ Q : Str → Hp → Prop, (∀ H2, Gr T [] H1 H2 → Q out H2) → tJs ts acc σ H1 Q
theorem ej_nil {acc : Str} : EvJ T K [] acc δ H acc := fun σ H1 g s Q q => q H1 g.self
theorem ej_cons {acc out : Str} {ts : List TE} (h : EvD T K te δ H (.str y)) (hz : (acc ++ y).length ≤ 100000) (hr : EvJ T K ts (acc ++ y) δ H out) : EvJ T K (te :: ts) acc δ H out := fun σ H1 g s Q q =>
  h σ H1 g s _ fun v H2 g2 e => ⟨y, e, sz hz, hr σ H2 (g.trans g2) (s.up g2) Q fun H3 g3 => q H3 (g2.trans g3)⟩
theorem ev_joined {out : Str} {ts : List TE} (h : EvJ T K ts Str.empty δ H out) : EvD T K (fun σ H Q => tJs ts Str.empty σ H fun out H1 => Q (.str out) H1) δ H (.str out) := fun σ H1 g s Q q => h σ H1 g s _ fun H2 g2 => q _ H2 g2 rfl
theorem ev_fmtS (h : EvD T K te δ H (.str y)) (hz : y.length ≤ 100000) : EvD T K (tFmt te) δ H (.str y) := fun σ H1 g s Q q => h σ H1 g s _ fun v H2 g2 e => .inl ⟨y, e, sz hz, q _ H2 g2 rfl⟩
theorem ev_fmtI (h : EvD T K te δ H (.int i)) (hf : fig i) : EvD T K (tFmt te) δ H (.str (num i)) := fun σ H1 g s Q q => h σ H1 g s _ fun v H2 g2 e => .inr ⟨i, e, hf.log, q _ H2 g2 rfl⟩
/-! join, split, a sign -/
theorem ev_joinN {a : Str} (ho : EvD T K to δ H (.str a)) (he : EvL T K te δ H (ws.map D.str)) (hz : (ws.map (·.length)).sum + ws.length * a.length ≤ 100000) :
    EvD T K (tM1 (fun x xs H Q => ∃ a p, ∃ ys : List Str, x = .str a ∧ xs = [.ref p] ∧ (SqL K H p (ys.map V.str) ∨ SqT K H p (ys.map V.str)) ∧ (ys.map (·.length)).sum + ys.length * a.length ≤ 16777216 ∧ Q (.str (Txt.join a ys)) H) to te) δ H (.str (Txt.join a ws)) := fun σ H1 g s Q q =>
  ho σ H1 g s _ fun v H2 g2 e => ⟨⟨a, e⟩, he σ H2 (g.trans g2) (s.up g2) _ fun p xs H3 n g3 ep r => ⟨a, p, ws, e, rfl, .inl (.inl (.inl (by rw [← r.strs]; exact ep))), Nat.le_trans hz (by decide), q _ H3 (g2.trans g3) rfl⟩⟩
theorem el_split {a b : Str} (ho : EvD T K to δ H (.str a)) (he : EvD T K te δ H (.str b)) (hb : (b.length == 0) = false) (ha : a.length ≤ 90000) :
    EvL T K (tM1 (fun x xs H Q => ∃ a b, x = .str a ∧ xs = [.str b] ∧ (b.length == 0) = false ∧ a.length + 2 ≤ sizeLine ∧ rNewStrs (Txt.split a b) H Q) to te) δ H ((Txt.split a b).map D.str) := fun σ H1 g s Q q =>
  ho σ H1 g s _ fun v H2 g2 e => ⟨⟨a, e⟩, he σ H2 (g.trans g2) (s.up g2) _ fun w H3 g3 e2 => by
    cases (show v = .str a from e); cases (show w = .str b from e2)
    exact ⟨a, b, rfl, rfl, hb, sz (by omega), fun p hp => q p _ _ (g2.dom p (g3.dom p hp)) ((g2.trans g3).trans (Gr.new g3.tbs hp)) upd_same (Reps.ofStrs _)⟩⟩
theorem ev_ixS {c : Nat} (ha : EvD T K ta δ H (.str z)) (hb : EvD T K tb δ H (.int i)) (hz : z.length ≤ 100000) (h : atI z.cps.toList i = some c) : EvD T K (tOp rIxS ta tb) δ H (.str ⟨#[c]⟩) :=
  ev_op ha hb fun v w H1 g1 e1 e2 Q q => ⟨z, i, c, e1, e2, sz hz, h, q _ H1 g1.self rfl⟩
/-- a text out of a list of texts -/
theorem ev_ixW {w : Str} (ha : EvV T K ta δ H (.ref l)) (hb : EvD T K tb δ H (.int i)) (hl : H l = some (.lst (ws.map V.str))) (h : atI ws i = some w) : EvD T K (tOp (rIxL K) ta tb) δ H (.str w) :=
  ev_ofS (ev_ixV ha hb hl (by
    unfold atI at h ⊢
    rw [List.length_map]
    cases e : ixN ws.length i with
    | none => rw [e] at h; cases h
    | some n =>
      rw [e] at h
      show (ws.map V.str)[n]? = _
      rw [List.getElem?_map, (show ws[n]? = some w from h)]; rfl))
theorem el_revL (h : EvL T K te δ H ds) : EvL T K (tRevL K te) δ H ds.reverse := fun σ H1 g s Q q => h σ H1 g s _ fun p xs H2 n g2 e r => ⟨p, xs, rfl, .inl (.inl e), fun r' hr => by
    have gn : Gr T [] H2 (upd H2 r' (.lst xs.reverse)) := Gr.new g2.tbs hr
    exact q r' _ _ (g2.dom r' hr) (g2.trans gn) upd_same (Reps.up r.rev gn)⟩
theorem en_rev (h : EvV T K te δ H (.ref l)) (e : H l = some (.lst xs)) : EvN T K (tRevL K te) δ H xs.reverse := fun σ H1 g s Q q => h σ H1 g s _ fun H2 g2 => ⟨l, xs, rfl, .inl (.inl ((g.trans g2).lst e (by simp))), fun p hp => q p _ (g2.dom p hp) (g2.trans (Gr.new g2.tbs hp)) upd_same⟩
theorem el_repS (ha : EvL T K ta δ H [.str y]) (hb : EvD T K tb δ H (.int i)) (h0 : 0 ≤ i) (h1 : i ≤ 1000) : EvL T K (tOp rRep ta tb) δ H ((List.replicate i.toNat y).map D.str) := fun σ H1 g s Q q =>
  ha σ H1 g s _ fun p xs H2 n g2 e r => hb σ H2 (g.trans g2) (s.up g2) _ fun w H3 g3 e2 => by
    have ex : xs = [.str y] := Reps.strs (ws := [y]) r
    subst ex
    refine ⟨p, i, _, rfl, e2, g3.lst e (by simp), by omega, by omega, sz (by simp only [List.length_cons, List.length_nil]; omega), fun p' hp => ?_⟩
    have ef : ∀ k : Nat, (List.replicate k [V.str y]).flatten = (List.replicate k y).map V.str := fun k => by
      induction k with
      | zero => rfl
      | succ k ih => rw [List.replicate_succ, List.flatten_cons, ih, List.replicate_succ]; rfl
    exact q p' _ _ (g2.dom p' (g3.dom p' hp)) ((g2.trans g3).trans (Gr.new g3.tbs hp)) upd_same (by rw [ef]; exact Reps.ofStrs _)
/-- a.extend(a new list) -/
theorem run_extN (hT : Tbs T H) (ho : EvV T K to δ H (.ref l)) (h : EvN T K te δ H ys) (e : H l = some (.lst xs)) (hz : xs.length + ys.length ≤ 50000)
    (k : ∀ H1, Gr T [] H H1 → H1 l = some (.lst xs) → Run K u B δ (upd H1 l (.lst (xs ++ ys)))) : Run K (tSeq (tDrop (tBM K "list" rExtend to (tCons te tNil))) u) B δ H := fun σ s =>
  ho σ H (Gr.refl hT) s _ fun H1 g1 => ⟨.inl ⟨rfl, _, .inl (.inl (g1.lst e (by simp)))⟩, h σ H1 g1 (s.up g1) _ fun p H2 np g2 e2 => by
    have g := g1.trans g2
    have el := g.lst e (by simp)
    have gp : Gr T [l] H2 (upd H2 l (.lst (xs ++ ys))) := (Gr.refl g.tbs).put el (.inl (by simp))
    exact ⟨l, p, xs, ys, rfl, rfl, el, e2, Nat.le_trans hz (by decide), k _ g el σ ((s.up g).up gp)⟩⟩
/-- enumerate(a new list) -/
theorem ei_enumL (h : EvL T K te δ H ds) (hS : ∀ s ∈ S, H s ≠ none) : EvI T K S (iEnum K (tCons te tNil)) δ H (withNo ds 0) := fun σ H1 g s R q =>
  h σ H1 g s _ fun a xs H2 na g2 ea rs => by
    have nS : a ∉ S := fun z => hS a z (g.dom a na)
    have hs : ∀ H', Gr T S H2 H' → SqL K H' a xs := fun H' g' => .inl (.inl (g'.lst ea nS))
    refine ⟨a, xs, rfl, .inl (.inl ea), q _ H2 g2 ?_⟩
    rw [withNo_len, ← rs.len]
    refine ⟨fun i Ha hi g' => ⟨xs, xs[i], hs Ha g', by simp [hi]⟩, fun Ha g' => ⟨xs, hs Ha g', Nat.le_refl _⟩, fun i Ha x Hb hi g' y => ?_⟩
    obtain ⟨p, z, e1, hp, e2, e3⟩ := y
    subst e1; subst e2
    obtain ⟨d, hd, rd⟩ := rs.got (e3 xs (hs Ha g'))
    have gn : Gr T [] Ha (upd Ha p (.tup [.int (i : Nat), z])) := Gr.new g'.tbs hp
    refine ⟨gn, .tup [.int (i : Nat), d], by rw [withNo_get, hd, Nat.zero_add]; rfl, p, _, rfl, .inl (.inl upd_same), .int (i : Nat), _, rfl, rfl, z, _, rfl, (rd.up g').up gn, rfl⟩
/-- for x in a new list -/
theorem run_forN {n : Nat} (hT : Tbs T H) (hl : EvN T K tl δ H xs) (hS : ∀ s ∈ S, H s ≠ none) (δs : Nat → List (Option SD)) (I : Nat → Hp → Prop)
    (h0 : Less δ (δs 0)) (hI : ∀ H1, Gr T [] H H1 → I 0 H1) (hIm : ∀ i H1 H2, Gr T [] H1 H2 → I i H1 → I i H2)
    (hs : ∀ i x H1 (N : L2.St → Hp → Prop), xs[i]? = some x → Gr T S H H1 → I i H1 → (∀ σ H2, Gr T S H1 H2 → I (i + 1) H2 → Slots K H2 (δs (i + 1)) σ → N σ H2) → Run K t { nx := N, rt := B.rt, bk := u B, ct := N } ((δs i).set n (some (.v x))) H1)
    (hd : ∀ H1, Gr T S H H1 → I xs.length H1 → Run K u B (δs xs.length) H1) : Run K (tSeq (tFor (iList K tl) (gName n) t) u) B δ H := fun σ s =>
  hl σ H (Gr.refl hT) s _ fun l H2 nl g2 e2 => by
    have nS : l ∉ S := fun z => hS l z nl
    refine ⟨l, rfl, ⟨xs, .inl (.inl e2)⟩, ?_⟩
    have W : Walk (Itl K l) xs.length (fun H' => Gr T S H2 H') (fun i Ha x Hb => Ha = Hb ∧ xs[i]? = some x) := (walk_list (K := K) (a := l) (xs := xs)).mono (fun H' g => .inl (.inl (Gr.lst g e2 nS))) fun i Ha x Hb hi g q => ⟨q.1.symm, q.2⟩
    refine for_it W (fun i σ' H' => Gr T S H2 H' ∧ I i H' ∧ Slots K H' (δs i) σ') ⟨Gr.refl g2.tbs, hI H2 g2, Slots.less h0 (s.up g2)⟩ (fun i σ' H' _ p => p.1) (fun i x σ' Ha Hb hlt p y => ?_) (fun σ' H' p => hd H' (g2.any.trans p.1) p.2.1 σ' p.2.2)
    obtain ⟨p1, p2, p3⟩ := p
    obtain ⟨rfl, hx⟩ := y
    exact hs i x Ha (fun σ' H' => Gr T S H2 H' ∧ I (i + 1) H' ∧ Slots K H' (δs (i + 1)) σ') hx (g2.any.trans p1) p2 (fun σ2 H3 g3 i3 s3 => ⟨p1.trans g3, i3, s3⟩) _ (p3.set n (show SlotOk K Ha (some (.v x)) (some x) from rfl))
/-- if not (so) or not f(a, list.pop()): never -/
theorem run_can {sp : Sp} {E : XK} {t0 : TT} {v y : V} (hT : Tbs T H) (h0 : EvT T K t0 δ H false) (hw : EvV T K ta δ H v) (hl : EvV T K to δ H (.ref l)) (e : H l = some (.lst (xs ++ [y])))
    (hsp : ∀ H1, Gr T [l] H H1 → ∀ Q : VK, (∀ H2, Gr T [] H1 H2 → Q (.bl true) H2) → sp [v, y] H1 Q E)
    (k : ∀ H1, Gr T [l] H H1 → H1 l = some (.lst xs) → (∀ H0, Gr T [] H H0 → True) → Run K u B δ H1) :
    Run K (tSeq (tIfS (tOr t0 (tNot (tB (tCall sp [] E (tCons ta (tCons (tBM0 K "list" rPop to) tNil)))))) t tNext) u) B δ H := fun σ s =>
  h0 σ H (Gr.refl hT) s _ fun H1 g1 => by
    refine (show ta σ H1 _ from hw σ H1 g1 (s.up g1) _ fun H2 g2 => hl σ H2 (g1.trans g2) ((s.up g1).up g2) _ fun H3 g3 => ?_)
    have g := (g1.trans g2).trans g3
    have el := g.lst e (by simp)
    have gp : Gr T [l] H3 (upd H3 l (.lst xs)) := (Gr.refl g.tbs).put el (.inl (by simp))
    refine ⟨.inl ⟨rfl, _, .inl (.inl el)⟩, l, _, y, rfl, rfl, el, by simp, ?_⟩
    rw [List.dropLast_concat]
    refine hsp _ (g.any.trans gp) _ fun H4 g4 => ⟨true, rfl, ?_⟩
    exact k H4 ((g.any.trans gp).trans g4.any) (g4.lst upd_same (by simp)) (fun _ _ => trivial) σ (((s.up g).up gp).up g4)
/-- list.append((a, b, list.pop())) -/
theorem run_appPop {to2 : TE} {a b : Int} {y : V} (hT : Tbs T H) (ho : EvV T K to δ H (.ref l)) (ho2 : EvV T K to2 δ H (.ref l)) (ha : EvD T K ta δ H (.int a)) (hb : EvD T K tb δ H (.int b)) (e : H l = some (.lst (xs ++ [y]))) (hy : Rep K H d y) (hz : xs.length < 50000)
    (k : ∀ v H1, Gr T [l] H H1 → H1 l = some (.lst (xs ++ [v])) → Rep K H1 (.tup [.int a, .int b, d]) v → Run K u B δ H1) :
    Run K (tSeq (tDrop (tBM K "list" rAppend to (tCons (tTup (tCons ta (tCons tb (tCons (tBM0 K "list" rPop to2) tNil)))) tNil))) u) B δ H := fun σ s =>
  ho σ H (Gr.refl hT) s _ fun H1 g1 => ⟨.inl ⟨rfl, _, .inl (.inl (g1.lst e (by simp)))⟩, ha σ H1 g1 (s.up g1) _ fun v2 H2 g2 r2 => hb σ H2 (g1.trans g2) ((s.up g1).up g2) _ fun v3 H3 g3 r3 => ho2 σ H3 ((g1.trans g2).trans g3) (((s.up g1).up g2).up g3) _ fun H4 g4 => by
    have g := ((g1.trans g2).trans g3).trans g4
    have el := g.lst e (by simp)
    have gp : Gr T [l] H4 (upd H4 l (.lst xs)) := (Gr.refl g.tbs).put el (.inl (by simp))
    refine ⟨.inl ⟨rfl, _, .inl (.inl el)⟩, l, _, y, rfl, rfl, el, by simp, ?_⟩
    rw [List.dropLast_concat]
    refine ⟨by simp [sizeLine], fun p hp => ?_⟩
    have gn : Gr T [] (upd H4 l (.lst xs)) (upd (upd H4 l (.lst xs)) p (.tup [v2, v3, y])) := Gr.new gp.tbs hp
    have el2 := gn.lst (l := l) upd_same (by simp)
    have gq : Gr T [l] _ (upd (upd (upd H4 l (.lst xs)) p (.tup [v2, v3, y])) l (.lst (xs ++ [.ref p]))) := (Gr.refl gn.tbs).put el2 (.inl (by simp))
    have gall := ((g.any.trans gp).trans gn.any).trans gq
    have hpl : p ≠ l := fun z => by subst z; rw [upd_same] at hp; cases hp
    refine ⟨l, xs, .ref p, rfl, rfl, el2, Nat.lt_trans hz (by decide), ?_⟩
    refine k (.ref p) _ gall upd_same ⟨p, [v2, v3, y], rfl, .inl (.inl ?_), v2, _, rfl, r2, v3, _, rfl, r3, y, _, rfl, hy.up gall, rfl⟩ σ (s.up gall)
    rw [upd_ne hpl]; exact upd_same⟩
end
end Pd
set_option maxHeartbeats 4000000
namespace Pd
open PySem PySem.Spec PyProof.Rows L2
/-! ### refusals of all kinds, with their values -/
/-- what is raised: its value, its dict -/
def Raised (K : PySem.W.Frag) (k : Ek) (val : D) (d : Option Addr) (H : Hp) : Prop := if k = .count then d = none else ∃ dx v, d = some dx ∧ H dx = some (.xd [(k.fld, v)]) ∧ Rep K H val v
theorem Raised.up {K : PySem.W.Frag} {k : Ek} {val : D} {d : Option Addr} {T : Tb} {H H' : Hp} (h : Raised K k val d H) (g : Gr T [] H H') : Raised K k val d H' := by
  unfold Raised at h ⊢
  by_cases c : k = .count
  · rw [if_pos c] at h ⊢; exact h
  · rw [if_neg c] at h ⊢
    obtain ⟨dx, v, e1, e2, e3⟩ := h
    exact ⟨dx, v, e1, g.keep _ _ (by simp) e2 (fun ps z => by cases z), e3.up g⟩
/-- what can be said of in an error's text -/
def FmtOk (val : D) : Prop := (∃ i : Int, val = .int i ∧ i.natAbs.log2 < 1920) ∨ (∃ z : Str, val = .str z ∧ z.length ≤ 50000) ∨ ∃ l : List Int, val = .tup (l.map D.int) ∧ l.length ≤ 40 ∧ ∀ i ∈ l, i.natAbs.log2 < 1920
theorem Tbs.same {T : Tb} {H H' : Hp} (h : Tbs T H) (k : ∀ b o, H b = some o → H' b = some o) : Tbs T H' := by
  refine ⟨fun P hP => ?_, fun p hp => ?_⟩
  · obtain ⟨ps, e, t⟩ := h.1 P hP
    exact ⟨ps, k _ _ e, t⟩
  · obtain ⟨ps, e, t, q⟩ := h.2 p hp
    refine ⟨ps, k _ _ e, t, fun pos cv hc => ?_⟩
    obtain ⟨c, e1, e2⟩ := q pos cv hc
    exact ⟨c, e1, k _ _ e2⟩
theorem Gr.same {T : Tb} {S : List Addr} {H H' : Hp} (h : Tbs T H) (k : ∀ b o, H b = some o → H' b = some o) : Gr T S H H' :=
  ⟨fun b o _ e _ => k b o e, fun b o e _ => k b o e, fun b e => by
    cases z : H b with
    | none => rfl
    | some o => exact absurd (k b o z) (by rw [e]; simp), h.same k⟩
/-! an error's __init__ -/
structure DInit (K : PySem.W.Frag) (mg : Str → Option Value) (D0 : Addr) : Prop where
  m : mg "DoorError" = some (.ref D0)
  sg : PySem.W.specialIn K (.ref D0) "__getattribute__" = some (some (.builtin "type.__getattribute__"))
  rd : PySem.W.readsIn K D0 (.type "type") = true
  fc : PySem.W.findCls K (.ref D0) (.type "type") "__init__" = some (.val (.builtin "ValueError.__init__"))
section
variable {X : Cx} {e : Expr} {es : List Expr} {ta : TA} {te : TE} {p1 p2 pos : Pos}
theorem pe_dinit {D0 : Addr} {pl : Sem Bool} (T : DInit X.K X.mg D0) (hg : Gl X "DoorError") (ha : PA X (e :: es) ta)
    (hc : eval (.Call (.Attribute (.Name "DoorError" p1) "__init__" p2) (e :: es) [] pos) X.env = (do
      let ov ← eval (.Name "DoorError" p1) X.env
      standAt p2.atName
      let (f, first) ← holding [ov] (getMethod ov "__init__" pl)
      callWith pos f first (backTo pos (starEach (e :: es) X.env)) (backToKw pos (keywordEach [] X.env))) := by rfl)
    (he : starEach (e :: es) X.env = (false, eval e X.env) :: starEach es X.env := by rfl) (hpl : (backTo pos (starEach es X.env)).any (·.1) = false := by rfl) :
    PE X (.Call (.Attribute (.Name "DoorError" p1) "__init__" p2) (e :: es) [] pos) (tVeI X.K ta) := by
  refine ⟨fun pins s σ H Q I h => ?_⟩
  refine PySem.W.methodCall_KW (ld_glob I hg T.m ?_) hc
  refine PySem.W.method_cls I.kIn T.sg (PySem.W.cls_value I.kIn T.rd T.fc (by decide +kernel) ?_)
  show wpAny _ _ (callWith pos (Value.builtin "ValueError.__init__") [] (backTo pos (starEach (e :: es) X.env)) []) _ _ _
  refine PyProof.Rows.callWith_method1 (thn (ha.run pos pins _ σ H _ (I.tok _) h) fun us s1 ⟨vs, H1, I1, r1, a, C, ws, ev, hl, T, ea, q⟩ => ?_) he hpl
  subst ev
  cases r1 with
  | @cons _ u0 _ ur ra rw' =>
    obtain rfl : u0 = Value.ref a := ra
    have hlen : ur.length ≤ sizeLine := by
      rw [← Paired.length rw', sizeLine_eq]
      omega
    exact oinit_ok T I1 ea hlen fun s' J => ⟨.non, H1, J, rfl, q⟩
theorem repr_ints {prog : Program} {w : World} : ∀ {l : List Int} {its : List Value}, Vals (l.map V.int) its → (∀ i ∈ l, i.natAbs.log2 < 1920) → ReprAll prog w its (l.map fun i => Str.ofString (toString i))
  | [], _, r, _ => by
    cases r
    exact .nil
  | y :: l, _, r, h => by
    cases r with
    | cons r1 r2 =>
      obtain ⟨t, rfl⟩ := r1
      exact .cons (ReprIs.int t (h y List.mem_cons_self)) (repr_ints r2 fun z hz => h z (List.mem_cons_of_mem _ hz))
theorem piled_ints : ∀ l : List Int, (∀ i ∈ l, i.natAbs.log2 < 1920) → piled (l.map fun i => Str.ofString (toString i)) ≤ 1923 * l.length
  | [], _ => Nat.zero_le _
  | y :: l, h => by
    have h1 := PyProof.Rows.int_text_len_1921 (h y List.mem_cons_self)
    have h2 := piled_ints l fun z hz => h z (List.mem_cons_of_mem _ hz)
    rw [List.map_cons, piled_cons, List.length_cons]
    omega
/-- {t} of a tuple of numbers, of a number, of a text: some text -/
def tFmtA (K : PySem.W.Frag) (te : TE) : TE := fun σ H Q => te σ H fun x H1 => (∃ y : Str, x = .str y ∧ y.length ≤ sizeLine ∧ Q (.str y) H1) ∨ (∃ i : Int, x = .int i ∧ i.natAbs.log2 < 1920 ∧ Q (.str (Str.ofString (toString i))) H1) ∨
  ∃ (a : Addr) (l : List Int), x = .ref a ∧ SqT K H1 a (l.map V.int) ∧ l.length ≤ 40 ∧ (∀ i ∈ l, i.natAbs.log2 < 1920) ∧ ∀ m : Str, m.length ≤ 80000 → Q (.str m) H1
theorem pe_fmtA {k : Nat} (hr : Room k X.A) (he : PE X e te) : PE X (.FormattedValue e (-1) none pos) (tFmtA X.K te) := by
  refine ⟨fun pins s σ H Q I h => ?_⟩
  refine wpAny_FormattedValue_plain (thn (he.run pins s σ H _ I h) fun v s1 hv => ?_)
  obtain ⟨x, H1, I1, r1, q⟩ := hv
  rcases q with ⟨y, rfl, hz, q⟩ | ⟨i, rfl, hz, q⟩ | ⟨a, l, rfl, ht, hl, hc, q⟩
  · obtain ⟨t, rfl⟩ := r1
    exact wpAny_formatField_str ⟨.str y, H1, I1, ⟨t, rfl⟩, q⟩ ⟨.str y, H1, I1.tok _, ⟨_, rfl⟩, q⟩ hz
  · obtain ⟨t, rfl⟩ := r1
    exact wpAny_formatField_int hz ⟨.str (Str.ofString (toString i)), H1, I1.tok _, ⟨_, rfl⟩, q⟩
  · cases r1
    obtain ⟨its, rv, ⟨o, ho, hcl, n, hd⟩, _⟩ := I1.tuple ht
    have hp := piled_ints l hc
    have htx := fmt_text (l.map fun i => Str.ofString (toString i))
    have hu := hr.units
    have h8 : 80000 ≤ sizeLine := Nat.le_trans (by decide) (sz (Nat.le_refl _))
    refine fmt_tuple (ts := l.map fun i => Str.ofString (toString i)) (by omega) ho hcl hd (repr_ints rv hc) (by omega) fun m u tk hm => ⟨.str m, H1, I1.tok _, ⟨u, rfl⟩, q m (by omega)⟩
end
section
variable {T : Tb} {K : PySem.W.Frag}
/-- self.f = what is handed in; the base's own text -/
def spInit (K : PySem.W.Frag) (k : Ek) (C : Addr) : Sp := fun vs H Q _ => ∃ (a : Addr) (v : V) (val : D), vs = [.ref a, v] ∧ H a = some (exo a C none) ∧ Rep K H val v ∧ FmtOk val ∧ ∀ dx, H dx = none → dx ≠ a → Q .non (upd (upd H dx (exd dx [(k.fld, v)])) a (exo a C (some dx)))
/-- the class of these errors -/
structure EC (P : Program) (w : World) (K : PySem.W.Frag) (mg : Str → Option Value) (base : Heap) (k : Ek) (C : Addr) : Prop where
  g : mg k.cls = some (.ref C)
  T : OexC K C
  ex : ∃ fI fd ps, PySem.W.findIn K (.ref C) "__init__" = some (some (.ref fI)) ∧ PySem.W.typeIn K (.ref fI) = some (.type "function") ∧ FnOk P w K mg base CX0 1 fI fd ps (spInit K k C) ∧ Binds K fd ps []
/-- raise of such an error -/
def tRaiseV (K : PySem.W.Frag) (k : Ek) (C : Addr) (te : TE) (W : WX) : TS := fun D σ H => tMkO C (spInit K k C) [] (tCons te tNil) σ H fun cls d H' => W cls d σ H'
theorem ps_raiseV {X : Cx} {k : Ek} {C : Addr} {x : Str} {e : Expr} {te : TE} {W : WX} {p pos pos' : Pos} (V : EC X.prog X.w X.K X.mg X.base k C) (hx : k.cls = x) (hr : Room 2 X.A) (hc : X.calm = true) (tk : Takes X W) (hg : Gl X x) (he : PE X e te)
    (hdb : (x == ("__debug__" : Str)) = false := by decide) (hs : starEach [e] X.env = (false, eval e X.env) :: starEach [] X.env := by rfl) (hpl : (backTo pos (starEach [] X.env)).any (·.1) = false := by rfl) :
    PS X (.Raise (some (.Call (.Name x p) [e] [] pos)) none pos') (tRaiseV X.K k C te W) := by
  subst hx
  obtain ⟨fI, fd, ps, iC, tI, F1, hb⟩ := V.ex
  exact ps_raise (pos := pos') hc tk (pmk_oex (p := p) (pos := pos) V.T iC tI F1 hr hb .nil pass0 hg V.g (pa_cons he pa_nil hs) hdb hs hpl)
section
variable {T : Tb} {K : PySem.W.Frag} {δ : List (Option SD)} {H : Hp} {te : TE} {B : Ends} {C : Addr} {W : WX} {k : Ek} {val : D}
theorem run_raiseV (hk : k ≠ .count) (hT : Tbs T H) (h : EvD T K te δ H val) (hf : FmtOk val) (q : ∀ σ d H', Gr T [] H H' → Raised K k val d H' → W (.ref C) d σ H') : Run K (tRaiseV K k C te W) B δ H := fun σ s =>
  h σ H (Gr.refl hT) s _ fun v H1 g1 r1 => ⟨by simp, fun a na => ⟨a, v, val, rfl, upd_same, r1.up (Gr.new (S := []) g1.tbs na), hf, fun dx ndx nda => by
    have ndx1 : H1 dx = none := by rw [upd_ne nda] at ndx; exact ndx
    refine ⟨rfl, dx, [(k.fld, v)], upd_same, by rw [upd_ne nda]; exact upd_same, ndx1, ?_⟩
    have kp : ∀ b o, H1 b = some o → (upd (del (upd (upd (upd H1 a (exo a C none)) dx (exd dx [(k.fld, v)])) a (exo a C (some dx))) a) dx (HO.xd [(k.fld, v)])) b = some o := fun b o e => by
      have nb : b ≠ a := ne_of_none e na
      have nd : b ≠ dx := ne_of_none e ndx1
      rw [upd_ne nd, del_ne nb, upd_ne nb, upd_ne nd, upd_ne nb]; exact e
    have gf := Gr.same (T := T) (S := []) g1.tbs kp
    refine q σ (some dx) _ (g1.trans gf) ?_
    unfold Raised
    rw [if_neg hk]
    exact ⟨dx, v, rfl, upd_same, r1.up gf⟩⟩⟩
end
/-! what a def does: it hands back something, or refuses -/
inductive Out where
  | ret (d : D) | err (k : Ek) (val : D)
def spO (T : Tb) (K : PySem.W.Frag) (C : Ek → Addr) (R : List D → Out → Prop) : Sp := fun vs H Q E => ∃ ds o, R ds o ∧ Reps K H ds vs ∧ Tbs T H ∧ match o with
  | .ret d => ∀ v H', Gr T [] H H' → Rep K H' d v → Q v H'
  | .err k val => ∀ d H', Gr T [] H H' → Raised K k val d H' → E (.ref (C k)) d H'
/-- such a def, where it may refuse -/
structure OkE (P : Program) (w : World) (K : PySem.W.Frag) (mg : Str → Option Value) (base : Heap) (k : Nat) (x : Str) (ps : List Str) (sp : Sp) : Prop where
  ex : ∃ f fd, FnOk P w K mg base (L2.CX P w) k f fd ps sp ∧ mg x = some (.ref f) ∧ PySem.W.keepIn K (.ref f) = true ∧ Binds K fd ps []
section
variable {P : Program} {w : World} {K : PySem.W.Frag} {mg : Str → Option Value} {base : Heap} {x : Str} {st : Stmt} {ps N : List Str} {f : Addr} {C : Ek → Addr} {fd : FuncData} {k : Nat} {sp : Sp} {T : Tb}
/-- the ends of a def's body, by what is to come -/
def endsO (T : Tb) (K : PySem.W.Frag) (C : Ek → Addr) (E : XK) (H : Hp) (o : Out) (Q : VK) : Prop := match o with
  | .ret d => ∀ v H', Gr T [] H H' → Rep K H' d v → Q v H'
  | .err k val => ∀ d H', Gr T [] H H' → Raised K k val d H' → E (.ref (C k)) d H'
theorem okO {R : List D → Out → Prop} (a : At K mg x st ps f fd) (S : FnScope N ps (defScope st)) (hl : ∀ ds o, R ds o → ds.length = ps.length)
    (body : ∀ (cdv : Value) (A : Around) (outer : List Env) (s : Shared) (H : Hp) (E : XK) (ds : List D) (o : Out) (Q : VK), Room k (A.deeper (envOfC x (defScope st) s.heap.objs.size f cdv)) → R ds o → Tbs T H → endsO T K C E H o Q →
      ∃ t, PSs (cxOf (L2.CX P w) P w K mg base N x (defScope st) f cdv A outer s H E) (defBody st) t ∧ Run K t { nx := fun _ H' => Q .non H', rt := Q } (ds.map (fun d => some (SD.d d)) ++ List.replicate (N.length - ds.length) none) H) : OkE P w K mg base (k + 1) x ps (spO T K C R) := by
  obtain ⟨oc, od, kV, doc, pm, an, cdv, ct, osl, efd, lk, hcd⟩ := a.F.ex
  refine ⟨f, fd, ?_, a.m, a.F.kp, a.b⟩
  subst efd
  refine fn_of lk hcd S (fun vs H Q E ⟨ds, o, hR, hr, _⟩ => by rw [hr.len]; exact hl ds o hR) fun A outer s H vs Q E hr ⟨ds, o, hR, rs, hT, q⟩ => ?_
  obtain ⟨t, h1, h2⟩ := body cdv A outer s H E ds o Q hr hR hT q
  refine ⟨t, h1, h2 _ ?_⟩
  unfold L2.start
  rw [rs.len]
  exact Slots.start _ rs
theorem OkE.mono {j : Nat} (o : OkE P w K mg base j x ps sp) (h : j ≤ k) : OkE P w K mg base k x ps sp := by
  obtain ⟨f, fd, G, r⟩ := o.ex
  exact ⟨f, fd, G.mono h, r⟩
end
section
variable {X : Cx} {k j : Nat} {x : Str} {ps : List Str} {sp : Sp} {e : Expr} {es : List Expr} {t : TA} {p pos : Pos} {E : XK}
theorem pe_ownE (G : OkE X.prog X.w X.K X.mg X.base j x ps sp) (tk : Takes X fun cls d _ H => E cls d H) (hr : Room k X.A) (hjk : j ≤ k) (hg : Gl X x) (ha : PA X (e :: es) t) (hdb : (x == ("__debug__" : Str)) = false := by decide)
    (he : starEach (e :: es) X.env = (false, eval e X.env) :: starEach es X.env := by rfl) (hpl : (backTo pos (starEach es X.env)).any (·.1) = false := by rfl) : PE X (.Call (.Name x p) (e :: es) [] pos) (tCall sp [] E t) := by
  obtain ⟨f, fd, F, m, kp, b⟩ := G.ex
  exact pe_call F (hr.mono hjk) hg m kp b .nil (passes_call tk fun _ _ _ _ h => h) ha hdb he hpl
/-- raise BadCount('..') -/
structure BCc (K : PySem.W.Frag) (mg : Str → Option Value) (C : Addr) : Prop where
  g : mg "BadCount" = some (.ref C)
  x : PySem.W.excIn K C HandSPX.veTail "ValueError.__new__" = true
  k : PySem.W.keepIn K (.ref C) = true
  s : PySem.W.subIn K (.ref C) (.type "BaseException") = some true
  t : PySem.W.typeIn K (.ref C) = some (.type "type")
theorem ps_count {C : Addr} {m : Str} {jj : Nat} {p2 pos' : Pos} {W : WX} (T : BCc X.K X.mg C) (hc : X.calm = true) (tk : Takes X W) (hg : Gl X "BadCount") : PS X (.Raise (some (.Call (.Name "BadCount" p) [.Constant (.str m) jj p2] [] pos)) none pos') (fun _ σ H => W (.ref C) none σ H) :=
  ps_raise hc tk (pmk_own PySem.F.excBase_ValueError T.x T.g T.k (raises_own T.s T.t) hg)
end
section
variable {T : Tb} {K : PySem.W.Frag} {δ : List (Option SD)} {H : Hp} {ta : TA} {u : TS} {B : Ends} {C : Ek → Addr} {R : List D → Out → Prop} {ds : List D} {E : XK} {k : Ek} {val d : D}
/-- a call that refuses -/
theorem run_dropE (hT : Tbs T H) (h : EvA T K ta δ H ds) (hR : R ds (.err k val)) (q : ∀ d H', Gr T [] H H' → Raised K k val d H' → E (.ref (C k)) d H') : Run K (tSeq (tDrop (tCall (spO T K C R) [] E ta)) u) B δ H := fun σ s =>
  h σ H (Gr.refl hT) s _ fun vs H2 g2 r => ⟨ds, _, hR, by rw [List.append_nil]; exact r, g2.tbs, fun d H3 g3 => q d H3 (g2.trans g3)⟩
/-- a call that may refuse, and does not -/
theorem ev_callO (h : EvA T K ta δ H ds) (hR : R ds (.ret d)) : EvD T K (tCall (spO T K C R) [] E ta) δ H d := fun σ H1 g s Q q =>
  h σ H1 g s _ fun vs H2 g2 r => ⟨ds, _, hR, by rw [List.append_nil]; exact r, g2.tbs, fun v H3 g3 rv => q v H3 (g2.trans g3) rv⟩
end
end
end Pd
set_option maxHeartbeats 2000000
namespace Pd
open PySem PySem.Spec PyProof.Rows L2
/-! ### how many generators there are -/
theorem runs_gens {M : Model} {Γ : PySem.Ctx} {p : Pos} {t : Sem Fin} {fs : List Frame} {s s' : Shared} {e : End} (h : Runs M Γ p t fs s e s') : s.gens.size ≤ s'.gens.size := by
  induction h <;> (try simp only [Shared.setGen, Array.size_setIfInBounds, Array.size_push] at *) <;> omega
theorem codeAny_gens {M : Model} {A : Around} {c : Code} {R : Result → Shared → Prop} {s : Shared} (h : codeAny M A c (fun r s' => s.gens.size ≤ s'.gens.size → R r s') s) : codeAny M A c R s := fun Γ p hc hΓ => by
  obtain ⟨r, s', hr, q⟩ := h Γ p hc hΓ
  exact ⟨r, s', hr, q (runs_gens hr)⟩
/-! ### a generator expression whose element may call, make and change what is told of it -/
section
variable {prog : Program} {w : World} {A : Around}
/-- a turn of the generator: Lp at its head, Lm with the item in hand, Lx with the item stored, Ld behind the last -/
structure Turns (prog : Program) (w : World) (A' : Around) (J : Addr) (x : Str) (cenv : Env) (elt : Expr) (n : Nat) (F : Nat → Value → Prop) (Lp : Nat → Shared → Prop) (Lm Lx : Nat → Value → Shared → Prop) (Ld : Shared → Prop) : Prop where
  item : ∀ i s, i < n → Lp i s → ∀ (Q : Option Value → Shared → Prop) (E : Value → Shared → Prop), (∀ v s', Lm i v s' → Q (some v) s') → wpAny (model prog w) A' (pyNext (.ref J)) Q E s
  ns : ∀ i v s, Lm i v s → ∃ m, s.heap.Ns cenv.locals m
  set : ∀ i v s h' t m, Lm i v s → h'.Ns cenv.locals m → m x = some v → Heap.SameBut cenv.locals s.heap h' → Lx i v { s with heap := h', toks := t }
  elt : ∀ i v s, i < n → Lx i v s → ∀ (Q E : Value → Shared → Prop), (∀ y s', F i y → Lp (i + 1) s' → Q y s') → wpAny (model prog w) A' (eval elt cenv) Q E s
  done : ∀ s, Lp n s → ∀ (Q : Option Value → Shared → Prop) (E : Value → Shared → Prop), (∀ s', Ld s' → Q none s') → wpAny (model prog w) A' (pyNext (.ref J)) Q E s
def protoT (n : Nat) (F : Nat → Value → Prop) (Lp : Nat → Shared → Prop) : Protocol := fun m _ v s go => F (n - 1 - m) v ∧ Lp (n - m) s ∧ ∀ s2 : Shared, Lp (n - m) s2 → go (.send .none) s2
def endT (Ld : Shared → Prop) : GenEnd := fun n _ r s1 => r = .ok .next ∧ (n = 0 ∧ Ld s1)
variable {J : Addr} {x : Str} {cenv : Env} {elt iter : Expr} {n : Nat} {F : Nat → Value → Prop} {Lp : Nat → Shared → Prop} {Lm Lx : Nat → Value → Shared → Prop} {Ld : Shared → Prop} {px pos : Pos} {scope : Scope}
abbrev loopC (elt iter : Expr) (x : Str) (px : Pos) (scope : Scope) (pos : Pos) (J : Addr) (cenv : Env) : Code := .compLoop (.GeneratorExp elt [⟨.Name x px, iter, [], 0⟩] scope pos) 0 (.ref J) .none cenv
theorem seg_turns (T : Turns prog w (A.over (loopC elt iter x px scope pos J cenv) []) J x cenv elt n F Lp Lm Lx Ld) (hx : cenv.kindOf x = some .local)
    (hp : (cenv.scope.kind == .class || (cenv.scope.kind == .module && cenv.locals != cenv.globals)) = false) (hco : cenv.scope.isCoroutine = false) :
    ∀ (k i : Nat) (t0 s : Shared), n - i = k → i ≤ n → Lp i s → Seg (model prog w) A (endT Ld) (protoT n F Lp) k t0 (loopC elt iter x px scope pos J cenv) ((model prog w).den (loopC elt iter x px scope pos J cenv)) [] s := by
  intro k
  induction k with
  | zero =>
    intro i t0 s hk hi hl
    obtain rfl : i = n := by omega
    show Seg _ A _ _ 0 t0 _ ((compTurn (.GeneratorExp elt [⟨.Name x px, iter, [], 0⟩] scope pos) 0 (.ref J) .none cenv).onRaise (leaving cenv)) [] s
    rw [compTurn_gen, Sem.onRaise_eq_wrap]
    exact seg_bind_wrap (wpAny_standAt (seg_bind_wrap (T.done s hl _ _ fun s' hd => seg_end (.ok .next) ⟨rfl, rfl, hd⟩)))
  | succ k ih =>
    intro i t0 s hk hi hl
    have lt : i < n := by omega
    show Seg _ A _ _ (k + 1) t0 _ ((compTurn (.GeneratorExp elt [⟨.Name x px, iter, [], 0⟩] scope pos) 0 (.ref J) .none cenv).onRaise (leaving cenv)) [] s
    rw [compTurn_gen, Sem.onRaise_eq_wrap]
    refine seg_bind_wrap (wpAny_standAt (seg_bind_wrap (T.item i s lt hl _ _ fun v s1 hm => ?_)))
    refine seg_bind_wrap (wpAny_of_eq (rfl : letOwnedTupleGo (.Name x px) (.ref J) v = pure ()) ?_)
    obtain ⟨m, hn⟩ := T.ns i v s1 hm
    refine seg_bind_wrap (wpAny_assign_Name (wpAny_storeName_local hx hn (fun h2 hn2 hs2 => ?_) hp))
    have hlx := fun t => T.set i v s1 h2 t _ hm hn2 (by simp) hs2
    simp only [List.forIn_nil]
    refine seg_bind_wrap (wpAny_pure ?_)
    simp only [if_true]
    have hy : ∀ v, yieldOut cenv v = yieldValue v := fun v => by simp only [yieldOut, hco, Bool.false_eq_true, if_false]
    simp only [hy]
    rw [Sem.bind_eq_wrap', Sem.bind_eq_wrap', Sem.wrap_wrap, Sem.wrap_wrap]
    refine seg_wrap (T.elt i v _ lt (hlx _) _ _ fun y s4 hF hl4 => ?_)
    have e1 : n - 1 - k = i := by omega
    have e2 : n - k = i + 1 := by omega
    refine seg_at (seg_yield rfl rfl rfl ⟨by rw [e1]; exact hF, by rw [e2]; exact hl4, fun s5 hl5 => ?_⟩)
    rw [e2] at hl5
    exact seg_again rfl (ih (i + 1) s5 s5 (by omega) lt hl5)
abbrev startC (elt iter : Expr) (x : Str) (px : Pos) (scope : Scope) (pos : Pos) (J : Addr) (cenv : Env) : Code := .compStart (.GeneratorExp elt [⟨.Name x px, iter, [], 0⟩] scope pos) 0 (.ref J) .none cenv
theorem seg_startG (T : Turns prog w (A.over (loopC elt iter x px scope pos J cenv) []) J x cenv elt n F Lp Lm Lx Ld) (hself : ∀ s, Lp 0 s → ∀ (Q E : Value → Shared → Prop), Q (.ref J) s → wpAny (model prog w) (A.over (startC elt iter x px scope pos J cenv) []) (pyIter (.ref J)) Q E s) (hx : cenv.kindOf x = some .local)
    (hp : (cenv.scope.kind == .class || (cenv.scope.kind == .module && cenv.locals != cenv.globals)) = false) (hco : cenv.scope.isCoroutine = false) (t0 s : Shared) (hl : Lp 0 s) :
    Seg (model prog w) A (endT Ld) (protoT n F Lp) n t0 (startC elt iter x px scope pos J cenv) ((model prog w).den (startC elt iter x px scope pos J cenv)) [] s := by
  have loop := seg_turns T hx hp hco n 0 t0 s (Nat.sub_zero _) (Nat.zero_le _) hl
  show Seg _ A _ _ n t0 _ ((compStart (.GeneratorExp elt [⟨.Name x px, iter, [], 0⟩] scope pos) 0 (.ref J) .none cenv).onRaise (leaving cenv)) [] s
  unfold compStart
  rw [Sem.onRaise_eq_wrap]
  refine show Seg _ A _ _ n t0 _ ((ask >>= _).wrap _ _ _ _) [] s from seg_bind_wrap (wpAny_askSetting ?_)
  split
  · exact seg_again rfl loop
  · first
      | exact seg_bind_wrap (wpAny_rule (seg_bind_wrap (wpAny_standAt (seg_bind_wrap (hself s hl _ _ (seg_again rfl loop))))))
      | (refine seg_bind_wrap (wpAny_rule ?_); exact show Seg _ A _ _ n t0 _ ((standAt iter.pos >>= _).wrap _ _ _ _) [] s from seg_bind_wrap (wpAny_standAt (seg_bind_wrap (hself s hl _ _ (seg_again rfl loop)))))
/-- what the walk's states keep -/
structure Calm (a : Addr) (g : Nat) (Lp : Nat → Shared → Prop) (Ld : Shared → Prop) : Prop where
  gen : ∀ j s, Lp j s → s.heap.IsGen a g ∧ s.heap.NoLimit ∧ g < s.gens.size
  set : ∀ j s y, y.bare = true → Lp j s → Lp j (s.setGen g y)
  setD : ∀ s y, y.bare = true → Ld s → Ld (s.setGen g y)
  heapD : ∀ s h', (∀ b o, s.heap.get? b = some o → h'.get? b = some o) → Ld s → Ld { s with heap := h' }
  fin : ∀ j s, Lp j s → Ld s
def GenG (prog : Program) (w : World) (A : Around) (g n : Nat) (F : Nat → Value → Prop) (Lp : Nat → Shared → Prop) (Ld : Shared → Prop) (j : Nat) (s : Shared) : Prop :=
  Lp j s ∧ ∃ gs, s.gens[g]? = some gs ∧ ∀ s2, Lp j s2 → gs.Goes (model prog w) A.in1 (endT Ld) (protoT n F Lp) (n - j) (.send .none) s2
theorem gens_at {s : Shared} {g : Nat} {y : GenState} (h : g < s.gens.size) : (s.setGen g y).gens[g]? = some y := setGen_self (Array.getElem?_eq_getElem h)
structure WalkG (prog : Program) (w : World) (A : Around) (I : Addr) (n : Nat) (P : Nat → Value → Prop) (St : Nat → Shared → Prop) (Fin : Shared → Prop) : Prop where
  item : ∀ i s, i < n → St i s → ∀ (Q : Option Value → Shared → Prop) (E : Value → Shared → Prop), (∀ v s', P i v → St (i + 1) s' → Q (some v) s') → wpAny (model prog w) A (pyNext (.ref I)) Q E s
  done : ∀ s, St n s → ∀ (Q : Option Value → Shared → Prop) (E : Value → Shared → Prop), (∀ s', Fin s' → Q none s') → wpAny (model prog w) A (pyNext (.ref I)) Q E s
  self : ∀ i s, St i s → ∀ (Q E : Value → Shared → Prop), Q (.ref I) s → wpAny (model prog w) A (pyIter (.ref I)) Q E s
  fin : ∀ i s, St i s → Fin s
theorem walkG_gen {a : Addr} {g : Nat} (hh : A.handled = none) (hroom : A.depth < recursionLimit) (C : Calm a g Lp Ld) : WalkG prog w A a n F (GenG prog w A g n F Lp Ld) Ld where
  item := fun j s lt st Q E hQ => by
    obtain ⟨hl, gs, hgs, hgo⟩ := st
    obtain ⟨k, hk⟩ : ∃ k, n - j = k + 1 := ⟨n - j - 1, by omega⟩
    obtain ⟨ig, nl, _⟩ := C.gen j s hl
    rw [hk] at hgo
    refine wpAny_pyNext_genexpQ (P := fun n _ s1 => n = 0 ∧ Ld s1) hh nl hroom ig hgs (hgo _ (C.set j s .running rfl hl)) (fun v s1 gs2 hb hv => ?_) fun s1 hp => absurd hp.1 (Nat.succ_ne_zero k)
    obtain ⟨hF, hl1, go⟩ := hv
    have e1 : n - 1 - (k + 1 - 1) = j := by omega
    have e2 : n - (k + 1 - 1) = j + 1 := by omega
    rw [e1] at hF
    rw [e2] at hl1 go
    refine hQ v _ hF ⟨C.set _ _ _ hb hl1, gs2, gens_at (C.gen _ _ hl1).2.2, fun s2 h2 => ?_⟩
    rw [show n - (j + 1) = k by omega]
    exact go s2 h2
  done := fun s st Q E hQ => by
    obtain ⟨hl, gs, hgs, hgo⟩ := st
    obtain ⟨ig, nl, _⟩ := C.gen n s hl
    rw [Nat.sub_self] at hgo
    refine wpAny_pyNext_genexpQ (P := fun n _ s1 => n = 0 ∧ Ld s1) hh nl hroom ig hgs (hgo _ (C.set n s .running rfl hl)) (fun v s1 gs2 hb hv => ?_) fun s1 hp h' hk => hQ _ (C.heapD _ h' hk (C.setD _ _ rfl hp.2))
    obtain ⟨_, hl1, go⟩ := hv
    exact False.elim (go s1 hl1)
  self := fun i s st Q E hQ => wpAny_pyIter_gen (C.gen i s st.1).1 hQ
  fin := fun i s st => C.fin i s st.1
theorem loop_anyG {I : Addr} {P : Nat → Value → Prop} {St : Nat → Shared → Prop} {Fin : Shared → Prop} {R : Result → Shared → Prop} (W : WalkG prog w A.in1 I n P St Fin) (tr : Nat → Bool) (htr : ∀ i v, P i v → v = .bool (tr i)) :
    ∀ (k i : Nat) (s : Shared), n - i = k → i ≤ n → St i s → (∀ s', Fin s' → R (.ok (.ret (.bool (((List.range n).drop i).any tr)))) s') → codeAny (model prog w) A (.builtin "any.loop" ⟨[.ref I], []⟩) R s := by
  intro k
  induction k with
  | zero =>
    intro i s hk hi st hR
    obtain rfl : i = n := by omega
    refine codeAny_builtin F.entry_any_loop ?_
    rw [Around.under_plainId F.plain_any_loop _]
    refine show wpAny (model prog w) A.in1 (pyNext (.ref I) >>= _) _ _ s from wpAny_bind (W.done s st _ _ fun s' hf => wpAny_bind (wpAny_rule (wpAny_pure ?_)))
    have z := hR s' hf
    rw [List.drop_of_length_le (by simp)] at z
    exact z
  | succ k ih =>
    intro i s hk hi st hR
    have lt : i < n := by omega
    have hd : (List.range n).drop i = i :: (List.range n).drop (i + 1) := range_drop lt
    refine codeAny_builtin F.entry_any_loop ?_
    rw [Around.under_plainId F.plain_any_loop _]
    refine show wpAny (model prog w) A.in1 (pyNext (.ref I) >>= _) _ _ s from wpAny_bind (W.item i s lt st _ _ fun v s' hP st' => ?_)
    have ev := htr i v hP
    subst ev
    refine wpAny_bind (wpAny_holding (wpAny_truthy_bool (wpAny_bind (wpAny_letGo ?_))))
    cases hb : tr i with
    | false =>
      simp only [Bool.false_eq_true, if_false]
      refine wpAny_pure ⟨plainId_quiet F.plain_any_loop _, ih (i + 1) _ (by omega) lt st' fun s2 hf => ?_⟩
      have z := hR s2 hf
      rw [hd, List.any_cons, hb, Bool.false_or] at z
      exact z
    | true =>
      simp only [if_true]
      refine wpAny_bind (wpAny_rule (wpAny_pure ?_))
      have z := hR s' (W.fin _ _ st')
      rw [hd, List.any_cons, hb, Bool.true_or] at z
      exact z
theorem call_anyG {v : Value} {s : Shared} {Q : Value → Shared → Prop} {E : Value → Shared → Prop}
    (h : wpAny (model prog w) A.in1 (pyIter v) (fun it s2 => ∃ I n P St Fin tr, it = .ref I ∧ WalkG prog w A.in1 I n P St Fin ∧ St 0 s2 ∧ (∀ i v, P i v → v = .bool (tr i)) ∧ ∀ s', Fin s' → Q (.bool ((List.range n).any tr)) s') E s) :
    wpAny (model prog w) A (call (.builtin "any") [v]) Q E s := by
  refine call_function_tree F.kind_any F.plain_any F.entry_any (F.args_any1 _) ?_
  unfold Builtin.«any»
  refine wpAny_bind (m := oneArg "any" _) (wpAny_pure (wpAny_bind (wpAny_mono h (fun it s2 ⟨I, n, Pf, Stt, Fn, tr, e, W, st, htr, hQ⟩ => ?_) fun _ _ e => e)))
  subst e
  exact wpAny_pure ⟨plainId_quiet F.plain_any_loop _, loop_anyG W tr htr n 0 s2 rfl (Nat.zero_le _) st fun s' hf => by simpa using hQ s' hf⟩
end
end Pd
namespace Pd
open PySem PySem.Spec PyProof.Rows L2
/-! ### the heap behind a generator's element -/
/-- all but the table at P as it was, frames up to their slots -/
def KX (P : Addr) (fs : List Addr) (h h' : Heap) : Prop := ∀ b o, h.get? b = some o → b ≠ P → (b ∉ fs → h'.get? b = some o) ∧ (b ∈ fs → ∃ sl, h'.get? b = some { o with slots := sl })
theorem KX.refl (P : Addr) (fs : List Addr) (h : Heap) : KX P fs h h := fun b o e _ => ⟨fun _ => e, fun _ => ⟨o.slots, e⟩⟩
theorem KX.any {P : Addr} {fs : List Addr} {h h' : Heap} (k : KX P fs h h') {b : Addr} {o : Obj} (e : h.get? b = some o) (n : b ≠ P) : ∃ sl, h'.get? b = some { o with slots := sl } := by
  by_cases hb : b ∈ fs
  · exact (k b o e n).2 hb
  · exact ⟨o.slots, (k b o e n).1 hb⟩
theorem KX.more {P : Addr} {fs : List Addr} {h h1 h2 : Heap} (k : KX P fs h h1) (m : ∀ b o, b < h.objs.size → b ≠ P → h1.get? b = some o → h2.get? b = some o) : KX P fs h h2 := fun b o e n =>
  ⟨fun hb => m b o (Heap.lt_size e) n ((k b o e n).1 hb), fun hb => let ⟨sl, z⟩ := (k b o e n).2 hb; ⟨sl, m b _ (Heap.lt_size e) n z⟩⟩
theorem KX.tuple {P : Addr} {fs : List Addr} {h h' : Heap} (k : KX P fs h h') {a : Addr} {its : Array Value} (n : a ≠ P) (t : h.IsTuple a its) : h'.IsTuple a its := by
  obtain ⟨o, e, r⟩ := t
  obtain ⟨sl, e2⟩ := k.any e n
  exact ⟨_, e2, r⟩
theorem KX.cell {P : Addr} {fs : List Addr} {h h' : Heap} (k : KX P fs h h') {a : Addr} {v : Option Value} (n : a ≠ P) (t : h.IsCell a v) : h'.IsCell a v := by
  obtain ⟨o, e, r⟩ := t
  obtain ⟨sl, e2⟩ := k.any e n
  exact ⟨_, e2, r⟩
/-- tuples frozen, the table at P, nothing else -/
def Hz (h1 : Heap) (H : Hp) (P : Addr) (ps : Array Value) : Hp := fun b => if b = P then some (.tbl ps) else match H b with
  | some (.tup xs) => (h1.get? b).map fun o => .frz o (.tup xs)
  | some (.frz o (.tup xs)) => some (.frz o (.tup xs))
  | _ => none
structure Froz (H Hf : Hp) : Prop where
  t : ∀ b xs, (H b = some (.tup xs) ∨ ∃ o, H b = some (.frz o (.tup xs))) → ∃ o, Hf b = some (.frz o (.tup xs))
mutual
theorem rep_frz {K : PySem.W.Frag} {H Hf : Hp} (f : Froz H Hf) : ∀ (d : D) (v : V), Rep K H d v → Rep K Hf d v
  | .non, v, h => h
  | .bl b, v, h => h
  | .int i, v, h => h
  | .str x, v, h => h
  | .tup ds, v, ⟨a, xs, e, hs, hr⟩ => by
    refine ⟨a, xs, e, ?_, reps_frz f ds xs hr⟩
    rcases hs with (hs | ⟨o, hs⟩) | hs
    · exact .inl (.inr (f.t a xs (.inl hs)))
    · exact .inl (.inr (f.t a xs (.inr ⟨o, hs⟩)))
    · exact .inr hs
theorem reps_frz {K : PySem.W.Frag} {H Hf : Hp} (f : Froz H Hf) : ∀ (ds : List D) (xs : List V), Reps K H ds xs → Reps K Hf ds xs
  | [], xs, h => h
  | d :: ds, xs, ⟨x, r, e, h1, h2⟩ => ⟨x, r, e, rep_frz f d x h1, reps_frz f ds r h2⟩
end
section
variable {P : Program} {w : World} {H : Hp} {h1 h : Heap} {T : Addr} {ps : Array Value} {fs : List Addr}
theorem hz_tab : Hz h1 H T ps T = some (.tbl ps) := if_pos rfl
theorem hz_none {b : Addr} (n : b ≠ T) (e : H b = none) : Hz h1 H T ps b = none := by
  unfold Hz
  rw [if_neg n, e]
theorem hz_frz {b : Addr} {u : HO} (n : b ≠ T) (e : Hz h1 H T ps b = some u) : ∃ o xs, u = .frz o (.tup xs) ∧ ((H b = some (.tup xs) ∧ h1.get? b = some o) ∨ H b = some (.frz o (.tup xs))) := by
  unfold Hz at e
  rw [if_neg n] at e
  split at e
  · rename_i xs q
    cases z : h1.get? b with
    | none => rw [z] at e; cases e
    | some o =>
      rw [z] at e
      cases e
      exact ⟨o, xs, rfl, .inl ⟨q, rfl⟩⟩
  · rename_i o xs q
    cases e
    exact ⟨o, xs, rfl, .inr q⟩
  · cases e
theorem hz_froz (hT : ∃ qs, H T = some (.tbl qs)) (hok : HOk P w H h1) : Froz H (Hz h1 H T ps) := ⟨fun b xs hb => by
  obtain ⟨qs, hT⟩ := hT
  have n : b ≠ T := fun z => by
    subst z
    rcases hb with hb | ⟨o, hb⟩ <;> (rw [hT] at hb; cases hb)
  unfold Hz
  rw [if_neg n]
  rcases hb with hb | ⟨o, hb⟩
  · obtain ⟨_, its, _, o, e, _⟩ := hok b _ hb
    rw [hb]
    simp only [e]
    exact ⟨o, rfl⟩
  · rw [hb]
    exact ⟨o, rfl⟩⟩
theorem hz_ok (hok : HOk P w H h1) (k : KX T fs h1 h) (hf : ∀ b ∈ fs, H b = none) (ht : h.get? T = some { cls := .none, data := .fields ps }) : HOk P w (Hz h1 H T ps) h := fun b u e => by
  by_cases n : b = T
  · subst n
    rw [hz_tab] at e
    cases e
    exact ht
  · obtain ⟨o, xs, rfl, hb⟩ := hz_frz n e
    have at_ : h1.get? b = some o ∧ ObjOk P w H h1 b (.tup xs) := by
      rcases hb with ⟨q, z⟩ | q
      · exact ⟨z, hok b _ q⟩
      · exact hok b _ q
    obtain ⟨e1, hz, its, rv, o2, e2, c⟩ := at_
    rw [e1] at e2
    cases e2
    have nb : b ∉ fs := fun z => by
      rcases hb with ⟨q, _⟩ | q <;> (rw [hf b z] at q; cases q)
    have e3 := (k b o e1 n).1 nb
    exact ⟨e3, hz, its, rv, o, e3, c⟩
end
end Pd
namespace Pd
open PySem PySem.Spec PyProof.Rows L2
/-! ### any(..) of a generator expression over a tuple whose element calls -/
theorem bare_set {s : Shared} {g : Nat} {y : GenState} (h : AllBare s.gens) (hy : y.bare = true) : AllBare (s.setGen g y).gens := fun z hz => by
  obtain ⟨i, hi, rfl⟩ := Array.mem_iff_getElem.mp hz
  by_cases e : g = i
  · subst e
    simp [Shared.setGen]
    exact hy
  · have hi2 : i < s.gens.size := by simpa [Shared.setGen] using hi
    have z := (GenOnly.setGen s g y).2 i (Ne.symm e)
    rw [Array.getElem?_eq_getElem hi, Array.getElem?_eq_getElem hi2] at z
    rw [Option.some.inj z]
    exact h _ (Array.getElem_mem hi2)
section
variable {X : Cx}
structure GSt (X : Cx) (s1 : Shared) (P : Addr) (ps : Array Value) (s : Shared) : Prop where
  k : KX P (frs X.stack) s1.heap s.heap
  tb : ∃ more, s.heap.get? P = some { cls := .none, data := .fields (ps ++ more) } ∧ TriplesOk (ps ++ more).toList
  os : s.os = s1.os
  bare : AllBare s.gens
structure GLp (X : Cx) (s1 : Shared) (P : Addr) (ps : Array Value) (J T C a : Addr) (g i : Nat) (s : Shared) : Prop extends GSt X s1 P ps s where
  it : s.heap.IsTupleIter J T i
  ns : ∃ m, s.heap.Ns C m
  ge : s.heap.IsGen a g
  gz : g < s.gens.size
/-- the element at the value u of x is b -/
def EltG (X : Cx) (scope : Scope) (cl : List (Str × Addr)) (x : Str) (elt : Expr) (P : Addr) (s1 : Shared) (H1 : Hp) (u : Value) (b : Bool) : Prop :=
  ∀ (cenv : Env) (A' : Around) (E' : Value → Shared → Prop) (s2 : Shared) (m2 : Str → Option Value) (Hf : Hp), cenv.scope = scope → cenv.globals = mainGlobals → cenv.cells = cl → A'.handled = none → A'.depth ≤ X.A.depth + 1 → A'.units ≤ X.A.units + 8 →
    Env0 X.prog X.w X.K X.mg X.base A' (cenv :: X.stack) s2 Hf → Froz H1 Hf → GxR.TabG Hf P → s2.heap.Ns cenv.locals m2 → m2 x = some u → (∀ y c v, X.env.cells.lookup y = some c → s1.heap.IsCell c v → s2.heap.IsCell c v) →
    wpAny (model X.prog X.w) A' (eval elt cenv) (fun y s3 => y = .bool b ∧ s3.os = s2.os ∧ AllBare s3.gens ∧ s2.gens.size ≤ s3.gens.size ∧ ∃ H', Un (frs (cenv :: X.stack)) [] Hf H' s2.heap s3.heap ∧ HOk X.prog X.w H' s3.heap ∧ GxR.TabG H' P) E' s2
/-- what stands around the walk -/
structure Sta (X : Cx) (pins : List (Addr × Obj)) (σ : L2.St) (H1 : Hp) (s1 : Shared) (P : Addr) (ps : Array Value) (J T C a : Addr) (its : Array Value) (cenv : Env) (scope : Scope) : Prop where
  I : Inv X pins σ H1 s1
  hP : H1 P = some (.tbl ps)
  ht : s1.heap.IsTuple T its
  nT : T ≠ P
  hJ : J = s1.heap.objs.size
  hC : J < C
  ha : C < a
  loc : cenv.locals = C
  fr : cenv.frame = some C
  sc : cenv.scope = scope
  kd : scope.kind = .function
  gl : cenv.globals = mainGlobals
  cl : cenv.cells = cloFrom X.env.cells scope.names []
variable {pins : List (Addr × Obj)} {σ : L2.St} {H1 : Hp} {s1 : Shared} {P J T C a : Addr} {ps its : Array Value} {cenv : Env} {scope : Scope} {g n : Nat} {x : Str} {elt iter : Expr} {px pos : Pos} {pb : Nat → Bool}
theorem Sta.pSome (S : Sta X pins σ H1 s1 P ps J T C a its cenv scope) {b : Addr} (e : H1 b = none) : b ≠ P := fun z => by rw [z, S.hP] at e; cases e
theorem Sta.new (S : Sta X pins σ H1 s1 P ps J T C a its cenv scope) {b : Addr} (h : s1.heap.objs.size ≤ b) : H1 b = none ∧ b ∉ frs X.stack := ⟨S.I.hok.fresh h, fun z => by
  obtain ⟨_, o, e, _⟩ := S.I.env0.funs.mem z
  exact absurd (Heap.lt_size e) (Nat.not_lt.mpr h)⟩
theorem turns_of (S : Sta X pins σ H1 s1 P ps J T C a its cenv scope) (hd : X.A.handled = none) (hel : ∀ i v, its[i]? = some v → EltG X scope (cloFrom X.env.cells scope.names []) x elt P s1 H1 v (pb i)) :
    Turns X.prog X.w (X.A.in1.in1.over (loopC elt iter x px scope pos J cenv) []) J x cenv elt its.size (fun i y => y = .bool (pb i)) (GLp X s1 P ps J T C a g) (fun i v s => GLp X s1 P ps J T C a g (i + 1) s ∧ its[i]? = some v) (fun i v s => GLp X s1 P ps J T C a g (i + 1) s ∧ its[i]? = some v ∧ ∃ m, s.heap.Ns C m ∧ m x = some v) (GSt X s1 P ps) := by
  have hh : (X.A.in1.in1.over (loopC elt iter x px scope pos J cenv) []).handled = none := hd
  have newJ := S.new (b := J) (Nat.le_of_eq S.hJ.symm)
  have newC := S.new (b := C) (by rw [← S.hJ]; exact Nat.le_of_lt S.hC)
  have newa := S.new (b := a) (by rw [← S.hJ]; exact Nat.le_of_lt (Nat.lt_trans S.hC S.ha))
  have nJP := S.pSome newJ.1
  have nCP := S.pSome newC.1
  have naP := S.pSome newa.1
  have ltT : T < J := by obtain ⟨o, e, _⟩ := S.ht; rw [S.hJ]; exact Heap.lt_size e
  have W : Walks X.prog X.w (X.A.in1.in1.over (loopC elt iter x px scope pos J cenv) []) J [J, T] [J] its.size (fun i v => its[i]? = some v) (fun i h => h.IsTupleIter J T i ∧ h.IsTuple T its) := Walks.tuple hh J T (Nat.ne_of_lt ltT) its
  -- the iterator alone was changed
  have step : ∀ {i j : Nat} {s : Shared} {h' : Heap} {t : Nat}, GLp X s1 P ps J T C a g i s → (∀ b o, b ≠ J → s.heap.get? b = some o → h'.get? b = some o) → h'.IsTupleIter J T j → GLp X s1 P ps J T C a g j { s with heap := h', toks := t } := by
    intro i j s h' t L k it
    obtain ⟨⟨h1, ⟨more, h2, h3⟩, h4, h5⟩, h6, ⟨m, h7⟩, h8, h9⟩ := L
    refine ⟨⟨h1.more fun b o lt _ e => k b o (fun z => ?_) e, ⟨more, k P _ nJP.symm h2, h3⟩, h4, h5⟩, it, ⟨m, h7.at' fun o e => k C o (Nat.ne_of_gt S.hC) e⟩, ?_, h9⟩
    · rw [z, S.hJ] at lt
      exact Nat.lt_irrefl _ lt
    · obtain ⟨o, nm, qn, e, r⟩ := h8
      exact ⟨o, nm, qn, k a o (Nat.ne_of_gt (Nat.lt_trans S.hC S.ha)) e, r⟩
  refine ⟨fun i s lt L Q E q => ?_, fun i v s L => ?_, fun i v s h' t m L hn hm sb => ?_, fun i v s lt L Q E q => ?_, fun s L Q E q => ?_⟩
  · refine W.item i s Q E lt ⟨L.it, L.k.tuple S.nT S.ht⟩ fun v h' tk hv st hk => q v _ ⟨step L (fun b o nb e => hk b o (by simpa using nb) e) st.1, hv⟩
  · rw [S.loc]
    exact L.1.ns
  · -- the item is stored
    obtain ⟨⟨⟨h1, ⟨more, h2, h3⟩, h4, h5⟩, h6, _, h8, h9⟩, hv⟩ := L
    rw [S.loc] at hn sb
    have kp : ∀ b o, b ≠ C → s.heap.get? b = some o → h'.get? b = some o := fun b o nb e => sb.extBut b o nb e
    refine ⟨⟨⟨h1.more fun b o lb _ e => kp b o (fun z => ?_) e, ⟨more, kp P _ nCP.symm h2, h3⟩, h4, h5⟩, ?_, ⟨m, hn⟩, ?_, h9⟩, hv, m, hn, hm⟩
    · rw [z] at lb
      exact absurd (Nat.lt_trans lb (by rw [← S.hJ]; exact S.hC)) (Nat.lt_irrefl _)
    · obtain ⟨o, e, r⟩ := h6
      exact ⟨o, kp J o (Nat.ne_of_lt S.hC) e, r⟩
    · obtain ⟨o, nm, qn, e, r⟩ := h8
      exact ⟨o, nm, qn, kp a o (Nat.ne_of_gt S.ha) e, r⟩
  · -- the element
    obtain ⟨⟨⟨h1, ⟨more, h2, h3⟩, h4, h5⟩, h6, _, h8, h9⟩, hv, m, hn, hm⟩ := L
    have e0 := S.I.env0
    have hfs : ∀ b ∈ frs X.stack, H1 b = none := e0.frf
    have hok : HOk X.prog X.w (Hz s1.heap H1 P (ps ++ more)) s.heap := hz_ok S.I.hok h1 hfs h2
    have ltC : C < s.heap.objs.size := hn.lt
    have env : Env0 X.prog X.w X.K X.mg X.base (X.A.in1.in1.over (loopC elt iter x px scope pos J cenv) []) (cenv :: X.stack) s (Hz s1.heap H1 P (ps ++ more)) := by
      refine ⟨?_, e0.mod, fun b o e => ?_, ?_, ⟨?_, ⟨C, ?_⟩, ?_⟩, fun b hb => ?_, hok, h5⟩
      · have e : (X.A.in1.in1.over (loopC elt iter x px scope pos J cenv) []).frames = pushEnvs [cenv] (pushEnvs [] X.A.frames) := by rfl
        rw [e, e0.frames]
        rfl
      · obtain ⟨e1, e2⟩ := e0.bs b o e
        have nb : b ∉ frs X.stack := fun z => by
          have := (e0.funs.mem z).1
          rw [e] at this; cases this
        exact ⟨(h1 b o e1 (S.pSome e2)).1 nb, hz_none (S.pSome e2) e2⟩
      · exact Nat.le_trans e0.bsz (Nat.le_of_lt (Nat.lt_trans (by rw [← S.hJ]; exact S.hC) ltC))
      · rw [S.sc, S.kd]
        simp
      · obtain ⟨o, es, ep, e, d, _⟩ := hn
        refine ⟨o, S.fr, Heap.get?_none_of_le (Nat.le_trans e0.bsz (by rw [← S.hJ]; exact Nat.le_of_lt S.hC)), e, fun vs z => ?_⟩
        rw [d] at z; cases z
      · refine Heap.FunFrames.of_keeps (fun b o e nf => ?_) e0.funs
        have nb : b ≠ P := fun z => by
          have sP : s1.heap.get? P = some { cls := .none, data := .fields ps } := S.I.hok P _ S.hP
          rw [z, sP] at e
          cases e
          exact nf _ rfl
        obtain ⟨sl, e2⟩ := h1.any e nb
        exact ⟨_, e2, rfl⟩
      · unfold frs at hb
        rw [List.filterMap_cons, S.fr] at hb
        rcases List.mem_cons.mp hb with z | z
        · rw [z]
          exact hz_none nCP newC.1
        · exact hz_none (S.pSome (hfs b z)) (hfs b z)
    refine wpAny_mono (hel i v hv cenv _ E s m _ S.sc S.gl S.cl hh ?_ ?_ env (hz_froz ⟨ps, S.hP⟩ S.I.hok) ⟨_, hz_tab, h3⟩ (by rw [S.loc]; exact hn) hm fun y c u hc hcl => h1.cell (S.pSome (S.I.freeC y c hc)) hcl) (fun y s3 r => ?_) fun _ _ z => z
    · exact Nat.le_of_eq rfl
    · show X.A.units + 1 + 1 + 3 ≤ X.A.units + 8
      omega
    · obtain ⟨hy, os3, bare3, gz3, H', un, hok3, ⟨qs, tq, tr⟩⟩ := r
      refine q y s3 hy ⟨⟨fun b o e nb => ?_, ?_, os3.trans h4, bare3⟩, ?_, ?_, ?_, Nat.lt_of_lt_of_le h9 gz3⟩
      · have lb := Heap.lt_size e
        have nbC : b ≠ C := fun z => by
          rw [z] at lb
          exact absurd (Nat.lt_trans lb (by rw [← S.hJ]; exact S.hC)) (Nat.lt_irrefl _)
        refine ⟨fun hb => ?_, fun hb => ?_⟩
        · have e2 := (h1 b o e nb).1 hb
          cases qz : Hz s1.heap H1 P (ps ++ more) b with
          | none =>
            refine un.keep b o e2 qz (fun z => ?_) (by simp)
            unfold frs at z
            rw [List.filterMap_cons, S.fr] at z
            rcases List.mem_cons.mp z with z | z
            · exact nbC z
            · exact hb z
          | some u =>
            obtain ⟨o2, xs, rfl, _⟩ := hz_frz nb qz
            have a1 := (hok b _ qz).1
            have a2 := (hok3 b _ (un.frzs b _ _ qz)).1
            rw [e2] at a1
            cases a1
            exact a2
        · obtain ⟨sl, e2⟩ := (h1 b o e nb).2 hb
          obtain ⟨sl2, e3⟩ := un.slot b _ e2 (hz_none nb (hfs b hb)) (by unfold frs; rw [List.filterMap_cons, S.fr]; exact List.mem_cons_of_mem _ hb) (by simp)
          exact ⟨sl2, e3⟩
      · obtain ⟨more2, e2⟩ := un.tbls P _ hz_tab
        rw [e2] at tq
        cases tq
        have e3 : s3.heap.get? P = some { cls := .none, data := .fields (ps ++ more ++ more2) } := hok3 P _ e2
        rw [Array.append_assoc] at e3 tr
        exact ⟨more ++ more2, e3, tr⟩
      · obtain ⟨o, e, r⟩ := h6
        refine ⟨o, un.keep J o e (hz_none nJP newJ.1) (fun z => ?_) (by simp), r⟩
        unfold frs at z
        rw [List.filterMap_cons, S.fr] at z
        rcases List.mem_cons.mp z with z | z
        · exact absurd z (Nat.ne_of_lt S.hC)
        · exact newJ.2 z
      · obtain ⟨o, es, ep, e, r⟩ := hn
        obtain ⟨sl, e2⟩ := un.slot C o e (hz_none nCP newC.1) (by unfold frs; rw [List.filterMap_cons, S.fr]; exact List.mem_cons_self) (by simp)
        exact ⟨m, _, es, ep, e2, r⟩
      · obtain ⟨o, nm, qn, e, r⟩ := h8
        refine ⟨o, nm, qn, un.keep a o e (hz_none naP newa.1) (fun z => ?_) (by simp), r⟩
        unfold frs at z
        rw [List.filterMap_cons, S.fr] at z
        rcases List.mem_cons.mp z with z | z
        · exact absurd z (Nat.ne_of_gt S.ha)
        · exact newa.2 z
  · refine W.done s Q E ⟨L.it, L.k.tuple S.nT S.ht⟩ fun h' tk hk => q _ ?_
    obtain ⟨⟨h1, ⟨more, h2, h3⟩, h4, h5⟩, _⟩ := L
    refine ⟨h1.more fun b o lt _ e => hk b o (fun z => ?_) e, ⟨more, hk P _ (by simpa using nJP.symm) h2, h3⟩, h4, h5⟩
    have z2 : b = J := by simpa using z
    rw [z2, S.hJ] at lt
    exact Nat.lt_irrefl _ lt
theorem calm_of (S : Sta X pins σ H1 s1 P ps J T C a its cenv scope) : Calm a g (GLp X s1 P ps J T C a g) (GSt X s1 P ps) where
  gen := fun j s L => ⟨L.ge, by
    obtain ⟨mc, ⟨o, es, ep, e, d, r⟩, q⟩ := S.I.nolimit
    have nP : cStatics ≠ P := fun z => by
      have sP : s1.heap.get? P = some { cls := .none, data := .fields ps } := S.I.hok P _ S.hP
      rw [z, sP] at e
      cases e
      cases d
    obtain ⟨sl, e2⟩ := L.k.any e nP
    exact ⟨mc, ⟨_, es, ep, e2, d, r⟩, q⟩, L.gz⟩
  set := fun j s y hy L => ⟨⟨L.k, L.tb, L.os, bare_set L.bare hy⟩, L.it, L.ns, L.ge, by simpa [Shared.setGen] using L.gz⟩
  setD := fun s y hy L => ⟨L.k, L.tb, L.os, bare_set L.bare hy⟩
  heapD := fun s h' k L => ⟨L.k.more fun b o _ _ e => k b o e, (let ⟨more, e, t⟩ := L.tb; ⟨more, k P _ e, t⟩), L.os, L.bare⟩
  fin := fun j s L => L.toGSt
/-- back in the frame -/
theorem gst_inv (I : Inv X pins σ H1 s1) (hP : H1 P = some (.tbl ps)) {s : Shared} (L : GSt X s1 P ps s) : ∃ H2, GxR.Tabbed P H1 H2 ∧ Inv X pins σ H2 s := by
  obtain ⟨k, ⟨more, tb, tr⟩, os, bare⟩ := L
  have nP : ∀ {b}, H1 b = none → b ≠ P := fun {b} e z => by rw [z, hP] at e; cases e
  have nP2 : ∀ {b u}, H1 b = some u → (∀ q, u ≠ .tbl q) → b ≠ P := fun {b u} e q z => by rw [z, hP] at e; cases e; exact q ps rfl
  have at_ : ∀ {b}, b ≠ P → upd H1 P (.tbl (ps ++ more)) b = H1 b := fun {b} n => upd_ne n
  have hfs := I.env0.frf
  refine ⟨upd H1 P (.tbl (ps ++ more)), ⟨⟨_, upd_same, tr⟩, fun b n => upd_ne n⟩, I.call' (ch := []) os ⟨fun b o e n hb _ => (k b o e (nP n)).1 hb, fun b o e n hb _ => (k b o e (nP n)).2 hb, fun b o e n _ => (at_ (nP n)).trans n, fun b o e _ => ?_, fun b xs e => (at_ (nP2 e fun q z => by cases z)).trans e, fun b o u e => (at_ (nP2 e fun q z => by cases z)).trans e, fun b qs e => ?_⟩ (fun b u e => ?_) bare fun b hb => absurd hb (by simp)⟩
  · by_cases n : b = P
    · rw [n]; exact ⟨_, tb⟩
    · obtain ⟨sl, z⟩ := k.any e n
      exact ⟨_, z⟩
  · by_cases n : b = P
    · rw [n, hP] at e
      cases e
      exact ⟨more, by rw [n, upd_same]⟩
    · exact ⟨#[], by rw [at_ n, e, Array.append_empty]⟩
  · by_cases n : b = P
    · rw [n, upd_same] at e
      cases e
      rw [n]
      exact tb
    · rw [at_ n] at e
      have old : ∀ {c : Addr} {v : HO} {o : Obj}, H1 c = some v → c ≠ P → s1.heap.get? c = some o → s.heap.get? c = some o := fun {c v o} q m z => (k c o z m).1 fun y => by rw [hfs c y] at q; cases q
      refine (I.hok b u e).stay (fun c o hc z => ?_) (fun c q => (at_ (nP2 q fun _ y => by cases y)).trans q) fun c xs q => (at_ (nP2 q fun _ y => by cases y)).trans q
      rcases hc with rfl | q
      · exact old e n z
      · exact old q (nP2 q fun _ y => by cases y) z
/-- any(test for x in e), e a tuple, the test an expression that may call -/
def tAnyT (K : PySem.W.Frag) (P : Addr) (Pel : L2.St → V → Hp → Bool → Prop) (te : TE) : TE := fun σ H Q => te σ H fun v H1 => ∃ (a : Addr) (xs : List V) (bs : Nat → Bool), v = .ref a ∧ SqT K H1 a xs ∧ GxR.TabG H1 P ∧ (∀ i x, xs[i]? = some x → Pel σ x H1 (bs i)) ∧ ∀ H2, GxR.Tabbed P H1 H2 → Q (.bl ((List.range xs.length).any bs)) H2
def ReadyA (X : Cx) (pins : List (Addr × Obj)) (σ : L2.St) (Q : VK) (gv : Value) (s5 : Shared) : Prop :=
  ∃ (a : Addr) (n : Nat) (St : Nat → Shared → Prop) (Fn : Shared → Prop) (tr : Nat → Bool), gv = .ref a ∧ WalkG X.prog X.w X.A.in1 a n (fun i y => y = .bool (tr i)) St Fn ∧ St 0 s5 ∧ ∀ s', Fn s' → ∃ H2, Inv X pins σ H2 s' ∧ Q (.bl ((List.range n).any tr)) H2
theorem pe_anyTup {c P : Addr} {elt iter : Expr} {x : Str} {px p pos gpos : Pos} {scope : Scope} {Pel : L2.St → V → Hp → Bool → Prop} {te : TE} {k : Nat}
    (hr : Room k X.A) (hg : Gl X "any") (hm : X.mg "any" = none) (hb : bootBuiltins "any" = some (.builtin "any")) (TB : GxR.TabB X.base X.mg c P) (hcode : X.env.code = .ref c) (S : GxR.GenS X.env scope x) (hi : PE X iter te)
    (hel : ∀ (pins : List (Addr × Obj)) (σ : L2.St) (H : Hp) (s1 : Shared), Inv X pins σ H s1 → (∃ ps, H P = some (.tbl ps)) → ∀ v u b, Pel σ v H b → RelV v u → EltG X scope (cloFrom X.env.cells scope.names []) x elt P s1 H u b)
    (hs : ∀ v, genFold iter X.env v = pure v)
    (he : starEach [.GeneratorExp elt [⟨.Name x px, iter, [], 0⟩] scope gpos] X.env = (false, eval (.GeneratorExp elt [⟨.Name x px, iter, [], 0⟩] scope gpos) X.env) :: starEach [] X.env := by rfl) :
    PE X (.Call (.Name "any" p) [.GeneratorExp elt [⟨.Name x px, iter, [], 0⟩] scope gpos] [] pos) (tAnyT X.K P Pel te) := by
  refine ⟨fun pins s σ H Q I h => ?_⟩
  refine wpAny_Call_Name_kw (ld_blt I hg hm hb (PyProof.Rows.callWith_builtin1 ?_ he (by rfl)))
  rw [he]
  show wpAny _ _ (spliced ((false, eval (.GeneratorExp elt [⟨.Name x px, iter, [], 0⟩] scope gpos) X.env) :: backTo pos (starEach [] X.env))) _ _ s
  refine Calls.spliced_cons (thn (show wpAny _ _ _ (ReadyA X pins σ Q) _ s from wpAny_GeneratorExp_make S.co (closure_ok S.free) S.cell S.dot S.kind (by have := hr.dp; omega) ?_ hs) fun gv s5 ⟨a, n, Stt, Fn, tr, eg, W, st, q⟩ => ?_)
  rotate_left
  · subst eg
    refine Calls.spliced_nil (call_anyG (W.self 0 _ st _ _ ⟨a, n, _, Stt, Fn, tr, rfl, W, st, fun i v e => e, fun s' hf => ?_⟩))
    obtain ⟨H2, J, hq⟩ := q s' hf
    exact ⟨.bl _, H2, J, rfl, hq⟩
  refine thn (hi.run pins s σ H _ I h) fun xv s1 ⟨v, H1, I1, r1, T, xs, bs, ev, hq, ⟨ps, hP, ht⟩, hp, q⟩ => ?_
  subst ev
  obtain rfl : xv = Value.ref T := r1
  obtain ⟨its, rv, pt, _⟩ := I1.tuple hq
  have pt' : s1.heap.IsTuple T its.toArray := pt
  have sP : s1.heap.get? P = some { cls := .none, data := .fields ps } := I1.hok P _ hP
  have nTP : T ≠ P := fun z => by
    obtain ⟨o, e, e2, _⟩ := pt'
    rw [z, sP] at e; cases e; cases e2
  refine wpAny_pyIter_tuple pt' ?_
  have hi0 := Heap.get?_push_size s1.heap (o := { cls := .type "tuple_iterator", data := .fields #[.ref T, .int 0 0] }) rfl
  generalize ho : ({ cls := .type "tuple_iterator", data := .fields #[.ref T, .int 0 0] } : Obj) = o at hi0 ⊢
  have lim := I1.nolimit.push o
  have zz : (s1.heap.push o).objs.size = s1.heap.objs.size + 1 := Heap.size_push ..
  have sP2 : (s1.heap.push o).get? P = some { cls := .none, data := .fields ps } := Heap.get?_push_of_some _ sP
  have cd : PySem.W.CodeHd (s1.heap.push o) c P := TB.code.keeps fun b u e => Heap.get?_push_of_some _ (I1.bk b u e)
  have nJP : s1.heap.objs.size ≠ P := fun z => by rw [← z] at sP; exact Nat.lt_irrefl _ (Heap.lt_size sP)
  refine ⟨lim, ?_⟩
  -- with the code object and the table as they are then
  have go : ∀ (code : Value) (h3 : Heap) (tk : Nat) (more : Array Value), Heap.ExtBut P (s1.heap.push o) h3 → (s1.heap.push o).objs.size ≤ h3.objs.size → h3.get? P = some { cls := .none, data := .fields (ps ++ more) } → TriplesOk (ps ++ more).toList →
      wpAny (model X.prog X.w) X.A (builtinsFor X.env.globals X.env.builtins) (fun bi s4 => ∀ h' : Heap, (h'.Ns s4.heap.objs.size fun y => if y = (".0" : Str) then some (Value.ref s1.heap.objs.size) else none) → Heap.SameBut s4.heap.objs.size (s4.heap.push { cls := .type "frame", data := .dict #[] }) h' →
        ReadyA X pins σ Q (.ref h'.objs.size) { s4 with gens := s4.gens.push (.fresh (startC elt iter x px scope gpos s1.heap.objs.size (genEnv scope (cloFrom X.env.cells scope.names []) s4.heap.objs.size code bi X.env))), toks := s4.toks + 1 + 1 + 1, heap := h'.push { cls := .type "generator", data := .fields #[.int s4.gens.size 0, .str "<genexpr>" (s4.toks + 1), .str (X.env.qual ++ "<genexpr>") (s4.toks + 1 + 1)] } }) X.xe { s1 with heap := h3, toks := tk } := by
    intro code h3 tk more hx hge hP3 ht3
    have l3 : s1.heap.objs.size < h3.objs.size := by rw [zz] at hge; exact hge
    have k3 : ∀ b u, b ≠ P → s1.heap.get? b = some u → h3.get? b = some u := fun b u ne e => hx b u ne (Heap.get?_push_of_some _ e)
    obtain ⟨bm, ob, b1, b2, b3, b4, b5, b6, b7, b8⟩ := TB.bm
    refine wpAny_builtinsFor (m := X.mg) (by rw [I1.ok.glob]; exact ((I1.mod.glob.keeps I1.bk).push o).extBut hx TB.gP) b1 b2 (k3 _ _ b4 (I1.bk _ _ b5)) b6 b7 b8 ?_
    intro h' hn' hs'
    have sz : h'.objs.size = h3.objs.size + 1 := by rw [hs'.1, Heap.size_push]
    have keep : ∀ b u, h3.get? b = some u → h'.get? b = some u := fun b u e => hs'.extBut b u (Nat.ne_of_lt (Heap.lt_size e)) (Heap.get?_push_of_some _ e)
    generalize hob : ({ cls := .type "generator", data := .fields #[.int s1.gens.size 0, .str "<genexpr>" (tk + 1), .str (X.env.qual ++ "<genexpr>") (tk + 1 + 1)] } : Obj) = og
    have og1 : (h'.push og).get? h'.objs.size = some og := by rw [← hob]; exact Heap.get?_push_size _ rfl
    have kp : ∀ b u, h3.get? b = some u → (h'.push og).get? b = some u := fun b u e => Heap.get?_push_of_some _ (keep b u e)
    generalize hce : genEnv scope (cloFrom X.env.cells scope.names []) h3.objs.size code builtinsNs X.env = cenv
    have Sx : Sta X pins σ H1 s1 P ps s1.heap.objs.size T h3.objs.size h'.objs.size its.toArray cenv scope :=
      ⟨I1, hP, pt', nTP, rfl, l3, by rw [sz]; exact Nat.lt_succ_self _, by rw [← hce]; rfl, by rw [← hce]; rfl, by rw [← hce]; rfl, S.kind, by rw [← hce]; exact I1.ok.glob, by rw [← hce]; rfl⟩
    have Tn := turns_of (x := x) (elt := elt) (iter := iter) (px := px) (pos := gpos) (pb := bs) (g := s1.gens.size) Sx hr.hd fun i v hv => by
      have hv' : its[i]? = some v := by simpa using hv
      have hl : i < xs.length := by rw [rv.length]; exact (List.getElem?_eq_some_iff.mp hv').1
      obtain ⟨u, hu, ru⟩ := rv.get (List.getElem?_eq_getElem hl)
      rw [hv'] at hu; cases hu
      exact hel pins σ H1 s1 I1 ⟨ps, hP⟩ _ v (bs i) (hp i _ (List.getElem?_eq_getElem hl)) ru
    have hx1 : cenv.kindOf x = some .local := by rw [← hce]; exact S.loc
    have hp1 : (cenv.scope.kind == .class || (cenv.scope.kind == .module && cenv.locals != cenv.globals)) = false := by rw [← hce]; simp [genEnv, S.kind]
    have hco1 : cenv.scope.isCoroutine = false := by rw [← hce]; exact S.co
    have L0 : GLp X s1 P ps s1.heap.objs.size T h3.objs.size h'.objs.size s1.gens.size 0 { s1 with gens := s1.gens.push (.fresh (startC elt iter x px scope gpos s1.heap.objs.size cenv)), toks := tk + 1 + 1 + 1, heap := h'.push og } := by
      refine ⟨⟨fun b u e ne => ?_, ⟨more, kp P _ hP3, ht3⟩, rfl, I1.bare.push rfl⟩, ?_, ⟨_, hn'.push _⟩, ?_, by rw [Array.size_push]; exact Nat.lt_succ_self _⟩
      · have z := kp b u (k3 b u ne e)
        exact ⟨fun _ => z, fun _ => ⟨u.slots, z⟩⟩
      · refine ⟨o, kp _ o (hx _ o nJP hi0), ?_, ?_⟩
        · rw [← ho]
        · rw [← ho]; rfl
      · exact ⟨og, .str "<genexpr>" (tk + 1), .str (X.env.qual ++ "<genexpr>") (tk + 1 + 1), og1, by rw [← hob], by rw [← hob], by rw [← hob]⟩
    have W := walkG_gen (prog := X.prog) (w := X.w) (n := its.toArray.size) (F := fun i y => y = .bool (bs i)) (A := X.A.in1) (by exact hr.hd) (by have := hr.dp; show X.A.depth < _; omega) (calm_of (a := h'.objs.size) (g := s1.gens.size) Sx)
    refine ⟨h'.objs.size, _, _, _, bs, rfl, W, ⟨L0, _, Array.getElem?_push_size .., fun s2 h2 => ⟨rfl, ?_⟩⟩, fun s' hf => ?_⟩
    · rw [Nat.sub_zero]
      exact seg_startG Tn (fun s hl Q E hq => (Walks.tuple (prog := X.prog) (w := X.w) (A := X.A.in1.in1.over (startC elt iter x px scope gpos s1.heap.objs.size cenv) []) hr.hd s1.heap.objs.size T (Nat.ne_of_lt (by obtain ⟨_, e, _⟩ := pt'; exact Heap.lt_size e)) its.toArray).self 0 s Q E ⟨hl.it, hl.k.tuple nTP pt'⟩ hq) hx1 hp1 hco1 _ s2 h2
    · obtain ⟨H2, hT, J⟩ := gst_inv I1 hP hf
      refine ⟨H2, J, ?_⟩
      have := q H2 hT
      rwa [List.size_toArray, ← rv.length]
  cases hf : codeAmong gpos ps.toList with
  | none =>
    refine wpAny_genexprCodeX hcode (cd.code sP2 ht) (cd.tab sP2) hf fun c' h' tk hx hge hlt hco' _ htab' _ => ?_
    obtain ⟨_, _, _, _, _, _, _, _, _, _, _, _, _, _, _, _, _, _, _, htr, _⟩ := hco'
    exact go _ h' tk _ hx (Nat.le_trans hge (Nat.le_of_lt hlt)) htab'.2 htr
  | some cv =>
    refine wpAny_genexprCode_hit hcode (cd.code sP2 ht) hf ?_
    exact go cv (s1.heap.push o) s1.toks #[] (Heap.ExtBut.refl _ _) (Nat.le_refl _) (by rw [Array.append_empty]; exact sP2) (by rw [Array.append_empty]; exact ht)
end
end Pd
namespace Pd
open PySem L2
/-! ### the room at a path, pushes of a door -/
def House.at? : House → List Int → Option House
  | h, [] => some h
  | .out _, _ :: _ => none
  | .room _ ds, a :: r => if 0 ≤ a then match ds.get? a.toNat with
    | none => none
    | some x => x.2.2.at? r
    else none
termination_by _ p => p.length
theorem House.at_nil (h : House) : h.at? [] = some h := by unfold House.at?; cases h <;> rfl
theorem House.at_out (n : Str) (a : Int) (r : List Int) : (House.out n).at? (a :: r) = none := by unfold House.at?; rfl
theorem House.at_room {hand : Int} {ds : Doors} {i : Nat} {n s : Int} {hh : House} (r : List Int) (e : ds.get? i = some (n, s, hh)) : (House.room hand ds).at? ((i : Int) :: r) = hh.at? r := by
  rw [House.at?, if_pos (by omega), Int.toNat_natCast, e]
theorem House.at_cons {h : House} {a : Int} {r : List Int} {x : House} (e : h.at? (a :: r) = some x) : ∃ (hand : Int) (ds : Doors) (i : Nat) (n s : Int) (hh : House), h = .room hand ds ∧ a = (i : Int) ∧ i < ds.len ∧ ds.get? i = some (n, s, hh) ∧ hh.at? r = some x := by
  cases h with
  | out n => rw [House.at_out] at e; cases e
  | room hand ds =>
    rw [House.at?] at e
    by_cases c : 0 ≤ a
    · rw [if_pos c] at e
      cases g : ds.get? a.toNat with
      | none => rw [g] at e; cases e
      | some y =>
        obtain ⟨n, s, hh⟩ := y
        rw [g] at e
        exact ⟨hand, ds, a.toNat, n, s, hh, rfl, by omega, Doors.get_lt ds _ g, g, e⟩
    · rw [if_neg c] at e; cases e
/-- the way of a leaving leads to a way out -/
theorem House.way_at : ∀ (d : Nat) (h : House) (l : Int), h.deep < d → h.ok → h.at? (h.way l).1 = some (.out (h.way l).2)
  | 0, _, _, hd, _ => absurd hd (Nat.not_lt_zero _)
  | d + 1, .out n, l, hd, ok => House.at_nil _
  | d + 1, .room hand ds, l, hd, ⟨h0, h1, h2, h3⟩ => by
    obtain ⟨r0, r1⟩ := hand_rng (hand := hand) (len := ds.len) (l := l - 1) (by omega)
    have hx : hand + (l - 1) = hand + l - 1 := by omega
    rw [hx] at r0 r1
    obtain ⟨i, hi⟩ := Int.eq_ofNat_of_zero_le r0
    obtain ⟨n, s, hh, he⟩ := ds.get_some i (by omega)
    have := Doors.get_deep ds _ he
    simp only [House.way]
    rw [hi, Int.toNat_natCast, Doors.way_get ds i _ he, House.at_room _ he]
    refine House.way_at d hh _ ?_ (Doors.get_ok ds _ h3 he).2.2.2.2
    have : ds.deep + 1 < d + 1 := hd
    omega
/-- where a push is: towards which leaving, how many came towards it before; t: which turn of the door, and came since the turn's start -/
def fin (hand len at' stands : Int) (t : Int × Int) : Int × Int := ((t.1 - 1) * len + (at' - hand).fmod len + 1, if t.1 = 1 then t.2 - stands else t.2)
mutual
def House.place : House → List Int → Int → Int × Int
  | .out _, _, _ => (0, 0)
  | .room _ _, [], _ => (0, 0)
  | .room hand ds, a :: r, m => fin hand ds.len a (ds.turn a.toNat r m).1 (ds.turn a.toNat r m).2
/-- the door's stands; the turn, and who came in it -/
def Doors.turn : Doors → Nat → List Int → Int → Int × (Int × Int)
  | .nil, _, _, _ => (0, (0, 0))
  | .cons n s _ _, 0, [], m => (s, ((s + m - 1).fdiv n + 1, (s + m - 1).fmod n))
  | .cons n s h _, 0, b :: r, m => (s, ((h.place (b :: r) m).1, (h.place (b :: r) m).2 + n))
  | .cons _ _ _ q, i + 1, r, m => q.turn i r m
end
theorem Doors.turn_get : ∀ (ds : Doors) (i : Nat) (r : List Int) (m : Int) {n s : Int} {h : House}, ds.get? i = some (n, s, h) → ds.turn i r m = (s, if r = [] then ((s + m - 1).fdiv n + 1, (s + m - 1).fmod n) else ((h.place r m).1, (h.place r m).2 + n))
  | .nil, _, _, _, _, _, _, e => nomatch e
  | .cons _ _ _ _, 0, [], _, _, _, _, e => by cases e; rfl
  | .cons _ _ _ _, 0, b :: r, _, _, _, _, e => by cases e; rfl
  | .cons _ _ _ q, i + 1, r, m, _, _, _, e => by simpa only [Doors.turn] using Doors.turn_get q i r m e
theorem House.place_at {hand : Int} {ds : Doors} {i : Nat} {n s : Int} {hh : House} (r : List Int) (m : Int) (e : ds.get? i = some (n, s, hh)) :
    (House.room hand ds).place ((i : Int) :: r) m = fin hand ds.len i s (if r = [] then ((s + m - 1).fdiv n + 1, (s + m - 1).fmod n) else ((hh.place r m).1, (hh.place r m).2 + n)) := by
  simp only [House.place]
  rw [Int.toNat_natCast, Doors.turn_get ds i r m e]
/-! pushes of the door at p by l leavings and w walkers more -/
mutual
def House.PC : House → List Int → Int → Int → Int
  | .out _, _, _, _ => 0
  | .room _ _, [], _, _ => 0
  | .room hand ds, a :: r, l, w => if 0 ≤ a then ds.PC a.toNat r hand ds.len 0 l w else 0
def Doors.PC : Doors → Nat → List Int → Int → Int → Int → Int → Int → Int
  | .nil, _, _, _, _, _, _, _ => 0
  | .cons n s _ _, 0, [], hand, len, k, l, w => turns hand len k l * n + (if turns hand len k l = 0 then s else 0) + min (if (hand + l).fmod len = k then w else 0) (n - (if turns hand len k l = 0 then s else 0)) - s
  | .cons n s h _, 0, b :: r, hand, len, k, l, w => h.PC (b :: r) (turns hand len k l) ((if (hand + l).fmod len = k then w else 0) - min (if (hand + l).fmod len = k then w else 0) (n - (if turns hand len k l = 0 then s else 0)))
  | .cons _ _ _ q, i + 1, r, hand, len, k, l, w => q.PC i r hand len (k + 1) l w
end
theorem Doors.PC_none : ∀ (ds : Doors) (i : Nat) (r : List Int) (hand len k l w : Int), ds.get? i = none → ds.PC i r hand len k l w = 0
  | .nil, _, _, _, _, _, _, _, _ => rfl
  | .cons _ _ _ _, 0, _, _, _, _, _, _, e => nomatch e
  | .cons _ _ _ q, i + 1, r, hand, len, k, l, w, e => Doors.PC_none q i r hand len (k + 1) l w e
/-- how many of w walkers come to the door k -/
def inn (hand len k l w : Int) : Int := if (hand + l).fmod len = k then w else 0
/-- its pushes behind l leavings -/
def st0 (hand len k l s : Int) : Int := if turns hand len k l = 0 then s else 0
theorem Doors.PC_get : ∀ (ds : Doors) (i : Nat) (r : List Int) (hand len k l w : Int) {n s : Int} {h : House}, ds.get? i = some (n, s, h) → ds.PC i r hand len k l w =
    if r = [] then turns hand len (k + i) l * n + st0 hand len (k + i) l s + min (inn hand len (k + i) l w) (n - st0 hand len (k + i) l s) - s else h.PC r (turns hand len (k + i) l) (inn hand len (k + i) l w - min (inn hand len (k + i) l w) (n - st0 hand len (k + i) l s))
  | .nil, _, _, _, _, _, _, _, _, _, _, e => nomatch e
  | .cons _ _ _ _, 0, [], _, _, _, _, _, _, _, _, e => by cases e; simp [Doors.PC, st0, inn]
  | .cons _ _ _ _, 0, b :: r, _, _, _, _, _, _, _, _, e => by cases e; simp [Doors.PC, st0, inn]
  | .cons _ _ _ q, i + 1, r, hand, len, k, l, w, _, _, _, e => by
    have := Doors.PC_get q i r hand len (k + 1) l w e
    rw [show k + 1 + (i : Int) = k + ((i + 1 : Nat) : Int) by omega] at this
    simpa only [Doors.PC] using this
theorem House.PC_at {hand : Int} {ds : Doors} {i : Nat} {n s : Int} {hh : House} (r : List Int) (l w : Int) (e : ds.get? i = some (n, s, hh)) : (House.room hand ds).PC ((i : Int) :: r) l w =
    if r = [] then turns hand ds.len i l * n + st0 hand ds.len i l s + min (inn hand ds.len i l w) (n - st0 hand ds.len i l s) - s else hh.PC r (turns hand ds.len i l) (inn hand ds.len i l w - min (inn hand ds.len i l w) (n - st0 hand ds.len i l s)) := by
  simp only [House.PC]
  rw [if_pos (by omega), Int.toNat_natCast, Doors.PC_get ds i r hand ds.len 0 l w e, Int.zero_add]
/-- a path that leads to no door -/
theorem House.PC_no (h : House) (p : List Int) (l w : Int) (e : h.at? p = none ∨ p = []) : h.PC p l w = 0 := by
  revert h l w
  induction p with
  | nil => intro h l w e; cases h <;> rfl
  | cons a r ih =>
    intro h l w e
    replace e : h.at? (a :: r) = none := e.resolve_right (by simp)
    cases h with
    | out n => rfl
    | room hand ds =>
      by_cases c : 0 ≤ a
      · obtain ⟨i, rfl⟩ := Int.eq_ofNat_of_zero_le c
        cases g : ds.get? i with
        | none => simp only [House.PC]; rw [if_pos c, Int.toNat_natCast, Doors.PC_none _ _ _ _ _ _ _ _ g]
        | some y =>
          obtain ⟨n, s, hh⟩ := y
          rw [House.at_room _ g] at e
          have hr : r ≠ [] := fun z => by rw [z, House.at_nil] at e; cases e
          rw [House.PC_at _ _ _ g, if_neg hr]
          exact ih hh _ _ (.inl e)
      · simp only [House.PC]; rw [if_neg c]
theorem House.PC_zero (h : House) (p : List Int) (ok : h.ok) : h.PC p 0 0 = 0 := by
  revert h
  induction p with
  | nil => intro h _; cases h <;> rfl
  | cons a r ih =>
    intro h ok
    cases q : h.at? (a :: r) with
    | none => exact House.PC_no h _ _ _ (.inl q)
    | some x =>
      obtain ⟨hand, ds, i, n, s, hh, rfl, rfl, hi, he, q2⟩ := House.at_cons q
      obtain ⟨h0, h1, h2, h3⟩ := ok
      obtain ⟨n1, n2, n3, n4, hok⟩ := Doors.get_ok ds _ h3 he
      rw [House.PC_at _ _ _ he]
      have t := turns_zero (hand := hand) (len := ds.len) (k := i) h0 h1 (by omega) (by omega) (by omega)
      unfold st0 inn
      rw [t]
      simp only [if_true, ite_self]
      split
      · omega
      · rw [show (0 : Int) - min 0 (n - s) = 0 by omega]
        exact ih hh hok
theorem House.step_ne : ∀ h : House, h.step.1.2 = none → h.step.1.1 ≠ []
  | .out n, e => by simp [House.step] at e
  | .room _ _, _ => by simp [House.step]
theorem fin_lin {hand len at' L : Int} (h0 : 0 ≤ hand) (h1 : hand < len) (h4 : len ≤ 4) (l0 : 0 ≤ L) (e : (hand + L).fmod len = at') : L.fdiv len * len + (at' - hand).fmod len = L := by
  subst e
  rw [fmod4 (by omega), fmod4 (by omega), fdiv4 (by omega)]
  have : len = 1 ∨ len = 2 ∨ len = 3 ∨ len = 4 := by omega
  rcases this with rfl | rfl | rfl | rfl <;> omega
theorem inn_here {hand len k l w : Int} (e : (hand + l).fmod len = k) : inn hand len k l w = w := if_pos e
theorem inn_off {hand len k l w : Int} (e : (hand + l).fmod len ≠ k) : inn hand len k l w = 0 := if_neg e
/-- a push counts at its door alone, and tells where it is -/
theorem House.PC_push : ∀ (d : Nat) (h : House) (L w : Int), h.deep < d → h.ok → 0 ≤ L → 0 ≤ w → w + 1 < (h.BL L).W 1 →
    (∀ p, h.PC p L (w + 1) = h.PC p L w + (if p = ((h.BL L).BP w).step.1.1 then 1 else 0)) ∧ h.place ((h.BL L).BP w).step.1.1 (h.PC ((h.BL L).BP w).step.1.1 L w + 1) = (L + 1, w) ∧ (h.at? ((h.BL L).BP w).step.1.1).isSome = true ∧ ((h.BL L).BP w).step.1.1 ≠ [] ∧ ((h.BL L).BP w).step.1.2 = none
  | 0, _, _, _, hd, _, _, _, _ => absurd hd (Nat.not_lt_zero _)
  | d + 1, .out n, L, w, hd, ok, l0, w0, e => by simp only [House.BL, House.W] at e; omega
  | d + 1, .room hand ds, L, w, hd, ok, l0, w0, e => by
    obtain ⟨i, n, s, s', hh, hi, hlt, he, n1, n2, n3, n4, hok, hdp, ht, t0, es, s0, s1, hW, hs⟩ := House.here ok l0
    rw [hW] at e
    rw [hs w]
    have e0 : st0 hand ds.len i L s = s' := by unfold st0; rw [ht, es]
    obtain ⟨h0, h1, h2, h3⟩ := ok
    have off : ∀ (j : Nat) (w : Int), j ≠ i → inn hand ds.len j L w = 0 := fun j w hj => inn_off (by rw [hi]; omega)
    have off2 : ∀ (a : Int) (r q : List Int), (∀ r', a :: r ≠ (i : Int) :: r') → (House.room hand ds).PC (a :: r) L (w + 1) = (House.room hand ds).PC (a :: r) L w := fun a r q hne => by
      cases g : (House.room hand ds).at? (a :: r) with
      | none => rw [House.PC_no _ _ _ _ (.inl g), House.PC_no _ _ _ _ (.inl g)]
      | some x =>
        obtain ⟨_, _, j, n2, s2, hh2, e1, rfl, hj, hg, _⟩ := House.at_cons g
        cases e1
        have nj : j ≠ i := fun z => hne r (by rw [z])
        rw [House.PC_at _ _ _ hg, House.PC_at _ _ _ hg, off j _ nj, off j _ nj]
    have flin := fin_lin (at' := i) h0 h1 (by omega) l0 hi
    by_cases c : w < n - s'
    · rw [if_pos (by omega)]
      refine ⟨fun p => ?_, ?_, ?_, by simp, rfl⟩
      · cases p with
        | nil => rw [House.PC_no _ _ _ _ (.inr rfl), House.PC_no _ _ _ _ (.inr rfl), if_neg (by simp)]; rfl
        | cons a r =>
          by_cases ca : a = (i : Int)
          · subst ca
            rw [House.PC_at _ _ _ he, House.PC_at _ _ _ he, inn_here hi, inn_here hi, e0, show min (w + 1) (n - s') = w + 1 by omega, show min w (n - s') = w by omega]
            by_cases cr : r = []
            · subst cr
              simp only [if_true]
              omega
            · rw [if_neg cr, if_neg cr, if_neg (by simpa using cr), Int.sub_self, Int.sub_self, Int.add_zero]
          · rw [off2 a r [] (fun r' z => ca (by simpa using (List.cons.inj z).1)), if_neg (by simp [ca]), Int.add_zero]
      · rw [House.place_at _ _ he, House.PC_at _ _ _ he, inn_here hi, e0, if_pos rfl, if_pos rfl, ht, show min w (n - s') = w by omega]
        have q1 : s + (L.fdiv ds.len * n + s' + w - s + 1) - 1 = (s' + w) + L.fdiv ds.len * n := by omega
        have q2 : ((s' + w) + L.fdiv ds.len * n).fdiv n = L.fdiv ds.len := by
          rw [fdiv4 (by omega), Int.add_mul_ediv_right _ _ (by omega), Int.ediv_eq_zero_of_lt (by omega) (by omega), Int.zero_add]
        have q3 : ((s' + w) + L.fdiv ds.len * n).fmod n = s' + w := by
          rw [fmod4 (by omega), Int.add_mul_emod_self_right, Int.emod_eq_of_lt (by omega) (by omega)]
        rw [q1, q2, q3]
        unfold fin
        dsimp only
        rw [show L.fdiv ds.len + 1 - 1 = L.fdiv ds.len by omega, flin]
        congr 1
        by_cases z : L.fdiv ds.len = 0
        · rw [if_pos (by omega)]; rw [if_pos z] at es; omega
        · rw [if_neg (by omega)]; rw [if_neg z] at es; omega
      · rw [House.at_room _ he, House.at_nil]; rfl
    · have hm : min w (n - s') = n - s' := by omega
      have hm1 : min (w + 1) (n - s') = n - s' := by omega
      rw [hm, if_neg (by omega)]
      obtain ⟨a1, a2, a3, a4, a5⟩ := House.PC_push d hh (L.fdiv ds.len) (w - (n - s')) (by omega) hok t0 (by omega) (by omega)
      refine ⟨fun p => ?_, ?_, ?_, by simp, a5⟩
      · cases p with
        | nil => rw [House.PC_no _ _ _ _ (.inr rfl), House.PC_no _ _ _ _ (.inr rfl), if_neg (by simp)]; rfl
        | cons a r =>
          by_cases ca : a = (i : Int)
          · subst ca
            rw [House.PC_at _ _ _ he, House.PC_at _ _ _ he, inn_here hi, inn_here hi, e0, hm, hm1, ht]
            by_cases cr : r = []
            · subst cr
              rw [if_pos rfl, if_pos rfl, if_neg (by intro z; exact a4 (List.cons.inj z).2.symm), Int.add_zero]
            · rw [if_neg cr, if_neg cr, show w + 1 - (n - s') = w - (n - s') + 1 by omega, a1 r]
              congr 1
              by_cases z : r = ((hh.BL (L.fdiv ds.len)).BP (w - (n - s'))).step.1.1
              · rw [if_pos z, if_pos (by rw [← z])]
              · rw [if_neg z, if_neg (fun y => z (List.cons.inj y).2)]
          · rw [off2 a r [] (fun r' z => ca (by simpa using (List.cons.inj z).1)), if_neg (by simp [ca]), Int.add_zero]
      · rw [House.place_at _ _ he, House.PC_at _ _ _ he, inn_here hi, e0, hm, if_neg a4, if_neg a4, ht, a2]
        unfold fin
        dsimp only
        rw [show L.fdiv ds.len + 1 - 1 = L.fdiv ds.len by omega, flin]
        congr 1
        by_cases z : L.fdiv ds.len = 0
        · rw [if_pos (by omega)]; rw [if_pos z] at es; omega
        · rw [if_neg (by omega)]; rw [if_neg z] at es; omega
      · rw [House.at_room _ he]; exact a3
/-- a leaving pushes nothing -/
theorem House.PC_out : ∀ (d : Nat) (h : House) (L w : Int), h.deep < d → h.ok → 0 ≤ L → w + 1 = (h.BL L).W 1 → ∀ p, h.PC p (L + 1) 0 = h.PC p L w
  | 0, _, _, _, hd, _, _, _, _ => absurd hd (Nat.not_lt_zero _)
  | d + 1, .out n, L, w, hd, ok, l0, e, p => rfl
  | d + 1, .room hand ds, L, w, hd, ok, l0, e, p => by
    obtain ⟨i, n, s, s', hh, hi, hlt, he, n1, n2, n3, n4, hok, hdp, ht, t0, es, s0, s1, hW, hs⟩ := House.here ok l0
    have hp := House.W_pos _ (House.ok_BL hh _ hok t0)
    rw [hW] at e
    obtain ⟨h0, h1, h2, h3⟩ := ok
    cases g : (House.room hand ds).at? p with
    | none => rw [House.PC_no _ _ _ _ (.inl g), House.PC_no _ _ _ _ (.inl g)]
    | some x =>
      cases p with
      | nil => rfl
      | cons a r =>
        obtain ⟨_, _, j, m, u, hh2, e1, rfl, hj, hg, _⟩ := House.at_cons g
        cases e1
        obtain ⟨m1, m2, m3, m4, hok2⟩ := Doors.get_ok ds _ h3 hg
        rw [House.PC_at _ _ _ hg, House.PC_at _ _ _ hg]
        have tj := turns_nonneg (hand := hand) (len := ds.len) (k := j) h0 h1 (by omega) (by omega) (by omega) l0
        have ts := turns_succ (hand := hand) (len := ds.len) (k := j) (l := L) h0 h1 (by omega) (by omega) (by omega) l0
        have z0 : ∀ k, inn hand ds.len k (L + 1) 0 = 0 := fun k => by unfold inn; split <;> rfl
        rw [z0]
        unfold st0
        by_cases cj : j = i
        · subst cj
          rw [hg] at he
          cases he
          rw [if_pos hi, ht] at ts
          rw [inn_here hi, ts, ht, if_neg (show ¬ L.fdiv ds.len + 1 = 0 by omega), ← es, show min w (n - s') = n - s' by omega]
          by_cases cr : r = []
          · rw [if_pos cr, if_pos cr, Int.add_mul]; omega
          · rw [if_neg cr, if_neg cr, show (0 : Int) - min 0 (n - 0) = 0 by omega]
            have := Doors.get_deep ds _ hg
            exact House.PC_out d hh (L.fdiv ds.len) (w - (n - s')) (by omega) hok t0 (by omega) r
        · rw [if_neg (by rw [hi]; omega), Int.add_zero] at ts
          rw [inn_off (by rw [hi]; omega), ts]
end Pd
namespace Pd
open PySem PySem.Spec PyProof.Rows L2
/-- a tuple, by the heap alone -/
theorem tuple_at {P : Program} {w : World} {K : PySem.W.Frag} {H : Hp} {h : Heap} {a : Addr} {xs : List V} (hok : HOk P w H h) (hk : K.In h) (q : SqT K H a xs) : ∃ its : List Value, Vals xs its ∧ IsTup h a its.toArray := by
  rcases q with q | ⟨o, its, n, e, hc, hs, hz, r⟩
  · obtain ⟨z, its, r, p⟩ := q.ok hok
    exact ⟨its, r, p⟩
  · exact ⟨its.toList, r, ⟨o, hk a o e, hc, n, by simpa using hs⟩⟩
/-- one table alone -/
abbrev T1 (P : Addr) : Tb := ⟨[P], []⟩
theorem tbs1 {H : Hp} {P : Addr} : Tbs (T1 P) H ↔ GxR.TabG H P := ⟨fun h => h.1 P (by simp), fun h => ⟨fun Q hQ => by rw [List.mem_singleton.mp hQ]; exact h, fun p hp => by simp at hp⟩⟩
section
variable {X : Cx}
theorem room_elt {k j : Nat} {A A' : Around} (hr : Room k A) (hj : j + 1 ≤ k) (h1 : A'.handled = none) (h2 : A'.depth ≤ A.depth + 1) (h3 : A'.units ≤ A.units + 8) : Room j A' :=
  ⟨h1, by have := hr.dp; omega, by have := hr.un; omega⟩
/-- f(x[2], y) in a generator: x its own name, y the def's -/
theorem elt_call {R : List D → D → Prop} {scope : Scope} {P : Addr} {pins : List (Addr × Obj)} {σ : L2.St} {H : Hp} {s1 : Shared} {x y fn : Str} {ps : List Str} {p1 p2 p3 p4 p5 pos : Pos} {kk j k ny : Nat} {a : Addr} {v0 v1 r : V} {nm : Str} {d : D} {b : Bool}
    (I : Inv X pins σ H s1) (hr : Room k X.A) (hj : j + 1 ≤ k) (G : Ok X.prog X.w X.K X.mg X.base j fn ps (spR (T1 P) X.K R))
    (hk : scope.kind = .function) (hx : scope.names.lookup x = some .local) (hy : scope.names.lookup y = some .free) (hym : (y, NameKind.free) ∈ scope.names) (hf : scope.names.lookup fn = some .globalImplicit)
    (hfree : ∀ z ∈ scope.names, z.2 = .free → ∃ c, X.env.cells.lookup z.1 = some c) (hyc : X.env.kindOf y = some .cell) (hN : X.N[ny]? = some y) (hσ : σ[ny]? = some (some (.str nm)))
    (hq : SqT X.K H a [v0, v1, r]) (hd : Rep X.K H d r) (hR : R [d, .str nm] (.bl b)) (hp2 : ps.length = 2)
    (hT : ∃ ps, H P = some (.tbl ps)) (dx : (x == ("__debug__" : Str)) = false := by decide) (dy : (y == ("__debug__" : Str)) = false := by decide) (dc : (y == ("__classdict__" : Str)) = false := by decide) (df : (fn == ("__debug__" : Str)) = false := by decide) :
    EltG X scope (cloFrom X.env.cells scope.names []) x (.Call (.Name fn p1) [.Subscript (.Name x p2) (.Constant (.int 2) kk p3) p4, .Name y p5] [] pos) P s1 H (.ref a) b := by
  intro cenv A' E' s2 m2 Hf e1 e2 e3 hA hD hU e0 fz htab hn hm hcells
  obtain ⟨f, fd, F, hmf, kp, hb⟩ := G.ex
  have kb : ∀ b o, X.base.get? b = some o → s2.heap.get? b = some o := fun b o e => (e0.bs b o e).1
  have kin : X.K.In s2.heap := e0.mod.kin.keeps kb
  have glob : s2.heap.Ns mainGlobals X.mg := e0.mod.glob.keeps kb
  -- the cell of y
  obtain ⟨m1, _, hl⟩ := I.loc
  obtain ⟨uy, ry, hlook⟩ := hl ny y (.str nm) hN hσ (.inr (.inl hyc))
  obtain ⟨ty, rfl⟩ := ry
  obtain ⟨cy, hcy, hcell⟩ : ∃ c, X.env.cells.lookup y = some c ∧ s1.heap.IsCell c (some (.str nm ty)) := by
    rcases hlook with ⟨z, _⟩ | ⟨_, z⟩
    · rw [show X.env.kindOf y = some .cell from hyc] at z; cases z
    · exact z
  have hcl : cenv.cells.lookup y = some cy := by rw [e3]; exact NdefX.clo_has hfree hym hcy
  have hcell2 := hcells y cy _ hcy hcell
  -- the tuple
  have hqf : Rep X.K Hf (.tup [.non, .non, d]) (.ref a) ∨ True := .inr trivial
  have hqF : SqT X.K Hf a [v0, v1, r] := by
    rcases hq with (h | ⟨o, h⟩) | h
    · exact .inl (.inr (fz.t a _ (.inl h)))
    · exact .inl (.inr (fz.t a _ (.inr ⟨o, h⟩)))
    · exact .inr h
  obtain ⟨its, rv, pt⟩ := tuple_at e0.hok kin hqF
  cases rv with
  | cons r1 rv => cases rv with
    | cons r2 rv => cases rv with
      | cons r3 rv =>
        cases rv
        rename_i u0 u1 u2
        have rdf : Rep X.K Hf d r := rep_frz fz d r hd
        refine wpAny_Call_Name_kw (Calls.Name_function_global (by rw [e1]; exact hk) (show cenv.scope.names.lookup fn = _ by rw [e1]; exact hf) (Calls.loadGlobal_global (by rw [e2]; exact glob) hmf ?_) df)
        refine PySem.W.callWith_K kin kp (Calls.spliced_cons (Subscript_ (wpAny_Name (wpAny_loadName_local (by rw [e1]; exact hk) (show cenv.scope.names.lookup x = _ by rw [e1]; exact hx) hn hm ?_) dx)))
        refine wpAny_Constant_int ?_
        refine subscriptTail_builtinR (x := u2) pt.typeIs slot_tuple_getitem.lookup (getItem_tuple (j := 2) pt (by decide) (by decide) rfl rfl ⟨rfl, ?_⟩)
        refine Calls.spliced_cons (wpAny_Name (wpAny_loadName_free (by rw [e1]; exact hk) (show cenv.scope.names.lookup y = _ by rw [e1]; exact hy) hcl hcell2 ?_ dc) dy)
        refine Calls.spliced_nil ⟨kin, ?_⟩
        have env2 : Env0 X.prog X.w X.K X.mg X.base A' (cenv :: X.stack) { s2 with toks := s2.toks + 1 } Hf := ⟨e0.frames, e0.mod, e0.bs, e0.bsz, e0.funs, e0.frf, e0.hok, e0.bare⟩
        refine wpAny_call (codeAny_mono (codeAny_gens (codeAny_mono (F.run A' (cenv :: X.stack) { s2 with toks := s2.toks + 1 } Hf ⟨[u2, .str nm ty], []⟩ [u2, .str nm ty] [r, .str nm] (fun v H' => v = .bl b ∧ GxR.TabG H' P) E0 (room_elt hr hj hA hD hU) env2 (by have z := hb { s2 with toks := s2.toks + 1 } [u2, .str nm ty] kin (by rw [hp2]; rfl); rwa [List.append_nil] at z) (.cons r3 (.cons ⟨ty, rfl⟩ .nil)) ?_) fun r s' hq hg => ?_)) fun r s' hq => hq)
        · exact ⟨[d, .str nm], .bl b, hR, ⟨r, _, rfl, rdf, _, [], rfl, rfl, rfl⟩, tbs1.mpr htab, fun v H' g rr => ⟨rr, tbs1.mp g.tbs⟩⟩
        · cases r with
          | error e => exact (show False from hq).elim
          | ok fl =>
            cases fl with
            | ret w =>
              obtain ⟨v, H', os, bare, un, hok, rv2, rfl, htab2⟩ := hq
              cases rv2
              exact ⟨rfl, os, bare, hg, H', un, hok, htab2⟩
            | next => exact False.elim hq
            | brk => exact False.elim hq
            | cont => exact False.elim hq
end
end Pd
namespace Pd
open PySem PySem.Spec PyProof.Rows L2
theorem genS_free {env : Env} {scope : Scope} {x y0 : Str} (h1 : scope.kind = .function) (h2 : scope.isCoroutine = false) (h3 : (scope.names.all fun y => !decide (y.2 = .cell) && (!decide (y.2 = .free) || decide (y.1 = y0))) = true) (h4 : scope.names.lookup (".0" : Str) = some NameKind.local) (h5 : scope.names.lookup x = some .local)
    (hc : ∃ c, env.cells.lookup y0 = some c) : GxR.GenS env scope x := by
  simp only [List.all_eq_true, Bool.and_eq_true, Bool.or_eq_true, Bool.not_eq_true', decide_eq_false_iff_not, decide_eq_true_eq] at h3
  exact ⟨h1, h2, fun y hy => (h3 y hy).1, h4, h5, fun y hy e => by rw [((h3 y hy).2.resolve_left fun z => z e)]; exact hc⟩
theorem free_of {names : List (Str × NameKind)} {cells : List (Str × Addr)} {y0 : Str} (h : (names.all fun z => !decide (z.2 = .free) || decide (z.1 = y0)) = true) (hc : ∃ c, cells.lookup y0 = some c) : ∀ z ∈ names, z.2 = .free → ∃ c, cells.lookup z.1 = some c := fun z hz e => by
  simp only [List.all_eq_true, Bool.or_eq_true, Bool.not_eq_true', decide_eq_false_iff_not, decide_eq_true_eq] at h
  rw [(h z hz).resolve_left fun y => y e]
  exact hc
section
variable {T : Tb} {K : PySem.W.Frag} {δ : List (Option SD)} {H : Hp} {te : TE} {P : Addr}
theorem ev_anyT {ds : List D} {Pel : L2.St → V → Hp → Bool → Prop} {bd : D → Bool} (h : EvD T K te δ H (.tup ds)) (hP : P ∈ T.g) (hl : ∀ p ∈ T.l, p.1 ≠ P) (he : ∀ d ∈ ds, ∀ σ v H1, Slots K H1 δ σ → Rep K H1 d v → Pel σ v H1 (bd d)) : EvD T K (tAnyT K P Pel te) δ H (.bl (ds.any bd)) := fun σ H1 g s Q q =>
  h σ H1 g s _ fun v H2 g2 r => by
    obtain ⟨a, xs, e, hs, rs⟩ := r
    refine ⟨a, xs, fun i => (ds[i]?.map bd).getD false, e, hs, g2.tbs.1 P hP, fun i x hx => ?_, fun H3 t => ?_⟩
    · obtain ⟨d, hd, rd⟩ := rs.got hx
      show Pel σ x H2 ((Option.map bd ds[i]?).getD false)
      rw [hd]
      exact he d (List.mem_of_getElem? hd) σ x H2 (s.up g2) rd
    · have e2 : (List.range xs.length).any (fun i => (ds[i]?.map bd).getD false) = ds.any bd := by
        rw [rs.len, Bool.eq_iff_iff, List.any_eq_true, List.any_eq_true]
        constructor
        · rintro ⟨i, hi, hh⟩
          have hi' := List.mem_range.mp hi
          exact ⟨ds[i], List.getElem_mem hi', by simpa [List.getElem?_eq_getElem hi'] using hh⟩
        · rintro ⟨d, hd, hh⟩
          obtain ⟨i, hi, rfl⟩ := List.getElem_of_mem hd
          exact ⟨i, List.mem_range.mpr hi, by simpa [List.getElem?_eq_getElem hi] using hh⟩
      rw [e2]
      exact q _ H3 (g2.trans (Gr.tab g2.tbs (g2.tbs.1 P hP) hl t)) rfl
end
def bdHas (nm : Str) : D → House → Bool := fun _ h => h.has nm
/-- has a way out behind this door the name -/
def PelHas (K : PySem.W.Frag) (lv : Nat) (σ : L2.St) (v : V) (H : Hp) (b : Bool) : Prop := ∃ (a : Addr) (n s : Int) (r : V) (h : House) (nm : Str), v = .ref a ∧ SqT K H a [.int n, .int s, r] ∧ Rep K H h.toD r ∧ σ[1]? = some (some (.str nm)) ∧ h.ok ∧ h.deep < lv ∧ b = h.has nm
section
variable {P : Program} {w : World} {K : PySem.W.Frag} {mg : Str → Option Value} {base : Heap} {T : Tb} {f : Addr} {fd : FuncData}
def RHas (lv : Nat) (ds : List D) (d : D) : Prop := ∃ (h : House) (nm : Str), ds = [h.toD, .str nm] ∧ h.ok ∧ h.deep < lv ∧ d = .bl (h.has nm)
open Classical in
noncomputable def bdD (nm : Str) (d : D) : Bool := if x : ∃ (n s : Int) (h : House), d = .tup [.int n, .int s, h.toD] then x.choose_spec.choose_spec.choose.has nm else false
mutual
theorem House.toD_inj : ∀ a b : House, a.toD = b.toD → a = b
  | .out _, .out _, e => by simp only [House.toD, D.str.injEq] at e; rw [e]
  | .out _, .room _ _, e => by simp [House.toD] at e
  | .room _ _, .out _, e => by simp [House.toD] at e
  | .room h1 d1, .room h2 d2, e => by
    simp only [House.toD, D.tup.injEq, List.cons.injEq, D.int.injEq, and_true] at e
    rw [e.1, Doors.toDs_inj d1 d2 e.2]
theorem Doors.toDs_inj : ∀ a b : Doors, a.toDs = b.toDs → a = b
  | .nil, .nil, _ => rfl
  | .nil, .cons _ _ _ _, e => by simp [Doors.toDs] at e
  | .cons _ _ _ _, .nil, e => by simp [Doors.toDs] at e
  | .cons n1 s1 h1 r1, .cons n2 s2 h2 r2, e => by
    simp only [Doors.toDs, D.tup.injEq, List.cons.injEq, D.int.injEq, and_true] at e
    obtain ⟨⟨e1, e2, e3⟩, e4⟩ := e
    rw [e1, e2, House.toD_inj h1 h2 e3, Doors.toDs_inj r1 r2 e4]
end
theorem bdD_at (nm : Str) (n s : Int) (h : House) : bdD nm (.tup [.int n, .int s, h.toD]) = h.has nm := by
  unfold bdD
  have x : ∃ (n' s' : Int) (h' : House), D.tup [.int n, .int s, h.toD] = .tup [.int n', .int s', h'.toD] := ⟨n, s, h, rfl⟩
  rw [dif_pos x]
  have e := x.choose_spec.choose_spec.choose_spec
  exact congrArg (fun z => House.has z nm) (House.toD_inj _ _ (List.cons.inj (List.cons.inj (List.cons.inj (D.tup.inj e)).2).2).1).symm
theorem Doors.any_has (nm : Str) : ∀ ds : Doors, ds.toDs.any (bdD nm) = ds.has nm
  | .nil => rfl
  | .cons n s h r => by
    simp only [Doors.toDs, List.any_cons, Doors.has]
    rw [bdD_at, Doors.any_has nm r]
theorem Doors.mem_door : ∀ (ds : Doors) (d : D), d ∈ ds.toDs → ds.ok → ∃ n s h, d = .tup [.int n, .int s, House.toD h] ∧ h.ok ∧ h.deep ≤ ds.deep
  | .nil, d, h, _ => by simp [Doors.toDs] at h
  | .cons n s h r, d, hd, ⟨_, _, _, _, h5, h6⟩ => by
    simp only [Doors.toDs, List.mem_cons] at hd
    rcases hd with rfl | hd
    · exact ⟨n, s, h, rfl, h5, Nat.le_max_left _ _⟩
    · obtain ⟨n', s', h', e, a, b⟩ := Doors.mem_door r d hd h6
      exact ⟨n', s', h', e, a, Nat.le_trans b (Nat.le_max_right _ _)⟩
end
end Pd
namespace Pd
open PySem PySem.Spec PyProof.Rows L2
theorem House.at_app : ∀ (p q : List Int) (h : House), h.at? (p ++ q) = (h.at? p).bind fun x => x.at? q
  | [], q, h => by rw [List.nil_append, House.at_nil]; rfl
  | a :: p, q, .out n => by rw [List.cons_append, House.at_out, House.at_out]; rfl
  | a :: p, q, .room hand ds => by
    rw [List.cons_append, House.at?, House.at?]
    by_cases c : 0 ≤ a
    · rw [if_pos c, if_pos c]
      cases g : ds.get? a.toNat with
      | none => rfl
      | some x => exact House.at_app p q x.2.2
    · rw [if_neg c, if_neg c]; rfl
/-- the room behind the first i doors -/
def House.upto (h : House) (p : List Int) (i : Nat) : House := (h.at? (p.take i)).getD h
theorem House.upto_all {h x : House} {p : List Int} (e : h.at? p = some x) : h.upto p p.length = x := by
  unfold House.upto
  rw [List.take_length, e]; rfl
theorem House.upto_step {h x : House} {p : List Int} {i : Nat} {a : Int} (e : h.at? p = some x) (ha : p[i]? = some a) (ok : h.ok) : ∃ (hand : Int) (ds : Doors) (k : Nat) (n s : Int), h.upto p i = .room hand ds ∧ a = (k : Int) ∧ k < ds.len ∧ ds.get? k = some (n, s, h.upto p (i + 1)) := by
  have hp : p = p.take i ++ a :: p.drop (i + 1) := by
    have hl := (List.getElem?_eq_some_iff.mp ha).1
    rw [show a = p[i] from ((List.getElem?_eq_some_iff.mp ha).2).symm, ← List.drop_eq_getElem_cons hl, List.take_append_drop]
  have ht : p.take (i + 1) = p.take i ++ [a] := by rw [List.take_succ, ha]; rfl
  rw [hp, House.at_app] at e
  unfold House.upto
  rw [ht, House.at_app]
  cases g : h.at? (p.take i) with
  | none => rw [g] at e; cases e
  | some y =>
    rw [g] at e
    obtain ⟨hand, ds, k, n, s, hh, e1, e2, e3, e4, e5⟩ := House.at_cons (show y.at? (a :: p.drop (i + 1)) = some x from e)
    refine ⟨hand, ds, k, n, s, e1, e2, e3, ?_⟩
    rw [e4, e1, e2]
    show some (n, s, hh) = some (n, s, ((House.room hand ds).at? [(k : Int)]).getD h)
    rw [House.at_room _ e4, House.at_nil]; rfl
theorem House.at_ok : ∀ (p : List Int) (h x : House), h.ok → h.at? p = some x → x.ok ∧ x.deep ≤ h.deep
  | [], h, x, ok, e => by rw [House.at_nil] at e; cases e; exact ⟨ok, Nat.le_refl _⟩
  | a :: p, h, x, ok, e => by
    obtain ⟨hand, ds, i, n, s, hh, rfl, rfl, hi, he, q2⟩ := House.at_cons e
    obtain ⟨o, l⟩ := House.at_ok p hh x (Doors.get_ok ds _ ok.2.2.2 he).2.2.2.2 q2
    have := Doors.get_deep ds _ he
    exact ⟨o, by show x.deep ≤ ds.deep + 1; omega⟩
theorem House.path_len : ∀ (p : List Int) (h x : House), h.at? p = some x → p.length ≤ h.deep
  | [], h, x, e => Nat.zero_le _
  | a :: p, h, x, e => by
    obtain ⟨hand, ds, i, n, s, hh, rfl, rfl, hi, he, q2⟩ := House.at_cons e
    have := House.path_len p hh x q2
    have := Doors.get_deep ds _ he
    show p.length + 1 ≤ ds.deep + 1
    omega
section
variable {T : Tb} {K : PySem.W.Frag} {δ : List (Option SD)} {H : Hp} {ta tb : TE}
theorem ev_isNn {d : D} (ha : EvD T K ta δ H d) (hd : d ≠ .non) : EvD T K (tOp (fun x y H Q => y = .non ∧ Q (.bl (decide (x = .non))) H) ta (tC .non)) δ H (.bl false) := fun σ H1 g s Q q =>
  ha σ H1 g s _ fun v H2 g2 r => ⟨rfl, by
    have hv : v ≠ .non := fun z => by
      subst z
      cases d with
      | non => exact hd rfl
      | bl b => cases (show V.non = .bl b from r)
      | int b => cases (show V.non = .int b from r)
      | str b => cases (show V.non = .str b from r)
      | tup ds => obtain ⟨_, _, e, _⟩ := r; cases e
    rw [decide_eq_false hv]
    exact q _ H2 g2 rfl⟩
end
theorem run_then {K : PySem.W.Frag} {w : TS} {B : Ends} {δ : List (Option SD)} {H : Hp} (h : Run K w B δ H) : Run K tNext { B with nx := w B } δ H := h
theorem House.toD_ne (h : House) : h.toD ≠ .non := by cases h <;> simp [House.toD]
section
variable {P : Program} {w : World} {K : PySem.W.Frag} {mg : Str → Option Value} {base : Heap} {T : Tb} {f : Addr} {fd : FuncData}
def RTurn (ds : List D) (d : D) : Prop := ∃ n : Int, ds = [.int n] ∧ 1 ≤ n ∧ n ≤ 1000000000000000 ∧ d = .non
def RRoomAt (ds : List D) (d : D) : Prop := ∃ (h x : House) (p : List Int), ds = [h.toD, .tup (p.map D.int)] ∧ h.ok ∧ h.at? p = some x ∧ d = x.toD
def RDoor (ds : List D) (d : D) : Prop := ∃ (h x : House) (p : List Int), ds = [h.toD, .tup (p.map D.int)] ∧ h.ok ∧ h.at? p = some x ∧ p ≠ [] ∧ d = .non
def RCname (ds : List D) (d : D) : Prop := ∃ (h : House) (nm : Str), ds = [h.toD, .str nm] ∧ h.ok ∧ h.deep < 13 ∧ h.has nm = true ∧ d = .non
def RLot (ds : List D) (d : D) : Prop := ∃ (hand at' t : Int) (dd : List D), ds = [.tup [.int hand, .tup dd], .int at', .int t] ∧ dd ≠ [] ∧ dd.length ≤ 100 ∧ d = .int ((t - 1) * dd.length + (at' - hand).fmod dd.length + 1)
def wayD (t : List Int × Str) : D := .tup [.tup (t.1.map D.int), .str t.2]
def RWol (ds : List D) (d : D) : Prop := ∃ (h : House) (l : Int), ds = [h.toD, .int l] ∧ h.ok ∧ h.deep < 13 ∧ d = wayD (h.way l)
def RLbn (lv : Nat) (ds : List D) (d : D) : Prop := ∃ (h : House) (nm : Str) (l : Int), ds = [h.toD, .str nm, .int l] ∧ h.ok ∧ 0 ≤ l ∧ h.deep < lv ∧ d = .int (h.LN nm l)
def RPlace (lv : Nat) (ds : List D) (d : D) : Prop := ∃ (h x : House) (p : List Int) (m : Int), ds = [h.toD, .tup (p.map D.int), .int m] ∧ h.ok ∧ h.at? p = some x ∧ p ≠ [] ∧ h.deep < lv ∧ d = .tup [.int (h.place p m).1, .int (h.place p m).2]
def RWop (ds : List D) (d : D) : Prop := ∃ (h x : House) (p : List Int) (m : Int), ds = [h.toD, .tup (p.map D.int), .int m] ∧ h.ok ∧ h.at? p = some x ∧ p ≠ [] ∧ h.deep < 13 ∧ 1 ≤ (h.place p m).1 ∧ d = .int (h.W ((h.place p m).1 - 1) + (h.place p m).2)
end
end Pd
namespace Pd
open PySem PySem.Spec PyProof.Rows L2
/-- the leaving that is the number-th by a name -/
def IsN (h : House) (nm : Str) (number L : Int) : Prop := 1 ≤ L ∧ h.LN nm L = number ∧ h.LN nm (L - 1) < number
theorem IsN.uniq {h : House} {nm : Str} {number L M : Int} (ok : h.ok) (a : IsN h nm number L) (b1 : 1 ≤ M) (b2 : number ≤ h.LN nm M) (b3 : h.LN nm (M - 1) < number) : M = L := by
  obtain ⟨a1, a2, a3⟩ := a
  by_cases c : M < L
  · have := House.LN_le ok nm (l := M) (m := L - 1) (by omega) (by omega); omega
  · by_cases c2 : L < M
    · have := House.LN_le ok nm (l := L) (m := M - 1) (by omega) (by omega); omega
    · omega
theorem House.LN_topI {h : House} (ok : h.ok) (nm : Str) {m : Int} (m0 : 0 ≤ m) : h.LN nm m ≤ m := by
  have := House.LN_top ok nm m.toNat
  rwa [show ((m.toNat : Nat) : Int) = m by omega] at this
theorem IsN.some {h : House} {nm : Str} (ok : h.ok) (hh : h.has nm = true) {number : Int} (n1 : 1 ≤ number) : ∃ L, IsN h nm number L := by
  obtain ⟨M, m0, hM⟩ := House.LN_big h nm number ok hh (by omega)
  have key : ∀ k : Nat, number ≤ h.LN nm k → ∃ L, IsN h nm number L := by
    intro k
    induction k with
    | zero => intro hk; have := House.LN_zero h nm ok; simp at hk; omega
    | succ k ih =>
      intro hk
      by_cases c : number ≤ h.LN nm k
      · exact ih c
      · refine ⟨(k : Int) + 1, by omega, ?_, by rw [show (k : Int) + 1 - 1 = k by omega]; omega⟩
        have e := House.LN_succ h nm k ok (by omega)
        rw [show ((k + 1 : Nat) : Int) = (k : Int) + 1 by omega] at hk
        split at e <;> omega
  exact key M.toNat (by rw [show ((M.toNat : Nat) : Int) = M by omega]; exact hM)
theorem IsN.way {h : House} {nm : Str} {number L : Int} (ok : h.ok) (a : IsN h nm number L) : (h.way L).2 = nm := by
  obtain ⟨a1, a2, a3⟩ := a
  have e := House.LN_succ h nm (L - 1) ok (by omega)
  rw [show L - 1 + 1 = L by omega] at e
  split at e
  · assumption
  · omega
section
variable {P : Program} {w : World} {K : PySem.W.Frag} {mg : Str → Option Value} {base : Heap} {T : Tb} {f : Addr} {fd : FuncData}
def RLbyn (lv : Nat) (ds : List D) (d : D) : Prop := ∃ (h : House) (nm : Str) (n L : Int), ds = [h.toD, .str nm, .int n] ∧ h.ok ∧ 1 ≤ n ∧ h.deep < lv ∧ IsN h nm n L ∧ d = .int L
def leavD (h : House) (l : Int) : D := .tup [.int (h.W l - 1), .tup ((h.way l).1.map D.int), .str (h.way l).2]
def RLeaving (ds : List D) (d : D) : Prop := ∃ (h : House) (l : Int), ds = [h.toD, .int l] ∧ h.ok ∧ h.many ≤ 12 ∧ 1 ≤ l ∧ l ≤ 1000000000000000 ∧ d = leavD h l
theorem deep12' {h : House} (ok : h.ok) (m : h.many ≤ 12) : h.deep < 13 := by
  have := House.deep_le h ok
  omega
def namD (h : House) (l : Int) : D := .tup [.int (h.W l - 1), .tup ((h.way l).1.map D.int)]
def RNamed (ds : List D) (d : D) : Prop := ∃ (h : House) (nm : Str) (n L : Int), ds = [h.toD, .str nm, .int n] ∧ h.ok ∧ h.many ≤ 12 ∧ h.has nm = true ∧ 1 ≤ n ∧ n ≤ 1000000000000000 ∧ IsN h nm n L ∧ d = namD h L
def RPushed (ds : List D) (d : D) : Prop := ∃ (h x : House) (p : List Int) (m : Int), ds = [h.toD, .tup (p.map D.int), .int m] ∧ h.ok ∧ h.many ≤ 12 ∧ h.at? p = some x ∧ p ≠ [] ∧ 1 ≤ m ∧ m ≤ 1000000000000000 ∧ 1 ≤ (h.place p m).1 ∧ d = .int (h.W ((h.place p m).1 - 1) + (h.place p m).2)
end
end Pd
namespace Pd
open PySem PySem.Spec PyProof.Rows L2
/-- what a law draws from: the list at a, its cells at b -/
def HS (a b : Addr) (H : Hp) : Prop := ∃ (m p : Int) (cs : List Int), H a = some (.lst [.int m, .ref b, .int p]) ∧ H b = some (.lst (cs.map V.int)) ∧ 0 ≤ m ∧ m < 2147483647 ∧ cs.length ≤ 63
theorem HS.ne {a b : Addr} {H : Hp} (h : HS a b H) : a ≠ b := by
  obtain ⟨m, p, cs, h1, h2, _⟩ := h
  refine ne_of h1 h2 fun e => ?_
  injection e with e
  cases cs with
  | nil => cases e
  | cons c cs => cases cs with
    | nil => cases e
    | cons c2 cs => injection e with _ e; injection e with e _; cases e
theorem HS.stays {T : Tb} {a b : Addr} : ∀ H1 H2, Gr T [] H1 H2 → HS a b H1 → HS a b H2 := fun H1 H2 g ⟨m, p, cs, h1, h2, r⟩ => ⟨m, p, cs, g.lst h1 (by simp), g.lst h2 (by simp), r⟩
/-- other lists change -/
theorem HS.off {T : Tb} {a b : Addr} {S : List Addr} {H1 H2 : Hp} (g : Gr T S H1 H2) (ha : a ∉ S) (hb : b ∉ S) (h : HS a b H1) : HS a b H2 := by
  obtain ⟨m, p, cs, h1, h2, r⟩ := h
  exact ⟨m, p, cs, g.lst h1 ha, g.lst h2 hb, r⟩
def spNext (T : Tb) : Sp := fun vs H Q _ => ∃ (a b : Addr) (n : Int), vs = [.ref a, .int n] ∧ HS a b H ∧ Tbs T H ∧ 0 < n ∧ n ≤ 10 ^ 20 ∧ ∀ r H', 0 ≤ r → r < n → Gr T [a, b] H H' → HS a b H' → Q (.int r) H'
/-- the script is read, a new list is made, with a new list of its cells -/
def spMix (T : Tb) (K : PySem.W.Frag) : Sp := fun vs H Q _ => ∃ (c : Addr) (ns : List Int) (z : Int), vs = [.ref c, .int z] ∧ SqL K H c (ns.map V.int) ∧ ns.length ≤ 63 ∧ Tbs T H ∧ 0 ≤ z ∧ z < 2147483647 ∧ ∀ a b H', H a = none → H b = none → Gr T [] H H' → HS a b H' → Q (.ref a) H'
theorem emod_rng (x : Int) {n : Int} (h : 0 < n) : 0 ≤ x.fmod n ∧ x.fmod n < n := ⟨Int.fmod_nonneg_of_pos x h, Int.fmod_lt_of_pos x h⟩
theorem log2_small {n : Nat} (h : n ≠ 0) (h2 : n < 2 ^ 67) : n.log2 < 9000 := Nat.lt_trans ((Nat.log2_lt h).mpr h2) (by decide)
section
variable {P : Program} {w : World} {K : PySem.W.Frag} {mg : Str → Option Value} {base : Heap} {T : Tb} {f : Addr} {fd : FuncData}
theorem at0 {α : Type} {x : α} {r : List α} : atI (x :: r) 0 = some x := atI_nat (j := 0) rfl
theorem at1 {α : Type} {x y : α} {r : List α} : atI (x :: y :: r) 1 = some y := atI_nat (j := 1) rfl
theorem at2 {α : Type} {x y z : α} {r : List α} : atI (x :: y :: z :: r) 2 = some z := atI_nat (j := 2) rfl
theorem at_ints {cs : List Int} {i : Int} (h0 : 0 ≤ i) (h1 : i < cs.length) : ∃ c, atI (cs.map V.int) i = some (.int c) := by
  obtain ⟨n, rfl⟩ := Int.eq_ofNat_of_zero_le h0
  have hn : n < cs.length := by omega
  exact ⟨cs[n], atI_nat (by rw [List.getElem?_map, List.getElem?_eq_getElem hn]; rfl)⟩
theorem ixN_ok {n : Nat} {i : Int} (h0 : 0 ≤ i) (h1 : i < n) : ixN n i = some i.toNat := by
  unfold ixN
  rw [if_pos h0, if_pos h1]
theorem ok_next (B : Bl mg) (A : At K mg "_law_next" s__law_next ["_law_h", "_law_many"] f fd) : Ok P w K mg base 1 "_law_next" ["_law_h", "_law_many"] (spNext T) := by
  refine A.ok (A.F.ok sc__law_next (fun vs H Q E ⟨_, _, _, e, _⟩ => by rw [e]; rfl) fun cdv A outer s H vs Q E hr h => ⟨_, (pss_cons (ps_set (i := 2) sc__law_next.nd rfl (Or.inl rfl) (pe_ix ix_list (pe_op op_cat (pe_ix ix_list (pv 0) pe_int (fun _ _ => rfl)) (pe_lst (pa_cons pe_int pa_nil))) (pe_op op_modN (pe_ix ix_list (pv 0) pe_int (fun _ _ => rfl)) (pe_callB (cr_max rfl) (by rfl) B.max (by decide +kernel) (pa_cons pe_int (pa_cons (pe_callB cr_len (by rfl) B.len (by decide +kernel) (pa_cons (pe_ix ix_list (pv 0) pe_int (fun _ _ => rfl)) pa_nil)) pa_nil)))) (fun _ _ => rfl)))
    (pss_cons (ps_if (pt_cmpR op_ge (pv 2) (pe_op op_pow pe_int pe_int) (nomark _)) (pss_cons (ps_asg (pe_op op_fdivW (pv 2) (pv 1)) (pg_sub (pe_ix ix_list (pv 0) pe_int (fun _ _ => rfl)) (pe_op op_modN (pe_ix ix_list (pv 0) pe_int (fun _ _ => rfl)) (pe_callB cr_len (by rfl) B.len (by decide +kernel) (pa_cons (pe_ix ix_list (pv 0) pe_int (fun _ _ => rfl)) pa_nil))) set_list))
    (pss_one (ps_ret (pe_op op_modN (pv 2) (pv 1))))) pss_nil)
    (pss_cons (ps_asg (pe_op op_modN (pe_op op_add (pe_op op_add (pe_op op_mul (pe_ix ix_list (pv 0) pe_int (fun _ _ => rfl)) pe_int) (pe_op op_mul (pv 2) pe_int)) pe_int) pe_int) (pg_sub (pv 0) pe_int set_list))
    (pss_cons (ps_asg (pe_op op_add (pe_ix ix_list (pv 0) pe_int (fun _ _ => rfl)) pe_int) (pg_sub (pv 0) pe_int set_list))
    (pss_one (ps_ret (pe_op op_modN (pe_op op_fdivN (pe_ix ix_list (pv 0) pe_int (fun _ _ => rfl)) pe_int) (pv 1)))))))), ?_⟩)
  obtain ⟨a, b, n, rfl, hS, hT, hn0, hn1, q⟩ := h
  have nab := hS.ne
  obtain ⟨m, p, cs, h1, h2, m0, m1, hl⟩ := id hS
  dsimp only [Cx.nox, Cx.wish, cxOf]
  suffices hR : Run K _ _ [some (.v (.ref a)), some (.d (.int n)), none] H from hR _ ⟨_, _, rfl, rfl, _, _, rfl, rfl, _, _, rfl, trivial, rfl⟩
  -- the cell
  have hlen : (cs.map V.int).length = cs.length := List.length_map _
  have eb : EvV T K (tOp (rIxL K) (tVar 0) (tC (.int 1))) [some (.v (.ref a)), some (.d (.int n)), none] H (.ref b) := ev_ixV (ev_raw rfl) ev_int h1 at1
  have hmx : (0 : Int) < max 1 ((cs.map V.int).length : Int) := by omega
  have hi := emod_rng p hmx
  obtain ⟨c, hc⟩ : ∃ c, atI (cs.map V.int ++ [V.int 0]) (p.fmod (max 1 ((cs.map V.int).length : Int))) = some (.int c) := by
    have := at_ints (cs := cs ++ [0]) hi.1 (by rw [List.length_append, List.length_singleton]; have h9 := hi.2; rw [hlen] at h9 ⊢; omega)
    simpa using this
  refine run_asg hT (ev_ofV (ev_ixN (en_cat eb (en_one (ev_toV ev_int)) h2 (by simp; omega)) (ev_I (ev_ixI (ev_raw rfl) ev_int h1 at2) (ev_max2 ev_int (ev_lenL eb h2)) (by omega)) hc)) fun H1 g1 => ?_
  have h1' := g1.lst h1 (by simp)
  have h2' := g1.lst h2 (by simp)
  refine run_when g1.tbs (et_test (ev_B0 (ev_var rfl) (ev_I ev_int ev_int ⟨by decide, by decide, by decide⟩))) (fun hb H2 g2 => ?_) fun hb H2 g2 => ?_
  · -- a great cell
    have hc18 : (10 ^ 18 : Int) ≤ c := by have := of_decide_eq_true hb; simpa using this
    have hne : cs ≠ [] := fun z => by
      subst z
      have e0 : atI ([V.int 0] : List V) (p.fmod 1) = some (.int c) := hc
      have e1 : p.fmod 1 = 0 := by have := emod_rng p (show (0 : Int) < 1 by decide); omega
      rw [e1] at e0
      have : c = 0 := by have := at0.symm.trans e0; injection this with this; injection this with this; exact this.symm
      omega
    have hpos : 0 < cs.length := List.length_pos_iff.mpr hne
    have h1'' := g2.lst h1' (by simp)
    have h2'' := g2.lst h2' (by simp)
    have eb2 : EvV T K (tOp (rIxL K) (tVar 0) (tC (.int 1))) [some (.v (.ref a)), some (.d (.int n)), some (.d (.int c))] H2 (.ref b) := ev_ixV (ev_raw rfl) ev_int h1'' at1
    have hr2 := emod_rng p (show (0 : Int) < ((cs.map V.int).length : Int) by omega)
    refine run_setL g2.tbs (ev_toV (ev_I (ev_var rfl) (ev_var rfl) ⟨hn0, ?_⟩)) eb2 (ev_I (ev_ixI (ev_raw rfl) ev_int h1'' at2) (ev_lenL eb2 h2'') (by omega)) h2'' (ixN_ok hr2.1 hr2.2) fun H3 g3 h3 => ?_
    · exact log2_small (by omega) (by omega)
    have g13 : Gr T [] H H3 := (g1.trans g2).trans g3
    have gp : Gr T [a, b] H (upd H3 b (.lst ((cs.map V.int).set (p.fmod ((cs.map V.int).length : Int)).toNat (.int (c / n))))) := g13.any.put h3 (.inl (by simp))
    refine run_ret gp.tbs (ev_I (ev_var rfl) (ev_var rfl) (by omega)) fun v H4 g4 r => ?_
    cases (show v = _ from r)
    have hr3 := emod_rng c hn0
    have gp4 : Gr T [a, b] H H4 := gp.trans g4.any
    refine q _ H4 hr3.1 hr3.2 gp4 ⟨m, p, cs.set (p.fmod ((cs.map V.int).length : Int)).toNat (c / n), ?_, ?_, m0, m1, by simpa using hl⟩
    · exact g4.lst (by rw [upd_ne nab]; exact g13.lst h1 (by simp)) (by simp)
    · refine g4.lst ?_ (by simp)
      rw [upd_same, List.map_set]
  · -- a small one
    have h1'' := g2.lst h1' (by simp)
    have h2'' := g2.lst h2' (by simp)
    have hm := emod_rng (m * 48271 + c * 69621 + 11) (show (0 : Int) < 2147483647 by decide)
    refine run_setL g2.tbs (ev_toV (ev_I (ev_I0 (ev_I0 (ev_I (ev_ixI (ev_raw rfl) ev_int h1'' at0) ev_int (.inr ⟨by decide, by decide⟩)) (ev_I (ev_var rfl) ev_int (.inr ⟨by decide, by decide⟩))) ev_int) ev_int (by decide))) (ev_raw rfl) ev_int h1'' rfl fun H3 g3 h3 => ?_
    have g13 : Gr T [] H H3 := (g1.trans g2).trans g3
    have gp : Gr T [a, b] H (upd H3 a (.lst [.int ((m * 48271 + c * 69621 + 11).fmod 2147483647), .ref b, .int p])) := g13.any.put h3 (.inl (by simp))
    have h5 : (upd H3 a (.lst [.int ((m * 48271 + c * 69621 + 11).fmod 2147483647), .ref b, .int p])) a = some (.lst [.int ((m * 48271 + c * 69621 + 11).fmod 2147483647), .ref b, .int p]) := upd_same
    refine run_setL gp.tbs (ev_toV (ev_I0 (ev_ixI (ev_raw rfl) ev_int h5 at2) ev_int)) (ev_raw rfl) ev_int h5 rfl fun H4 g4 h6 => ?_
    have gp2 := (gp.trans g4.any).put (o := .lst [.int ((m * 48271 + c * 69621 + 11).fmod 2147483647), .ref b, .int (p + 1)]) h6 (.inl (by simp))
    have h7 : (upd H4 a (.lst [.int ((m * 48271 + c * 69621 + 11).fmod 2147483647), .ref b, .int (p + 1)])) a = some (.lst [.int ((m * 48271 + c * 69621 + 11).fmod 2147483647), .ref b, .int (p + 1)]) := upd_same
    refine run_ret gp2.tbs (ev_I (ev_I (ev_ixI (ev_raw rfl) ev_int h7 at0) ev_int ⟨by decide, by decide⟩) (ev_var rfl) (by omega)) fun v H5 g5 r => ?_
    cases (show v = _ from r)
    have hr3 := emod_rng (((m * 48271 + c * 69621 + 11).fmod 2147483647).fdiv 7) hn0
    refine q _ H5 hr3.1 hr3.2 (gp2.trans g5.any) ⟨_, p + 1, cs, g5.lst h7 (by simp), g5.lst ?_ (by simp), hm.1, hm.2, hl⟩
    rw [upd_ne nab.symm]
    refine g4.lst ?_ (by simp)
    rw [upd_ne nab.symm]
    exact g13.lst h2 (by simp)
def mixs (z : Int) (ns : List Int) : Int := ns.foldl (fun m c => (m * 48271 + c.fmod 2147483629 + 1).fmod 2147483647) z
theorem mixs_rng : ∀ (ns : List Int) (z : Int), 0 ≤ z → z < 2147483647 → 0 ≤ mixs z ns ∧ mixs z ns < 2147483647
  | [], z, h0, h1 => ⟨h0, h1⟩
  | c :: ns, z, _, _ => by
    have h := emod_rng (z * 48271 + c.fmod 2147483629 + 1) (show (0 : Int) < 2147483647 by decide)
    exact mixs_rng ns _ h.1 h.2
theorem ok_mix (B : Bl mg) (A : At K mg "_law_mix" s__law_mix ["_law_script", "_law_seed"] f fd) : Ok P w K mg base 1 "_law_mix" ["_law_script", "_law_seed"] (spMix T K) := by
  refine A.ok (A.F.ok sc__law_mix (fun vs H Q E ⟨_, _, _, e, _⟩ => by rw [e]; rfl) fun cdv A outer s H vs Q E hr h => ⟨_, (pss_cons (ps_set (i := 2) sc__law_mix.nd rfl (Or.inl rfl) (pv 1))
    (pss_cons (ps_for PassesOwn.never rfl (pi_list (pv 0)) (pg_name (i := 3) sc__law_mix.nd rfl (Or.inl rfl)) (pss_one (ps_set (i := 2) sc__law_mix.nd rfl (Or.inl rfl) (pe_op op_modN (pe_op op_add (pe_op op_add (pe_op op_mul (pv 2) pe_int) (pe_op op_modN (pv 3) pe_int)) pe_int) pe_int))))
    (pss_one (ps_ret (pe_lst (pa_cons (pv 2) (pa_cons (pe_callTy cr_list (by rfl) B.list (by decide +kernel) (pa_cons (pv 0) pa_nil)) (pa_cons pe_int pa_nil)))))))), ?_⟩)
  obtain ⟨c, ns, z, rfl, hs, hl, hT, z0, z1, q⟩ := h
  dsimp only [Cx.nox, Cx.wish, cxOf]
  suffices hR : Run K _ _ [some (.v (.ref c)), some (.d (.int z)), none, none] H from hR _ ⟨_, _, rfl, rfl, _, _, rfl, rfl, _, _, rfl, trivial, _, _, rfl, trivial, rfl⟩
  refine run_asg hT (ev_var rfl) fun H1 g1 => ?_
  refine run_for g1.tbs (ei_ints (ev_raw rfl) (g1.sqL hs)) (fun i => [some (.v (.ref c)), some (.d (.int z)), some (.d (.int (mixs z (ns.take i)))), none]) (fun _ _ => True) (Less.refl _) (fun _ _ => trivial) (fun _ _ _ _ _ => trivial) (fun i d H2 N hd g2 _ hN => ?_) (fun H2 g2 _ => ?_)
  · rw [List.getElem?_map] at hd
    cases e : ns[i]? with
    | none => rw [e] at hd; cases hd
    | some k =>
      rw [e] at hd; cases hd
      refine ⟨_, _, eg_name, run_last (run_asg g2.tbs (ev_I (ev_I0 (ev_I0 (ev_I (ev_var rfl) ev_int (.inr ⟨by decide, by decide⟩)) (ev_I (ev_var rfl) ev_int (by decide))) ev_int) ev_int (by decide)) fun H3 g3 => run_next fun σ s => hN σ H3 g3 trivial ?_)⟩
      have e2 : mixs z (ns.take (i + 1)) = (mixs z (ns.take i) * 48271 + k.fmod 2147483629 + 1).fmod 2147483647 := by
        unfold mixs
        rw [List.take_add_one, e, Option.toList_some, List.foldl_append]
        rfl
      rw [e2]
      exact Slots.less (.same _ (.same _ (.same _ (.drop _ .nil)))) s
  · have hr := mixs_rng ns z z0 z1
    rw [List.length_map, List.take_length]
    refine fun σ s => ?_
    obtain ⟨v0, e0, r0⟩ := s.dat (i := 2) rfl
    cases (show v0 = _ from r0)
    refine ⟨_, e0, _, s.raw (i := 0) rfl, c, ns.map V.int, rfl, .inl (g2.sqL (g1.sqL hs)), fun b hb => ⟨by show 3 ≤ sizeLine; decide, fun a ha => ?_⟩⟩
    have gb : Gr T [] H2 (upd H2 b (.lst (ns.map V.int))) := Gr.new g2.tbs hb
    have ga := gb.trans (Gr.new (S := []) (o := .lst [.int (mixs z ns), .ref b, .int 0]) gb.tbs ha)
    have nab : b ≠ a := fun e => by subst e; rw [upd_same] at ha; cases ha
    have g12 := g1.trans g2
    exact q a b _ (g12.dom a (gb.dom a ha)) (g12.dom b hb) (g12.trans ga) ⟨mixs z ns, 0, ns, upd_same, by rw [upd_ne nab, upd_same], hr.1, hr.2, hl⟩
end
end Pd
namespace Pd
open PySem PySem.Spec PyProof.Rows L2
section
variable {P : Program} {w : World} {K : PySem.W.Frag} {mg : Str → Option Value} {base : Heap} {T : Tb} {f : Addr} {fd : FuncData}
variable {S : List Addr} {J : Hp → Prop} {δ : List (Option SD)} {H : Hp} {ta tb : TE} {p : D → Prop} {a b : Addr}
/-- a draw below n -/
theorem ex_next {E : XK} {pn : Int → Prop} (ha : a ∈ S) (hb : b ∈ S) (hJ : Stays T J) (hJ1 : ∀ H, J H → HS a b H) (hJ2 : ∀ H1 H2, Gr T [a, b] H1 H2 → J H1 → HS a b H2 → J H2)
    (h1 : ∀ H1, Gr T S H H1 → EvV T K ta δ H1 (.ref a)) (h2 : EvX T K S J tb δ H p) (hp : ∀ d, p d → ∃ n, d = .int n ∧ 0 < n ∧ n ≤ 10 ^ 20 ∧ pn n) :
    EvX T K S J (tCall (spNext T) [] E (tCons ta (tCons tb tNil))) δ H (fun d => ∃ r n, d = .int r ∧ 0 ≤ r ∧ r < n ∧ pn n) := fun σ H1 g j s Q q =>
  h1 H1 g σ H1 g.self s _ fun H2 g2 => h2 σ H2 (g.trans g2.any) (hJ H1 H2 g2 j) (s.up g2) _ fun d v H3 pd g3 j3 r => by
    obtain ⟨n, rfl, n0, n1, pnn⟩ := hp d pd
    cases (show v = .int n from r)
    exact ⟨a, b, n, rfl, hJ1 H3 j3, g3.tbs, n0, n1, fun r H4 r0 r1 g4 hs => q (.int r) _ H4 ⟨r, n, rfl, r0, r1, pnn⟩ ((g2.any.trans g3).trans (g4.mono fun x hx => by rcases (by simpa using hx : x = a ∨ x = b) with rfl | rfl <;> assumption)) (hJ2 H3 H4 g4 j3 hs) rfl⟩
/-- below a written number -/
theorem ex_nextC {E : XK} {n : Int} (ha : a ∈ S) (hb : b ∈ S) (hJ : Stays T J) (hJ1 : ∀ H, J H → HS a b H) (hJ2 : ∀ H1 H2, Gr T [a, b] H1 H2 → J H1 → HS a b H2 → J H2)
    (h1 : ∀ H1, Gr T S H H1 → EvV T K ta δ H1 (.ref a)) (h2 : ∀ H1, Gr T S H H1 → EvD T K tb δ H1 (.int n)) (n0 : 0 < n) (n1 : n ≤ 10 ^ 20) :
    EvX T K S J (tCall (spNext T) [] E (tCons ta (tCons tb tNil))) δ H (fun d => ∃ r, d = .int r ∧ 0 ≤ r ∧ r < n) :=
  (ex_next (pn := fun k => k = n) ha hb hJ hJ1 hJ2 h1 (ex_pure hJ h2) (fun d e => ⟨n, e, n0, n1, rfl⟩)).imp fun d ⟨r, k, e, r0, r1, ek⟩ => ⟨r, e, r0, by rw [← ek]; exact r1⟩
/-- a door -/
def spDoor (T : Tb) (K : PySem.W.Frag) : Sp := fun vs H Q _ => ∃ (a b : Addr) (few : Int), vs = [.ref a, .int few] ∧ HS a b H ∧ Tbs T H ∧ 1 ≤ few ∧ few ≤ 99 ∧
  ∀ need stands v H', 1 ≤ need → need ≤ 99 → 0 ≤ stands → stands ≤ need → Gr T [a, b] H H' → HS a b H' → Rep K H' (.tup [.int need, .int stands]) v → Q v H'
theorem ok_door (B : Bl mg) (A : At K mg "_law_door" s__law_door ["_law_h", "_law_few"] f fd) (G__law_next : Ok P w K mg base 1 "_law_next" ["_law_h", "_law_many"] (spNext T)) : Ok P w K mg base 2 "_law_door" ["_law_h", "_law_few"] (spDoor T K) := by
  refine A.ok (A.F.ok sc__law_door (fun vs H Q E ⟨_, _, _, e, _⟩ => by rw [e]; rfl) fun cdv A outer s H vs Q E hr h => ⟨_, (pss_cons (ps_set (i := 2) sc__law_door.nd rfl (Or.inl rfl) (pe_op op_add pe_int (pe_own G__law_next hr (by decide) (by rfl) (pa_cons (pv 0) (pa_cons (pe_ix ix_list (pe_lst (pa_cons (pv 1) (pa_cons pe_int pa_nil))) (pe_op op_fdivN (pe_own G__law_next hr (by decide) (by rfl) (pa_cons (pv 0) (pa_cons pe_int pa_nil))) pe_int) (fun _ _ => rfl)) pa_nil)))))
    (pss_one (ps_ret (pe_tup (pa_cons (pv 2) (pa_cons (pe_ix ix_list (pe_lst (pa_cons pe_int (pa_cons (pv 2) (pa_cons (pe_own G__law_next hr (by decide) (by rfl) (pa_cons (pv 0) (pa_cons (pe_op op_add (pv 2) pe_int) pa_nil))) pa_nil)))) (pe_own G__law_next hr (by decide) (by rfl) (pa_cons (pv 0) (pa_cons pe_int pa_nil))) (fun _ _ => rfl)) pa_nil)))))), ?_⟩)
  obtain ⟨a, b, few, rfl, hS, hT, f0, f1, q⟩ := h
  dsimp only [Cx.nox, Cx.wish, cxOf]
  suffices hR : Run K _ _ [some (.v (.ref a)), some (.d (.int few)), none] H from hR _ ⟨_, _, rfl, rfl, _, _, rfl, rfl, _, _, rfl, trivial, rfl⟩
  have st : Stays T (HS a b) := HS.stays
  have j2 : ∀ H1 H2, Gr T [a, b] H1 H2 → HS a b H1 → HS a b H2 → HS a b H2 := fun _ _ _ _ h => h
  have hno : ∀ H1 l, HS a b H1 → l ∈ [a, b] → H1 l ≠ none := fun H1 l ⟨_, _, _, h1, h2, _⟩ hl z => by
    rcases (by simpa using hl : l = a ∨ l = b) with rfl | rfl
    · rw [h1] at z; cases z
    · rw [h2] at z; cases z
  refine runx_asg hT hS (p := fun d => ∃ need, d = .int need ∧ 1 ≤ need ∧ need ≤ 99) (ex_op st (ex_pure st fun H1 g => ev_int)
    (ex_next (pn := fun n => n ≤ 99) (by simp) (by simp) st (fun _ h => h) j2 (fun H1 g => ev_raw rfl)
      (ex_ixL (p := fun d => ∃ n, d = .int n ∧ 0 < n ∧ n ≤ 10 ^ 20 ∧ n ≤ 99) (pa := fun ds => ds = [.int few, .int 99]) (fun σ H1 g j s Q q => ex_lst st (xa_cons (ex_pure st fun H1 g => ev_var rfl) (xa_cons (ex_pure st fun H1 g => ev_int) xa_nil)) (fun ds ⟨d, r, e, _, d2, r2, e2, _, e3⟩ => by rw [e, e2, e3]; simp) σ H1 g j s Q fun ds l xs H2 ⟨d, r, e, e1, d2, r2, e2, e4, e3⟩ => q ds l xs H2 (by rw [e, e1, e2, e4, e3]))
        (ex_op (p := fun d => ∃ r, d = .int r ∧ (r = 0 ∨ r = 1)) st (ex_nextC (by simp) (by simp) st (fun _ h => h) j2 (fun H1 g => ev_raw rfl) (fun H1 g => ev_int) (by decide) (by decide)) (ex_pure st fun H1 g => ev_int) fun x y ⟨r, e, r0, r1⟩ e2 => by
          subst e; subst e2
          refine ⟨_, ⟨r.fdiv 3, rfl, ?_⟩, os_I ⟨by decide, by decide⟩⟩
          have : r = 0 ∨ r = 1 ∨ r = 2 ∨ r = 3 := by omega
          rcases this with rfl | rfl | rfl | rfl <;> decide)
        (fun ds y e ⟨r, e2, e3⟩ => by
          subst e; subst e2
          rcases e3 with rfl | rfl
          · exact ⟨0, .int few, rfl, at0, few, rfl, by omega, by omega, f1⟩
          · exact ⟨1, .int 99, rfl, at1, 99, rfl, by decide, by decide, by decide⟩) hno) (fun d ⟨n, e, n0, n1, n2⟩ => ⟨n, e, n0, n1, n2⟩))
    (fun x y e ⟨r, n, e2, r0, r1, r2⟩ => by subst e; subst e2; exact ⟨_, ⟨1 + r, rfl, by omega, by omega⟩, os_I0⟩)) fun d H1 hd g1 j1 => ?_
  obtain ⟨need, rfl, n0, n1⟩ := hd
  refine runx_ret g1.tbs j1 (p := fun d => ∃ stands, d = .tup [.int need, .int stands] ∧ 0 ≤ stands ∧ stands ≤ need) (ex_tup st (xa_cons (ex_pure st fun H1 g => ev_var rfl) (xa_cons
    (ex_ixL (p := fun d => ∃ stands, d = .int stands ∧ 0 ≤ stands ∧ stands ≤ need) (pa := fun ds => ∃ r, ds = [.int 0, .int need, .int r] ∧ 0 ≤ r ∧ r ≤ need)
      (fun σ H1 g j s Q q => ex_lst st (xa_cons (ex_pure st fun H1 g => ev_int) (xa_cons (ex_pure st fun H1 g => ev_var rfl) (xa_cons (ex_nextC (n := need + 1) (by simp) (by simp) st (fun _ h => h) j2 (fun H1 g => ev_raw rfl) (fun H1 g => ev_I0 (ev_var rfl) ev_int) (by omega) (by omega)) xa_nil))) (fun ds ⟨d, r, e, _, d2, r2, e2, _, d3, r3, e3, _, e4⟩ => by rw [e, e2, e3, e4]; simp) σ H1 g j s Q
        fun ds l xs H2 ⟨d, r, e, e1, d2, r2, e2, e4, d3, r3, e5, ⟨k, ek, k0, k1⟩, e6⟩ => q ds l xs H2 ⟨k, by rw [e, e1, e2, e4, e5, ek, e6], k0, by omega⟩)
      (ex_nextC (by simp) (by simp) st (fun _ h => h) j2 (fun H1 g => ev_raw rfl) (fun H1 g => ev_int) (by decide) (by decide))
      (fun ds y ⟨r, e, r0, r1⟩ ⟨i, e2, i0, i1⟩ => by
        subst e; subst e2
        have : i = 0 ∨ i = 1 ∨ i = 2 := by omega
        rcases this with rfl | rfl | rfl
        · exact ⟨0, _, rfl, at0, 0, rfl, by omega, by omega⟩
        · exact ⟨1, _, rfl, at1, need, rfl, by omega, by omega⟩
        · exact ⟨2, _, rfl, at2, r, rfl, r0, r1⟩) hno) xa_nil)) fun ds ⟨d, r, e, e1, d2, r2, e2, ⟨k, ek, k0, k1⟩, e3⟩ => by
      rw [e, e1, e2, ek, e3]; exact ⟨by simp, k, rfl, k0, k1⟩) fun d v H2 ⟨k, e, k0, k1⟩ g2 j3 r => ?_
  subst e
  exact q need k v H2 n0 n1 k0 k1 (g1.trans g2) j3 r
end
end Pd
namespace Pd
open PySem PySem.Spec PyProof.Rows L2
/-- a room of at most s doors, deep at most lv; behind it s' are left -/
def spRoom (T : Tb) (K : PySem.W.Frag) (lv : Nat) : Sp := fun vs H Q _ => ∃ (a b e : Addr) (s deep few : Int), vs = [.ref a, .ref e, .int deep, .int few] ∧ HS a b H ∧ H e = some (.lst [.int s]) ∧ e ≠ a ∧ e ≠ b ∧ 0 ≤ s ∧ s ≤ 12 ∧ 0 ≤ deep ∧ deep < lv ∧ 1 ≤ few ∧ few ≤ 99 ∧ Tbs T H ∧
  ∀ (h : House) (s' : Int) v H', h.ok → 0 ≤ s' → (h.many : Int) + s' = s → Gr T [a, b, e] H H' → HS a b H' → H' e = some (.lst [.int s']) → Rep K H' h.toD v → Q v H'
theorem okName_a : okName "a" := by decide +kernel
theorem okName_b : okName "b" := by decide +kernel
theorem okName_ab : okName "ab" := by decide +kernel
theorem okName_z : okName "zzzzzz" := by decide +kernel
theorem Doors.ok1 {n s : Int} {h : House} (h1 : 1 ≤ n) (h2 : n ≤ 99) (h3 : 0 ≤ s) (h4 : s ≤ n) (h5 : h.ok) : (Doors.cons n s h .nil).ok := ⟨h1, h2, h3, h4, h5, trivial⟩
section
variable {P : Program} {w : World} {K : PySem.W.Frag} {mg : Str → Option Value} {base : Heap} {T : Tb} {f : Addr} {fd : FuncData}
theorem ok_room (B : Bl mg) (A : At K mg "_law_room" s__law_room ["_law_h", "_law_spare", "_law_deep", "_law_few"] f fd) (G__law_next : Ok P w K mg base 1 "_law_next" ["_law_h", "_law_many"] (spNext T)) (G__law_door : Ok P w K mg base 2 "_law_door" ["_law_h", "_law_few"] (spDoor T K)) :
    ∀ lv : Nat, Ok P w K mg base (2 + lv) "_law_room" ["_law_h", "_law_spare", "_law_deep", "_law_few"] (spRoom T K lv) := by
  intro lv
  induction lv with
  | zero => exact A.none fun vs H Q E ⟨_, _, _, _, deep, _, _, _, _, _, _, _, _, d0, d1, _⟩ => by omega
  | succ lv G__law_room =>
  have hk1 : 1 ≤ 2 + lv := by omega
  have hk2 : 2 ≤ 2 + lv := by omega
  refine A.ok (A.F.ok (k := 2 + lv) sc__law_room (fun vs H Q E ⟨_, _, _, _, _, _, e, _⟩ => by rw [e]; rfl) fun cdv A outer s H vs Q E hr h => ⟨_, (pss_cons (ps_if (PW.pt (pw_or (pt_cmpR op_eq (pv 2) pe_int (nomark _)) (pw_or1 (pt_cmpR op_eq (pe_ix ix_list (pv 1) pe_int (fun _ _ => rfl)) pe_int (nomark _))))) (pss_one (ps_ret (pe_ix ix_list (pe_lst (pa_cons pe_str (pa_cons pe_str (pa_cons pe_str (pa_cons pe_str pa_nil))))) (pe_own G__law_next hr hk1 (by rfl) (pa_cons (pv 0) (pa_cons pe_int pa_nil))) (fun _ _ => rfl)))) pss_nil)
    (pss_cons (ps_set (i := 4) sc__law_room.nd rfl (Or.inl rfl) (pe_callB (cr_min rfl) (by rfl) B.min (by decide +kernel) (pa_cons (pe_ix ix_list (pv 1) pe_int (fun _ _ => rfl)) (pa_cons (pe_op op_add pe_int (pe_own G__law_next hr hk1 (by rfl) (pa_cons (pv 0) (pa_cons pe_int pa_nil)))) pa_nil))))
    (pss_cons (ps_asg (pe_op op_sub (pe_ix ix_list (pv 1) pe_int (fun _ _ => rfl)) (pv 4)) (pg_sub (pv 1) pe_int set_list))
    (pss_cons (ps_set (i := 5) sc__law_room.nd rfl (Or.inl rfl) (pe_lst pa_nil))
    (pss_cons (ps_for PassesOwn.never rfl (pi_range1 (by rfl) B.range (pa_cons (pv 4) pa_nil)) (pg_name (i := 6) sc__law_room.nd rfl (Or.inl rfl)) (pss_cons (ps_asg (pe_own G__law_door hr hk2 (by rfl) (pa_cons (pv 0) (pa_cons (pv 3) pa_nil))) (pg_tup rfl (pgs_cons (pg_name (i := 7) sc__law_room.nd rfl (Or.inl rfl)) (pgs_cons (pg_name (i := 8) sc__law_room.nd rfl (Or.inl rfl)) pgs_nil))))
    (pss_cons (ps_set (i := 9) sc__law_room.nd rfl (Or.inl rfl) (pe_ifExp (pt_cmpR op_eq (pe_own G__law_next hr hk1 (by rfl) (pa_cons (pv 0) (pa_cons pe_int pa_nil))) pe_int (nomark _)) (pe_op op_sub (pv 2) pe_int) pe_int))
    (pss_one (ps_expr (pe_bm PySem.F.plainAttrs_list PySem.F.slot_list_append PySem.F.type_list_append mt_append (pv 5) (pa_cons (pe_tup (pa_cons (pv 7) (pa_cons (pv 8) (pa_cons (pe_own G__law_room hr (Nat.le_refl _) (by rfl) (pa_cons (pv 0) (pa_cons (pv 1) (pa_cons (pv 9) (pa_cons (pv 3) pa_nil))))) pa_nil)))) pa_nil)))))))
    (pss_one (ps_ret (pe_tup (pa_cons (pe_own G__law_next hr hk1 (by rfl) (pa_cons (pv 0) (pa_cons (pv 4) pa_nil))) (pa_cons (pe_callTy cr_tup (by rfl) B.tuple (by decide +kernel) (pa_cons (pv 5) pa_nil)) pa_nil)))))))))), ?_⟩)
  obtain ⟨a, b, e, s0, deep, few, rfl, hS, he, nea, neb, s00, s012, d0, d1, f0, f1, hT, q⟩ := h
  dsimp only [Cx.nox, Cx.wish, cxOf]
  suffices hR : Run K _ _ [some (.v (.ref a)), some (.v (.ref e)), some (.d (.int deep)), some (.d (.int few)), none, none, none, none, none, none] H from
    hR _ ⟨_, _, rfl, rfl, _, _, rfl, rfl, _, _, rfl, rfl, _, _, rfl, rfl, _, _, rfl, trivial, _, _, rfl, trivial, _, _, rfl, trivial, _, _, rfl, trivial, _, _, rfl, trivial, _, _, rfl, trivial, rfl⟩
  -- what stands, while spare holds s
  let JS : Int → Hp → Prop := fun s H => HS a b H ∧ H e = some (.lst [.int s])
  have st : ∀ s, Stays T (JS s) := fun s H1 H2 g ⟨h1, h2⟩ => ⟨HS.stays H1 H2 g h1, g.lst h2 (by simp)⟩
  have jh : ∀ s H, JS s H → HS a b H := fun _ _ h => h.1
  have j2 : ∀ s H1 H2, Gr T [a, b] H1 H2 → JS s H1 → HS a b H2 → JS s H2 := fun s H1 H2 g h h2 => ⟨h2, g.lst h.2 (by simp [nea, neb])⟩
  have hno : ∀ s H1 l, JS s H1 → l ∈ [a, b] → H1 l ≠ none := fun s H1 l ⟨⟨_, _, _, h1, h2, _⟩, _⟩ hl z => by
    rcases (by simpa using hl : l = a ∨ l = b) with rfl | rfl
    · rw [h1] at z; cases z
    · rw [h2] at z; cases z
  have ab3 : ∀ x ∈ [a, b], x ∈ [a, b, e] := fun x hx => by rcases (by simpa using hx : x = a ∨ x = b) with rfl | rfl <;> simp
  refine run_when hT (et_or (et_test (ev_eqI (ev_var rfl) ev_int)) fun _ => et_test (ev_eqI (ev_ixI (ev_raw rfl) ev_int he at0) ev_int)) (fun hb H1 g1 => ?_) fun hb H1 g1 => ?_
  · -- a way out
    have j1 : JS s0 H1 := st s0 H H1 g1 ⟨hS, he⟩
    refine runx_ret (S := [a, b]) g1.tbs j1 (p := fun d => ∃ n, d = .str n ∧ okName n) (ex_ixL (pa := fun ds => ds = [.str "a", .str "b", .str "ab", .str "zzzzzz"])
      (fun σ H1 g j s Q q => ex_lst (st s0) (xa_cons (ex_pure (st s0) fun H1 g => ev_str) (xa_cons (ex_pure (st s0) fun H1 g => ev_str) (xa_cons (ex_pure (st s0) fun H1 g => ev_str) (xa_cons (ex_pure (st s0) fun H1 g => ev_str) xa_nil)))) (fun ds ⟨d, r, e, _, d2, r2, e2, _, d3, r3, e3, _, d4, r4, e4, _, e5⟩ => by rw [e, e2, e3, e4, e5]; simp) σ H1 g j s Q
        fun ds l xs H2 ⟨d, r, e, e1, d2, r2, e2, e3, d3, r3, e4, e5, d4, r4, e6, e7, e8⟩ => q ds l xs H2 (by rw [e, e1, e2, e3, e4, e5, e6, e7, e8]))
      (ex_nextC (by simp) (by simp) (st s0) (jh s0) (j2 s0) (fun H1 g => ev_raw rfl) (fun H1 g => ev_int) (by decide) (by decide))
      (fun ds y e1 ⟨i, e2, i0, i1⟩ => by
        subst e1; subst e2
        have : i = 0 ∨ i = 1 ∨ i = 2 ∨ i = 3 := by omega
        rcases this with rfl | rfl | rfl | rfl
        · exact ⟨0, _, rfl, at0, _, rfl, okName_a⟩
        · exact ⟨1, _, rfl, at1, _, rfl, okName_b⟩
        · exact ⟨2, _, rfl, at2, _, rfl, okName_ab⟩
        · exact ⟨3, _, rfl, atI_nat (j := 3) rfl, _, rfl, okName_z⟩) (hno s0)) fun d v H2 ⟨n, e1, hn⟩ g2 jj r => ?_
    subst e1
    exact q (.out n) s0 v H2 hn s00 (by show ((0 : Nat) : Int) + s0 = s0; omega) (g1.any.trans (g2.mono ab3)) jj.1 jj.2 r
  · -- doors
    have hb1 : ¬ (deep = 0 ∨ s0 = 0) := by simpa using hb
    have hd : 1 ≤ deep := by omega
    have hs : 1 ≤ s0 := by omega
    have j1 : JS s0 H1 := st s0 H H1 g1 ⟨hS, he⟩
    refine runx_asg (S := [a, b]) g1.tbs j1 (p := fun d => ∃ m, d = .int m ∧ 1 ≤ m ∧ m ≤ 4 ∧ m ≤ s0) (ex_min2 (p1 := fun d => d = .int s0) (p2 := fun d => ∃ r, d = .int r ∧ 1 ≤ r ∧ r ≤ 4) (st s0)
      (fun σ H2 g j s Q q => (ev_ixI (ev_raw rfl) ev_int j.2 at0) σ H2 g.self s Q fun v H3 g3 r => q _ v H3 rfl g3.any (st s0 _ _ g3 j) r)
      (ex_op (st s0) (ex_pure (st s0) fun H1 g => ev_int) (ex_nextC (by simp) (by simp) (st s0) (jh s0) (j2 s0) (fun H1 g => ev_raw rfl) (fun H1 g => ev_int) (by decide) (by decide)) fun x y e1 ⟨r, e2, r0, r1⟩ => by subst e1; subst e2; exact ⟨_, ⟨1 + r, rfl, by omega, by omega⟩, os_I0⟩)
      fun x y e1 ⟨r, e2, r0, r1⟩ => ⟨s0, r, e1, e2, _, rfl, by omega, by omega, by omega⟩) fun d H2 hd2 g2 jb => ?_
    obtain ⟨m, rfl, m1, m4, ms⟩ := hd2
    refine run_setL g2.tbs (ev_toV (ev_I0 (ev_ixI (ev_raw rfl) ev_int jb.2 at0) (ev_var rfl))) (ev_raw rfl) ev_int jb.2 rfl fun H3 g3 he3 => ?_
    have g03 : Gr T [a, b, e] H H3 := (g1.any.trans (g2.mono ab3)).trans g3.any
    have g04 : Gr T [a, b, e] H (upd H3 e (.lst [.int (s0 - m)])) := g03.put he3 (.inl (by simp))
    have j4 : JS (s0 - m) (upd H3 e (.lst [.int (s0 - m)])) := ⟨by
      obtain ⟨x, y, z, z1, z2, z3⟩ := HS.stays H2 H3 g3 jb.1
      exact ⟨x, y, z, by rw [upd_ne nea.symm]; exact z1, by rw [upd_ne neb.symm]; exact z2, z3⟩, upd_same⟩
    refine run_asgL g04.tbs (ev_lst ea_nil (by decide)) fun l xs H5 nl g5 hl5 rl5 => ?_
    cases (show xs = [] from rl5)
    have nl0 : H l = none := g04.dom l nl
    have g05 : Gr T [a, b, e] H H5 := g04.trans g5.any
    have j5 := st _ _ _ g5 j4
    have nla : l ≠ a := fun z => by subst z; obtain ⟨_, _, _, h1, _⟩ := hS; rw [h1] at nl0; cases nl0
    have nlb : l ≠ b := fun z => by subst z; obtain ⟨_, _, _, _, h1, _⟩ := hS; rw [h1] at nl0; cases nl0
    have nle : l ≠ e := fun z => by subst z; rw [he] at nl0; cases nl0
    refine run_for (S := [l, a, b, e]) g05.tbs (ei_range (ea_cons (ev_var rfl) ea_nil) (by omega) (by omega))
      (fun _ => [some (.v (.ref a)), some (.v (.ref e)), some (.d (.int deep)), some (.d (.int few)), some (.d (.int m)), some (.v (.ref l)), none, none, none, none])
      (fun i H => ∃ (ds : Doors) (s : Int) (xs : List V), ds.len = i ∧ ds.ok ∧ (ds.many : Int) - i + s = s0 - m ∧ 0 ≤ s ∧ HS a b H ∧ H e = some (.lst [.int s]) ∧ H l = some (.lst xs) ∧ Reps K H ds.toDs xs)
      (Less.refl _) (fun H6 g6 => ⟨.nil, s0 - m, [], rfl, trivial, by show ((0 : Nat) : Int) - (0 : Nat) + (s0 - m) = s0 - m; omega, by omega, HS.stays _ _ g6 j5.1, g6.lst j5.2 (by simp), g6.lst hl5 (by simp), rfl⟩)
      (fun i Ha Hb g ⟨ds, s, xs, h1, h2, h3, h4, h5, h6, h7, h8⟩ => ⟨ds, s, xs, h1, h2, h3, h4, HS.stays _ _ g h5, g.lst h6 (by simp), g.lst h7 (by simp), h8.up g⟩)
      (fun i d H6 N hd6 g6 hI hN => ?_) (fun H6 g6 hI => ?_)
    · obtain ⟨ds, s, xs, h1, h2, h3, h4, h5, h6, h7, h8⟩ := hI
      have hi4 : i < 4 := by
        have := (List.getElem?_eq_some_iff.mp hd6).1
        rw [List.length_map, List.length_range] at this
        omega
      have hxs : xs.length = i := by rw [h8.len, Doors.toDs_len]; exact h1
      have hs12 : s ≤ 12 := by have := Doors.len_le ds; omega
      let JL : Hp → Prop := fun H => HS a b H ∧ H e = some (.lst [.int s]) ∧ H l = some (.lst xs) ∧ Reps K H ds.toDs xs
      have stL : Stays T JL := fun Ha Hb g ⟨x1, x2, x3, x4⟩ => ⟨HS.stays _ _ g x1, g.lst x2 (by simp), g.lst x3 (by simp), x4.up g⟩
      have jL2 : ∀ Ha Hb, Gr T [a, b] Ha Hb → JL Ha → HS a b Hb → JL Hb := fun Ha Hb g ⟨x1, x2, x3, x4⟩ y => ⟨y, g.lst x2 (by simp [nea, neb]), g.lst x3 (by simp [nla, nlb]), x4.up g⟩
      have j6 : JL H6 := ⟨h5, h6, h7, h8⟩
      refine ⟨_, _, eg_name, ?_⟩
      -- need, stands = ..
      refine runx_asgG (S := [a, b]) (J := JL) (p := fun d => ∃ need stands, d = .tup [.int need, .int stands] ∧ 1 ≤ need ∧ need ≤ 99 ∧ 0 ≤ stands ∧ stands ≤ need) g6.tbs j6
        (fun σ Ha g j s Q q => ⟨_, s.raw (i := 0) rfl, by
          obtain ⟨v3, e3, r3⟩ := s.dat (i := 3) rfl
          cases (show v3 = _ from r3)
          exact ⟨_, e3, a, b, few, rfl, j.1, g.tbs, f0, f1, fun need stands v Hb n1 n2 n3 n4 gb hb r => q _ v Hb ⟨need, stands, rfl, n1, n2, n3, n4⟩ gb (jL2 _ _ gb j hb) r⟩⟩) fun d H7 hd7 g7 j7 => ?_
      obtain ⟨need, stands, rfl, n1, n2, n3, n4⟩ := hd7
      refine ⟨_, _, eg_tup rfl (eg_cons eg_name (eg_cons eg_name eg_nil)), ?_⟩
      -- deeper
      refine runx_asg (S := [a, b]) (J := JL) (p := fun d => ∃ k, d = .int k ∧ 0 ≤ k ∧ k < lv) g7.tbs j7 (ex_if (pb := fun _ => True)
        (ext_test (p := fun d => ∃ b, d = .bl b) (ex_op stL (ex_nextC (by simp) (by simp) stL (fun _ h => h.1) jL2 (fun H1 g => ev_raw rfl) (fun H1 g => ev_int) (by decide) (by decide)) (ex_pure stL fun H1 g => ev_int) fun x y ⟨r, e1, _⟩ e2 => by subst e1; subst e2; exact ⟨_, ⟨_, rfl⟩, os_eqI⟩) fun d ⟨b, e⟩ => ⟨b, e, trivial⟩)
        ((ex_pure stL fun H1 g => ev_I0 (ev_var rfl) ev_int).imp fun d e1 => ⟨deep - 1, e1, by omega, by omega⟩)
        ((ex_pure stL fun H1 g => ev_int).imp fun d e1 => ⟨0, e1, by omega, by omega⟩)) fun d H8 hd8 g8 j8 => ?_
      obtain ⟨k, rfl, k0, k1⟩ := hd8
      -- doors.append
      refine fun σ sl => ?_
      obtain ⟨v7, e7, r7⟩ := sl.dat (i := 7) rfl
      obtain ⟨v8, e8, r8⟩ := sl.dat (i := 8) rfl
      obtain ⟨v9, e9, r9⟩ := sl.dat (i := 9) rfl
      obtain ⟨v3, e3, r3⟩ := sl.dat (i := 3) rfl
      cases (show v7 = _ from r7); cases (show v8 = _ from r8); cases (show v9 = _ from r9); cases (show v3 = _ from r3)
      obtain ⟨x1, x2, x3, x4⟩ := j8
      refine ⟨_, sl.raw (i := 5) rfl, .inl ⟨rfl, xs, .inl (.inl x3)⟩, _, e7, _, e8, _, sl.raw (i := 0) rfl, _, sl.raw (i := 1) rfl, _, e9, _, e3, ?_⟩
      refine ⟨a, b, e, s, k, few, rfl, x1, x2, nea, neb, h4, hs12, k0, k1, f0, f1, g8.tbs, fun h s' v H9 hok s0' hm g9 hs9 he9 rv => ⟨(by show 3 ≤ sizeLine; decide), fun p np => ?_⟩⟩
      have nlS : l ∉ [a, b, e] := by simp [nla, nlb, nle]
      have hl9 : H9 l = some (.lst xs) := g9.lst x3 nlS
      have gp : Gr T [] H9 (upd H9 p (.tup [.int need, .int stands, v])) := Gr.new g9.tbs np
      have hlp := gp.lst hl9 (by simp)
      refine ⟨l, xs, .ref p, rfl, rfl, hlp, Nat.lt_of_lt_of_le (by omega : xs.length < 100) (by decide), ?_⟩
      have up3 : ∀ x ∈ [a, b, e], x ∈ [l, a, b, e] := fun x hx => List.mem_cons_of_mem _ hx
      have gX : Gr T [l, a, b, e] H6 (upd H9 p (.tup [.int need, .int stands, v])) := (((g7.mono fun x hx => up3 x (ab3 x hx)).trans (g8.mono fun x hx => up3 x (ab3 x hx))).trans (g9.mono up3)).trans gp.any
      have gl : Gr T [l, a, b, e] (upd H9 p (.tup [.int need, .int stands, v])) (upd (upd H9 p (.tup [.int need, .int stands, v])) l (.lst (xs ++ [.ref p]))) := (Gr.refl gp.tbs).put hlp (.inl (by simp))
      have rD : Rep K (upd H9 p (.tup [.int need, .int stands, v])) (.tup [.int need, .int stands, h.toD]) (.ref p) := ⟨p, _, rfl, .inl (.inl upd_same), _, _, rfl, rfl, _, _, rfl, rfl, _, _, rfl, rv.up gp, rfl⟩
      refine hN _ _ (gX.trans gl) ⟨ds.app (.cons need stands h .nil), s', xs ++ [.ref p], ?_, Doors.ok_app _ _ h2 (Doors.ok1 n1 n2 n3 n4 hok), ?_, s0', ?_, ?_, upd_same, ?_⟩ ?_
      · rw [Doors.len_app, h1]; rfl
      · rw [Doors.many_app]; simp only [Doors.many]; omega
      · obtain ⟨y1, y2, y3, y4, y5, y6⟩ := HS.stays _ _ gp hs9
        exact ⟨y1, y2, y3, by rw [upd_ne nla.symm]; exact y4, by rw [upd_ne nlb.symm]; exact y5, y6⟩
      · rw [upd_ne nle.symm]; exact gp.lst he9 (by simp)
      · rw [Doors.toDs_app]
        exact ((x4.up g9).up gp |>.app (es := [.tup [.int need, .int stands, h.toD]]) ⟨_, [], rfl, rD, rfl⟩).up gl
      · exact (Slots.less (.same _ (.same _ (.same _ (.same _ (.same _ (.same _ (.drop _ (.drop _ (.drop _ (.drop _ .nil)))))))))) ((sl.up g9).up gp)).up gl
    · obtain ⟨ds, s, xs, h1, h2, h3, h4, h5, h6, h7, h8⟩ := hI
      rw [List.length_map, List.length_range] at h1 h3
      let JL : Hp → Prop := fun H => HS a b H ∧ H e = some (.lst [.int s]) ∧ H l = some (.lst xs) ∧ Reps K H ds.toDs xs
      have stL : Stays T JL := fun Ha Hb g ⟨x1, x2, x3, x4⟩ => ⟨HS.stays _ _ g x1, g.lst x2 (by simp), g.lst x3 (by simp), x4.up g⟩
      have jL2 : ∀ Ha Hb, Gr T [a, b] Ha Hb → JL Ha → HS a b Hb → JL Hb := fun Ha Hb g ⟨x1, x2, x3, x4⟩ y => ⟨y, g.lst x2 (by simp [nea, neb]), g.lst x3 (by simp [nla, nlb]), x4.up g⟩
      have g06 : Gr T [a, b, e] H H6 := g05.drop g6 nl0
      refine runx_ret (S := [a, b]) (J := JL) g6.tbs ⟨h5, h6, h7, h8⟩ (p := fun d => ∃ hand, d = .tup [.int hand, .tup ds.toDs] ∧ 0 ≤ hand ∧ hand < m) (ex_tup (pa := fun es => ∃ hand, es = [.int hand, .tup ds.toDs] ∧ 0 ≤ hand ∧ hand < m) stL (fun σ Ha g j s Q q => xa_cons (ex_nextC (by simp) (by simp) stL (fun _ h => h.1) jL2 (fun H1 g => ev_raw rfl) (fun H1 g => ev_var rfl) (by omega) (by omega))
        (xa_cons (p := fun d => d = .tup ds.toDs) (fun σ Ha g j s Q q => (ev_tupL (ev_raw rfl) j.2.2.1 j.2.2.2) σ Ha g.self s Q fun v Hb g3 r => q _ v Hb rfl g3.any (stL _ _ g3 j) r) xa_nil) σ Ha g j s Q
          fun es vs Hb ⟨d, r, e1, ⟨k, ek, k0, k1⟩, d2, r2, e2, e3, e4⟩ => q es vs Hb ⟨k, by rw [e1, ek, e2, e3, e4], k0, k1⟩) fun es ⟨k, e1, k0, k1⟩ => ⟨by rw [e1]; simp, k, by rw [e1], k0, k1⟩) fun d v H7 ⟨hand, e1, k0, k1⟩ g7 j7 r => ?_
      subst e1
      have hmi : (m.toNat : Int) = m := by omega
      exact q (.room hand ds) s v H7 ⟨k0, by omega, by omega, h2⟩ h4 (by show ((ds.many : Nat) : Int) + s = s0; omega) (g06.trans (g7.mono ab3)) j7.1 j7.2.1 r
end
end Pd
namespace Pd
open PySem PySem.Spec PyProof.Rows L2
/-- a drawn house -/
def spHouse (T : Tb) (K : PySem.W.Frag) : Sp := fun vs H Q _ => ∃ (a b : Addr) (few : Int), vs = [.ref a, .int few] ∧ HS a b H ∧ Tbs T H ∧ 1 ≤ few ∧ few ≤ 99 ∧ ∀ (h : House) v H', h.ok → h.many ≤ 12 → Gr T [a, b] H H' → HS a b H' → Rep K H' h.toD v → Q v H'
theorem HS.there {a b : Addr} {H : Hp} (h : HS a b H) {l : Addr} (n : H l = none) : l ≠ a ∧ l ≠ b := by
  obtain ⟨_, _, _, h1, h2, _⟩ := h
  exact ⟨fun z => (by subst z; rw [h1] at n; cases n), fun z => (by subst z; rw [h2] at n; cases n)⟩
section
variable {P : Program} {w : World} {K : PySem.W.Frag} {mg : Str → Option Value} {base : Heap} {T : Tb} {f : Addr} {fd : FuncData}
theorem ok_house (B : Bl mg) (A : At K mg "_law_house" s__law_house ["_law_h", "_law_few"] f fd) (G__law_next : Ok P w K mg base 1 "_law_next" ["_law_h", "_law_many"] (spNext T)) (G__law_room : Ok P w K mg base 9 "_law_room" ["_law_h", "_law_spare", "_law_deep", "_law_few"] (spRoom T K 7)) :
    Ok P w K mg base 10 "_law_house" ["_law_h", "_law_few"] (spHouse T K) := by
  refine A.ok (A.F.ok sc__law_house (fun vs H Q E ⟨_, _, _, e, _⟩ => by rw [e]; rfl) fun cdv A outer s H vs Q E hr h => ⟨_, (pss_one (ps_ret (pe_own G__law_room hr (by decide) (by rfl) (pa_cons (pv 0) (pa_cons (pe_lst (pa_cons (pe_op op_add pe_int (pe_own G__law_next hr (by decide) (by rfl) (pa_cons (pv 0) (pa_cons pe_int pa_nil)))) pa_nil)) (pa_cons (pe_own G__law_next hr (by decide) (by rfl) (pa_cons (pv 0) (pa_cons pe_int pa_nil))) (pa_cons (pv 1) pa_nil))))))), ?_⟩)
  obtain ⟨a, b, few, rfl, hS, hT, f0, f1, q⟩ := h
  refine ⟨_, rfl, _, rfl, a, b, 12, rfl, hS, hT, by decide, by decide, fun r H1 r0 r1 g1 hs1 => ?_⟩
  refine ⟨1, r, rfl, rfl, (by show 1 ≤ sizeLine; decide), fun e ne => ?_⟩
  have g2 : Gr T [] H1 (upd H1 e (.lst [.int (1 + r)])) := Gr.new g1.tbs ne
  have hs2 := HS.stays _ _ g2 hs1
  obtain ⟨nea, neb⟩ := hs1.there ne
  refine ⟨_, rfl, a, b, 7, rfl, hs2, g2.tbs, by decide, by decide, fun d H3 d0 d1 g3 hs3 => ?_⟩
  have he3 : H3 e = some (.lst [.int (1 + r)]) := g3.lst upd_same (by simp [nea, neb])
  refine ⟨_, rfl, a, b, e, 1 + r, d, few, rfl, hs3, he3, nea, neb, by omega, by omega, d0, d1, f0, f1, g3.tbs, fun h s' v H4 hok s0 hm g4 hs4 he4 rv => ?_⟩
  have g23 : Gr T [a, b] H H3 := (g1.trans g2.any).trans g3
  have e0 : H e = none := g1.dom e ne
  refine q h v H4 hok (by omega) ?_ hs4 rv
  refine g23.drop (l := e) (g4.mono fun x hx => ?_) e0
  rcases (by simpa using hx : x = a ∨ x = b ∨ x = e) with rfl | rfl | rfl <;> simp
end
end Pd
namespace Pd
open PySem PySem.Spec PyProof.Rows L2
section
variable {P : Program} {w : World} {K : PySem.W.Frag} {mg : Str → Option Value} {base : Heap} {T : Tb} {f : Addr} {fd : FuncData}
theorem run_parDL {S : List Addr} {δ : List (Option SD)} {H : Hp} {ta tb : TE} {u : TS} {B : Ends} {d : D} {ds : List D} {i j : Nat} (hT : Tbs T H) (ha : EvD T K ta δ H d) (hb : EvL T K tb δ H ds)
    (k : ∀ p xs H1, H p = none → Gr T [] H H1 → H1 p = some (.lst xs) → Reps K H1 ds xs → Run K u B ((δ.set i (some (.d d))).set j (some (.v (.ref p)))) H1) : Run K (tSeq (tPar i j (tCons ta (tCons tb tNil))) u) B δ H := fun σ s =>
  ha σ H (Gr.refl hT) s _ fun v H1 g1 r => hb σ H1 g1 (s.up g1) _ fun p xs H2 n1 g2 e rs => ⟨v, .ref p, rfl, k p xs H2 (g1.dom p n1) (g1.trans g2) e rs _ (((s.up (g1.trans g2)).set i (show SlotOk K H2 (some (.d d)) (some v) from r.up g2)).set j (show SlotOk K H2 (some (.v (.ref p))) (some (.ref p)) from rfl))⟩
/-- a walker by the law's own step: the lists are written where they stand -/
def spStep (T : Tb) (K : PySem.W.Frag) : Sp := fun vs H Q _ => ∃ t : LH, vs = [t.val] ∧ CAt H t.cells ∧ (fps t.cells).Nodup ∧ t.house.ok ∧ t.house.deep < 100 ∧ Tbs T H ∧
  ∀ (t' : LH) v H', t'.house = t.house.step.2 → t'.val = t.val → fps t'.cells = fps t.cells → CAt H' t'.cells → Gr T (fps t.cells) H H' → Rep K H' (toldD [] t.house.step.1) v → Q v H'
theorem mem_at {H : Hp} {C : Cells} (h : CAt H C) {a : Addr} {xs : List V} (m : (a, xs) ∈ C) : H a = some (.lst xs) := h _ m
end
end Pd
namespace Pd
open PySem PySem.Spec PyProof.Rows L2
/-- a comprehension, turn by turn: P tells of what was made; Dl is the list that is made -/
theorem lc_raw {T : Tb} {K : PySem.W.Frag} {δ : List (Option SD)} {H : Hp} {wi : TI} {g : TG} {te : TE} {es : List D} {vs : List Nat} (hi : EvI T K [] wi δ H es) (hz : es.length ≤ 50000) (P : Addr → Nat → List V → Hp → Prop)
    (h0 : ∀ Dl H1, Gr T [] H H1 → H1 Dl = none → P Dl 0 [] (upd H1 Dl (.lst []))) (hm : ∀ Dl i acc H1 H2, Gr T [] H1 H2 → P Dl i acc H1 → P Dl i acc H2) (hl : ∀ Dl i acc H1, P Dl i acc H1 → acc.length ≤ i)
    (hs : ∀ Dl i e acc H1, es[i]? = some e → H Dl = none → Gr T [] H H1 → P Dl i acc H1 → H1 Dl = some (.lst acc) → ∃ δ' js, EvG T K g e (wipeD δ vs) H1 δ' js ∧ (∀ j ∈ js, j ∈ vs) ∧
      ∀ σ, Slots K H1 δ' σ → ∀ Q : VK, (∀ v H2, Gr T [] H1 H2 → P Dl (i + 1) (acc ++ [v]) (upd H2 Dl (.lst (acc ++ [v]))) → Q v H2) → te σ H1 Q) :
    ∀ σ H1, Gr T [] H H1 → Slots K H1 δ σ → ∀ Q : VK, (∀ Dl xs H2, H1 Dl = none → Gr T [] H1 H2 → H2 Dl = some (.lst xs) → P Dl es.length xs H2 → Q (.ref Dl) H2) → tLc wi g tYes te vs σ H1 Q := fun σ H1 g1 s Q q =>
  hi σ H1 g1 s _ fun J H2 g2 W Dl hD => by
    have hD0 : H Dl = none := g1.dom Dl (g2.dom Dl hD)
    refine lc_it W (fun i H' => Gr T [] H2 H' ∧ ∃ acc, H' Dl = some (.lst acc) ∧ P Dl i acc H') ⟨Gr.new g2.tbs hD, [], upd_same, h0 Dl H2 (g1.trans g2) hD⟩ (fun i H' _ pv => pv.1) (fun i x Ha Hb hlt pv y => ?_) (fun H' pv => ?_)
    · obtain ⟨p1, acc, p2, p3⟩ := pv
      obtain ⟨ga, d, hd, rd⟩ := y
      have p3b := hm Dl i acc Ha Hb ga p3
      have p2b := ga.lst p2 (by simp)
      obtain ⟨δ', js, hg, hj, he⟩ := hs Dl i d acc Hb hd hD0 ((g1.trans g2).trans (p1.trans ga)) p3b p2b
      refine hg x (L2.wipe σ vs) Hb (Gr.refl ga.tbs) rd (((s.up g2).up (p1.trans ga)).wipe vs) _ fun σ2 s2 o2 => ⟨o2.wipe hj, ?_⟩
      show te σ2 Hb _
      refine he σ2 s2 _ fun v H4 g4 p4 => ?_
      have eD := g4.lst p2b (by simp)
      refine ⟨acc, eD, ?_, (((p1.trans ga).trans g4)).put eD (.inr hD), acc ++ [v], upd_same, p4⟩
      have := hl Dl i acc Hb p3b
      exact Nat.lt_of_le_of_lt (by omega : acc.length ≤ 50000) (by decide)
    · obtain ⟨p1, acc, p2, p3⟩ := pv
      exact q Dl acc H' (g2.dom Dl hD) (g2.trans p1) p2 p3
def LD.app : LD → LD → LD
  | .nil, b => b
  | .cons c n s h r, b => .cons c n s h (r.app b)
theorem LD.doors_app : ∀ a b : LD, (a.app b).doors = a.doors.app b.doors
  | .nil, _ => rfl
  | .cons _ _ _ _ r, b => by simp only [LD.app, LD.doors, Doors.app, LD.doors_app r b]
theorem LD.refs_app : ∀ a b : LD, (a.app b).refs = a.refs ++ b.refs
  | .nil, _ => rfl
  | .cons c _ _ _ r, b => congrArg (V.ref c :: ·) (LD.refs_app r b)
theorem LD.cells_app : ∀ a b : LD, (a.app b).cells = a.cells ++ b.cells
  | .nil, _ => rfl
  | .cons _ _ _ _ r, b => by simp only [LD.app, LD.cells, LD.cells_app r b, List.cons_append, List.append_assoc]
/-- the first i doors -/
def Doors.takeD : Doors → Nat → Doors
  | _, 0 => .nil
  | .nil, _ + 1 => .nil
  | .cons n s h r, i + 1 => .cons n s h (r.takeD i)
theorem Doors.takeD_zero (ds : Doors) : ds.takeD 0 = .nil := by cases ds <;> rfl
theorem Doors.takeD_succ : ∀ (ds : Doors) (i : Nat) {n s : Int} {h : House}, ds.get? i = some (n, s, h) → ds.takeD (i + 1) = (ds.takeD i).app (.cons n s h .nil)
  | .nil, _, _, _, _, e => nomatch e
  | .cons _ _ _ r, 0, _, _, _, e => by cases e; cases r <;> rfl
  | .cons n s h r, i + 1, _, _, _, e => congrArg (Doors.cons n s h) (Doors.takeD_succ r i e)
theorem Doors.takeD_all : ∀ ds : Doors, ds.takeD ds.len = ds
  | .nil => rfl
  | .cons n s h r => congrArg (Doors.cons n s h) (Doors.takeD_all r)
theorem Doors.len_takeD : ∀ (ds : Doors) (i : Nat), (ds.takeD i).len ≤ i
  | ds, 0 => by rw [Doors.takeD_zero]; exact Nat.le_refl _
  | .nil, _ + 1 => Nat.zero_le _
  | .cons _ _ _ r, i + 1 => Nat.succ_le_succ (Doors.len_takeD r i)
section
variable {P : Program} {w : World} {K : PySem.W.Frag} {mg : Str → Option Value} {base : Heap} {T : Tb} {f : Addr} {fd : FuncData}
/-- a house as lists, all of them new -/
def spThaw (T : Tb) (K : PySem.W.Frag) (lv : Nat) : Sp := fun vs H Q _ => ∃ (h : House) (v : V), vs = [v] ∧ Rep K H h.toD v ∧ h.ok ∧ h.deep < lv ∧ Tbs T H ∧
  ∀ (t : LH) H', t.house = h → CAt H' t.cells → (fps t.cells).Nodup → (∀ x ∈ fps t.cells, H x = none) → Gr T [] H H' → Q t.val H'
end
end Pd
namespace Pd
open PySem PySem.Spec PyProof.Rows L2
mutual
theorem House.deep_step' : ∀ h : House, h.step.2.deep = h.deep
  | .out _ => rfl
  | .room hand ds => congrArg (· + 1) (Doors.deep_step' ds hand.toNat)
theorem Doors.deep_step' : ∀ (ds : Doors) (i : Nat), (ds.step i).2.deep = ds.deep
  | .nil, _ => rfl
  | .cons n s h r, 0 => by
    unfold Doors.step
    split
    · rfl
    · simp only [Doors.deep, House.deep_step' h]
  | .cons n s h r, i + 1 => by simp only [Doors.step, Doors.deep, Doors.deep_step' r i]
end
mutual
theorem House.told_len' : ∀ h : House, h.step.1.1.length ≤ h.deep
  | .out _ => Nat.le_refl _
  | .room hand ds => Nat.succ_le_succ (Doors.told_len' ds hand.toNat)
theorem Doors.told_len' : ∀ (ds : Doors) (i : Nat), (ds.step i).1.1.length ≤ ds.deep
  | .nil, _ => Nat.le_refl _
  | .cons n s h r, 0 => by
    unfold Doors.step
    split
    · exact Nat.zero_le _
    · exact Nat.le_trans (House.told_len' h) (Nat.le_max_left _ _)
  | .cons n s h r, i + 1 => Nat.le_trans (Doors.told_len' r i) (Nat.le_max_right _ _)
end
theorem Gr.dropL {T : Tb} {S L : List Addr} {H H' H2 : Hp} (a : Gr T S H H') (b : Gr T (L ++ S) H' H2) (h : ∀ x ∈ L, H x = none) : Gr T S H H2 :=
  ⟨fun c o n e q => b.keep c o (fun z => (List.mem_append.mp z).elim (fun z => by rw [h c z] at e; cases e) n) (a.keep c o n e q) q, fun c o e q => b.fast c o (a.fast c o e q) q, fun c e => a.dom c (b.dom c e), b.tbs⟩
section
variable {T : Tb} {K : PySem.W.Frag} {δ : List (Option SD)} {H : Hp} {a b : Addr} {E : XK} {S : List Addr} {ta tv tn tl tm : TE} {u : TS} {B : Ends}
/-- a house is drawn -/
theorem ex_house {ts : TA} {few : Int → Prop} (h : ExS T K [a, b] (HS a b) ts δ H (fun ss => ∃ n, ss = [.v (.ref a), .d (.int n)] ∧ few n)) (hf : ∀ n, few n → 1 ≤ n ∧ n ≤ 99) : EvX T K [a, b] (HS a b) (tCall (spHouse T K) [] E ts) δ H (fun d => ∃ h : House, d = h.toD ∧ h.ok ∧ h.many ≤ 12) := fun σ H1 g j s Q q =>
  h σ H1 g j s _ fun ss vs H2 ⟨n, e, fn⟩ g2 j2 r => by
    subst e
    obtain ⟨x1, r1, e1, h1, x2, r2, e2, h2, e3⟩ := r
    cases (show r2 = [] from e3)
    cases (show some x1 = some (.ref a) from h1); cases (show x2 = .int n from h2)
    subst e2; subst e1
    rw [List.append_nil]
    obtain ⟨f0, f1⟩ := hf n fn
    exact ⟨a, b, n, rfl, j2, g2.tbs, f0, f1, fun hh v H3 ok m g3 j3 rv => q hh.toD v H3 ⟨hh, rfl, ok, m⟩ (g2.trans g3) j3 rv⟩
/-- what is drawn from -/
theorem run_mix {c : Addr} {ns : List Int} {z : Int} {n : Nat} (hT : Tbs T H) (ha : EvV T K ta δ H (.ref c)) (hb : EvD T K tv δ H (.int z)) (hs : SqL K H c (ns.map V.int)) (hl : ns.length ≤ 63) (z0 : 0 ≤ z) (z1 : z < 2147483647)
    (k : ∀ a b H1, H a = none → H b = none → Gr T [] H H1 → HS a b H1 → Run K u B (δ.set n (some (.v (.ref a)))) H1) : Run K (tSeq (tAsg (tCall (spMix T K) [] E (tCons ta (tCons tv tNil))) (gName n)) u) B δ H := fun σ s =>
  ha σ H (Gr.refl hT) s _ fun H1 g1 => hb σ H1 g1 (s.up g1) _ fun v H2 g2 r => by
    cases (show v = .int z from r)
    have g12 := g1.trans g2
    exact ⟨c, ns, z, rfl, g12.sqL hs, hl, g12.tbs, z0, z1, fun a b H3 na nb g3 h3 => k a b H3 (g12.dom a na) (g12.dom b nb) (g12.trans g3) h3 _ ((s.up (g12.trans g3)).set n (show SlotOk K H3 (some (.v (.ref a))) (some (.ref a)) from rfl))⟩
end
end Pd
namespace Pd
open PySem L2
/-- pushes of the door at p by the first i walkers -/
def House.PCn (h : House) (p : List Int) (i : Nat) : Int := h.PC p (House.outs i h) (i - h.W (House.outs i h))
theorem walk_push {h : House} (ok : h.ok) (i : Nat) (e : (House.iter i h).step.1.2 = none) :
    House.outs (i + 1) h = House.outs i h ∧ (∀ p, h.PCn p (i + 1) = h.PCn p i + (if p = (House.iter i h).step.1.1 then 1 else 0)) ∧ h.place (House.iter i h).step.1.1 (h.PCn (House.iter i h).step.1.1 i + 1) = (House.outs i h + 1, i - h.W (House.outs i h)) ∧
      (h.at? (House.iter i h).step.1.1).isSome = true ∧ (House.iter i h).step.1.1 ≠ [] ∧ 0 ≤ House.outs i h := by
  obtain ⟨isL, itE⟩ := iter_is ok i
  obtain ⟨a, b⟩ := isL.lt ok
  have l0 := isL.1
  have eo : House.outs (i + 1) h = House.outs i h := by simp only [House.outs]; rw [if_pos e, Int.add_zero]
  rw [itE] at e ⊢
  unfold behindW at e ⊢
  by_cases c : (i : Int) - h.W (House.outs i h) + 1 < (h.BL (House.outs i h)).W 1
  · obtain ⟨a1, a2, a3, a4, a5⟩ := House.PC_push (h.deep + 1) h (House.outs i h) (i - h.W (House.outs i h)) (Nat.lt_succ_self _) ok l0 a c
    refine ⟨eo, fun p => ?_, a2, a3, a4, l0⟩
    unfold House.PCn
    rw [eo, show ((i + 1 : Nat) : Int) - h.W (House.outs i h) = i - h.W (House.outs i h) + 1 by omega]
    exact a1 p
  · exact absurd e (House.step_out _ _ (House.ok_BL h _ ok l0) (by omega)).1
theorem walk_out {h : House} (ok : h.ok) (i : Nat) {nm : Str} (e : (House.iter i h).step.1.2 = some nm) :
    House.outs (i + 1) h = House.outs i h + 1 ∧ h.W (House.outs i h + 1) = i + 1 ∧ h.way (House.outs i h + 1) = ((House.iter i h).step.1.1, nm) ∧ (∀ p, h.PCn p (i + 1) = h.PCn p i) ∧ 0 ≤ House.outs i h := by
  obtain ⟨isL, itE⟩ := iter_is ok i
  obtain ⟨a, b⟩ := isL.lt ok
  have l0 := isL.1
  have w1 := (House.W_succ ok l0).1
  have eo : House.outs (i + 1) h = House.outs i h + 1 := by simp only [House.outs]; rw [if_neg (by rw [e]; simp)]
  rw [itE] at e ⊢
  unfold behindW at e ⊢
  by_cases c : (i : Int) - h.W (House.outs i h) + 1 < (h.BL (House.outs i h)).W 1
  · rw [(House.step_push _ _ (House.ok_BL h _ ok l0) a c).1] at e; cases e
  · have ew : (i : Int) - h.W (House.outs i h) + 1 = (h.BL (House.outs i h)).W 1 := by omega
    have hs := House.way_step (h.deep + 1) h (House.outs i h) (i - h.W (House.outs i h)) (Nat.lt_succ_self _) ok l0 ew
    refine ⟨eo, by omega, ?_, fun p => ?_, l0⟩
    · rw [hs] at e ⊢
      cases e
      rfl
    · unfold House.PCn
      rw [eo, show ((i + 1 : Nat) : Int) - h.W (House.outs i h + 1) = 0 by omega]
      exact House.PC_out (h.deep + 1) h _ _ (Nat.lt_succ_self _) ok l0 ew p
theorem PCn_zero {h : House} (ok : h.ok) (p : List Int) : h.PCn p 0 = 0 := by
  unfold House.PCn
  have := House.W_zero h ok
  simp only [House.outs]
  rw [this]
  exact House.PC_zero h p ok
theorem PCn_le {h : House} (ok : h.ok) (p : List Int) : ∀ i : Nat, 0 ≤ h.PCn p i ∧ h.PCn p i ≤ i
  | 0 => by rw [PCn_zero ok p]; simp
  | i + 1 => by
    have ih := PCn_le ok p i
    cases e : (House.iter i h).step.1.2 with
    | none =>
      have := (walk_push ok i e).2.1 p
      rw [this]
      split <;> omega
    | some nm =>
      have := (walk_out ok i e).2.2.2.1 p
      rw [this]
      omega
theorem outs_le {h : House} (ok : h.ok) (i : Nat) : 0 ≤ House.outs i h ∧ House.outs i h ≤ i := by
  obtain ⟨isL, itE⟩ := iter_is ok i
  exact ⟨isL.1, isL.le ok⟩
end Pd
namespace Pd
open PySem L2
theorem lin2 {hand len i T : Int} (h0 : 0 ≤ hand) (h1 : hand < len) (h4 : len ≤ 4) (i0 : 0 ≤ i) (i1 : i < len) (t0 : 0 ≤ T) : (hand + (T * len + (i - hand).fmod len)).fmod len = i ∧ (T * len + (i - hand).fmod len).fdiv len = T ∧ 0 ≤ T * len + (i - hand).fmod len := by
  rw [fmod4 (by omega), fmod4 (by omega), fdiv4 (by omega)]
  have : len = 1 ∨ len = 2 ∨ len = 3 ∨ len = 4 := by omega
  rcases this with rfl | rfl | rfl | rfl <;> omega
/-- where a push is told to be, it is -/
theorem House.place_ok : ∀ (p : List Int) (h x : House) (m : Int), h.ok → h.at? p = some x → p ≠ [] → 1 ≤ m →
    1 ≤ (h.place p m).1 ∧ 0 ≤ (h.place p m).2 ∧ (h.place p m).2 + 1 < (h.BL ((h.place p m).1 - 1)).W 1 ∧ ((h.BL ((h.place p m).1 - 1)).BP (h.place p m).2).step.1 = (p, none) ∧ h.PC p ((h.place p m).1 - 1) (h.place p m).2 = m - 1
  | [], _, _, _, _, _, hne, _ => absurd rfl hne
  | a :: r, h, x, m, ok, hat, _, m1 => by
    obtain ⟨hand, ds, i, n, s, hh, rfl, rfl, hi, he, hat2⟩ := House.at_cons hat
    obtain ⟨h0, h1, h2, h3⟩ := id ok
    obtain ⟨n1, n2, n3, n4, hok⟩ := Doors.get_ok ds i h3 he
    rw [House.place_at r m he]
    -- the turn T, who came in it
    obtain ⟨T, c, hT, t0, hc0, hc1, hp⟩ : ∃ (T c : Int), (if r = [] then ((s + m - 1).fdiv n + 1, (s + m - 1).fmod n) else ((hh.place r m).1, (hh.place r m).2 + n)) = (T + 1, c) ∧ 0 ≤ T ∧ (r = [] → c < n ∧ T * n + c = s + m - 1 ∧ 0 ≤ c) ∧ (r ≠ [] → n ≤ c ∧ c - n + 1 < (hh.BL T).W 1 ∧ ((hh.BL T).BP (c - n)).step.1 = (r, none) ∧ hh.PC r T (c - n) = m - 1) ∧ True := by
      by_cases hr : r = []
      · rw [if_pos hr]
        refine ⟨(s + m - 1).fdiv n, (s + m - 1).fmod n, rfl, ?_, fun _ => ?_, fun z => absurd hr z, trivial⟩
        · rw [fdiv4 (by omega)]; exact Int.ediv_nonneg (by omega) (by omega)
        · rw [fdiv4 (by omega), fmod4 (by omega)]
          refine ⟨Int.emod_lt_of_pos _ (by omega), ?_, Int.emod_nonneg _ (by omega)⟩
          have := Int.mul_ediv_add_emod (s + m - 1) n
          rw [Int.mul_comm]; exact this
      · rw [if_neg hr]
        obtain ⟨b1, b2, b3, b4, b5⟩ := House.place_ok r hh x m hok hat2 hr m1
        refine ⟨(hh.place r m).1 - 1, (hh.place r m).2 + n, by rw [show (hh.place r m).1 - 1 + 1 = (hh.place r m).1 by omega], by omega, fun z => absurd z hr, fun _ => ?_, trivial⟩
        rw [show (hh.place r m).2 + n - n = (hh.place r m).2 by omega]
        exact ⟨by omega, b3, b4, b5⟩
    rw [hT]
    unfold fin
    dsimp only
    rw [show T + 1 - 1 = T by omega]
    obtain ⟨q1, q2, q3⟩ := lin2 (i := i) h0 h1 (by omega) (by omega) (by omega) t0
    rw [show T * (ds.len : Int) + ((i : Int) - hand).fmod ds.len + 1 - 1 = T * ds.len + ((i : Int) - hand).fmod ds.len by omega]
    generalize hL : T * (ds.len : Int) + ((i : Int) - hand).fmod ds.len = L at *
    obtain ⟨i', n', s', u, hh', hi', hlt', he', _, _, _, _, hok', hdp, ht, _, es, s0, s1, hW, hs⟩ := House.here ok q3
    have ei : i' = i := by
      rw [q1] at hi'
      omega
    subst ei
    rw [he] at he'
    cases he'
    rw [q2] at ht es hW hs
    have e0 : st0 hand ds.len i' L s = u := by unfold st0; rw [ht, es]
    have hcc : (if T + 1 = 1 then c - s else c) = c - u := by
      rw [es]
      by_cases z : T = 0
      · rw [if_pos (by omega), if_pos z]
      · rw [if_neg (by omega), if_neg z]; omega
    rw [hcc]
    have hWp := House.W_pos _ (House.ok_BL hh T hok t0)
    by_cases hr : r = []
    · obtain ⟨k1, k2, k3⟩ := hc0 hr
      have hu : u ≤ c := by
        rw [es]
        by_cases z : T = 0
        · rw [if_pos z]; rw [z, Int.zero_mul] at k2; omega
        · rw [if_neg z]; exact k3
      refine ⟨by omega, by omega, by rw [hW]; omega, ?_, ?_⟩
      · rw [hs, show min (c - u) (n - u) = c - u by omega, if_pos (by omega), hr]
      · rw [House.PC_at _ _ _ he, if_pos hr, inn_here q1, e0, ht, show min (c - u) (n - u) = c - u by omega]
        omega
    · obtain ⟨k1, k2, k3, k4⟩ := hc1 hr
      refine ⟨by omega, by omega, by rw [hW]; omega, ?_, ?_⟩
      · rw [hs, show min (c - u) (n - u) = n - u by omega, if_neg (by omega), show c - u - (n - u) = c - n by omega, k3]
      · rw [House.PC_at _ _ _ he, if_neg hr, inn_here q1, e0, ht, show min (c - u) (n - u) = n - u by omega, show c - u - (n - u) = c - n by omega]
        exact k4
/-- the walker of a push -/
def House.wk (h : House) (p : List Int) (m : Int) : Int := h.W ((h.place p m).1 - 1) + (h.place p m).2
theorem PCn_of {h : House} (ok : h.ok) {L w : Int} (n : Nat) (p : List Int) (hL : IsL h n L) (hw : (n : Int) - h.W L = w) : h.PCn p n = h.PC p L w := by
  have := (iter_is ok n).1.uniq ok hL
  unfold House.PCn
  rw [this, hw]
theorem House.wk_is {h x : House} {p : List Int} {m : Int} (ok : h.ok) (hat : h.at? p = some x) (hne : p ≠ []) (m1 : 1 ≤ m) :
    0 ≤ h.wk p m ∧ IsL h (h.wk p m) ((h.place p m).1 - 1) ∧ (behindW h (h.wk p m) ((h.place p m).1 - 1)).step.1 = (p, none) ∧ h.PCn p (h.wk p m).toNat = m - 1 := by
  obtain ⟨a1, a2, a3, a4, a5⟩ := House.place_ok p h x m ok hat hne m1
  have w0 : 0 ≤ h.W ((h.place p m).1 - 1) := by have := House.W_ge ok (l := (h.place p m).1 - 1) (by omega); omega
  have w1 := (House.W_succ ok (l := (h.place p m).1 - 1) (by omega)).1
  have isL : IsL h (h.wk p m) ((h.place p m).1 - 1) := ⟨by omega, by unfold House.wk; omega, by unfold House.wk; omega⟩
  refine ⟨by unfold House.wk; omega, isL, ?_, ?_⟩
  · unfold behindW
    rw [show h.wk p m - h.W ((h.place p m).1 - 1) = (h.place p m).2 by unfold House.wk; omega]
    exact a4
  · have hn : (((h.wk p m).toNat : Nat) : Int) = h.wk p m := by unfold House.wk; omega
    rw [← a5]
    exact PCn_of ok _ p (by rw [hn]; exact isL) (by rw [hn]; unfold House.wk; omega)
theorem PCn_mono {h : House} (ok : h.ok) (p : List Int) (i : Nat) : ∀ k : Nat, h.PCn p i ≤ h.PCn p (i + k)
  | 0 => Int.le_refl _
  | k + 1 => by
    have ih := PCn_mono ok p i k
    rw [show i + (k + 1) = i + k + 1 by omega]
    cases e : (House.iter (i + k) h).step.1.2 with
    | none =>
      have := (walk_push ok (i + k) e).2.1 p
      rw [this]
      split <;> omega
    | some nm =>
      have := (walk_out ok (i + k) e).2.2.2.1 p
      omega
theorem PCn_le2 {h : House} (ok : h.ok) (p : List Int) {i j : Nat} (l : i ≤ j) : h.PCn p i ≤ h.PCn p j := by
  have := PCn_mono ok p i (j - i)
  rwa [show i + (j - i) = j by omega] at this
theorem House.wk_lt {h x : House} {p : List Int} {m1 m2 : Int} (ok : h.ok) (hat : h.at? p = some x) (hne : p ≠ []) (a : 1 ≤ m1) (l : m1 < m2) : h.wk p m1 < h.wk p m2 := by
  obtain ⟨u0, _, _, u1⟩ := House.wk_is ok hat hne a
  obtain ⟨v0, _, _, v1⟩ := House.wk_is (m := m2) ok hat hne (by omega)
  by_cases c : h.wk p m1 < h.wk p m2
  · exact c
  · have := PCn_le2 ok p (i := (h.wk p m2).toNat) (j := (h.wk p m1).toNat) (by omega)
    omega
theorem House.wk_le {h x : House} {p : List Int} {m1 m2 : Int} (ok : h.ok) (hat : h.at? p = some x) (hne : p ≠ []) (a : 1 ≤ m1) (l : m1 ≤ m2) : h.wk p m1 ≤ h.wk p m2 := by
  by_cases c : m1 = m2
  · rw [c]; exact Int.le_refl _
  · exact Int.le_of_lt (House.wk_lt ok hat hne a (by omega))
/-- the push of a far walker has its number -/
theorem House.far_push {h : House} {n L : Int} (ok : h.ok) (isL : IsL h n L) (n0 : 0 ≤ n) (e : (behindW h n L).step.1.2 = none) :
    ∃ (k : Int) (x : House), 1 ≤ k ∧ h.at? (behindW h n L).step.1.1 = some x ∧ (behindW h n L).step.1.1 ≠ [] ∧ h.wk (behindW h n L).step.1.1 k = n := by
  have hn : ((n.toNat : Nat) : Int) = n := by omega
  have it := iter_is ok n.toNat
  rw [hn] at it
  have eL := it.1.uniq ok isL
  rw [eL] at it
  have e' : (House.iter n.toNat h).step.1.2 = none := by rw [it.2]; exact e
  obtain ⟨w1, w2, w3, w4, w5, w6⟩ := walk_push ok n.toNat e'
  rw [it.2] at w3 w4 w5
  obtain ⟨x, hx⟩ := Option.isSome_iff_exists.mp w4
  refine ⟨_, x, ?_, hx, w5, by unfold House.wk; rw [w3]; show h.W (House.outs n.toNat h + 1 - 1) + (((n.toNat : Nat) : Int) - h.W (House.outs n.toNat h)) = n; rw [show House.outs n.toNat h + 1 - 1 = House.outs n.toNat h by omega]; omega⟩
  have := (PCn_le ok (behindW h n L).step.1.1 n.toNat).1
  omega
/-- a leaving's walker -/
theorem House.leav_is {h : House} {l : Int} (ok : h.ok) (l1 : 1 ≤ l) : 0 ≤ h.W l - 1 ∧ IsL h (h.W l - 1) (l - 1) ∧ (behindW h (h.W l - 1) (l - 1)).step.1 = ((h.way l).1, some (h.way l).2) := by
  have w := House.W_succ ok (l := l - 1) (by omega)
  rw [show l - 1 + 1 = l by omega] at w
  have w0 := House.W_ge ok (l := l - 1) (by omega)
  refine ⟨by omega, ⟨by omega, by omega, by rw [show l - 1 + 1 = l by omega]; omega⟩, ?_⟩
  have := House.way_step (h.deep + 1) h (l - 1) (h.W l - 1 - h.W (l - 1)) (Nat.lt_succ_self _) ok (by omega) (by omega)
  rw [show l - 1 + 1 = l by omega] at this
  exact this
/-- on from a far walker -/
theorem House.on {h : House} {n L : Int} (ok : h.ok) (isL : IsL h n L) : ∀ k : Nat, ∃ M, IsL h (n + k) M ∧ House.iter k (behindW h n L) = behindW h (n + k) M
  | 0 => ⟨L, by simpa using isL, by simp [House.iter]⟩
  | k + 1 => by
    obtain ⟨M, a, b⟩ := House.on ok isL k
    simp only [House.iter]
    rw [b, show n + ((k + 1 : Nat) : Int) = n + k + 1 by omega]
    rcases a.next ok with ⟨_, d, e⟩ | ⟨_, d, e⟩
    · exact ⟨M, d, e⟩
    · exact ⟨M + 1, d, e⟩
/-! the paths of all doors -/
mutual
def House.paths : House → List Int → List (List Int)
  | .out _, _ => []
  | .room _ ds, p => ds.paths p 0
def Doors.paths : Doors → List Int → Nat → List (List Int)
  | .nil, _, _ => []
  | .cons _ _ h r, p, k => (p ++ [(k : Int)]) :: (h.paths (p ++ [(k : Int)]) ++ r.paths p (k + 1))
end
mutual
theorem House.paths_len : ∀ (h : House) (p : List Int), (h.paths p).length = h.many
  | .out _, _ => rfl
  | .room _ ds, p => Doors.paths_len ds p 0
theorem Doors.paths_len : ∀ (ds : Doors) (p : List Int) (k : Nat), (ds.paths p k).length = ds.many
  | .nil, _, _ => rfl
  | .cons _ _ h r, p, k => by
    simp only [Doors.paths, Doors.many, List.length_cons, List.length_append, House.paths_len h, Doors.paths_len r]
    omega
end
mutual
theorem House.paths_at : ∀ (h : House) (p q : List Int), q ∈ h.paths p → ∃ r x, q = p ++ r ∧ r ≠ [] ∧ h.at? r = some x
  | .out _, _, _, hq => by simp [House.paths] at hq
  | .room hand ds, p, q, hq => by
    obtain ⟨i, r, n, s, hh, x, e1, e2, e3⟩ := Doors.paths_at ds p 0 q hq
    rw [Nat.zero_add] at e1
    exact ⟨(i : Int) :: r, x, e1, by simp, by rw [House.at_room _ e2]; exact e3⟩
theorem Doors.paths_at : ∀ (ds : Doors) (p : List Int) (k : Nat) (q : List Int), q ∈ ds.paths p k → ∃ (i : Nat) (r : List Int) (n s : Int) (hh x : House), q = p ++ (((k + i : Nat) : Int) :: r) ∧ ds.get? i = some (n, s, hh) ∧ hh.at? r = some x
  | .nil, _, _, _, hq => by simp [Doors.paths] at hq
  | .cons n s h r, p, k, q, hq => by
    simp only [Doors.paths, List.mem_cons, List.mem_append] at hq
    rcases hq with rfl | hq | hq
    · exact ⟨0, [], n, s, h, h, by simp, rfl, House.at_nil h⟩
    · obtain ⟨t, x, e1, e2, e3⟩ := House.paths_at h _ q hq
      exact ⟨0, t, n, s, h, x, by rw [e1]; simp, rfl, e3⟩
    · obtain ⟨i, t, n', s', hh, x, e1, e2, e3⟩ := Doors.paths_at r p (k + 1) q hq
      exact ⟨i + 1, t, n', s', hh, x, by rw [e1]; congr 3; omega, e2, e3⟩
end
end Pd
namespace Pd
open PySem PySem.Spec PyProof.Rows L2
mutual
def D.py : D → PyData
  | .non => .none
  | .bl b => .bool b
  | .int i => .int i
  | .str x => .str x
  | .tup ds => .tuple (D.pys ds)
def D.pys : List D → List PyData
  | [] => []
  | d :: ds => d.py :: D.pys ds
end
mutual
theorem rep_dp {K : PySem.W.Frag} {H : Hp} : ∀ (d : D) (v : V), Rep K H d v → Dp K H v d.py
  | .non, v, h => by rw [show v = .non from h]; exact .non
  | .bl b, v, h => by rw [show v = .bl b from h]; exact .bl b
  | .int i, v, h => by rw [show v = .int i from h]; exact .int i
  | .str x, v, h => by rw [show v = .str x from h]; exact .str x
  | .tup ds, v, ⟨a, xs, e, hs, hr⟩ => by rw [e]; exact .tup hs (reps_dp ds xs hr)
theorem reps_dp {K : PySem.W.Frag} {H : Hp} : ∀ (ds : List D) (xs : List V), Reps K H ds xs → DpAll K H xs (D.pys ds)
  | [], xs, h => by rw [show xs = [] from h]; exact .nil
  | d :: ds, xs, ⟨x, r, e, h1, h2⟩ => by rw [e]; exact .cons (rep_dp d x h1) (reps_dp ds r h2)
end
section
variable {T : Tb} {K : PySem.W.Frag} {δ : List (Option SD)} {H : Hp} {ta tb : TE} {ds es : List D}
/-- an item of a list that stands at l -/
theorem ev_ixR {l : Addr} {xs : List V} {i : Int} {d : D} (ha : EvV T K ta δ H (.ref l)) (hb : EvD T K tb δ H (.int i)) (e : H l = some (.lst xs)) (r : Reps K H ds xs) (h : atI ds i = some d) : EvD T K (tOp (rIxL K) ta tb) δ H d := fun σ H1 g s Q q =>
  ha σ H1 g s _ fun H2 g2 => hb σ H2 (g.trans g2) (s.up g2) _ fun w H3 g3 ew => by
    have g13 := (g.trans g2).trans g3
    obtain ⟨x, hx, rx⟩ := atI_rep (r.up g13) h
    exact ⟨l, xs, i, x, rfl, ew, .inl (.inl (g13.lst e (by simp))), hx, q x H3 (g2.trans g3) rx⟩
/-- what a list holds that stands at l -/
theorem ei_listD {tl : TE} {l : Addr} {xs : List V} (h : EvV T K tl δ H (.ref l)) (e : H l = some (.lst xs)) (r : Reps K H ds xs) : EvI T K [] (iList K tl) δ H ds := fun σ H1 g s R q =>
  h σ H1 g s _ fun H2 g2 => by
    have e2 := (g.trans g2).lst e (by simp)
    have r2 := (r.up g).up g2
    refine ⟨l, rfl, ⟨xs, .inl (.inl e2)⟩, q _ H2 g2 ?_⟩
    rw [← r2.len]
    refine (walk_list (K := K) (a := l) (xs := xs)).mono (fun H' g' => .inl (.inl (Gr.lst g' e2 (by simp)))) fun i Ha x Hb hi g' y => ?_
    obtain ⟨e1, hx⟩ := y
    subst e1
    obtain ⟨d, hd, rd⟩ := r2.got hx
    exact ⟨g'.self, d, hd, rd.up g'⟩
end
end Pd
namespace Pd
open PySem PySem.Spec PyProof.Rows L2
/-! ### == and != of data -/
mutual
/-- nested less deep than k, texts of signs -/
def D.can (k : Nat) : D → Prop
  | .non => True
  | .bl _ => True
  | .int _ => True
  | .str x => PyData.strOk x = true
  | .tup ds => 0 < k ∧ D.cans (k - 1) ds
def D.cans (k : Nat) : List D → Prop
  | [] => True
  | d :: ds => d.can k ∧ D.cans k ds
end
theorem D.cans_all {k : Nat} : ∀ {ds : List D}, (∀ d ∈ ds, d.can k) → D.cans k ds
  | [], _ => trivial
  | d :: ds, h => ⟨h d (by simp), D.cans_all fun x hx => h x (by simp [hx])⟩
mutual
theorem D.can_lay : ∀ (k : Nat) (d : D), d.can k → d.py.canLay0 = true ∧ d.py.depth ≤ k
  | _, .non, _ => ⟨rfl, Nat.zero_le _⟩
  | _, .bl _, _ => ⟨rfl, Nat.zero_le _⟩
  | _, .int _, _ => ⟨rfl, Nat.zero_le _⟩
  | _, .str x, h => ⟨h, Nat.zero_le _⟩
  | k, .tup ds, ⟨h0, h1⟩ => by
    obtain ⟨a, b⟩ := D.cans_lay (k - 1) ds h1
    refine ⟨a, ?_⟩
    show PyData.depthAll (D.pys ds) + 1 ≤ k
    omega
theorem D.cans_lay : ∀ (k : Nat) (ds : List D), D.cans k ds → PyData.canLayAll0 (D.pys ds) = true ∧ PyData.depthAll (D.pys ds) ≤ k
  | _, [], _ => ⟨rfl, Nat.zero_le _⟩
  | k, d :: ds, ⟨h1, h2⟩ => by
    obtain ⟨a, b⟩ := D.can_lay k d h1
    obtain ⟨a2, b2⟩ := D.cans_lay k ds h2
    refine ⟨?_, ?_⟩
    · show (d.py.canLay0 && PyData.canLayAll0 (D.pys ds)) = true
      rw [a, a2]; rfl
    · show max d.py.depth (PyData.depthAll (D.pys ds)) ≤ k
      omega
end
theorem D.can_shaped {k : Nat} {d : D} (h : d.can k) (hk : k ≤ 64) : SeqAt.shaped d.py = true := by
  obtain ⟨a, b⟩ := D.can_lay k d h
  unfold SeqAt.shaped
  rw [a, Bool.true_and]
  exact decide_eq_true (by omega)
theorem D.cans_shaped {k : Nat} {ds : List D} (h : D.cans k ds) (hk : k ≤ 63) : SeqAt.shaped (.list (D.pys ds)) = true := by
  obtain ⟨a, b⟩ := D.cans_lay k ds h
  unfold SeqAt.shaped
  rw [show (PyData.list (D.pys ds)).canLay0 = true from a, Bool.true_and]
  exact decide_eq_true (by show PyData.depthAll (D.pys ds) + 1 ≤ 64; omega)
theorem D.eqv_same {k : Nat} {d : D} (h : d.can k) : PyData.eqv d.py d.py = true := PySem.SeqAt.eqv_refl _ (D.can_lay k d h).1
theorem okName.can {n : Str} (h : okName n) : PyData.strOk n = true := by
  unfold PyData.strOk
  rw [Array.all_eq_true']
  intro c hc
  have := (h.2.2 c (by simpa using hc)).2
  simp
  omega
section
variable {T : Tb} {K : PySem.W.Frag} {δ : List (Option SD)} {H : Hp} {ta tb : TE} {ds es : List D} {d e : D}
theorem ev_neD {k : Nat} (ha : EvD T K ta δ H d) (hb : EvD T K tb δ H d) (hd : d.can k) (hk : k ≤ 64) : EvD T K (tOp (rNeD K) ta tb) δ H (.bl false) :=
  ev_op ha hb fun v w H1 g1 e1 e2 Q q => ⟨_, _, rep_dp d v e1, rep_dp d w e2, D.can_shaped hd hk, D.can_shaped hd hk, by rw [D.eqv_same hd]; exact q _ H1 g1.self rfl⟩
/-- a list that stands at l, and a new empty one -/
theorem ev_neL0 {k : Nat} {l : Addr} {xs : List V} (ha : EvV T K ta δ H (.ref l)) (e : H l = some (.lst xs)) (r : Reps K H ds xs) (hb : EvL T K tb δ H []) (hd : D.cans k ds) (hk : k ≤ 63) : EvD T K (tOp (rNeD K) ta tb) δ H (.bl (!ds.isEmpty)) := fun σ H1 g s Q q =>
  ha σ H1 g s _ fun H2 g2 => hb σ H2 (g.trans g2) (s.up g2) _ fun c ys H3 nc g3 ec rc => by
    have gg := (g.trans g2).trans g3
    cases (show ys = [] from rc)
    refine ⟨_, _, .lst (.inl (.inl (gg.lst e (by simp)))) (reps_dp ds xs (r.up gg)), .lst (.inl (.inl ec)) .nil, D.cans_shaped hd hk, by decide, ?_⟩
    have e2 : PyData.eqv (.list (D.pys ds)) (.list []) = ds.isEmpty := by cases ds <;> rfl
    rw [e2]
    exact q _ H3 (g2.trans g3) rfl
end
end Pd
namespace Pd
open PySem PySem.Spec PyProof.Rows L2
section
variable {T : Tb} {S : List Addr} {K : PySem.W.Frag} {δ : List (Option SD)} {H : Hp} {ta tb : TE} {t u : TS} {B : Ends} {wi : TI} {g : TG} {ds es : List D} {xs : List V} {l : Addr}
/-- a for whose slots are told by a statement -/
theorem run_forW (hT : Tbs T H) (hi : EvI T K S wi δ H ds) (W : Nat → List (Option SD) → Hp → Prop) (h0 : ∀ H1, Gr T [] H H1 → W 0 δ H1) (hm : ∀ i δ H1 H2, Gr T [] H1 H2 → W i δ H1 → W i δ H2)
    (hs : ∀ i d δi H1 (N : L2.St → Hp → Prop), ds[i]? = some d → Gr T S H H1 → W i δi H1 → (∀ σ δ' H2, Gr T S H1 H2 → W (i + 1) δ' H2 → Slots K H2 δ' σ → N σ H2) → ∃ δ' js, EvG T K g d δi H1 δ' js ∧ Run K t { nx := N, rt := B.rt, bk := u B, ct := N } δ' H1)
    (hd : ∀ δe H1, Gr T S H H1 → W ds.length δe H1 → Run K u B δe H1) : Run K (tSeq (tFor wi g t) u) B δ H := fun σ s =>
  hi σ H (Gr.refl hT) s _ fun J H2 g2 Wk => by
    refine for_it Wk (fun i σ' H' => Gr T S H2 H' ∧ ∃ δi, W i δi H' ∧ Slots K H' δi σ') ⟨Gr.refl g2.tbs, δ, h0 H2 g2, s.up g2⟩ (fun i σ' H' _ p => p.1) (fun i x σ' Ha Hb hlt p y => ?_) (fun σ' H' p => ?_)
    · obtain ⟨p1, δi, p2, p3⟩ := p
      obtain ⟨ga, d, hd', rd⟩ := y
      have gb : Gr T S H Hb := (g2.any.trans p1).trans ga.any
      obtain ⟨δ', js, hg, hr⟩ := hs i d δi Hb (fun σ' H' => Gr T S H2 H' ∧ ∃ δi, W (i + 1) δi H' ∧ Slots K H' δi σ') hd' gb (hm i δi Ha Hb ga p2) fun σ2 δ2 H3 g3 i3 s3 => ⟨(p1.trans ga.any).trans g3, δ2, i3, s3⟩
      exact hg x σ' Hb (Gr.refl ga.tbs) rd (p3.up ga) _ fun σ2 s2 _ => hr σ2 s2
    · obtain ⟨p1, δi, p2, p3⟩ := p
      exact hd δi H' (g2.any.trans p1) p2 σ' p3
/-- two lists, one behind the other -/
theorem ev_catVL (ha : EvV T K ta δ H (.ref l)) (e : H l = some (.lst xs)) (r : Reps K H ds xs) (hb : EvL T K tb δ H es) (hz : ds.length + es.length ≤ 10000) : EvL T K (tOp rCat ta tb) δ H (ds ++ es) := fun σ H1 g s Q q =>
  ha σ H1 g s _ fun H2 g2 => hb σ H2 (g.trans g2) (s.up g2) _ fun p ys H3 np g3 ep rp => by
    have gg := (g.trans g2).trans g3
    have rx := r.up gg
    refine ⟨l, p, xs, ys, rfl, rfl, gg.lst e (by simp), ep, sz (by rw [rx.len, rp.len]; omega), fun b hb => ?_⟩
    have gn : Gr T [] H3 (upd H3 b (.lst (xs ++ ys))) := Gr.new g3.tbs hb
    exact q b _ _ (g2.dom b (g3.dom b hb)) ((g2.trans g3).trans gn) upd_same ((rx.app rp).up gn)
theorem ev_catLL (ha : EvL T K ta δ H ds) (hb : EvL T K tb δ H es) (hz : ds.length + es.length ≤ 10000) : EvL T K (tOp rCat ta tb) δ H (ds ++ es) := fun σ H1 g s Q q =>
  ha σ H1 g s _ fun l xs H2 nl g2 e r => hb σ H2 (g.trans g2) (s.up g2) _ fun p ys H3 np g3 ep rp => by
    have rx := r.up g3
    refine ⟨l, p, xs, ys, rfl, rfl, g3.lst e (by simp), ep, sz (by rw [rx.len, rp.len]; omega), fun b hb => ?_⟩
    have gn : Gr T [] H3 (upd H3 b (.lst (xs ++ ys))) := Gr.new g3.tbs hb
    exact q b _ _ (g2.dom b (g3.dom b hb)) ((g2.trans g3).trans gn) upd_same ((rx.app rp).up gn)
end
def pathD (q : List Int) : D := .tup (q.map D.int)
section
variable {P : Program} {w : World} {K : PySem.W.Frag} {mg : Str → Option Value} {base : Heap} {T : Tb} {f : Addr} {fd : FuncData}
def RLPaths (lv : Nat) (ds es : List D) : Prop := ∃ (h : House) (p : List Int), ds = [h.toD, pathD p] ∧ h.ok ∧ h.many ≤ 12 ∧ h.deep < lv ∧ p.length + lv ≤ 100 ∧ es = (h.paths p).map pathD
theorem Doors.paths_split (p : List Int) : ∀ (ds : Doors) (i : Nat) {n s : Int} {h : House}, ds.get? i = some (n, s, h) → (ds.drop i).paths p i = ((p ++ [(i : Int)]) :: h.paths (p ++ [(i : Int)])) ++ (ds.drop (i + 1)).paths p (i + 1) := fun ds i n s h he => by
  rw [Doors.drop_get ds i he]
  simp only [Doors.paths, List.cons_append]
theorem Doors.get_many : ∀ (ds : Doors) (i : Nat) {n s : Int} {h : House}, ds.get? i = some (n, s, h) → h.many + 1 ≤ ds.many
  | .nil, _, _, _, _, e => nomatch e
  | .cons _ _ h r, 0, _, _, _, e => by cases e; simp only [Doors.many]; omega
  | .cons _ _ h r, i + 1, _, _, _, e => by
    have := Doors.get_many r i e
    simp only [Doors.many]; omega
end
end Pd
namespace Pd
open PySem PySem.Spec PyProof.Rows L2
/-! ### data without bools: == tells whether they are the same -/
mutual
def D.nb : D → Prop
  | .bl _ => False
  | .tup ds => D.nbs ds
  | _ => True
def D.nbs : List D → Prop
  | [] => True
  | d :: ds => d.nb ∧ D.nbs ds
end
theorem D.nbs_all : ∀ {ds : List D}, (∀ d ∈ ds, d.nb) → D.nbs ds
  | [], _ => trivial
  | d :: ds, h => ⟨h d (by simp), D.nbs_all fun x hx => h x (by simp [hx])⟩
theorem D.nbs_ints (p : List Int) : D.nbs (p.map D.int) := D.nbs_all fun d hd => by
  obtain ⟨i, _, rfl⟩ := List.mem_map.mp hd
  exact trivial
mutual
theorem D.eqv_iff : ∀ d e : D, d.nb → e.nb → (PyData.eqv d.py e.py = true ↔ d = e)
  | .non, .non, _, _ => by simp [D.py, PyData.eqv]
  | .non, .int _, _, _ => by simp [D.py, PyData.eqv]
  | .non, .str _, _, _ => by simp [D.py, PyData.eqv]
  | .non, .tup _, _, _ => by simp [D.py, PyData.eqv]
  | .int _, .non, _, _ => by simp [D.py, PyData.eqv]
  | .int _, .int _, _, _ => by simp [D.py, PyData.eqv]
  | .int _, .str _, _, _ => by simp [D.py, PyData.eqv]
  | .int _, .tup _, _, _ => by simp [D.py, PyData.eqv]
  | .str _, .non, _, _ => by simp [D.py, PyData.eqv]
  | .str _, .int _, _, _ => by simp [D.py, PyData.eqv]
  | .str _, .str _, _, _ => by simp [D.py, PyData.eqv]
  | .str _, .tup _, _, _ => by simp [D.py, PyData.eqv]
  | .tup _, .non, _, _ => by simp [D.py, PyData.eqv]
  | .tup _, .int _, _, _ => by simp [D.py, PyData.eqv]
  | .tup _, .str _, _, _ => by simp [D.py, PyData.eqv]
  | .tup ds, .tup es, a, b => by
    have := D.eqvs_iff ds es a b
    simp only [D.py, PyData.eqv, D.tup.injEq]
    exact this
  | .bl _, _, h, _ => h.elim
  | _, .bl _, _, h => h.elim
theorem D.eqvs_iff : ∀ ds es : List D, D.nbs ds → D.nbs es → (PyData.eqvAll (D.pys ds) (D.pys es) = true ↔ ds = es)
  | [], [], _, _ => by simp [D.pys, PyData.eqvAll]
  | [], _ :: _, _, _ => by simp [D.pys, PyData.eqvAll]
  | _ :: _, [], _, _ => by simp [D.pys, PyData.eqvAll]
  | d :: ds, e :: es, ⟨a, b⟩, ⟨a2, b2⟩ => by
    have h1 := D.eqv_iff d e a a2
    have h2 := D.eqvs_iff ds es b b2
    simp only [D.pys, PyData.eqvAll, Bool.and_eq_true, h1, h2, List.cons.injEq]
end
mutual
theorem House.nb : ∀ h : House, h.toD.nb
  | .out _ => trivial
  | .room _ ds => ⟨trivial, Doors.nb ds, trivial⟩
theorem Doors.nb : ∀ ds : Doors, D.nbs ds.toDs
  | .nil => trivial
  | .cons _ _ h r => ⟨⟨trivial, trivial, House.nb h, trivial⟩, Doors.nb r⟩
end
mutual
theorem House.toD_injE : ∀ h g : House, h.toD = g.toD → h = g
  | .out _, .out _, e => by simp only [House.toD, D.str.injEq] at e; rw [e]
  | .out _, .room _ _, e => by simp [House.toD] at e
  | .room _ _, .out _, e => by simp [House.toD] at e
  | .room a ds, .room b es, e => by
    simp only [House.toD, D.tup.injEq, List.cons.injEq, D.int.injEq, and_true] at e
    rw [e.1, Doors.toDs_injE ds es e.2]
theorem Doors.toDs_injE : ∀ h g : Doors, h.toDs = g.toDs → h = g
  | .nil, .nil, _ => rfl
  | .nil, .cons _ _ _ _, e => by simp [Doors.toDs] at e
  | .cons _ _ _ _, .nil, e => by simp [Doors.toDs] at e
  | .cons n s h r, .cons n' s' h' r', e => by
    simp only [Doors.toDs, D.tup.injEq, List.cons.injEq, D.int.injEq, and_true] at e
    obtain ⟨⟨a, b, c⟩, d⟩ := e
    rw [a, b, House.toD_injE h h' c, Doors.toDs_injE r r' d]
end
section
variable {T : Tb} {K : PySem.W.Frag} {δ : List (Option SD)} {H : Hp} {ta tb : TE} {d e : D}
theorem ev_eqD {k : Nat} {c : Bool} (ha : EvD T K ta δ H d) (hb : EvD T K tb δ H e) (hd : d.can k) (he : e.can k) (hk : k ≤ 64) (n1 : d.nb) (n2 : e.nb) (hc : c = true ↔ d = e) : EvD T K (tOp (rEqD K) ta tb) δ H (.bl c) :=
  ev_op ha hb fun v w H1 g1 e1 e2 Q q => ⟨_, _, rep_dp d v e1, rep_dp e w e2, D.can_shaped hd hk, D.can_shaped he hk, by
    have := D.eqv_iff d e n1 n2
    rw [show PyData.eqv d.py e.py = c by
      cases c with
      | true => exact this.mpr (hc.mp rfl)
      | false => exact Bool.eq_false_iff.mpr fun z => by have := hc.mpr (this.mp z); cases this]
    exact q _ H1 g1.self rfl⟩
theorem ev_neD2 {k : Nat} {c : Bool} (ha : EvD T K ta δ H d) (hb : EvD T K tb δ H e) (hd : d.can k) (he : e.can k) (hk : k ≤ 64) (n1 : d.nb) (n2 : e.nb) (hc : c = true ↔ ¬ d = e) : EvD T K (tOp (rNeD K) ta tb) δ H (.bl c) :=
  ev_op ha hb fun v w H1 g1 e1 e2 Q q => ⟨_, _, rep_dp d v e1, rep_dp e w e2, D.can_shaped hd hk, D.can_shaped he hk, by
    have := D.eqv_iff d e n1 n2
    have e0 : (!PyData.eqv d.py e.py) = c := by
      cases c with
      | true =>
        rw [Bool.eq_false_iff.mpr fun z => (hc.mp rfl) (this.mp z)]; rfl
      | false =>
        rw [this.mpr (Classical.byContradiction fun z => by have := hc.mpr z; cases this)]; rfl
    rw [e0]
    exact q _ H1 g1.self rfl⟩
end
mutual
theorem House.can : ∀ (h : House) (k : Nat), h.ok → 3 * h.deep ≤ k → h.toD.can k
  | .out n, k, o, _ => okName.can o
  | .room hand ds, k, ⟨_, _, h2, h3⟩, hk => by
    have hk' : 3 * (ds.deep + 1) ≤ k := hk
    exact ⟨by omega, trivial, ⟨by omega, Doors.can ds (k - 1 - 1) h3 (by omega)⟩, trivial⟩
theorem Doors.can : ∀ (ds : Doors) (k : Nat), ds.ok → 3 * ds.deep + 1 ≤ k → D.cans k ds.toDs
  | .nil, _, _, _ => trivial
  | .cons n s h r, k, ⟨_, _, _, _, h5, h6⟩, hk => by
    have a : h.deep ≤ (Doors.cons n s h r).deep := Nat.le_max_left _ _
    have b : r.deep ≤ (Doors.cons n s h r).deep := Nat.le_max_right _ _
    exact ⟨⟨by omega, trivial, trivial, House.can h (k - 1) h5 (by omega), trivial⟩, Doors.can r k h6 (by omega)⟩
end
end Pd
set_option maxHeartbeats 4000000
namespace Pd
open PySem PySem.Spec PyProof.Rows L2
section
variable {T : Tb} {S : List Addr} {J : Hp → Prop} {K : PySem.W.Frag} {δ : List (Option SD)} {H : Hp} {E : XK} {ta te tv tn : TE} {t w u : TS} {g : TG} {B : Ends} {d : D}
/-- for k in range(a drawn number) -/
theorem run_forD {n : Int} (hT : Tbs T H) (hj : J H) (h : EvX T K S J te δ H (fun d => ∃ r, d = .int r ∧ 0 ≤ r ∧ r < n)) (k : ∀ (r : Nat) H1, (r : Int) < n → Gr T S H H1 → J H1 → Run K (tSeq (tFor (iRng1 (tCons (tC (.int (r : Int))) tNil)) g t) u) B δ H1) : Run K (tSeq (tFor (iRng1 (tCons te tNil)) g t) u) B δ H := fun σ s =>
  h σ H (Gr.refl hT) hj s _ fun d v H1 ⟨r, e, r0, r1⟩ g1 j1 rr => by
    subst e
    cases (show v = .int r from rr)
    obtain ⟨m, rfl⟩ := Int.eq_ofNat_of_zero_le r0
    exact k m H1 r1 g1 j1 σ (s.up g1)
theorem ei_range2 {ta : TA} {lo hi : Int} (h : EvA T K ta δ H [.int lo, .int hi]) (h0 : -(2 ^ 62) ≤ lo ∧ lo < 2 ^ 62 ∧ -(2 ^ 62) ≤ hi ∧ hi < 2 ^ 62) : EvI T K S (iRng2 ta) δ H ((List.range (hi - lo).toNat).map fun k => .int (lo + (k : Nat))) := fun σ H1 g s R q =>
  h σ H1 g s _ fun vs H2 g2 r => by
    obtain ⟨x, r', e, h2, y, r2, e2, h3, h4⟩ := r
    cases (show x = .int lo from h2); cases (show y = .int hi from h3); cases (show r2 = [] from h4)
    subst e2
    refine ⟨lo, hi, e, h0, q _ H2 g2 ?_⟩
    rw [List.length_map, List.length_range]
    refine (walk_range (lo := lo) (n := (hi - lo).toNat)).mono (fun _ _ => trivial) fun i Ha x Hb hi g' y => ?_
    obtain ⟨e1, e2⟩ := y
    subst e1
    refine ⟨Gr.refl g'.tbs, .int (lo + (i : Nat)), ?_, ?_⟩
    · rw [List.getElem?_map, List.getElem?_range hi]; rfl
    · rw [e2]; rfl
theorem ev_isN0 (ha : EvD T K ta δ H .non) : EvD T K (tOp (fun x y H Q => y = .non ∧ Q (.bl (decide (x = .non))) H) ta (tC .non)) δ H (.bl true) := fun σ H1 g s Q q =>
  ha σ H1 g s _ fun v H2 g2 r => ⟨rfl, by
    cases (show v = .non from r)
    exact q _ H2 g2 rfl⟩
theorem rep_ne {v : V} (r : Rep K H d v) (hd : d ≠ .non) : v ≠ .non := fun z => by
  subst z
  cases d with
  | non => exact hd rfl
  | bl b => cases (show V.non = .bl b from r)
  | int b => cases (show V.non = .int b from r)
  | str b => cases (show V.non = .str b from r)
  | tup ds => obtain ⟨a, xs, e, _⟩ := r; cases e
theorem ev_isNd (ha : EvD T K ta δ H d) (hd : d ≠ .non) : EvD T K (tOp (fun x y H Q => y = .non ∧ Q (.bl (decide (x = .non))) H) ta (tC .non)) δ H (.bl false) := fun σ H1 g s Q q =>
  ha σ H1 g s _ fun v H2 g2 r => ⟨rfl, by
    rw [decide_eq_false (rep_ne r hd)]; exact q _ H2 g2 rfl⟩
theorem ev_notN0 (ha : EvD T K ta δ H .non) : EvD T K (tOp (fun x y H Q => y = .non ∧ Q (.bl (!decide (x = .non))) H) ta (tC .non)) δ H (.bl false) := fun σ H1 g s Q q =>
  ha σ H1 g s _ fun v H2 g2 r => ⟨rfl, by
    cases (show v = .non from r)
    exact q _ H2 g2 rfl⟩
theorem ev_notNd (ha : EvD T K ta δ H d) (hd : d ≠ .non) : EvD T K (tOp (fun x y H Q => y = .non ∧ Q (.bl (!decide (x = .non))) H) ta (tC .non)) δ H (.bl true) := fun σ H1 g s Q q =>
  ha σ H1 g s _ fun v H2 g2 r => ⟨rfl, by
    rw [decide_eq_false (rep_ne r hd)]; exact q _ H2 g2 rfl⟩
theorem ev_conD {v : V} (r : Rep K H d v) : EvD T K (tC v) δ H d := fun σ H1 g _ Q q => q v H1 g.self (r.up g)
/-- a, b = x, y -/
theorem run_par {i j : Nat} {ta : TA} {x y : D} (hT : Tbs T H) (h : EvA T K ta δ H [x, y]) (k : ∀ H1, Gr T [] H H1 → Run K u B ((δ.set i (some (.d x))).set j (some (.d y))) H1) : Run K (tSeq (tPar i j ta) u) B δ H := fun σ s =>
  h σ H (Gr.refl hT) s _ fun vs H1 g1 r => by
    obtain ⟨v, r1, rfl, h1, w, r2, rfl, h2, h3⟩ := r
    cases (show r2 = [] from h3)
    exact ⟨v, w, rfl, k H1 g1 _ (((s.up g1).set i (show SlotOk K H1 (some (.d x)) (some v) from h1)).set j (show SlotOk K H1 (some (.d y)) (some w) from h2))⟩
/-- node, a, b, due = thawed(house), 0, 0, None -/
theorem run_asgTh {i j m n : Nat} {h : House} {lv : Nat} (hT : Tbs T H) (hv : EvD T K tv δ H h.toD) (ok : h.ok) (hd : h.deep < lv)
    (k : ∀ (t : LH) (H1 : Hp), t.house = h → CAt H1 t.cells → (fps t.cells).Nodup → (∀ x ∈ fps t.cells, H x = none) → Gr T [] H H1 →
      Run K u B ((((δ.set i (some (.v t.val))).set j (some (.d (.int 0)))).set m (some (.d (.int 0)))).set n (some (.d .non))) H1) :
    Run K (tSeq (tAsg (tTup (tCons (tCall (spThaw T K lv) [] E (tCons tv tNil)) (tCons (tC (.int 0)) (tCons (tC (.int 0)) (tCons (tC .non) tNil))))) (gTup K 4 (gCons (gName i) (gCons (gName j) (gCons (gName m) (gCons (gName n) gNil)))))) u) B δ H := fun σ s =>
  hv σ H (Gr.refl hT) s _ fun v H1 g1 r => ⟨h, v, rfl, r, ok, hd, g1.tbs, fun t H2 e hC nd nf g2 => by
    have g12 := g1.trans g2
    refine ⟨by show 4 ≤ sizeLine; decide, fun p hp => ?_⟩
    have gp : Gr T [] H2 (upd H2 p (.tup [t.val, .int 0, .int 0, .non])) := Gr.new g2.tbs hp
    refine ⟨p, _, rfl, .inl (.inl upd_same), rfl, t.val, _, rfl, .int 0, _, rfl, .int 0, _, rfl, .non, _, rfl, rfl, ?_⟩
    have gall := g12.trans gp
    refine k t _ e (hC.up gp (fun x _ z => nomatch z)) nd (fun x hx => g1.dom x (nf x hx)) gall _ ?_
    exact ((((s.up gall).set i (show SlotOk K _ (some (.v t.val)) (some t.val) from rfl)).set j (show SlotOk K _ (some (.d (.int 0))) (some (.int 0)) from rfl)).set m (show SlotOk K _ (some (.d (.int 0))) (some (.int 0)) from rfl)).set n (show SlotOk K _ (some (.d .non)) (some .non) from rfl)⟩
/-- if step(node)[0] == "out": .. -/
theorem run_ifstep {t0 : LH} (hT : Tbs T H) (hn : EvV T K tn δ H t0.val) (hC : CAt H t0.cells) (nd : (fps t0.cells).Nodup) (ok : t0.house.ok) (hd : t0.house.deep < 100)
    (k1 : ∀ (t' : LH) (H1 : Hp) (nm : Str), t0.house.step.1.2 = some nm → t'.house = t0.house.step.2 → t'.val = t0.val → fps t'.cells = fps t0.cells → CAt H1 t'.cells → Gr T (fps t0.cells) H H1 → Run K t { B with nx := w B } δ H1)
    (k2 : ∀ (t' : LH) (H1 : Hp), t0.house.step.1.2 = none → t'.house = t0.house.step.2 → t'.val = t0.val → fps t'.cells = fps t0.cells → CAt H1 t'.cells → Gr T (fps t0.cells) H H1 → Run K w B δ H1) :
    Run K (tSeq (tIfS (tTest (tOp rEq (tOp (rIxT K) (tCall (spStep T K) [] E (tCons tn tNil)) (tC (.int 0))) (tC (.str "out")))) t tNext) w) B δ H := fun σ s =>
  hn σ H (Gr.refl hT) s _ fun H1 g1 => ⟨t0, rfl, hC.up g1 (fun x _ z => nomatch z), nd, ok, hd, g1.tbs, fun t' v H2 e1 e2 e3 hC' g2 r => by
    have gg : Gr T (fps t0.cells) H H2 := g1.any.trans g2
    have key : Run K (tSeq (tIfS (tTest (tOp rEq (tOp (rIxT K) (tC v) (tC (.int 0))) (tC (.str "out")))) t tNext) w) B δ H2 := by
      have er : t0.house.step.1 = (t0.house.step.1.1, t0.house.step.1.2) := rfl
      cases hst : t0.house.step.1.2 with
      | some nm =>
        rw [er, hst] at r
        exact run_when g2.tbs ((et_test (ev_eqS (ev_ixT (d := .str "out") (ev_conD r) ev_int (atI_nat (j := 0) rfl)) ev_str)).is (c := true) (by decide)) (fun _ H3 g3 => k1 t' H3 nm hst e1 e2 e3 (hC'.up g3 (fun x _ z => nomatch z)) (gg.trans g3.any)) fun e => nomatch e
      | none =>
        rw [er, hst] at r
        exact run_when g2.tbs ((et_test (ev_eqS (ev_ixT (d := .str "push") (ev_conD r) ev_int (atI_nat (j := 0) rfl)) ev_str)).is (c := false) (by decide)) (fun e => nomatch e) (fun _ H3 g3 => k2 t' H3 hst e1 e2 e3 (hC'.up g3 (fun x _ z => nomatch z)) (gg.trans g3.any))
    exact key σ (s.up gg)⟩
end
end Pd
namespace Pd
open PySem L2
/-! ### clean houses, rounds -/
mutual
def House.clean : House → House
  | .out n => .out n
  | .room hand ds => .room hand ds.clean
def Doors.clean : Doors → Doors
  | .nil => .nil
  | .cons n _ h r => .cons n 0 h.clean r.clean
end
mutual
/-- the fewest leavings of a round -/
def House.R : House → Nat
  | .out _ => 1
  | .room _ ds => ds.len * ds.L 1
def Doors.L : Doors → Nat → Nat
  | .nil, a => a
  | .cons _ _ h r, a => r.L (Nat.lcm a h.R)
end
theorem Doors.len_clean : ∀ ds : Doors, ds.clean.len = ds.len
  | .nil => rfl
  | .cons _ _ _ r => congrArg (· + 1) (Doors.len_clean r)
mutual
theorem House.ok_clean : ∀ h : House, h.ok → h.clean.ok
  | .out _, h => h
  | .room hand ds, ⟨a, b, c, d⟩ => by
    simp only [House.clean, House.ok]
    rw [Doors.len_clean]
    exact ⟨a, b, c, Doors.ok_clean ds d⟩
theorem Doors.ok_clean : ∀ ds : Doors, ds.ok → ds.clean.ok
  | .nil, _ => trivial
  | .cons n s h r, ⟨a, b, c, d, e, f⟩ => ⟨a, b, by omega, by omega, House.ok_clean h e, Doors.ok_clean r f⟩
end
mutual
theorem House.clean_clean : ∀ h : House, h.clean.clean = h.clean
  | .out _ => rfl
  | .room hand ds => by simp only [House.clean]; rw [Doors.clean_clean ds]
theorem Doors.clean_clean : ∀ ds : Doors, ds.clean.clean = ds.clean
  | .nil => rfl
  | .cons n s h r => by simp only [Doors.clean]; rw [House.clean_clean h, Doors.clean_clean r]
end
mutual
theorem House.many_clean : ∀ h : House, h.clean.many = h.many
  | .out _ => rfl
  | .room hand ds => by simp only [House.clean, House.many]; rw [Doors.many_clean ds]
theorem Doors.many_clean : ∀ ds : Doors, ds.clean.many = ds.many
  | .nil => rfl
  | .cons n s h r => by simp only [Doors.clean, Doors.many]; rw [House.many_clean h, Doors.many_clean r]
end
mutual
theorem House.R_clean : ∀ h : House, h.clean.R = h.R
  | .out _ => rfl
  | .room hand ds => by simp only [House.clean, House.R]; rw [Doors.len_clean ds, Doors.L_clean ds]
theorem Doors.L_clean : ∀ (ds : Doors) (a : Nat), ds.clean.L a = ds.L a
  | .nil, _ => rfl
  | .cons n s h r, a => by simp only [Doors.clean, Doors.L]; rw [House.R_clean h, Doors.L_clean r]
end
theorem Doors.dvd_L : ∀ (ds : Doors) (a : Nat), a ∣ ds.L a
  | .nil, a => Nat.dvd_refl a
  | .cons n s h r, a => Nat.dvd_trans (Nat.dvd_lcm_left a h.R) (Doors.dvd_L r _)
mutual
theorem House.R_pos : ∀ h : House, h.ok → 1 ≤ h.R
  | .out _, _ => Nat.le_refl 1
  | .room hand ds, ⟨a, b, c, d⟩ => by
    simp only [House.R]
    have := Doors.L_pos ds 1 d (Nat.le_refl 1)
    exact Nat.mul_pos (by omega) this
theorem Doors.L_pos : ∀ (ds : Doors) (a : Nat), ds.ok → 1 ≤ a → 1 ≤ ds.L a
  | .nil, _, _, h => h
  | .cons n s h r, a, ⟨_, _, _, _, e, f⟩, h1 => Doors.L_pos r _ f (Nat.lcm_pos h1 (House.R_pos h e))
end
theorem lcm_le_mul (m n : Nat) : m.lcm n ≤ m * n := Nat.div_le_self _ _
theorem lt_two_pow' : ∀ n : Nat, n ≤ 2 ^ n
  | 0 => by decide
  | n + 1 => by have := lt_two_pow' n; have : 1 ≤ 2 ^ n := Nat.one_le_two_pow; rw [Nat.pow_succ]; omega
mutual
theorem House.R_le : ∀ h : House, h.R ≤ 2 ^ h.many
  | .out _ => Nat.le_refl 1
  | .room hand ds => by
    simp only [House.R, House.many]
    have a := Doors.L_le ds 1
    rw [Nat.one_mul] at a
    have b := lt_two_pow' ds.len
    exact Nat.le_trans (Nat.mul_le_mul_right _ b) (by rw [Nat.mul_comm]; exact a)
theorem Doors.L_le : ∀ (ds : Doors) (a : Nat), ds.L a * 2 ^ ds.len ≤ a * 2 ^ ds.many
  | .nil, a => Nat.le_refl _
  | .cons n s h r, a => by
    simp only [Doors.L, Doors.len, Doors.many]
    have ih := Doors.L_le r (Nat.lcm a h.R)
    have ih2 := House.R_le h
    have l := lcm_le_mul a h.R
    calc r.L (Nat.lcm a h.R) * 2 ^ (r.len + 1) = (r.L (Nat.lcm a h.R) * 2 ^ r.len) * 2 := by rw [Nat.pow_succ, Nat.mul_assoc]
      _ ≤ (Nat.lcm a h.R * 2 ^ r.many) * 2 := Nat.mul_le_mul_right 2 ih
      _ ≤ ((a * 2 ^ h.many) * 2 ^ r.many) * 2 := Nat.mul_le_mul_right 2 (Nat.mul_le_mul_right _ (Nat.le_trans l (Nat.mul_le_mul_left a ih2)))
      _ = a * 2 ^ (1 + h.many + r.many) := by rw [Nat.pow_add, Nat.pow_add, Nat.pow_one, Nat.mul_assoc, Nat.mul_assoc, Nat.mul_assoc, Nat.mul_comm 2, Nat.mul_assoc]
end
theorem Doors.L_part : ∀ (ds : Doors) (a m : Nat), 1 ≤ a → ds.ok → a ≤ 2 ^ m → ds.L a ≤ 2 ^ (m + ds.many)
  | ds, a, m, a1, ok, h => by
    have := Doors.L_le ds a
    have p : 1 ≤ 2 ^ ds.len := Nat.one_le_two_pow
    calc ds.L a = ds.L a * 1 := by omega
      _ ≤ ds.L a * 2 ^ ds.len := Nat.mul_le_mul_left _ p
      _ ≤ a * 2 ^ ds.many := this
      _ ≤ 2 ^ m * 2 ^ ds.many := Nat.mul_le_mul_right _ h
      _ = _ := by rw [Nat.pow_add]
theorem turns_even {hand len k : Int} (h0 : 0 ≤ hand) (h1 : hand < len) (h4 : len ≤ 4) (k0 : 0 ≤ k) (k1 : k < len) (q : Int) : turns hand len k (len * q) = q := by
  unfold turns
  rw [fmod4 (by omega), fdiv4 (by omega)]
  have : len = 1 ∨ len = 2 ∨ len = 3 ∨ len = 4 := by omega
  rcases this with rfl | rfl | rfl | rfl <;> omega
theorem hand_even {hand len : Int} (h0 : 0 ≤ hand) (h1 : hand < len) (h4 : len ≤ 4) (l : Int) : (hand + l).fmod len = hand ↔ len ∣ l := by
  rw [fmod4 (by omega)]
  have : len = 1 ∨ len = 2 ∨ len = 3 ∨ len = 4 := by omega
  rcases this with rfl | rfl | rfl | rfl <;> constructor <;> intro h <;> omega
mutual
theorem House.per : ∀ (h : House) (l : Nat), h.ok → h.clean = h → (h.BL l = h ↔ h.R ∣ l)
  | .out n, l, _, _ => ⟨fun _ => Nat.one_dvd l, fun _ => rfl⟩
  | .room hand ds, l, ⟨h0, h1, h2, h3⟩, hc => by
    simp only [House.clean, House.room.injEq, true_and] at hc
    simp only [House.BL, House.R, House.room.injEq]
    rw [hand_even h0 h1 (by omega)]
    constructor
    · rintro ⟨a, b⟩
      obtain ⟨q, rfl⟩ := Int.natCast_dvd_natCast.mp a
      rw [Int.natCast_mul] at b
      exact Nat.mul_dvd_mul_left _ ((Doors.per ds hand ds.len 0 1 q h3 hc h0 h1 (by omega) (by omega) (by omega) (Nat.one_dvd q)).mp b)
    · rintro ⟨c, rfl⟩
      refine ⟨Int.natCast_dvd_natCast.mpr ⟨ds.L 1 * c, Nat.mul_assoc _ _ _⟩, ?_⟩
      rw [show ((ds.len * ds.L 1 * c : Nat) : Int) = (ds.len : Int) * ((ds.L 1 * c : Nat) : Int) by rw [Nat.mul_assoc, Int.natCast_mul]]
      exact (Doors.per ds hand ds.len 0 1 (ds.L 1 * c) h3 hc h0 h1 (by omega) (by omega) (by omega) (Nat.one_dvd _)).mpr ⟨c, rfl⟩
theorem Doors.per : ∀ (ds : Doors) (hand len k : Int) (a q : Nat), ds.ok → ds.clean = ds → 0 ≤ hand → hand < len → len ≤ 4 → 0 ≤ k → k + ds.len ≤ len → a ∣ q → (ds.BL hand len k (len * q) = ds ↔ ds.L a ∣ q)
  | .nil, _, _, _, a, q, _, _, _, _, _, _, _, h => ⟨fun _ => h, fun _ => rfl⟩
  | .cons n s h r, hand, len, k, a, q, ⟨_, _, _, _, h5, h6⟩, hc, a1, b1, c1, d1, e1, ha => by
    simp only [Doors.clean, Doors.cons.injEq, true_and] at hc
    simp only [Doors.len] at e1
    obtain ⟨z, c2, c3⟩ := hc
    simp only [Doors.BL, Doors.L, Doors.cons.injEq, true_and]
    rw [turns_even a1 b1 c1 d1 (by omega)]
    have i1 := House.per h q h5 c2
    constructor
    · rintro ⟨_, x, y⟩
      exact (Doors.per r hand len (k + 1) (Nat.lcm a h.R) q h6 c3 a1 b1 c1 (by omega) (by omega) (Nat.lcm_dvd ha (i1.mp x))).mp y
    · intro x
      have l := Nat.dvd_trans (Doors.dvd_L r _) x
      have hR := Nat.dvd_trans (Nat.dvd_lcm_right a h.R) l
      refine ⟨by rw [← z]; simp, i1.mpr hR, ?_⟩
      exact (Doors.per r hand len (k + 1) (Nat.lcm a h.R) q h6 c3 a1 b1 c1 (by omega) (by omega) l).mpr x
end
theorem House.W_rounds {h : House} (ok : h.ok) (hc : h.clean = h) : ∀ t : Nat, h.W ((h.R * t : Nat) : Int) = t * h.W h.R
  | 0 => by have := House.W_zero h ok; simp [this]
  | t + 1 => by
    have ih := House.W_rounds ok hc t
    have a := House.W_add h ((h.R * t : Nat) : Int) (h.R : Int) ok (by omega) (by omega)
    rw [(House.per h (h.R * t) ok hc).mpr ⟨t, rfl⟩] at a
    rw [show ((h.R * (t + 1) : Nat) : Int) = ((h.R * t : Nat) : Int) + (h.R : Int) by rw [Nat.mul_succ]; simp]
    rw [show ((t + 1 : Nat) : Int) * h.W h.R = t * h.W h.R + h.W h.R by rw [Int.natCast_add]; simp [Int.add_mul]]
    omega
/-! ### greater needs -/
mutual
def House.Le : House → House → Prop
  | .out n, .out m => n = m
  | .room a ds, .room b es => a = b ∧ ds.Le es
  | _, _ => False
def Doors.Le : Doors → Doors → Prop
  | .nil, .nil => True
  | .cons n s h r, .cons n' s' h' r' => n ≤ n' ∧ s' ≤ s ∧ h.Le h' ∧ r.Le r'
  | _, _ => False
end
/-! the same hands and names -/
mutual
def House.Sh : House → House → Prop
  | .out n, .out m => n = m
  | .room a ds, .room b es => a = b ∧ ds.Sh es
  | _, _ => False
def Doors.Sh : Doors → Doors → Prop
  | .nil, .nil => True
  | .cons _ _ h r, .cons _ _ h' r' => h.Sh h' ∧ r.Sh r'
  | _, _ => False
end
mutual
theorem House.Le.sh : ∀ {h g : House}, h.Le g → h.Sh g
  | .out _, .out _, e => e
  | .room _ ds, .room _ es, ⟨a, b⟩ => ⟨a, Doors.Le.sh b⟩
theorem Doors.Le.sh : ∀ {h g : Doors}, h.Le g → h.Sh g
  | .nil, .nil, _ => trivial
  | .cons _ _ _ _, .cons _ _ _ _, ⟨_, _, a, b⟩ => ⟨House.Le.sh a, Doors.Le.sh b⟩
end
theorem Doors.Sh.len : ∀ {a b : Doors}, a.Sh b → a.len = b.len
  | .nil, .nil, _ => rfl
  | .cons _ _ _ _, .cons _ _ _ _, ⟨_, h⟩ => congrArg (· + 1) (Doors.Sh.len h)
mutual
theorem House.Sh.R : ∀ {h g : House}, h.Sh g → h.R = g.R
  | .out _, .out _, _ => rfl
  | .room _ ds, .room _ es, ⟨_, b⟩ => by simp only [House.R]; rw [b.len, Doors.Sh.L b 1]
theorem Doors.Sh.L : ∀ {h g : Doors}, h.Sh g → ∀ a, h.L a = g.L a
  | .nil, .nil, _, _ => rfl
  | .cons _ _ _ _, .cons _ _ _ _, ⟨p, q⟩, a => by simp only [Doors.L]; rw [House.Sh.R p, Doors.Sh.L q]
end
mutual
theorem House.Sh.way : ∀ {h g : House}, h.Sh g → ∀ l : Int, h.way l = g.way l
  | .out _, .out _, e, _ => by cases e; rfl
  | .room _ ds, .room _ es, ⟨a, b⟩, l => by
    subst a
    simp only [House.way]
    rw [b.len, Doors.Sh.way b]
theorem Doors.Sh.way : ∀ {h g : Doors}, h.Sh g → ∀ (i : Nat) (l : Int), h.way i l = g.way i l
  | .nil, .nil, _, _, _ => rfl
  | .cons _ _ _ _, .cons _ _ _ _, ⟨p, q⟩, 0, l => by simp only [Doors.way]; exact House.Sh.way p l
  | .cons _ _ _ _, .cons _ _ _ _, ⟨p, q⟩, i + 1, l => by simp only [Doors.way]; exact Doors.Sh.way q i l
end
mutual
theorem House.Sh.LN : ∀ {h g : House}, h.Sh g → ∀ (nm : Str) (l : Int), h.LN nm l = g.LN nm l
  | .out _, .out _, e, _, _ => by cases e; rfl
  | .room _ ds, .room _ es, ⟨a, b⟩, nm, l => by
    subst a
    simp only [House.LN]
    rw [b.len, Doors.Sh.LN b]
theorem Doors.Sh.LN : ∀ {h g : Doors}, h.Sh g → ∀ (nm : Str) (hand len k l : Int), h.LN nm hand len k l = g.LN nm hand len k l
  | .nil, .nil, _, _, _, _, _, _ => rfl
  | .cons _ _ _ _, .cons _ _ _ _, ⟨p, q⟩, nm, hand, len, k, l => by simp only [Doors.LN]; rw [House.Sh.LN p, Doors.Sh.LN q]
end
mutual
theorem House.Sh.has : ∀ {h g : House}, h.Sh g → ∀ nm : Str, h.has nm = g.has nm
  | .out _, .out _, e, _ => by cases e; rfl
  | .room _ ds, .room _ es, ⟨a, b⟩, nm => by simp only [House.has]; rw [Doors.Sh.has b]
theorem Doors.Sh.has : ∀ {h g : Doors}, h.Sh g → ∀ nm : Str, h.has nm = g.has nm
  | .nil, .nil, _, _ => rfl
  | .cons _ _ _ _, .cons _ _ _ _, ⟨p, q⟩, nm => by simp only [Doors.has]; rw [House.Sh.has p, Doors.Sh.has q]
end
mutual
theorem House.Le.clean : ∀ {h g : House}, h.Le g → h.clean.Le g.clean
  | .out _, .out _, e => e
  | .room _ ds, .room _ es, ⟨a, b⟩ => ⟨a, Doors.Le.clean b⟩
theorem Doors.Le.clean : ∀ {h g : Doors}, h.Le g → h.clean.Le g.clean
  | .nil, .nil, _ => trivial
  | .cons _ _ _ _, .cons _ _ _ _, ⟨a, _, b, c⟩ => ⟨a, Int.le_refl _, House.Le.clean b, Doors.Le.clean c⟩
end
mutual
theorem House.Le.W : ∀ {h g : House}, h.Le g → h.ok → ∀ l : Int, 0 ≤ l → h.W l ≤ g.W l
  | .out _, .out _, e, _, l, _ => by cases e; exact Int.le_refl _
  | .room _ ds, .room _ es, ⟨a, b⟩, ⟨h0, h1, h2, h3⟩, l, l0 => by
    subst a
    simp only [House.W]
    rw [← b.sh.len]
    exact Doors.Le.W b _ _ 0 l h3 h0 h1 (by omega) (by omega) (by omega) l0
theorem Doors.Le.W : ∀ {h g : Doors}, h.Le g → ∀ (hand len k l : Int), h.ok → 0 ≤ hand → hand < len → len ≤ 4 → 0 ≤ k → k + h.len ≤ len → 0 ≤ l → h.W hand len k l ≤ g.W hand len k l
  | .nil, .nil, _, _, _, _, _, _, _, _, _, _, _, _ => Int.le_refl _
  | .cons n s h r, .cons n' s' h' r', ⟨a, b, c, d⟩, hand, len, k, l, ⟨o1, o2, o3, o4, o5, o6⟩, a1, b1, c1, d1, e1, l0 => by
    simp only [Doors.len] at e1
    simp only [Doors.W]
    have ih := Doors.Le.W d hand len (k + 1) l o6 a1 b1 c1 (by omega) (by omega) l0
    have t0 := turns_nonneg a1 b1 c1 d1 (by omega) l0
    have ih2 := House.Le.W c o5 _ t0
    split
    · have := Int.mul_le_mul_of_nonneg_left a t0
      omega
    · omega
end
theorem House.Le.left {h g : House} (le : h.Le g) (o : h.ok) (o' : g.ok) {n L M : Int} (a : IsL h n L) (b : IsL g n M) : M ≤ L := by
  obtain ⟨a0, a1, a2⟩ := a
  obtain ⟨b0, b1, b2⟩ := b
  by_cases c : L < M
  · have x := le.W o (L + 1) (by omega)
    by_cases d : L + 1 = M
    · rw [d] at a2 x; omega
    · have := House.W_lt o' (l := L + 1) (m := M) (by omega) (by omega); omega
  · omega
/-! ### the round of a clean house by walking -/
theorem first_round {h : House} (ok : h.ok) (hc : h.clean = h) (i : Nat) {nm : Str} (e : (House.iter i h).step.1.2 = some nm) :
    House.iter (i + 1) h = h ↔ (h.R : Int) ∣ House.outs (i + 1) h := by
  obtain ⟨a, b, _, _, l0⟩ := walk_out ok i e
  obtain ⟨isL, itE⟩ := iter_is ok (i + 1)
  rw [itE]
  unfold behindW
  rw [a, show ((i + 1 : Nat) : Int) - h.W (House.outs i h + 1) = 0 by omega, House.BP_zero _ (House.ok_BL h _ ok (by omega))]
  have := House.per h (House.outs i h + 1).toNat ok hc
  rw [show (((House.outs i h + 1).toNat : Nat) : Int) = House.outs i h + 1 by omega] at this
  rw [this]
  constructor
  · intro z
    have := Int.natCast_dvd_natCast.mpr z
    rwa [show (((House.outs i h + 1).toNat : Nat) : Int) = House.outs i h + 1 by omega] at this
  · intro z
    apply Int.natCast_dvd_natCast.mp
    rwa [show (((House.outs i h + 1).toNat : Nat) : Int) = House.outs i h + 1 by omega]
end Pd
namespace Pd
open PySem L2
/-! ### on from anywhere -/
theorem House.iter_add : ∀ (n k : Nat) (h : House), House.iter (n + k) h = House.iter k (House.iter n h)
  | n, 0, h => rfl
  | n, k + 1, h => by
    show (House.iter (n + k) h).step.2 = (House.iter k (House.iter n h)).step.2
    rw [House.iter_add n k h]
theorem House.outs_add : ∀ (n k : Nat) (h : House), House.outs (n + k) h = House.outs n h + House.outs k (House.iter n h)
  | n, 0, h => by show House.outs n h = House.outs n h + 0; omega
  | n, k + 1, h => by
    show House.outs (n + k) h + (if (House.iter (n + k) h).step.1.2 = none then 0 else 1) = House.outs n h + (House.outs k (House.iter n h) + (if (House.iter k (House.iter n h)).step.1.2 = none then 0 else 1))
    rw [House.outs_add n k h, House.iter_add n k h]
    omega
theorem PCn_add {h : House} (ok : h.ok) (p : List Int) (n : Nat) : ∀ k : Nat, h.PCn p (n + k) = h.PCn p n + (House.iter n h).PCn p k
  | 0 => by rw [PCn_zero (House.iter_ok n h ok)]; simp
  | k + 1 => by
    have ih := PCn_add ok p n k
    have okn := House.iter_ok n h ok
    have ei : House.iter (n + k) h = House.iter k (House.iter n h) := House.iter_add n k h
    rw [show n + (k + 1) = n + k + 1 by omega]
    cases e : (House.iter (n + k) h).step.1.2 with
    | none =>
      have a := (walk_push ok (n + k) e).2.1 p
      have b := (walk_push okn k (by rw [← ei]; exact e)).2.1 p
      rw [a, b, ih, ei]
      omega
    | some nm =>
      have a := (walk_out ok (n + k) e).2.2.2.1 p
      have b := (walk_out okn k (nm := nm) (by rw [← ei]; exact e)).2.2.2.1 p
      omega
/-- the l-th leaving, asked behind n walkers -/
theorem House.leav_on {h : House} (ok : h.ok) (n : Nat) {l : Int} (l1 : 1 ≤ l) : h.W (House.outs n h + l) = n + (House.iter n h).W l ∧ h.way (House.outs n h + l) = (House.iter n h).way l := by
  have okn := House.iter_ok n h ok
  obtain ⟨w0, isL, hst⟩ := House.leav_is okn l1
  obtain ⟨m, hm⟩ := Int.eq_ofNat_of_zero_le w0
  rw [hm] at isL hst
  obtain ⟨isM, itM⟩ := iter_is okn m
  have eo := isM.uniq okn isL
  rw [eo] at itM
  rw [← itM] at hst
  have ei : House.iter (n + m) h = House.iter m (House.iter n h) := House.iter_add n m h
  have e2 : (House.iter (n + m) h).step.1.2 = some ((House.iter n h).way l).2 := by rw [ei, hst]
  obtain ⟨a1, a2, a3, _, _⟩ := walk_out ok (n + m) e2
  rw [House.outs_add, eo, show House.outs n h + (l - 1) + 1 = House.outs n h + l by omega] at a2 a3
  refine ⟨by omega, ?_⟩
  rw [a3, ei, hst]
mutual
theorem Doors.step_shape : ∀ (ds : Doors) (i j : Nat), ((ds.step i).2.get? j).isSome = (ds.get? j).isSome
  | .nil, _, _ => rfl
  | .cons n s h r, 0, 0 => by unfold Doors.step; split <;> rfl
  | .cons n s h r, 0, j + 1 => by unfold Doors.step; split <;> rfl
  | .cons n s h r, i + 1, 0 => rfl
  | .cons n s h r, i + 1, j + 1 => Doors.step_shape r i j
end
/-- a push's number by the walker who makes it -/
theorem wk_of {h : House} (ok : h.ok) (i : Nat) {p : List Int} (e : (House.iter i h).step.1 = (p, none)) : h.wk p (h.PCn p i + 1) = i := by
  have e2 : (House.iter i h).step.1.2 = none := by rw [e]
  obtain ⟨_, _, a, _⟩ := walk_push ok i e2
  rw [e] at a
  unfold House.wk
  rw [a]
  show h.W (House.outs i h + 1 - 1) + _ = _
  rw [show House.outs i h + 1 - 1 = House.outs i h by omega]
  omega
theorem push_on {h x : House} (ok : h.ok) (n : Nat) {p : List Int} {m : Int} (hat : (House.iter n h).at? p = some x) (hne : p ≠ []) (m1 : 1 ≤ m) : h.wk p (h.PCn p n + m) = n + (House.iter n h).wk p m := by
  have okn := House.iter_ok n h ok
  obtain ⟨w0, isL, hst, hp⟩ := House.wk_is okn hat hne m1
  obtain ⟨j, hj⟩ := Int.eq_ofNat_of_zero_le w0
  rw [hj] at isL hst hp
  rw [hj]
  obtain ⟨isM, itM⟩ := iter_is okn j
  rw [isM.uniq okn isL] at itM
  rw [← itM, ← House.iter_add] at hst
  have := wk_of ok (n + j) hst
  rw [PCn_add ok, show ((j : Int)).toNat = j by omega] at *
  rw [hp] at this
  rw [show h.PCn p n + (m - 1) + 1 = h.PCn p n + m by omega] at this
  rw [this]
  omega
/-- pushes by the first n walkers -/
theorem wk_below {h x : House} (ok : h.ok) (n : Nat) {p : List Int} {m : Int} (hat : h.at? p = some x) (hne : p ≠ []) (m1 : 1 ≤ m) : h.wk p m < n ↔ m ≤ h.PCn p n := by
  obtain ⟨w0, isL, hst, hp⟩ := House.wk_is ok hat hne m1
  obtain ⟨j, hj⟩ := Int.eq_ofNat_of_zero_le w0
  rw [hj] at isL hst hp
  rw [hj]
  rw [show ((j : Int)).toNat = j by omega] at hp
  obtain ⟨isM, itM⟩ := iter_is ok j
  rw [isM.uniq ok isL] at itM
  rw [← itM] at hst
  have hs := (walk_push ok j (by rw [hst])).2.1 p
  rw [hst] at hs
  simp only [if_true] at hs
  constructor
  · intro l
    have := PCn_le2 ok p (i := j + 1) (j := n) (by omega)
    omega
  · intro l
    apply Classical.byContradiction
    intro c
    have := PCn_le2 ok p (i := n) (j := j) (by omega)
    omega
/-! the rooms keep their places -/
mutual
theorem House.at_step : ∀ (h : House) (p : List Int), (h.step.2.at? p).isSome = (h.at? p).isSome
  | .out n, p => rfl
  | .room hand ds, [] => by rw [House.at_nil, House.at_nil]; rfl
  | .room hand ds, a :: r => by
    simp only [House.step]
    rw [House.at?, House.at?]
    by_cases c : 0 ≤ a
    · rw [if_pos c, if_pos c]
      exact Doors.at_step ds hand.toNat a.toNat r
    · rw [if_neg c, if_neg c]
theorem Doors.at_step : ∀ (ds : Doors) (i j : Nat) (r : List Int), (match (ds.step i).2.get? j with
    | none => none
    | some x => x.2.2.at? r : Option House).isSome = (match ds.get? j with
    | none => none
    | some x => x.2.2.at? r : Option House).isSome
  | .nil, _, _, _ => rfl
  | .cons n s h q, 0, 0, r => by
    unfold Doors.step
    by_cases c : s < n
    · rw [if_pos c]; rfl
    · rw [if_neg c]; exact House.at_step h r
  | .cons n s h q, 0, j + 1, r => by
    unfold Doors.step
    by_cases c : s < n
    · rw [if_pos c]; rfl
    · rw [if_neg c]; rfl
  | .cons n s h q, i + 1, 0, r => rfl
  | .cons n s h q, i + 1, j + 1, r => Doors.at_step q i j r
end
theorem House.at_iter (h : House) (p : List Int) : ∀ n : Nat, ((House.iter n h).at? p).isSome = (h.at? p).isSome
  | 0 => rfl
  | n + 1 => (House.at_step (House.iter n h) p).trans (House.at_iter h p n)
/-! ### a room behind a door goes as a house of its own -/
/-- of the first i walkers those who come into the room behind door k -/
def House.into (k : Nat) (h : House) : Nat → Nat
  | 0 => 0
  | i + 1 => House.into k h i + (if (House.iter i h).step.1.1.head? = some (k : Int) ∧ ((House.iter i h).step.1.2 ≠ none ∨ 1 < (House.iter i h).step.1.1.length) then 1 else 0)
def House.in? (k : Nat) : House → Option House
  | .out _ => none
  | .room _ ds => (ds.get? k).map (·.2.2)
theorem Doors.step_at : ∀ (ds : Doors) (i : Nat) {n s : Int} {h : House}, ds.get? i = some (n, s, h) → ds.step i = if s < n then (([], none), ds.set i n (s + 1) h) else (h.step.1, ds.set i n (if h.step.1.2 = none then s else 0) h.step.2)
  | .nil, _, _, _, _, e => nomatch e
  | .cons _ _ _ r, 0, _, _, _, e => by cases e; rfl
  | .cons _ _ _ r, i + 1, _, _, _, e => by
    simp only [Doors.step, Doors.set]
    rw [Doors.step_at r i e]
    split <;> rfl
theorem Doors.get_set : ∀ (ds : Doors) (i j : Nat) (n s : Int) (h : House), i < ds.len → (ds.set i n s h).get? j = if i = j then some (n, s, h) else ds.get? j
  | .nil, _, _, _, _, _, l => absurd l (Nat.not_lt_zero _)
  | .cons _ _ _ _, 0, 0, _, _, _, _ => rfl
  | .cons _ _ _ _, 0, j + 1, _, _, _, _ => rfl
  | .cons _ _ _ _, i + 1, 0, _, _, _, _ => rfl
  | .cons _ _ _ r, i + 1, j + 1, n, s, h, l => by
    simp only [Doors.set, Doors.get?]
    rw [Doors.get_set r i j n s h (Nat.lt_of_succ_lt_succ l)]
    by_cases z : i = j
    · rw [if_pos z, if_pos (by omega)]
    · rw [if_neg z, if_neg (by omega)]
/-- one walker -/
theorem own_step {k : Nat} {h x : House} (ok : h.ok) (hx : h.in? k = some x) :
    (h.step.1.1.head? = some (k : Int) ∧ (h.step.1.2 ≠ none ∨ 1 < h.step.1.1.length) ∧ h.step.1 = ((k : Int) :: x.step.1.1, x.step.1.2) ∧ h.step.2.in? k = some x.step.2) ∨
    (¬ (h.step.1.1.head? = some (k : Int) ∧ (h.step.1.2 ≠ none ∨ 1 < h.step.1.1.length)) ∧ h.step.2.in? k = some x) := by
  cases h with
  | out n => cases hx
  | room hand ds =>
    obtain ⟨h0, h1, h2, h3⟩ := ok
    obtain ⟨n, s, hh, he⟩ := ds.get_some hand.toNat (by omega)
    have hst := Doors.step_at ds hand.toNat he
    have hlt : hand.toNat < ds.len := by omega
    have hx' : (ds.get? k).map (·.2.2) = some x := hx
    simp only [House.step, House.in?]
    by_cases c : hand.toNat = k
    · have hk : hand = (k : Int) := by omega
      rw [← c, he] at hx'
      cases hx'
      by_cases cs : s < n
      · right
        rw [hst, if_pos cs]
        refine ⟨fun z => ?_, ?_⟩
        · rcases z.2 with y | y
          · exact y rfl
          · simp at y
        · rw [Doors.get_set _ _ _ _ _ _ hlt, if_pos c]; rfl
      · left
        rw [hst, if_neg cs]
        refine ⟨by rw [hk]; rfl, ?_, by rw [hk], ?_⟩
        · cases hn : hh.step.1.2 with
          | none =>
            right
            have := House.step_ne hh hn
            show 1 < hh.step.1.1.length + 1
            have : 0 < hh.step.1.1.length := List.length_pos_iff.mpr this
            omega
          | some nm => left; simp
        · rw [Doors.get_set _ _ _ _ _ _ hlt, if_pos c]; rfl
    · right
      refine ⟨fun z => ?_, ?_⟩
      · have := z.1
        simp only [List.head?_cons, Option.some.injEq] at this
        omega
      · rw [hst]
        by_cases cs : s < n
        · rw [if_pos cs, Doors.get_set _ _ _ _ _ _ hlt, if_neg c]; exact hx'
        · rw [if_neg cs, Doors.get_set _ _ _ _ _ _ hlt, if_neg c]; exact hx'
theorem own_iter {k : Nat} {h x : House} (ok : h.ok) (hx : h.in? k = some x) : ∀ i : Nat, (House.iter i h).in? k = some (House.iter (House.into k h i) x)
  | 0 => hx
  | i + 1 => by
    have ih := own_iter ok hx i
    rcases own_step (House.iter_ok i h ok) ih with ⟨a, b, c, d⟩ | ⟨a, d⟩
    · simp only [House.into, House.iter]
      rw [if_pos ⟨a, b⟩]
      exact d
    · simp only [House.into, House.iter]
      rw [if_neg a]
      exact d
theorem into_le (k : Nat) (h : House) : ∀ i : Nat, House.into k h i ≤ i
  | 0 => Nat.le_refl 0
  | i + 1 => by
    have := into_le k h i
    simp only [House.into]
    split <;> omega
end Pd
namespace Pd
open PySem L2
/-! ### sums -/
def sumI {α : Type} (l : List α) (f : α → Int) : Int := (l.map f).sum
theorem sumI_nil {α : Type} (f : α → Int) : sumI [] f = 0 := rfl
theorem sumI_cons {α : Type} (a : α) (l : List α) (f : α → Int) : sumI (a :: l) f = f a + sumI l f := by
  unfold sumI
  rw [List.map_cons, List.sum_cons]
theorem sumI_app {α : Type} (f : α → Int) : ∀ a b : List α, sumI (a ++ b) f = sumI a f + sumI b f
  | [], b => by rw [List.nil_append, sumI_nil]; omega
  | x :: a, b => by rw [List.cons_append, sumI_cons, sumI_cons, sumI_app f a b]; omega
theorem sumI_add {α : Type} (f g : α → Int) : ∀ l : List α, sumI l (fun x => f x + g x) = sumI l f + sumI l g
  | [] => rfl
  | x :: l => by rw [sumI_cons, sumI_cons, sumI_cons, sumI_add f g l]; omega
theorem sumI_zero {α : Type} (f : α → Int) : ∀ l : List α, (∀ x ∈ l, f x = 0) → sumI l f = 0
  | [], _ => rfl
  | x :: l, h => by rw [sumI_cons, h x (by simp), sumI_zero f l fun y hy => h y (by simp [hy])]; omega
theorem sumI_congr {α : Type} (f g : α → Int) : ∀ l : List α, (∀ x ∈ l, f x = g x) → sumI l f = sumI l g
  | [], _ => rfl
  | x :: l, h => by rw [sumI_cons, sumI_cons, h x (by simp), sumI_congr f g l fun y hy => h y (by simp [hy])]
/-! ### each door's path stands once -/
def Doors.atd (ds : Doors) (i : Nat) (r : List Int) : Option House := (ds.get? i).bind fun x => x.2.2.at? r
theorem House.at_atd (hand : Int) (ds : Doors) (a : Int) (r : List Int) : (House.room hand ds).at? (a :: r) = if 0 ≤ a then ds.atd a.toNat r else none := by
  rw [House.at?]
  unfold Doors.atd
  cases ds.get? a.toNat <;> rfl
theorem pre_ne (p : List Int) (a b : Int) (r s : List Int) (h : a ≠ b) : p ++ a :: r ≠ p ++ b :: s := fun z => by
  have := List.append_cancel_left z
  exact h (List.cons.inj this).1
mutual
theorem House.paths_cnt : ∀ (h : House) (p q : List Int), sumI (h.paths p) (fun x => if x = p ++ q then 1 else 0) = if q ≠ [] ∧ (h.at? q).isSome = true then 1 else 0
  | .out n, p, [] => by simp [House.paths, sumI]
  | .out n, p, a :: r => by rw [House.at_out]; simp [House.paths, sumI]
  | .room hand ds, p, [] => by
    simp only [House.paths]
    rw [if_neg (by simp)]
    refine sumI_zero _ _ fun x hx => ?_
    obtain ⟨i, r, n, s, hh, y, e, _, _⟩ := Doors.paths_at ds p 0 x hx
    rw [if_neg fun z => by rw [z, List.append_nil] at e; simp at e]
  | .room hand ds, p, a :: r => by
    simp only [House.paths]
    have := Doors.paths_cnt ds p 0 a r
    rw [this]
    rw [House.at_atd]
    by_cases c : 0 ≤ a
    · rw [if_pos c]
      have e : ((0 : Nat) : Int) ≤ a := by omega
      simp only [e, true_and, ne_eq, reduceCtorEq, not_false_eq_true, show a - ((0 : Nat) : Int) = a by omega]
    · rw [if_neg c, if_neg fun z => c (by omega), if_neg (by simp)]
theorem Doors.paths_cnt : ∀ (ds : Doors) (p : List Int) (k : Nat) (a : Int) (r : List Int), sumI (ds.paths p k) (fun x => if x = p ++ a :: r then 1 else 0) = if (k : Int) ≤ a ∧ (ds.atd (a - k).toNat r).isSome = true then 1 else 0
  | .nil, p, k, a, r => by simp [Doors.paths, sumI, Doors.atd, Doors.get?]
  | .cons n s h q, p, k, a, r => by
    simp only [Doors.paths]
    rw [sumI_cons, sumI_app, Doors.paths_cnt q p (k + 1) a r]
    by_cases c : a = (k : Int)
    · subst c
      have ih := House.paths_cnt h (p ++ [(k : Int)]) r
      rw [List.append_assoc] at ih
      have ih' : sumI (h.paths (p ++ [(k : Int)])) (fun x => if x = p ++ (k : Int) :: r then 1 else 0) = if r ≠ [] ∧ (h.at? r).isSome = true then 1 else 0 := ih
      rw [ih', if_neg (show ¬ (((k + 1 : Nat) : Int) ≤ (k : Int) ∧ _) from fun z => by have := z.1; omega)]
      have e : ((k : Int) - (k : Int)).toNat = 0 := by omega
      rw [e]
      show _ = if (k : Int) ≤ k ∧ (h.at? r).isSome = true then 1 else 0
      by_cases er : r = []
      · subst er
        rw [House.at_nil, if_pos rfl, if_neg (by simp), if_pos ⟨Int.le_refl _, rfl⟩]; rfl
      · rw [if_neg fun z => er (by have := List.append_cancel_left z; exact ((List.cons.inj this).2).symm)]
        by_cases eh : (h.at? r).isSome = true
        · rw [if_pos ⟨er, eh⟩, if_pos ⟨Int.le_refl _, eh⟩]; rfl
        · rw [if_neg fun z => eh z.2, if_neg fun z => eh z.2]; rfl
    · rw [if_neg (show ¬ p ++ [(k : Int)] = p ++ a :: r from pre_ne p _ _ _ _ fun z => c z.symm)]
      rw [sumI_zero _ (h.paths (p ++ [(k : Int)])) fun x hx => by
        obtain ⟨r', y, e, _, _⟩ := House.paths_at h (p ++ [(k : Int)]) x hx
        rw [if_neg fun z => by rw [e, List.append_assoc] at z; exact pre_ne p _ _ _ _ (fun z => c z.symm) z]]
      by_cases l : ((k + 1 : Nat) : Int) ≤ a
      · have e : (a - (k : Int)).toNat = (a - ((k + 1 : Nat) : Int)).toNat + 1 := by omega
        rw [e]
        have l2 : (k : Int) ≤ a := by omega
        have e3 : (Doors.cons n s h q).atd ((a - ((k + 1 : Nat) : Int)).toNat + 1) r = q.atd (a - ((k + 1 : Nat) : Int)).toNat r := rfl
        rw [e3]
        by_cases z : (q.atd (a - ((k + 1 : Nat) : Int)).toNat r).isSome = true
        · rw [if_pos ⟨l, z⟩, if_pos ⟨l2, z⟩]; rfl
        · rw [if_neg fun y => z y.2, if_neg fun y => z y.2]; rfl
      · rw [if_neg fun z => l z.1, if_neg fun z => by have := z.1; omega]; rfl
end
/-- all pushes and all leavings come to all walkers -/
theorem push_or_leave {h : House} (ok : h.ok) : ∀ i : Nat, sumI (h.paths []) (fun p => h.PCn p i) + House.outs i h = i
  | 0 => by
    rw [sumI_zero _ _ fun p _ => PCn_zero ok p]; rfl
  | i + 1 => by
    have ih := push_or_leave ok i
    cases e : (House.iter i h).step.1.2 with
    | none =>
      obtain ⟨w1, w2, _, w4, w5, _⟩ := walk_push ok i e
      have hc := House.paths_cnt h [] (House.iter i h).step.1.1
      rw [if_pos ⟨w5, w4⟩] at hc
      have : sumI (h.paths []) (fun p => h.PCn p (i + 1)) = sumI (h.paths []) (fun p => h.PCn p i) + sumI (h.paths []) (fun p => if p = [] ++ (House.iter i h).step.1.1 then 1 else 0) := by
        rw [← sumI_add]
        exact sumI_congr _ _ _ fun p _ => w2 p
      rw [this, hc, w1]
      omega
    | some nm =>
      obtain ⟨w1, _, _, w4, _⟩ := walk_out ok i e
      rw [w1, sumI_congr _ (fun p => h.PCn p i) _ fun p _ => w4 p]
      omega
/-! ### names -/
mutual
def House.names : House → List Str
  | .out n => [n]
  | .room _ ds => ds.names []
def Doors.names : Doors → List Str → List Str
  | .nil, a => a
  | .cons _ _ h r, a => r.names (a ++ h.names.filter fun x => !decide (x ∈ a))
end
mutual
theorem House.names_mem : ∀ (h : House) (nm : Str), nm ∈ h.names ↔ h.has nm = true
  | .out n, nm => by simp [House.names, House.has, eq_comm]
  | .room _ ds, nm => by simp [House.names, House.has, Doors.names_mem ds [] nm]
theorem Doors.names_mem : ∀ (ds : Doors) (a : List Str) (nm : Str), nm ∈ ds.names a ↔ nm ∈ a ∨ ds.has nm = true
  | .nil, a, nm => by simp [Doors.names, Doors.has]
  | .cons _ _ h r, a, nm => by
    simp only [Doors.names, Doors.has]
    rw [Doors.names_mem r, List.mem_append, List.mem_filter, House.names_mem h]
    by_cases z : nm ∈ a <;> simp [z, or_assoc]
end
mutual
theorem House.names_nd : ∀ h : House, h.names.Nodup
  | .out n => by simp [House.names]
  | .room _ ds => Doors.names_nd ds [] List.nodup_nil
theorem Doors.names_nd : ∀ (ds : Doors) (a : List Str), a.Nodup → (ds.names a).Nodup
  | .nil, a, n => n
  | .cons _ _ h r, a, n => by
    simp only [Doors.names]
    refine Doors.names_nd r _ (List.nodup_append.mpr ⟨n, (House.names_nd h).filter _, fun x hx y hy z => ?_⟩)
    subst z
    have := (List.mem_filter.mp hy).2
    simp [hx] at this
end
mutual
theorem House.names_len : ∀ h : House, h.ok → h.names.length ≤ 1 + h.many
  | .out n, _ => by simp [House.names]
  | .room _ ds, ⟨_, _, _, o⟩ => by
    have := Doors.names_len ds [] o
    simp only [House.names, House.many]
    simp at this
    omega
theorem Doors.names_len : ∀ (ds : Doors) (a : List Str), ds.ok → (ds.names a).length ≤ a.length + ds.many
  | .nil, a, _ => Nat.le_refl _
  | .cons _ _ h r, a, ⟨_, _, _, _, o5, o6⟩ => by
    simp only [Doors.names, Doors.many]
    have i1 := Doors.names_len r (a ++ h.names.filter fun x => !decide (x ∈ a)) o6
    have i2 := House.names_len h o5
    have i3 := List.length_filter_le (fun x => !decide (x ∈ a)) h.names
    rw [List.length_append] at i1
    omega
end
theorem sumI_one {x : Str} : ∀ l : List Str, l.Nodup → x ∈ l → sumI l (fun y => if x = y then 1 else 0) = 1
  | y :: l, nd, m => by
    obtain ⟨n1, n2⟩ := List.nodup_cons.mp nd
    rw [sumI_cons]
    by_cases c : x = y
    · subst c
      rw [if_pos rfl, sumI_zero _ _ fun z hz => if_neg fun e => n1 (by rw [e]; exact hz)]
      rfl
    · rw [if_neg c, sumI_one l n2 ((List.mem_cons.mp m).resolve_left c)]
      rfl
theorem names_total {h : House} (ok : h.ok) : ∀ l : Nat, sumI h.names (fun nm => h.LN nm l) = l
  | 0 => sumI_zero _ _ fun nm _ => House.LN_zero h nm ok
  | l + 1 => by
    have ih := names_total ok l
    have e : sumI h.names (fun nm => h.LN nm ((l + 1 : Nat) : Int)) = sumI h.names (fun nm => h.LN nm l) + sumI h.names (fun nm => if (h.way ((l : Int) + 1)).2 = nm then 1 else 0) := by
      rw [← sumI_add]
      exact sumI_congr _ _ _ fun nm _ => House.LN_succ h nm l ok (by omega)
    rw [e, ih, sumI_one _ (House.names_nd h) ((House.names_mem h _).mpr (House.way_has h _ ok))]
    omega
/-! ### rounds of a clean house -/
theorem IsL.at {h : House} (ok : h.ok) {l : Int} (l0 : 0 ≤ l) : IsL h (h.W l) l := ⟨l0, Int.le_refl _, House.W_lt ok l0 (by omega)⟩
theorem IsL.before {h : House} (ok : h.ok) {l : Int} (l1 : 1 ≤ l) : IsL h (h.W l - 1) (l - 1) := (House.leav_is ok l1).2.1
theorem behind_at {h : House} (ok : h.ok) {l : Int} (l0 : 0 ≤ l) : behindW h (h.W l) l = h.BL l := by
  unfold behindW
  rw [Int.sub_self]
  exact House.BP_zero _ (House.ok_BL h l ok l0)
theorem House.way_add {h : House} (ok : h.ok) {l m : Int} (l0 : 0 ≤ l) (m1 : 1 ≤ m) : (h.BL l).way m = h.way (l + m) := by
  have w0 : 0 ≤ h.W l := Int.le_trans l0 (House.W_ge ok l0)
  obtain ⟨n, hn⟩ := Int.eq_ofNat_of_zero_le w0
  obtain ⟨isN, itN⟩ := iter_is ok n
  have hl := IsL.at ok l0
  rw [hn] at hl
  have eo := isN.uniq ok hl
  have := (House.leav_on ok n (l := m) m1).2
  rw [eo, itN, eo, ← hn, behind_at ok l0] at this
  exact this.symm
theorem House.LN_add {h : House} (ok : h.ok) (nm : Str) {l : Int} (l0 : 0 ≤ l) : ∀ m : Nat, h.LN nm (l + m) = h.LN nm l + (h.BL l).LN nm m
  | 0 => by
    have := House.LN_zero (h.BL l) nm (House.ok_BL h l ok l0)
    simp [this]
  | m + 1 => by
    have ih := House.LN_add ok nm l0 m
    have a := House.LN_succ h nm (l + m) ok (by omega)
    have b := House.LN_succ (h.BL l) nm m (House.ok_BL h l ok l0) (by omega)
    rw [House.way_add ok l0 (by omega)] at b
    rw [show l + ((m + 1 : Nat) : Int) = l + m + 1 by omega, a, ih, show ((m + 1 : Nat) : Int) = (m : Int) + 1 by omega, b, show l + ((m : Int) + 1) = l + m + 1 by omega]
    omega
theorem House.LN_rounds {h : House} (ok : h.ok) (hc : h.clean = h) (nm : Str) : ∀ t : Nat, h.LN nm ((h.R * t : Nat) : Int) = t * h.LN nm h.R
  | 0 => by have := House.LN_zero h nm ok; simp [this]
  | t + 1 => by
    have ih := House.LN_rounds ok hc nm t
    have a := House.LN_add ok nm (l := ((h.R * t : Nat) : Int)) (by omega) h.R
    rw [(House.per h (h.R * t) ok hc).mpr ⟨t, rfl⟩] at a
    rw [show ((h.R * (t + 1) : Nat) : Int) = ((h.R * t : Nat) : Int) + (h.R : Int) by rw [Nat.mul_succ]; simp]
    rw [show ((t + 1 : Nat) : Int) * h.LN nm h.R = t * h.LN nm h.R + h.LN nm h.R by rw [Int.natCast_add]; simp [Int.add_mul]]
    omega
/-! ### who comes ahead of a walker -/
theorem leav_below {h : House} (ok : h.ok) {n L k : Int} (isL : IsL h n L) (k1 : 1 ≤ k) : h.W k - 1 < n ↔ k ≤ L := by
  obtain ⟨a, b, c⟩ := isL
  constructor
  · intro l
    apply Classical.byContradiction
    intro z
    by_cases e : L + 1 = k
    · rw [e] at c; omega
    · have := House.W_lt ok (l := L + 1) (m := k) (by omega) (by omega)
      omega
  · intro l
    by_cases e : k = L
    · rw [e]; omega
    · have := House.W_lt ok (l := k) (m := L) (by omega) (by omega)
      omega
theorem named_below {h : House} (ok : h.ok) {nm : Str} {n L k M : Int} (isL : IsL h n L) (isN : IsN h nm k M) : h.W M - 1 < n ↔ k ≤ h.LN nm L := by
  obtain ⟨a, b, c⟩ := isN
  rw [leav_below ok isL a]
  have l0 := isL.1
  constructor
  · intro l
    have := House.LN_le ok nm (l := M) (m := L) (by omega) l
    omega
  · intro l
    apply Classical.byContradiction
    intro z
    have := House.LN_le ok nm (l := L) (m := M - 1) l0 (by omega)
    omega
end Pd
namespace Pd
open PySem L2
/-! ### two houses told apart -/
theorem turns_ge {hand len k l q : Int} (h0 : 0 ≤ hand) (h1 : hand < len) (h4 : len ≤ 4) (k0 : 0 ≤ k) (k1 : k < len) (q0 : 0 ≤ q) (h : len * q ≤ l) : q ≤ turns hand len k l := by
  have e := turns_even h0 h1 h4 k0 k1 q
  have hq : 0 ≤ len * q := Int.mul_nonneg (by omega) q0
  have a := turns_add h0 h1 h4 k0 k1 (l := len * q) (m := l - len * q) hq (by omega)
  rw [e, show len * q + (l - len * q) = l by omega] at a
  have hm : (hand + len * q).fmod len = hand := (hand_even h0 h1 h4 _).mpr ⟨q, rfl⟩
  rw [hm] at a
  have b := turns_nonneg h0 h1 h4 k0 k1 (l := l - len * q) (by omega)
  omega
mutual
theorem House.BL_clean : ∀ (h : House) (l : Int), h.ok → (h.R : Int) ≤ l → (h.BL l).clean = h.BL l
  | .out _, _, _, _ => rfl
  | .room hand ds, l, ⟨h0, h1, h2, h3⟩, hl => by
    simp only [House.BL, House.clean]
    simp only [House.R] at hl
    rw [Doors.BL_clean ds hand ds.len 0 l 1 h3 h0 h1 (by omega) (by omega) (by omega) (Nat.le_refl _) (by rw [Int.natCast_mul] at hl; exact hl)]
theorem Doors.BL_clean : ∀ (ds : Doors) (hand len k l : Int) (a : Nat), ds.ok → 0 ≤ hand → hand < len → len ≤ 4 → 0 ≤ k → k + ds.len ≤ len → 1 ≤ a → len * (ds.L a : Nat) ≤ l → (ds.BL hand len k l).clean = ds.BL hand len k l
  | .nil, _, _, _, _, _, _, _, _, _, _, _, _, _ => rfl
  | .cons n s h r, hand, len, k, l, a, ⟨o1, o2, o3, o4, o5, o6⟩, h0, h1, h4, k0, kl, a1, hl => by
    simp only [Doors.len] at kl
    simp only [Doors.L] at hl
    have t := turns_ge h0 h1 h4 k0 (by omega) (by omega) hl
    have R1 := House.R_pos h o5
    have lp : 1 ≤ Nat.lcm a h.R := Nat.pos_of_ne_zero (Nat.lcm_ne_zero (by omega) (by omega))
    have d : h.R ∣ r.L (Nat.lcm a h.R) := Nat.dvd_trans (Nat.dvd_lcm_right _ _) (Doors.dvd_L r _)
    have le := Nat.le_of_dvd (Doors.L_pos r _ o6 lp) d
    simp only [Doors.BL, Doors.clean]
    rw [if_neg (by omega), House.BL_clean h _ o5 (by omega), Doors.BL_clean r hand len (k + 1) l _ o6 h0 h1 h4 (by omega) (by omega) lp hl]
end
def Differ (h g : House) (k : Int) : Prop := h.W k ≠ g.W k ∨ (h.way k).2 ≠ (g.way k).2
def tellN (h g : House) : Nat := max h.R g.R + Nat.lcm h.R g.R
mutual
theorem House.R_BL : ∀ (h : House) (l : Int), (h.BL l).R = h.R
  | .out _, _ => rfl
  | .room hand ds, l => by simp only [House.BL, House.R]; rw [Doors.L_BL, Doors.len_BL12]
theorem Doors.len_BL12 : ∀ (ds : Doors) (hand len k l : Int), (ds.BL hand len k l).len = ds.len
  | .nil, _, _, _, _ => rfl
  | .cons n s h r, hand, len, k, l => by simp only [Doors.BL, Doors.len]; rw [Doors.len_BL12 r]
theorem Doors.L_BL : ∀ (ds : Doors) (hand len k l : Int) (a : Nat), (ds.BL hand len k l).L a = ds.L a
  | .nil, _, _, _, _, _ => rfl
  | .cons n s h r, hand, len, k, l, a => by simp only [Doors.BL, Doors.L]; rw [House.R_BL h, Doors.L_BL r]
end
theorem Differ.symm {h g : House} {k : Int} (d : Differ h g k) : Differ g h k := by
  rcases d with d | d
  · exact .inl fun z => d z.symm
  · exact .inr fun z => d z.symm
theorem not_differ {h g : House} {k : Int} (d : ¬ Differ h g k) : h.W k = g.W k ∧ (h.way k).2 = (g.way k).2 := by
  unfold Differ at d
  exact ⟨Classical.not_not.mp fun z => d (.inl z), Classical.not_not.mp fun z => d (.inr z)⟩
theorem tell_symm (h g : House) : tellN h g = tellN g h := by
  unfold tellN
  rw [Nat.lcm_comm, Nat.max_comm]
/-- clean houses: what a common round tells comes again -/
theorem differ_per {c d : House} (oc : c.ok) (od : d.ok) (cc : c.clean = c) (cd : d.clean = d) {q : Nat} (q1 : 1 ≤ q) (hc : c.R ∣ q) (hd : d.R ∣ q) (h : ∀ m : Int, 1 ≤ m → m ≤ q → ¬ Differ c d m) : ∀ m : Nat, 1 ≤ m → ¬ Differ c d m := by
  intro m
  induction m using Nat.strongRecOn with
  | _ m ih =>
    intro m1
    by_cases le : m ≤ q
    · exact h m (by omega) (by omega)
    · have pc := (House.per c q oc cc).mpr hc
      have pd := (House.per d q od cd).mpr hd
      have i := not_differ (ih (m - q) (by omega) (by omega))
      have z := not_differ (h q (by omega) (Int.le_refl _))
      have a1 := House.W_add c (q : Nat) ((m - q : Nat) : Int) oc (by omega) (by omega)
      have a2 := House.W_add d (q : Nat) ((m - q : Nat) : Int) od (by omega) (by omega)
      have b1 := House.way_add oc (l := (q : Nat)) (m := ((m - q : Nat) : Int)) (by omega) (by omega)
      have b2 := House.way_add od (l := (q : Nat)) (m := ((m - q : Nat) : Int)) (by omega) (by omega)
      rw [pc] at a1 b1
      rw [pd] at a2 b2
      have e : ((q : Nat) : Int) + ((m - q : Nat) : Int) = (m : Int) := by omega
      rw [e] at a1 a2 b1 b2
      rintro (x | x)
      · omega
      · rw [← b1, ← b2] at x
        exact x i.2
theorem differ_never {h g : House} (oh : h.ok) (og : g.ok) (n : ∀ k : Int, 1 ≤ k → k ≤ tellN h g → ¬ Differ h g k) : ∀ k : Int, 1 ≤ k → ¬ Differ h g k := by
  have R1 := House.R_pos h oh
  have R2 := House.R_pos g og
  have lp : 1 ≤ Nat.lcm h.R g.R := Nat.pos_of_ne_zero (Nat.lcm_ne_zero (by omega) (by omega))
  have eN : tellN h g = max h.R g.R + Nat.lcm h.R g.R := rfl
  generalize hM : max h.R g.R = M at eN
  have M1 : h.R ≤ M := by omega
  have M2 : g.R ≤ M := by omega
  have z := not_differ (n M (by omega) (by omega))
  have sh : ∀ m : Int, 1 ≤ m → (Differ (h.BL M) (g.BL M) m ↔ Differ h g (M + m)) := fun m m1 => by
    have a1 := House.W_add h M m oh (by omega) (by omega)
    have a2 := House.W_add g M m og (by omega) (by omega)
    have b1 := House.way_add oh (l := M) (m := m) (by omega) m1
    have b2 := House.way_add og (l := M) (m := m) (by omega) m1
    unfold Differ
    rw [b1, b2]
    constructor
    · rintro (x | x)
      · exact .inl (by omega)
      · exact .inr x
    · rintro (x | x)
      · exact .inl (by omega)
      · exact .inr x
  have key := differ_per (House.ok_BL h M oh (by omega)) (House.ok_BL g M og (by omega)) (House.BL_clean h M oh (by omega)) (House.BL_clean g M og (by omega)) lp (by rw [House.R_BL]; exact Nat.dvd_lcm_left _ _) (by rw [House.R_BL]; exact Nat.dvd_lcm_right _ _)
    (fun m m1 m2 z => n (M + m) (by omega) (by omega) ((sh m m1).mp z))
  intro k k1 d
  by_cases c : k ≤ tellN h g
  · exact n k k1 c d
  · have := key (k - M).toNat (by omega)
    apply this
    rw [sh _ (by omega)]
    rwa [show (M : Int) + (((k - M).toNat : Nat) : Int) = k by omega]
/-! ### what is said of a walker: a name, or nothing -/
def House.said (i : Nat) (h : House) : Option Str := (House.iter i h).step.1.2
theorem said_iff {h : House} (ok : h.ok) (i : Nat) (nm : Str) : h.said i = some nm ↔ ∃ l : Int, 1 ≤ l ∧ h.W l = i + 1 ∧ (h.way l).2 = nm := by
  constructor
  · intro e
    obtain ⟨a, b, c, _, l0⟩ := walk_out ok i e
    refine ⟨House.outs i h + 1, by omega, by omega, ?_⟩
    rw [c]
  · rintro ⟨l, l1, w, rfl⟩
    obtain ⟨w0, isL, hst⟩ := House.leav_is ok l1
    rw [show h.W l - 1 = (i : Int) by omega] at isL hst
    obtain ⟨isM, itM⟩ := iter_is ok i
    rw [isM.uniq ok isL] at itM
    show (House.iter i h).step.1.2 = _
    rw [itM, hst]
/-- the first leaving that differs tells the first walker -/
theorem said_first {h g : House} (oh : h.ok) (og : g.ok) {k : Int} (k1 : 1 ≤ k) (d : Differ h g k) (n : ∀ j : Int, 1 ≤ j → j < k → ¬ Differ h g j) :
    (∀ i : Nat, (i : Int) < min (h.W k) (g.W k) - 1 → h.said i = g.said i) ∧ ∀ i : Nat, (i : Int) = min (h.W k) (g.W k) - 1 → h.said i ≠ g.said i := by
  have half : ∀ {a b : House}, a.ok → b.ok → (∀ j : Int, 1 ≤ j → j < k → ¬ Differ a b j) → ∀ (i : Nat) (nm : Str), (i : Int) + 1 < a.W k → a.said i = some nm → b.said i = some nm := fun {a b} oa ob nn i nm lt e => by
    obtain ⟨l, l1, w, e2⟩ := (said_iff oa i nm).mp e
    have lk : l < k := by
      by_cases c : k < l
      · have := House.W_lt oa (l := k) (m := l) (by omega) c; omega
      · by_cases c2 : l = k
        · subst c2; omega
        · omega
    obtain ⟨x, y⟩ := not_differ (nn l l1 lk)
    exact (said_iff ob i nm).mpr ⟨l, l1, by omega, by rw [← y]; exact e2⟩
  have ns : ∀ j : Int, 1 ≤ j → j < k → ¬ Differ g h j := fun j a b z => n j a b z.symm
  refine ⟨fun i lt => ?_, fun i e z => ?_⟩
  · cases e1 : h.said i with
    | some nm => rw [half oh og n i nm (by omega) e1]
    | none =>
      cases e2 : g.said i with
      | none => rfl
      | some nm => rw [half og oh ns i nm (by omega) e2] at e1; cases e1
  · by_cases c : h.W k = g.W k
    · have a1 := (said_iff oh i _).mpr ⟨k, k1, by omega, rfl⟩
      have a2 := (said_iff og i _).mpr ⟨k, k1, by omega, rfl⟩
      rw [a1, a2] at z
      rcases d with d | d
      · exact d c
      · exact d (Option.some.inj z)
    · by_cases c2 : h.W k < g.W k
      · have a1 := (said_iff oh i _).mpr ⟨k, k1, by omega, rfl⟩
        rw [a1] at z
        have a3 := half og oh ns i _ (by omega) z.symm
        obtain ⟨l, l1, w, _⟩ := (said_iff og i _).mp z.symm
        have lk : l < k := by
          by_cases c3 : k < l
          · have := House.W_lt og (l := k) (m := l) (by omega) c3; omega
          · by_cases c4 : l = k
            · subst c4; omega
            · omega
        obtain ⟨x, _⟩ := not_differ (n l l1 lk)
        have := House.W_lt oh (l := l) (m := k) (by omega) lk
        omega
      · have a1 := (said_iff og i _).mpr ⟨k, k1, by omega, rfl⟩
        rw [a1] at z
        obtain ⟨l, l1, w, _⟩ := (said_iff oh i _).mp z
        have lk : l < k := by
          by_cases c3 : k < l
          · have := House.W_lt oh (l := k) (m := l) (by omega) c3; omega
          · by_cases c4 : l = k
            · subst c4; omega
            · omega
        obtain ⟨x, _⟩ := not_differ (n l l1 lk)
        have := House.W_lt og (l := l) (m := k) (by omega) lk
        omega
theorem said_never {h g : House} (oh : h.ok) (og : g.ok) (n : ∀ k : Int, 1 ≤ k → ¬ Differ h g k) (i : Nat) : h.said i = g.said i := by
  have half : ∀ {a b : House}, a.ok → b.ok → (∀ j : Int, 1 ≤ j → ¬ Differ a b j) → ∀ nm : Str, a.said i = some nm → b.said i = some nm := fun {a b} oa ob nn nm e => by
    obtain ⟨l, l1, w, e2⟩ := (said_iff oa i nm).mp e
    obtain ⟨x, y⟩ := not_differ (nn l l1)
    exact (said_iff ob i nm).mpr ⟨l, l1, by omega, by rw [← y]; exact e2⟩
  cases e1 : h.said i with
  | some nm => rw [half oh og n nm e1]
  | none =>
    cases e2 : g.said i with
    | none => rfl
    | some nm => rw [half og oh (fun j a z => n j a z.symm) nm e2] at e1; cases e1
/-! ### as many walkers as two rounds of both have are enough -/
mutual
theorem House.le_clean : ∀ h : House, h.ok → h.Le h.clean
  | .out _, _ => rfl
  | .room a ds, ⟨_, _, _, o⟩ => ⟨rfl, Doors.le_clean ds o⟩
theorem Doors.le_clean : ∀ ds : Doors, ds.ok → ds.Le ds.clean
  | .nil, _ => trivial
  | .cons n s h r, ⟨_, _, o3, _, o5, o6⟩ => ⟨Int.le_refl _, o3, House.le_clean h o5, Doors.le_clean r o6⟩
end
theorem W_some {h : House} (ok : h.ok) {k : Int} (k0 : 0 ≤ k) (t : Nat) (hk : k ≤ ((h.R * t : Nat) : Int)) : h.W k ≤ t * h.clean.W h.R := by
  have a := (House.le_clean h ok).W ok k k0
  have oc := House.ok_clean h ok
  have b := House.W_rounds oc (House.clean_clean h) t
  rw [House.R_clean] at b
  by_cases e : k = ((h.R * t : Nat) : Int)
  · rw [e] at a ⊢; omega
  · have := House.W_lt oc (l := k) (m := ((h.R * t : Nat) : Int)) k0 (by omega)
    omega
theorem size_big {A B r1 r2 : Int} (a : 0 ≤ A) (b : 0 ≤ B) (x : 1 ≤ r1) (y : 1 ≤ r2) : (1 + r2) * A ≤ 2 * (A + B) * r1 * r2 ∧ (1 + r1) * B ≤ 2 * (A + B) * r1 * r2 := by
  have s0 : 0 ≤ A + B := by omega
  have key : ∀ {C r q : Int}, 0 ≤ C → C ≤ A + B → 1 ≤ r → 1 ≤ q → (1 + q) * C ≤ 2 * (A + B) * r * q := fun {C r q} c cs hr hq => by
    have h1 : (1 + q) * C ≤ (2 * q) * C := Int.mul_le_mul_of_nonneg_right (by omega) c
    have h2 : (2 * q) * C ≤ (2 * q) * (A + B) := Int.mul_le_mul_of_nonneg_left cs (by omega)
    have h3 : (2 * q) * (A + B) ≤ (2 * q) * (A + B) * r := by
      have : (2 * q) * (A + B) * 1 ≤ (2 * q) * (A + B) * r := Int.mul_le_mul_of_nonneg_left hr (Int.mul_nonneg (by omega) s0)
      omega
    have h4 : (2 * q) * (A + B) * r = 2 * (A + B) * r * q := by
      rw [Int.mul_assoc 2 q, Int.mul_comm q, Int.mul_assoc, Int.mul_assoc, Int.mul_assoc, Int.mul_assoc, Int.mul_comm q r]
    omega
  refine ⟨key a (by omega) x y, ?_⟩
  have := key b (by omega) y x
  rwa [Int.mul_assoc, Int.mul_comm r2 r1, ← Int.mul_assoc] at this
theorem W_size {h g : House} (oh : h.ok) (og : g.ok) {k : Int} (k0 : 0 ≤ k) (hk : k ≤ tellN h g) : min (h.W k) (g.W k) ≤ 2 * (h.clean.W h.R + g.clean.W g.R) * h.R * g.R := by
  have R1 := House.R_pos h oh
  have R2 := House.R_pos g og
  have l1 := lcm_le_mul h.R g.R
  have A0 : 0 ≤ h.clean.W h.R := Int.le_trans (by omega) (House.W_ge (House.ok_clean h oh) (l := h.R) (by omega))
  have B0 : 0 ≤ g.clean.W g.R := Int.le_trans (by omega) (House.W_ge (House.ok_clean g og) (l := g.R) (by omega))
  obtain ⟨s1, s2⟩ := size_big A0 B0 (show (1 : Int) ≤ (h.R : Int) by omega) (show (1 : Int) ≤ (g.R : Int) by omega)
  have eN : tellN h g = max h.R g.R + Nat.lcm h.R g.R := rfl
  by_cases c : g.R ≤ h.R
  · have e : h.R * (1 + g.R) = h.R + h.R * g.R := by rw [Nat.mul_add, Nat.mul_one]
    have := W_some oh k0 (1 + g.R) (by omega)
    rw [Int.natCast_add] at this
    have z : ((1 : Nat) : Int) = 1 := rfl
    rw [z] at this
    omega
  · have e : g.R * (1 + h.R) = g.R + h.R * g.R := by rw [Nat.mul_add, Nat.mul_one, Nat.mul_comm g.R]
    have := W_some og k0 (1 + h.R) (by omega)
    rw [Int.natCast_add] at this
    have z : ((1 : Nat) : Int) = 1 := rfl
    rw [z] at this
    omega
theorem first_differ (h g : House) (N : Nat) : (∀ k : Int, 1 ≤ k → k ≤ N → ¬ Differ h g k) ∨ ∃ k : Int, 1 ≤ k ∧ k ≤ N ∧ Differ h g k ∧ ∀ j : Int, 1 ≤ j → j < k → ¬ Differ h g j := by
  induction N with
  | zero => exact .inl fun k a b => by omega
  | succ N ih =>
    rcases ih with ih | ⟨k, a, b, c, d⟩
    · by_cases z : Differ h g ((N + 1 : Nat) : Int)
      · exact .inr ⟨_, by omega, by omega, z, fun j a b => ih j a (by omega)⟩
      · refine .inl fun k a b c => ?_
        by_cases e : k ≤ N
        · exact ih k a e c
        · rw [show k = ((N + 1 : Nat) : Int) by omega] at c; exact z c
    · exact .inr ⟨k, a, by omega, c, d⟩
/-- told alike so far as a certain number: alike for ever -/
theorem none_differ {h g : House} (oh : h.ok) (og : g.ok) {i : Nat} (hi : 2 * (h.clean.W h.R + g.clean.W g.R) * h.R * g.R ≤ i) (e : ∀ j : Nat, j < i → h.said j = g.said j) : ∀ k : Int, 1 ≤ k → k ≤ tellN h g → ¬ Differ h g k := by
  rcases first_differ h g (tellN h g) with n | ⟨k, a, b, c, d⟩
  · exact n
  · exfalso
    have s := W_size oh og (k := k) (by omega) b
    have w1 := House.W_ge oh (l := k) (by omega)
    have w2 := House.W_ge og (l := k) (by omega)
    obtain ⟨_, x⟩ := said_first oh og a c d
    exact x (min (h.W k) (g.W k) - 1).toNat (by omega) (e _ (by omega))
theorem some_differ {h g : House} (oh : h.ok) (og : g.ok) {i : Nat} (e : ∀ j : Nat, j < i → h.said j = g.said j) (ne : h.said i ≠ g.said i) : ∃ k : Int, 1 ≤ k ∧ k ≤ tellN h g ∧ Differ h g k ∧ (∀ j : Int, 1 ≤ j → j < k → ¬ Differ h g j) ∧ min (h.W k) (g.W k) - 1 = i := by
  rcases first_differ h g (tellN h g) with n | ⟨k, a, b, c, d⟩
  · exact absurd (said_never oh og (differ_never oh og n) i) ne
  · have w1 := House.W_ge oh (l := k) (by omega)
    have w2 := House.W_ge og (l := k) (by omega)
    obtain ⟨x, y⟩ := said_first oh og a c d
    refine ⟨k, a, b, c, d, ?_⟩
    by_cases z : (i : Int) < min (h.W k) (g.W k) - 1
    · exact absurd (x i z) ne
    · by_cases z2 : min (h.W k) (g.W k) - 1 < i
      · exact absurd (e (min (h.W k) (g.W k) - 1).toNat (by omega)) (y _ (by omega))
      · omega
end Pd
namespace Pd
open PySem L2
/-! ### needs changed, by a number for each door as paths ascend -/
def hd (cs : List Int) : Int := cs.headD 0
mutual
def House.chg : House → List Int → House
  | .out n, _ => .out n
  | .room hand ds, cs => .room hand (ds.chg cs)
def Doors.chg : Doors → List Int → Doors
  | .nil, _ => .nil
  | .cons n s h r, cs => .cons (n + hd cs) (if s = n then n + hd cs else s) (h.chg (cs.tail.take h.many)) (r.chg (cs.tail.drop h.many))
end
/-- more walkers for each step, the least, the greatest change -/
abbrev Cho := Int × Int × Int
mutual
def House.cho : House → Int → List Cho
  | .out _, _ => []
  | .room hand ds, l => ds.cho hand ds.len 0 l
def Doors.cho : Doors → Int → Int → Int → Int → List Cho
  | .nil, _, _, _, _ => []
  | .cons n s h r, hand, len, k, l => ((if s = n then max 0 (turns hand len k l - 1) else turns hand len k l), (if s = n then 1 else s + 1) - n, 99 - n) :: (h.cho (turns hand len k l) ++ r.cho hand len (k + 1) l)
end
mutual
theorem House.cho_len : ∀ (h : House) (l : Int), (h.cho l).length = h.many
  | .out _, _ => rfl
  | .room hand ds, l => Doors.cho_len ds hand ds.len 0 l
theorem Doors.cho_len : ∀ (ds : Doors) (hand len k l : Int), (ds.cho hand len k l).length = ds.many
  | .nil, _, _, _, _ => rfl
  | .cons n s h r, hand, len, k, l => by simp only [Doors.cho, List.length_cons, List.length_append, Doors.many, House.cho_len h, Doors.cho_len r]; omega
end
def dot : List Int → List Cho → Int
  | c :: cs, x :: xs => c * x.1 + dot cs xs
  | _, _ => 0
theorem dot_app : ∀ (xs ys : List Cho) (cs : List Int), cs.length = xs.length + ys.length → dot cs (xs ++ ys) = dot (cs.take xs.length) xs + dot (cs.drop xs.length) ys
  | [], ys, cs, _ => by cases cs <;> simp [dot]
  | x :: xs, ys, [], h => by simp at h; omega
  | x :: xs, ys, c :: cs, h => by
    have := dot_app xs ys cs (by simp at h; omega)
    simp only [List.cons_append, dot, List.length_cons, List.take_succ_cons, List.drop_succ_cons]
    omega
theorem Doors.len_chg : ∀ (ds : Doors) (cs : List Int), (ds.chg cs).len = ds.len
  | .nil, _ => rfl
  | .cons _ _ _ r, cs => congrArg (· + 1) (Doors.len_chg r _)
mutual
theorem House.many_chg : ∀ (h : House) (cs : List Int), (h.chg cs).many = h.many
  | .out _, _ => rfl
  | .room _ ds, cs => Doors.many_chg ds cs
theorem Doors.many_chg : ∀ (ds : Doors) (cs : List Int), (ds.chg cs).many = ds.many
  | .nil, _ => rfl
  | .cons n s h r, cs => by simp only [Doors.chg, Doors.many]; rw [House.many_chg h, Doors.many_chg r]
end
/-- within what can be -/
def Inb : List Int → List Cho → Prop
  | c :: cs, x :: xs => x.2.1 ≤ c ∧ c ≤ x.2.2 ∧ Inb cs xs
  | [], [] => True
  | _, _ => False
theorem Inb.len : ∀ {cs : List Int} {xs : List Cho}, Inb cs xs → cs.length = xs.length
  | [], [], _ => rfl
  | _ :: cs, _ :: xs, h => congrArg (· + 1) (Inb.len (cs := cs) (xs := xs) h.2.2)
  | [], _ :: _, h => h.elim
  | _ :: _, [], h => h.elim
theorem Inb.split : ∀ {xs ys : List Cho} {cs : List Int}, Inb cs (xs ++ ys) → Inb (cs.take xs.length) xs ∧ Inb (cs.drop xs.length) ys
  | [], ys, cs, h => by simp only [List.length_nil, List.take_zero, List.drop_zero]; exact ⟨trivial, h⟩
  | x :: xs, ys, [], h => h.elim
  | x :: xs, ys, c :: cs, h => by
    obtain ⟨a, b⟩ := Inb.split (xs := xs) (ys := ys) (cs := cs) h.2.2
    exact ⟨⟨h.1, h.2.1, a⟩, b⟩
mutual
theorem House.chg_ok : ∀ (h : House) (l : Int) (cs : List Int), h.ok → Inb cs (h.cho l) → (h.chg cs).ok
  | .out _, _, _, o, _ => o
  | .room hand ds, l, cs, ⟨o1, o2, o3, o4⟩, i => by
    simp only [House.chg, House.ok]
    rw [Doors.len_chg]
    exact ⟨o1, o2, o3, Doors.chg_ok ds hand ds.len 0 l cs o4 i⟩
theorem Doors.chg_ok : ∀ (ds : Doors) (hand len k l : Int) (cs : List Int), ds.ok → Inb cs (ds.cho hand len k l) → (ds.chg cs).ok
  | .nil, _, _, _, _, _, _, _ => trivial
  | .cons n s h r, hand, len, k, l, [], _, i => i.elim
  | .cons n s h r, hand, len, k, l, c :: cs, ⟨o1, o2, o3, o4, o5, o6⟩, i => by
    obtain ⟨i1, i2, i3⟩ := i
    obtain ⟨j1, j2⟩ := i3.split
    rw [House.cho_len] at j1 j2
    simp only [Doors.chg, hd, List.headD_cons, List.tail_cons]
    have e : (if s = n then (1 : Int) else s + 1) - n ≤ c := i1
    have e2 : c ≤ 99 - n := i2
    refine ⟨?_, by omega, ?_, ?_, House.chg_ok h _ _ o5 j1, Doors.chg_ok r hand len (k + 1) l _ o6 j2⟩
    · split at e <;> omega
    · split at e <;> split <;> omega
    · split at e <;> split <;> omega
end
mutual
theorem House.chg_W : ∀ (h : House) (l : Int) (cs : List Int), h.ok → 0 ≤ l → cs.length = h.many → (h.chg cs).W l = h.W l + dot cs (h.cho l)
  | .out _, l, cs, _, _, hl => by
    cases cs with
    | nil => simp [House.chg, House.W, House.cho, dot]
    | cons c cs => simp [House.many] at hl
  | .room hand ds, l, cs, ⟨o1, o2, o3, o4⟩, l0, hl => by
    simp only [House.chg, House.W, House.cho]
    rw [Doors.len_chg]
    exact Doors.chg_W ds hand ds.len 0 l cs o4 o1 o2 (by omega) (by omega) (by omega) l0 hl
theorem Doors.chg_W : ∀ (ds : Doors) (hand len k l : Int) (cs : List Int), ds.ok → 0 ≤ hand → hand < len → len ≤ 4 → 0 ≤ k → k + ds.len ≤ len → 0 ≤ l → cs.length = ds.many → (ds.chg cs).W hand len k l = ds.W hand len k l + dot cs (ds.cho hand len k l)
  | .nil, _, _, _, _, cs, _, _, _, _, _, _, _, hl => by
    cases cs with
    | nil => simp [Doors.chg, Doors.W, Doors.cho, dot]
    | cons c cs => simp [Doors.many] at hl
  | .cons n s h r, hand, len, k, l, [], _, _, _, _, _, _, _, hl => by simp [Doors.many] at hl; omega
  | .cons n s h r, hand, len, k, l, c :: cs, ⟨o1, o2, o3, o4, o5, o6⟩, h0, h1, h4, k0, kl, l0, hl => by
    simp only [Doors.len] at kl
    simp only [Doors.many, List.length_cons] at hl
    have t0 := turns_nonneg h0 h1 h4 k0 (by omega) l0
    simp only [Doors.chg, Doors.W, Doors.cho, dot, hd, List.headD_cons, List.tail_cons]
    rw [dot_app _ _ _ (by rw [House.cho_len, Doors.cho_len]; omega), House.cho_len]
    have a := House.chg_W h (turns hand len k l) (cs.take h.many) o5 t0 (by rw [List.length_take]; omega)
    have b := Doors.chg_W r hand len (k + 1) l (cs.drop h.many) o6 h0 h1 h4 (by omega) (by omega) l0 (by rw [List.length_drop]; omega)
    rw [b]
    generalize turns hand len k l = t at *
    generalize dot (cs.drop h.many) (r.cho hand len (k + 1) l) = z
    by_cases tp : t > 0
    · rw [if_pos tp, if_pos tp, a]
      have e1 : t * (n + c) = t * n + t * c := Int.mul_add _ _ _
      by_cases w : s = n
      · rw [if_pos w, if_pos w, show max 0 (t - 1) = t - 1 by omega]
        have e2 : c * (t - 1) = t * c - c := by rw [Int.mul_sub, Int.mul_one, Int.mul_comm]
        omega
      · rw [if_neg w, if_neg w]
        have e2 : c * t = t * c := Int.mul_comm _ _
        omega
    · have tz : t = 0 := by omega
      subst tz
      rw [if_neg tp, if_neg tp]
      have hz : h.W 0 = 0 := House.W_zero h o5
      have cz : (h.chg (cs.take h.many)).W 0 = 0 + dot (cs.take h.many) (h.cho 0) := by rw [a, hz]
      have dz : dot (cs.take h.many) (h.cho 0) = 0 := House.dot_zero h _ o5
      rw [dz]
      have e2 : c * (if s = n then max 0 ((0 : Int) - 1) else 0) = 0 := by
        split
        · rw [show max 0 ((0 : Int) - 1) = 0 by decide, Int.mul_zero]
        · exact Int.mul_zero c
      rw [e2]; omega
theorem House.dot_zero : ∀ (h : House) (cs : List Int), h.ok → dot cs (h.cho 0) = 0
  | .out _, cs, _ => by cases cs <;> rfl
  | .room hand ds, cs, ⟨o1, o2, o3, o4⟩ => Doors.dot_zero ds hand ds.len 0 cs o4 o1 o2 (by omega) (by omega) (by omega)
theorem Doors.dot_zero : ∀ (ds : Doors) (hand len k : Int) (cs : List Int), ds.ok → 0 ≤ hand → hand < len → len ≤ 4 → 0 ≤ k → k + ds.len ≤ len → dot cs (ds.cho hand len k 0) = 0
  | .nil, _, _, _, cs, _, _, _, _, _, _ => by cases cs <;> rfl
  | .cons n s h r, hand, len, k, [], _, _, _, _, _, _ => rfl
  | .cons n s h r, hand, len, k, c :: cs, ⟨o1, o2, o3, o4, o5, o6⟩, h0, h1, h4, k0, kl => by
    simp only [Doors.len] at kl
    have tz : turns hand len k 0 = 0 := by
      have := turns_even h0 h1 h4 k0 (by omega) 0
      rwa [Int.mul_zero] at this
    simp only [Doors.cho, dot, tz]
    have e2 : c * (if s = n then max 0 ((0 : Int) - 1) else 0) = 0 := by
      split
      · rw [show max 0 ((0 : Int) - 1) = 0 by decide, Int.mul_zero]
      · exact Int.mul_zero c
    rw [e2]
    have gen : ∀ (xs ys : List Cho), (∀ cs, dot cs xs = 0) → (∀ cs, dot cs ys = 0) → ∀ cs, dot cs (xs ++ ys) = 0 := fun xs => by
      induction xs with
      | nil => exact fun ys _ hy cs => hy cs
      | cons x xs ih =>
        intro ys hx hy cs
        cases cs with
        | nil => rfl
        | cons c cs =>
          have h1 := hx [1]
          have hx1 : x.1 = 0 := by simp only [dot] at h1; cases xs <;> simp [dot] at h1 <;> omega
          have := ih ys (fun cs => by have := hx (0 :: cs); simp only [dot, Int.zero_mul] at this; omega) hy cs
          simp only [List.cons_append, dot, hx1, Int.mul_zero]; omega
    have := gen _ _ (fun cs => House.dot_zero h cs o5) (fun cs => Doors.dot_zero r hand len (k + 1) cs o6 h0 h1 h4 (by omega) (by omega)) cs
    omega
end
end Pd
namespace Pd
open PySem L2
/-! ### the least changes -/
def sab (cs : List Int) : Nat := (cs.map Int.natAbs).sum
def leastC : List Cho → Nat → Int → Option (List Int)
  | [], s, g => if s = 0 then (if g = 0 then some [] else none) else none
  | x :: xs, s, g => if s = 0 then (if g = 0 then some (List.replicate (xs.length + 1) 0) else none) else
    ((List.range (min x.2.2 s + 1 - max x.2.1 (-(s : Int))).toNat).map fun k => max x.2.1 (-(s : Int)) + (k : Nat)).findSome? fun c => (leastC xs (s - c.natAbs) (g - c * x.1)).map (c :: ·)
def Zin (xs : List Cho) : Prop := ∀ x ∈ xs, x.2.1 ≤ 0 ∧ 0 ≤ x.2.2
theorem zeros_in : ∀ {xs : List Cho}, Zin xs → Inb (List.replicate xs.length 0) xs
  | [], _ => trivial
  | x :: xs, h => ⟨(h x (by simp)).1, (h x (by simp)).2, zeros_in (xs := xs) fun y hy => h y (by simp [hy])⟩
theorem sab_zeros (n : Nat) : sab (List.replicate n 0) = 0 := by
  induction n with
  | zero => rfl
  | succ n ih => unfold sab at *; simp only [List.replicate_succ, List.map_cons, List.sum_cons, ih]; rfl
theorem dot_zeros : ∀ (n : Nat) (xs : List Cho), dot (List.replicate n 0) xs = 0
  | 0, xs => by cases xs <;> rfl
  | n + 1, [] => rfl
  | n + 1, x :: xs => by
    simp only [List.replicate_succ, dot, Int.zero_mul]
    have := dot_zeros n xs; omega
theorem sab_zero : ∀ {cs : List Int}, sab cs = 0 → cs = List.replicate cs.length 0
  | [], _ => rfl
  | c :: cs, h => by
    unfold sab at h
    simp only [List.map_cons, List.sum_cons] at h
    have := sab_zero (cs := cs) (by unfold sab; omega)
    rw [List.length_cons, List.replicate_succ, ← this, show c = 0 by omega]
theorem least_sound : ∀ {xs : List Cho} {s : Nat} {g : Int} {cs : List Int}, Zin xs → leastC xs s g = some cs → Inb cs xs ∧ sab cs = s ∧ dot cs xs = g
  | [], s, g, cs, _, e => by
    simp only [leastC] at e
    split at e
    · split at e
      · cases e; rename_i h1 h2; subst h1; subst h2; exact ⟨trivial, rfl, rfl⟩
      · cases e
    · cases e
  | x :: xs, s, g, cs, z, e => by
    simp only [leastC] at e
    split at e
    · split at e
      · cases e; rename_i h1 h2; subst h1; subst h2
        exact ⟨zeros_in z, sab_zeros _, dot_zeros _ _⟩
      · cases e
    · obtain ⟨c, hc, e2⟩ := List.exists_of_findSome?_eq_some e
      obtain ⟨k, hk, rfl⟩ := List.mem_map.mp hc
      rw [List.mem_range] at hk
      rename_i hs
      generalize hcc : max x.2.1 (-(s : Int)) + (k : Nat) = c at e2
      cases e3 : leastC xs (s - c.natAbs) (g - c * x.1) with
      | none => rw [e3] at e2; cases e2
      | some r =>
        rw [e3] at e2; cases e2
        obtain ⟨a, b, d⟩ := least_sound (xs := xs) (fun y hy => z y (by simp [hy])) e3
        refine ⟨⟨by omega, by omega, a⟩, ?_, ?_⟩
        · unfold sab at *; simp only [List.map_cons, List.sum_cons]; omega
        · simp only [dot]; omega
theorem least_some : ∀ {xs : List Cho} {s : Nat} {g : Int} {cs : List Int}, Inb cs xs → sab cs = s → dot cs xs = g → leastC xs s g ≠ none
  | [], s, g, [], _, e1, e2 => by
    have : s = 0 := e1.symm
    subst this
    have : g = 0 := e2.symm
    subst this
    simp [leastC]
  | x :: xs, s, g, c :: cs, i, e1, e2 => by
    obtain ⟨i1, i2, i3⟩ := i
    have e1' : c.natAbs + sab cs = s := by rw [← e1]; unfold sab; simp
    simp only [dot] at e2
    simp only [leastC]
    by_cases hs : s = 0
    · rw [if_pos hs]
      have z := sab_zero (cs := cs) (by omega)
      have c0 : c = 0 := by omega
      rw [z, c0, dot_zeros] at e2
      rw [if_pos (by omega)]; simp
    · rw [if_neg hs]
      intro hn
      rw [List.findSome?_eq_none_iff] at hn
      have := hn c (List.mem_map.mpr ⟨(c - max x.2.1 (-(s : Int))).toNat, by rw [List.mem_range]; omega, by omega⟩)
      have h3 := least_some (xs := xs) (s := s - c.natAbs) (g := g - c * x.1) (cs := cs) i3 (by omega) (by omega)
      cases e3 : leastC xs (s - c.natAbs) (g - c * x.1) with
      | none => exact h3 e3
      | some r => rw [e3] at this; cases this
  | [], _, _, _ :: _, i, _, _ => i.elim
  | _ :: _, _, _, [], i, _, _ => i.elim
theorem least_len {xs : List Cho} {s : Nat} {g : Int} {cs : List Int} (z : Zin xs) (e : leastC xs s g = some cs) : cs.length = xs.length := (least_sound z e).1.len
mutual
theorem House.cho_zin : ∀ (h : House) (l : Int), h.ok → Zin (h.cho l)
  | .out _, _, _ => fun x hx => by simp [House.cho] at hx
  | .room hand ds, l, ⟨_, _, _, o4⟩ => Doors.cho_zin ds hand ds.len 0 l o4
theorem Doors.cho_zin : ∀ (ds : Doors) (hand len k l : Int), ds.ok → Zin (ds.cho hand len k l)
  | .nil, _, _, _, _, _ => fun x hx => by simp [Doors.cho] at hx
  | .cons n s h r, hand, len, k, l, ⟨o1, o2, o3, o4, o5, o6⟩ => fun x hx => by
    simp only [Doors.cho, List.mem_cons, List.mem_append] at hx
    rcases hx with rfl | hx | hx
    · refine ⟨?_, by show 0 ≤ 99 - n; omega⟩
      show (if s = n then (1 : Int) else s + 1) - n ≤ 0
      split <;> omega
    · exact House.cho_zin h _ o5 x hx
    · exact Doors.cho_zin r hand len (k + 1) l o6 x hx
end
/-! ### no change -/
mutual
theorem House.chg_zero : ∀ (h : House) (n : Nat), h.chg (List.replicate n 0) = h
  | .out _, _ => rfl
  | .room hand ds, n => by simp only [House.chg]; rw [Doors.chg_zero ds n]
theorem Doors.chg_zero : ∀ (ds : Doors) (n : Nat), ds.chg (List.replicate n 0) = ds
  | .nil, _ => rfl
  | .cons n s h r, m => by
    have e0 : hd (List.replicate m (0 : Int)) = 0 := by cases m <;> rfl
    simp only [Doors.chg, e0, Int.add_zero, List.tail_replicate, List.take_replicate, List.drop_replicate]
    rw [House.chg_zero h, Doors.chg_zero r]
    congr 1
    split <;> omega
end
/-! ### one door changed, found by its path -/
def House.putAt : House → List Int → House → House
  | _, [], x => x
  | .out n, _ :: _, _ => .out n
  | .room hand ds, a :: r, x => match ds.get? a.toNat with
    | some (n, s, h) => .room hand (ds.set a.toNat n s (h.putAt r x))
    | none => .room hand ds
/-- the door at a path of h stands so, and with its need changed by c the house is g -/
structure Door1 (h : House) (q : List Int) (i : Int) (c n s : Int) (g : House) : Prop where
  ex : ∃ (hand : Int) (ds : Doors) (x : House), h.at? q = some (.room hand ds) ∧ 0 ≤ i ∧ ds.get? i.toNat = some (n, s, x) ∧ h.putAt q (.room hand (ds.set i.toNat (n + c) (if s = n then n + c else s) x)) = g
theorem Doors.get_cons (n s : Int) (h : House) (r : Doors) (m : Nat) : (Doors.cons n s h r).get? (m + 1) = r.get? m := rfl
mutual
theorem House.door1 : ∀ (h : House) (pre : List Int) (cs : List Int) (j : Nat) (p : List Int) (c : Int), (h.paths pre)[j]? = some p → cs.length = h.many → cs[j]? = some 0 →
    ∃ q i n s, p = pre ++ q ++ [i] ∧ Door1 (h.chg cs) q i c n s (h.chg (cs.set j c))
  | .out _, _, _, _, _, _, e, _, _ => by simp [House.paths] at e
  | .room hand ds, pre, cs, j, p, c, e, hl, z => by
    obtain ⟨m, h1⟩ := Doors.door1 ds pre 0 cs j p c e hl z
    rcases h1 with ⟨n, s, x, rfl, g, e2⟩ | ⟨q, i, n, s, n0, s0, x, x', rfl, g, d, e2⟩
    · refine ⟨[], (m : Nat), n, s, by simp, ⟨hand, ds.chg cs, x, ?_, by omega, by simpa using g, ?_⟩⟩
      · rw [House.at_nil]; rfl
      · simp only [House.putAt, House.chg, Int.toNat_natCast]; rw [e2]
    · obtain ⟨hand', ds', y, d1, d2, d3, d4⟩ := d.ex
      refine ⟨(m : Nat) :: q, i, n, s, by simp, ⟨hand', ds', y, ?_, d2, d3, ?_⟩⟩
      · simp only [House.chg]
        unfold House.at?
        rw [if_pos (by omega)]
        simp only [Int.toNat_natCast, g]
        exact d1
      · simp only [House.chg, House.putAt, Int.toNat_natCast, g]
        rw [d4, e2]
theorem Doors.door1 : ∀ (ds : Doors) (pre : List Int) (k : Nat) (cs : List Int) (j : Nat) (p : List Int) (c : Int), (ds.paths pre k)[j]? = some p → cs.length = ds.many → cs[j]? = some 0 →
    ∃ m : Nat, (∃ n s x, p = pre ++ [((k + m : Nat) : Int)] ∧ (ds.chg cs).get? m = some (n, s, x) ∧ (ds.chg cs).set m (n + c) (if s = n then n + c else s) x = ds.chg (cs.set j c)) ∨
      ∃ q i n s n0 s0 x x', p = pre ++ [((k + m : Nat) : Int)] ++ q ++ [i] ∧ (ds.chg cs).get? m = some (n0, s0, x) ∧ Door1 x q i c n s x' ∧ (ds.chg cs).set m n0 s0 x' = ds.chg (cs.set j c)
  | .nil, _, _, _, _, _, _, e, _, _ => by simp [Doors.paths] at e
  | .cons n s h r, pre, k, [], j, p, c, e, hl, z => by simp at z
  | .cons n s h r, pre, k, c0 :: cs, 0, p, c, e, hl, z => by
    simp [Doors.paths] at e
    simp at z
    subst z
    refine ⟨0, .inl ⟨n, s, h.chg (cs.take h.many), by simp [← e], ?_, ?_⟩⟩
    · simp only [Doors.chg, hd, List.headD_cons, List.tail_cons, Doors.get?, Int.add_zero]
      congr 2
      split <;> simp_all
    · simp only [Doors.chg, hd, List.headD_cons, List.tail_cons, Doors.set, List.set_cons_zero]
  | .cons n s h r, pre, k, c0 :: cs, j + 1, p, c, e, hl, z => by
    simp only [Doors.paths, List.getElem?_cons_succ] at e
    simp only [Doors.many, List.length_cons] at hl
    simp only [List.getElem?_cons_succ] at z
    by_cases lt : j < h.many
    · rw [List.getElem?_append_left (by rw [House.paths_len]; exact lt)] at e
      obtain ⟨q, i, n1, s1, e1, d⟩ := House.door1 h _ (cs.take h.many) j p c e (by rw [List.length_take]; omega) (by rw [List.getElem?_take_of_lt lt]; exact z)
      refine ⟨0, .inr ⟨q, i, n1, s1, _, _, _, _, by rw [e1]; rfl, rfl, d, ?_⟩⟩
      simp only [Doors.chg, hd, List.headD_cons, List.tail_cons, Doors.set, List.set_cons_succ]
      rw [List.take_set, List.drop_set_of_lt lt]
    · rw [List.getElem?_append_right (by rw [House.paths_len]; omega), House.paths_len] at e
      obtain ⟨m, h1⟩ := Doors.door1 r pre (k + 1) (cs.drop h.many) (j - h.many) p c e (by rw [List.length_drop]; omega) (by rw [List.getElem?_drop, show h.many + (j - h.many) = j by omega]; exact z)
      have es : (cs.set j c).take h.many = cs.take h.many := List.take_set_of_le (by omega)
      have ed : (cs.set j c).drop h.many = (cs.drop h.many).set (j - h.many) c := by rw [List.drop_set]; rw [if_neg (by omega)]
      refine ⟨m + 1, ?_⟩
      rw [show k + (m + 1) = k + 1 + m by omega]
      rcases h1 with ⟨n1, s1, x, a, b, d⟩ | ⟨q, i, n1, s1, n0, s0, x, x', a, b, d, f⟩
      · refine .inl ⟨n1, s1, x, a, b, ?_⟩
        simp only [Doors.chg, hd, List.headD_cons, List.tail_cons, Doors.set, List.set_cons_succ, es, ed]
        rw [d]
      · refine .inr ⟨q, i, n1, s1, n0, s0, x, x', a, b, d, ?_⟩
        simp only [Doors.chg, hd, List.headD_cons, List.tail_cons, Doors.set, List.set_cons_succ, es, ed]
        rw [f]
end
end Pd
set_option maxHeartbeats 2000000
namespace Pd
open PySem PySem.Spec PyProof.Rows L2
section
variable {T : Tb} {S : List Addr} {K : PySem.W.Frag} {δ : List (Option SD)} {H : Hp} {to te : TE} {u : TS} {B : Ends} {l : Addr} {xs : List V} {ds : List D}
/-- a.extend(a new list of data) -/
theorem run_extL (hT : Tbs T H) (ho : EvV T K to δ H (.ref l)) (h : EvL T K te δ H ds) (e : H l = some (.lst xs)) (hz : xs.length + ds.length ≤ 50000)
    (k : ∀ ys H1, Gr T [] H H1 → H1 l = some (.lst xs) → Reps K H1 ds ys → Run K u B δ (upd H1 l (.lst (xs ++ ys)))) : Run K (tSeq (tDrop (tBM K "list" rExtend to (tCons te tNil))) u) B δ H := fun σ s =>
  ho σ H (Gr.refl hT) s _ fun H1 g1 => ⟨.inl ⟨rfl, _, .inl (.inl (g1.lst e (by simp)))⟩, h σ H1 g1 (s.up g1) _ fun p ys H2 np g2 e2 r => by
    have g := g1.trans g2
    have el := g.lst e (by simp)
    have gp : Gr T [l] H2 (upd H2 l (.lst (xs ++ ys))) := (Gr.refl g.tbs).put el (.inl (by simp))
    have ly := r.len
    exact ⟨l, p, xs, ys, rfl, rfl, el, e2, Nat.le_trans (show xs.length + ys.length ≤ 50000 by omega) (by decide), k ys _ g el r σ ((s.up g).up gp)⟩⟩
end
end Pd
set_option maxHeartbeats 4000000
namespace Pd
open PySem PySem.Spec PyProof.Rows L2
def doorD (n s : Int) (x : D) : D := .tup [.int n, .int s, x]
def choD (x : Cho) : D := .tup [.int x.1, .int x.2.1, .int x.2.2]
section
variable {P : Program} {w : World} {K : PySem.W.Frag} {mg : Str → Option Value} {base : Heap} {T : Tb} {f : Addr} {fd : FuncData}
def RWide (ds : List D) (d : D) : Prop := ∃ n s x, ds = [doorD n s x] ∧ d = .bl (decide (s = n))
def RLeastN (ds : List D) (d : D) : Prop := ∃ n s x, ds = [doorD n s x] ∧ d = .int (if s = n then 1 else s + 1)
def RWneed (ds : List D) (d : D) : Prop := ∃ n s x m, ds = [doorD n s x, .int m] ∧ d = doorD m (if s = n then m else s) x
def RCho (lv : Nat) (ds : List D) (es : List D) : Prop := ∃ (h : House) (l : Int), ds = [h.toD, .int l] ∧ h.ok ∧ 0 ≤ l ∧ h.deep < lv ∧ h.many ≤ 12 ∧ es = (h.cho l).map choD
end
end Pd
namespace L2
open PySem PySem.Spec PyProof.Rows
/-! ### a tuple, no times or once -/
theorem tuple_mul0W (l : Addr) (items : Array Value) (n : Nat) (dd : Option Addr) (sl : Array (Option Value)) (u : Tok) (c1 : items.isEmpty = false) :
    Meets (Builtin.«tuple.__mul__» ⟨[.ref l, .int 0 u], []⟩) (fun _ R s => s.heap.get? l = some { cls := .type "tuple", dict := dd, data := .seq items n, slots := sl } ∧
      R (.ok (.ret (Value.ref s.heap.objs.size))) { s with heap := s.heap.push { cls := Value.type "tuple", data := Data.seq #[] }, toks := s.toks }) :=
  .of_wp fun prog w A R s h => by
    obtain ⟨hp, g, d, tk, os⟩ := s
    obtain ⟨hl, h⟩ := h
    have f1 := AutoSeq1.idx_int
    have a0 : (decide ((0 : Int) < -(2 ^ 63)) || decide ((0 : Int) ≥ 2 ^ 63)) = false := by decide
    have a1 : (items.isEmpty || (0 : Int) == 1) = false := by rw [c1]; rfl
    have a2 : (decide ((0 : Int) ≤ 0) || items.isEmpty) = true := by rfl
    wp_walk using wpAny_loadPart' hl
    exact ⟨_, rfl, h⟩
theorem tuple_mul1W (l : Addr) (items : Array Value) (n : Nat) (dd : Option Addr) (sl : Array (Option Value)) (u : Tok) :
    Meets (Builtin.«tuple.__mul__» ⟨[.ref l, .int 1 u], []⟩) (fun _ R s => s.heap.get? l = some { cls := .type "tuple", dict := dd, data := .seq items n, slots := sl } ∧ R (.ok (.ret (Value.ref l))) s) :=
  .of_wp fun prog w A R s h => by
    obtain ⟨hp, g, d, tk, os⟩ := s
    obtain ⟨hl, h⟩ := h
    have f1 := AutoSeq1.idx_int
    have a0 : (decide ((1 : Int) < -(2 ^ 63)) || decide ((1 : Int) ≥ 2 ^ 63)) = false := by decide
    have a1 : (items.isEmpty || (1 : Int) == 1) = true := by simp
    wp_walk using wpAny_loadPart' hl
    repeat (first
      | (refine wpAny_ite_true a1 ?_; wp_walk using wpAny_loadPart' hl))
    exact ⟨_, rfl, h⟩
/-- a tuple of one times 0, 1 or more -/
def rRepA (K : PySem.W.Frag) : R2 := fun x y H Q => ∃ (l : Addr) (k : Nat) (v : V), x = .ref l ∧ y = .int (k : Nat) ∧ SqT K H l [v] ∧ k ≤ 1000 ∧ ((k = 1 → Q (.ref l) H) ∧ (k ≠ 1 → ∀ p, H p = none → Q (.ref p) (upd H p (.tup (List.replicate k v)))))
theorem flat_one (v : V) : ∀ k : Nat, (List.replicate k [v]).flatten = List.replicate k v
  | 0 => rfl
  | k + 1 => by rw [List.replicate_succ, List.flatten_cons, flat_one v k, List.replicate_succ]; rfl
section
variable {X : Cx}
theorem op_repA : OpR X (binaryOp .Mult) (rRepA X.K) := by
  intro pins s σ H x y v u Q I rx ry h
  obtain ⟨l, k, z, rfl, rfl, hT, hk, q1, q2⟩ := h
  by_cases k2 : 2 ≤ k
  · refine op_repT pins s σ H _ _ v u Q I rx ry ⟨l, (k : Nat), [z], rfl, rfl, hT, by simp, by omega, by omega, by simp, fun p hp => ?_⟩
    rw [Int.toNat_natCast, flat_one]
    exact q2 (by omega) p hp
  · cases rx
    obtain ⟨t, rfl⟩ := ry
    obtain ⟨its, r, ⟨⟨cls, dd, data, sl⟩, ho, hc, n, hd⟩, hs⟩ := I.tuple hT
    simp only at hc hd
    subst hc hd
    have hi : its.toArray.isEmpty = false := by
      cases r with
      | cons a b => rfl
    by_cases k0 : k = 0
    · subst k0
      refine wpAny_binaryOp_repeat_ref (T := "tuple") (U := "int") (by decide) ⟨_, ho, rfl⟩ (fun s' => typeIs_int s' _ t) noFill_tuple_mul F.fills_int_mul F.slot_int_rmul repeat_tuple F.slot_int_index.lookup
        (call_meets F.slot_int_rmul (typeIs_int s _ t) F.entry_int_rmul (F.args_int_rmul_2 _ _) (int_rmul_tuple _ t l its.toArray n dd sl)
          ⟨ho, rfl, ⟨_, ho, rfl⟩, call_meets F.slot_tuple_mul ⟨_, ho, rfl⟩ F.entry_tuple_mul (F.args_tuple_mul_2 _ _) (tuple_mul0W l its.toArray n dd sl t hi) ⟨ho, ?_⟩⟩)
      refine ⟨.ref s.heap.objs.size, _, I.laid (t' := s.toks) (o := .tup []) (fun b ob q => Heap.get?_push_of_some _ q) (Nat.le_refl _) ?_, rfl, q2 (by decide) _ (I.hok.fresh (Nat.le_refl _))⟩
      exact ⟨by show 0 ≤ sizeLine; decide, [], .nil, IsTup.new _ _⟩
    · have k1 : k = 1 := by omega
      subst k1
      refine wpAny_binaryOp_repeat_ref (T := "tuple") (U := "int") (by decide) ⟨_, ho, rfl⟩ (fun s' => typeIs_int s' _ t) noFill_tuple_mul F.fills_int_mul F.slot_int_rmul repeat_tuple F.slot_int_index.lookup
        (call_meets F.slot_int_rmul (typeIs_int s _ t) F.entry_int_rmul (F.args_int_rmul_2 _ _) (int_rmul_tuple _ t l its.toArray n dd sl)
          ⟨ho, rfl, ⟨_, ho, rfl⟩, call_meets F.slot_tuple_mul ⟨_, ho, rfl⟩ F.entry_tuple_mul (F.args_tuple_mul_2 _ _) (tuple_mul1W l its.toArray n dd sl t) ⟨ho, ?_⟩⟩)
      exact ⟨.ref l, H, I, rfl, q1 rfl⟩
end
end L2
namespace Pd
open PySem PySem.Spec PyProof.Rows L2
theorem Reps.same {K : PySem.W.Frag} {H : Hp} {d : D} {v : V} (r : Rep K H d v) : ∀ k : Nat, Reps K H (List.replicate k d) (List.replicate k v)
  | 0 => rfl
  | k + 1 => ⟨v, List.replicate k v, rfl, r, Reps.same r k⟩
theorem ev_repA {T : Tb} {K : PySem.W.Frag} {δ : List (Option SD)} {H : Hp} {ta tb : TE} {d : D} {k : Nat} (ha : EvD T K ta δ H (.tup [d])) (hb : EvD T K tb δ H (.int (k : Nat))) (hk : k ≤ 1000) : EvD T K (tOp (rRepA K) ta tb) δ H (.tup (List.replicate k d)) :=
  ev_op ha hb fun v w H1 g1 e1 e2 Q q => by
    obtain ⟨a, xs, e, hs, x, r, e3, rx, e4⟩ := e1
    cases (show r = [] from e4)
    subst e3
    refine ⟨a, k, x, e, e2, hs, hk, fun k1 => ?_, fun k1 p hp => ?_⟩
    · subst k1
      exact q _ H1 g1.self ⟨a, [x], rfl, hs, x, [], rfl, rx, rfl⟩
    · have gn : Gr T [] H1 (upd H1 p (.tup (List.replicate k x))) := Gr.new g1.tbs hp
      exact q _ _ gn ⟨p, _, rfl, .inl (.inl upd_same), (Reps.same rx k).up gn⟩
end Pd
namespace Pd
open PySem PySem.Spec PyProof.Rows L2
theorem find_at {α : Type} (f : Nat → Option α) {i : Nat} {r : α} (h1 : f i = some r) (h0 : ∀ k, k < i → f k = none) : ∀ n : Nat, i < n → (List.range n).findSome? f = some r
  | 0, h => absurd h (Nat.not_lt_zero _)
  | n + 1, h => by
    rw [List.range_succ, List.findSome?_append]
    by_cases c : i < n
    · rw [find_at f h1 h0 n c]; rfl
    · have e : i = n := by omega
      subst e
      rw [List.findSome?_eq_none_iff.mpr fun k hk => h0 k (List.mem_range.mp hk)]
      simp [h1]
theorem find_no {α : Type} (f : Nat → Option α) (n : Nat) (h0 : ∀ k, k < n → f k = none) : (List.range n).findSome? f = none := List.findSome?_eq_none_iff.mpr fun k hk => h0 k (List.mem_range.mp hk)
theorem cut_tail (ds : List D) : cutD ds (some ((1 : Nat) : Int)) none = ds.drop 1 := by
  unfold cutD
  rw [HT.sIx_none, HT.sIx_nat]
  by_cases h : 1 ≤ ds.length
  · rw [Nat.min_eq_left h, List.take_of_length_le (by rw [List.length_drop]; omega)]
  · rw [Nat.min_eq_right (by omega), List.drop_of_length_le (Nat.le_refl _), List.drop_of_length_le (by omega), List.take_nil]
def optD : Option (List Int) → D
  | none => .non
  | some cs => .tup (cs.map D.int)
section
variable {T : Tb} {K : PySem.W.Frag} {δ : List (Option SD)} {H : Hp} {E : XK} {ta tb tc : TE} {l : Addr} {xs : List V} {ds : List D} {i : Int}
theorem ev_abs (ha : EvD T K ta δ H (.int i)) : EvD T K (tCB (fun xs H Q => ∃ i : Int, xs = [.int i] ∧ Q (.int (if i < 0 then -i else i)) H) (tCons ta tNil)) δ H (.int i.natAbs) := fun σ H1 g s Q q =>
  ha σ H1 g s _ fun v H2 g2 e => by
    cases (show v = .int i from e)
    refine ⟨i, rfl, ?_⟩
    rw [show (if i < 0 then -i else i) = (i.natAbs : Int) by split <;> omega]
    exact q _ H2 g2 rfl
def spLeast (T : Tb) (K : PySem.W.Frag) (lv : Nat) : Sp := fun vs H Q _ => ∃ (l : Addr) (xs : List V) (cs : List Cho) (s : Nat) (g : Int), vs = [.ref l, .int (s : Nat), .int g] ∧ H l = some (.lst xs) ∧ Reps K H (cs.map choD) xs ∧ cs.length < lv ∧ cs.length ≤ 12 ∧ s ≤ 4 ∧ Zin cs ∧ Tbs T H ∧
  ∀ v H', Gr T [] H H' → Rep K H' (optD (leastC cs s g)) v → Q v H'
/-- of a new list -/
theorem ev_leastN {lv : Nat} {cs : List Cho} {s : Nat} {g : Int} (ha : EvL T K ta δ H (cs.map choD)) (hb : EvD T K tb δ H (.int (s : Nat))) (hc : EvD T K tc δ H (.int g)) (h1 : cs.length < lv) (h2 : cs.length ≤ 12) (h3 : s ≤ 4) (h4 : Zin cs) :
    EvD T K (tCall (spLeast T K lv) [] E (tCons ta (tCons tb (tCons tc tNil)))) δ H (optD (leastC cs s g)) := fun σ H1 g1 sl Q q =>
  ha σ H1 g1 sl _ fun p xs H2 np g2 ep rp => hb σ H2 (g1.trans g2) (sl.up g2) _ fun v H3 g3 e3 => hc σ H3 ((g1.trans g2).trans g3) ((sl.up g2).up g3) _ fun w H4 g4 e4 => by
    cases (show v = .int (s : Nat) from e3); cases (show w = .int g from e4)
    exact ⟨p, xs, cs, s, g, rfl, (g3.trans g4).lst ep (by simp), rp.up (g3.trans g4), h1, h2, h3, h4, g4.tbs, fun v H5 g5 r => q v H5 (((g2.trans g3).trans g4).trans g5) r⟩
/-- of a list that stands -/
theorem ev_leastV {lv : Nat} {cs : List Cho} {s : Nat} {g : Int} (ha : EvV T K ta δ H (.ref l)) (e : H l = some (.lst xs)) (r : Reps K H (cs.map choD) xs) (hb : EvD T K tb δ H (.int (s : Nat))) (hc : EvD T K tc δ H (.int g)) (h1 : cs.length < lv) (h2 : cs.length ≤ 12) (h3 : s ≤ 4) (h4 : Zin cs) :
    EvD T K (tCall (spLeast T K lv) [] E (tCons ta (tCons tb (tCons tc tNil)))) δ H (optD (leastC cs s g)) := fun σ H1 g1 sl Q q =>
  ha σ H1 g1 sl _ fun H2 g2 => hb σ H2 (g1.trans g2) (sl.up g2) _ fun v H3 g3 e3 => hc σ H3 ((g1.trans g2).trans g3) ((sl.up g2).up g3) _ fun w H4 g4 e4 => by
    cases (show v = .int (s : Nat) from e3); cases (show w = .int g from e4)
    have gg := ((g1.trans g2).trans g3).trans g4
    exact ⟨l, xs, cs, s, g, rfl, gg.lst e (by simp), r.up gg, h1, h2, h3, h4, g4.tbs, fun v H5 g5 r => q v H5 (((g2.trans g3).trans g4).trans g5) r⟩
theorem el_sliceL {tlo thi : TO} {lo hi : Option Int} (ha : EvV T K ta δ H (.ref l)) (e : H l = some (.lst xs)) (r : Reps K H ds xs) (hl : EvO T K tlo δ H lo) (hh : EvO T K thi δ H hi) : EvL T K (L2.tSl (rSlL K) ta tlo thi) δ H (cutD ds lo hi) := fun σ H1 g s Q q =>
  ha σ H1 g s _ fun H2 g2 => hl σ H2 (g.trans g2) (s.up g2) _ fun H3 g3 => hh σ H3 ((g.trans g2).trans g3) ((s.up g2).up g3) _ fun H4 g4 => by
    have gg := ((g.trans g2).trans g3).trans g4
    refine ⟨l, xs, rfl, .inl (.inl (gg.lst e (by simp))), fun p np => ?_⟩
    have gn : Gr T [] H4 (upd H4 p (.lst (cutV xs lo hi))) := Gr.new g4.tbs np
    exact q p _ _ (g2.dom p (g3.dom p (g4.dom p np))) (((g2.trans g3).trans g4).trans gn) upd_same (((r.up gg).cut lo hi).up gn)
theorem ev_ixDL {d : D} (ha : EvV T K ta δ H (.ref l)) (hb : EvD T K tb δ H (.int i)) (hl : H l = some (.lst xs)) (r : Reps K H ds xs) (h : atI ds i = some d) : EvD T K (tOp (rIxL K) ta tb) δ H d := fun σ H1 g s Q q =>
  ha σ H1 g s _ fun H2 g2 => hb σ H2 (g.trans g2) (s.up g2) _ fun w H3 g3 e => by
    have gg := (g.trans g2).trans g3
    obtain ⟨v, hv, rv⟩ := atI_rep (r.up gg) h
    exact ⟨l, xs, i, v, rfl, e, .inl (.inl (gg.lst hl (by simp))), hv, q v H3 (g2.trans g3) rv⟩
end
section
variable {P : Program} {w : World} {K : PySem.W.Frag} {mg : Str → Option Value} {base : Heap} {T : Tb} {f : Addr} {fd : FuncData}
end
end Pd
set_option maxHeartbeats 2000000
namespace Pd
open PySem PySem.Spec PyProof.Rows L2
/-! ### zip of a list and a tuple -/
def ItzM (K : PySem.W.Frag) (a b : Addr) : It :=
  ⟨fun i H => ∃ (xs ys : List V) (x y : V), SqL K H a xs ∧ SqT K H b ys ∧ xs[i]? = some x ∧ ys[i]? = some y,
    fun i H v H' => ∃ P x y, v = .ref P ∧ H P = none ∧ H' = upd H P (.tup [x, y]) ∧ (∀ xs, SqL K H a xs → xs[i]? = some x) ∧ ∀ ys, SqT K H b ys → ys[i]? = some y,
    fun i H => ∃ xs ys : List V, SqL K H a xs ∧ SqT K H b ys ∧ xs.length = i ∧ ys.length = i⟩
theorem turn_zipM {P : Program} {w : World} {K : PySem.W.Frag} {elts : List Expr} {kk : Nat} {tpos : Pos} {a b z TI TO i1 i2 : Addr} (D : ZipSep2 z TI TO i1 i2 [i1, a] [i2, b]) (d1 : a ≠ i1) (d2 : b ≠ i2) :
    Turn P w K (.Tuple elts kk tpos) (ItzM K a b) [z, TI, TO, i1, i2] z (fun i h => IsZip h z TI TO .none ∧ IsTupOf2 h TI (.ref i1) (.ref i2) ∧ (∃ x y, IsTupOf2 h TO x y) ∧ h.IsListIter i1 a i ∧ h.IsTupleIter i2 b i) where
  mem := by simp
  obj := fun i h st c hc => by
    obtain ⟨hz, hTI, ⟨x, y, hTO⟩, ⟨o1, e1, _, d1⟩, ⟨o2, e2, _, d2⟩⟩ := st
    rcases (by simpa using hc : c = z ∨ c = TI ∨ c = TO ∨ c = i1 ∨ c = i2) with q | q | q | q | q
    · rw [q]; exact ⟨_, hz, fun v q => nomatch q⟩
    · rw [q]; exact ⟨_, hTI, fun v q => nomatch q⟩
    · rw [q]; exact ⟨_, hTO, fun v q => nomatch q⟩
    · rw [q]; exact ⟨o1, e1, fun v q => by rw [d1] at q; cases q⟩
    · rw [q]; exact ⟨o2, e2, fun v q => by rw [d2] at q; cases q⟩
  keep := fun i h h' st k => by
    obtain ⟨hz, hTI, ⟨x, y, hTO⟩, h1, h2⟩ := st
    exact ⟨k z (by simp) _ hz, k TI (by simp) _ hTI, ⟨x, y, k TO (by simp) _ hTO⟩, h1.at fun o q => k i1 (by simp) o q, h2.at fun o q => k i2 (by simp) o q⟩
  item := by
    intro X hP hw hK hc i pins s σ H E I hf st hg
    subst hP; subst hw; subst hK
    obtain ⟨hz, hTI, ⟨x0, y0, hTO⟩, h1, h2⟩ := st
    obtain ⟨xs, ys, x, y, hqx, hqy, hx, hy⟩ := hg
    obtain ⟨its, rv, p, _⟩ := I.list hqx
    obtain ⟨its2, rv2, p2, _⟩ := I.tuple hqy
    obtain ⟨u, hu, ru⟩ := rv.get hx
    obtain ⟨u2, hu2, ru2⟩ := rv2.get hy
    have hzl : z < s.heap.objs.size := Heap.lt_size hz
    have l1 : i < its.toArray.size := by simpa using (List.getElem?_eq_some_iff.mp hu).1
    have l2 : i < its2.toArray.size := by simpa using (List.getElem?_eq_some_iff.mp hu2).1
    refine wpAny_pyNext_zipD2_item D (Draws.list (A := X.A.in1) (I.ok.hd hc) i1 a d1 its.toArray) (Draws.tuple (A := X.A.in1) (I.ok.hd hc) i2 b d2 its2.toArray) hz hTI hTO ⟨h1, p.isList⟩ ⟨h2, p2⟩ l1 l2 fun x1 x2 h' tk y1 y2 z' TO' st1 st2 hT hsz hk => ?_
    have e1 : x1 = u := by
      have q1 : its.toArray[i]? = some u := by simpa using hu
      exact Option.some.inj (y1.symm.trans q1)
    have e2 : x2 = u2 := by
      have q1 : its2.toArray[i]? = some u2 := by simpa using hu2
      exact Option.some.inj (y2.symm.trans q1)
    subst e1; subst e2
    refine ⟨_, rfl, wpAny_letOwnedTupleGo_zip (s := { s with heap := h', toks := tk }) z' fun h'' z'' sb => ?_⟩
    have hT2 : h''.get? s.heap.objs.size = some { cls := .type "tuple", data := .seq #[x1, x2] } := (sb.2 _ (Nat.ne_of_gt hzl)).trans hT
    have new : ObjOk X.prog X.w (upd H s.heap.objs.size (.tup [x, y])) h'' s.heap.objs.size (.tup [x, y]) :=
      ⟨by show 2 ≤ sizeLine; decide, [x1, x2], .cons ru (.cons ru2 .nil), ⟨_, hT2, rfl, _, rfl⟩⟩
    have I1 : Inv X pins σ (upd H s.heap.objs.size (.tup [x, y])) { s with heap := h'', toks := tk } :=
      I.turnedNew (ch := [z, TI, TO, i1, i2]) (fun c o hb q => (sb.2 c (fun q' => hb (by simp [q']))).trans (hk c o (fun q' => hb (by simp [q'])) (fun q' => hb (by simp [q'])) (fun q' => hb (by simp [q'])) (fun q' => hb (by simp [q'])) q)) hf (Nat.le_refl _) new
    refine ⟨.ref s.heap.objs.size, _, I1, rfl, ⟨_, x, y, rfl, I.hok.fresh (Nat.le_refl _), rfl, fun l hl => by rw [I.list_inj hl hqx]; exact hx, fun l hl => by rw [I.tuple_inj hl hqy]; exact hy⟩, ⟨z'', ?_, ⟨x1, x2, ?_⟩, ?_, ?_⟩, fun c hcm => ?_⟩
    · exact (sb.2 _ D.TIz).trans (hk _ _ D.TIz D.TITO D.TIi1 D.TIi2 hTI)
    · exact (sb.2 _ D.TOz).trans TO'
    · exact st1.1.at fun o q => (sb.2 _ D.zi1.symm).trans q
    · exact st2.1.at fun o q => (sb.2 _ D.zi2.symm).trans q
    · have hlt : c < s.heap.objs.size := by
        rcases (by simpa using hcm : c = z ∨ c = TI ∨ c = TO ∨ c = i1 ∨ c = i2) with q | q | q | q | q
        · rw [q]; exact hzl
        · rw [q]; exact Heap.lt_size hTI
        · rw [q]; exact Heap.lt_size hTO
        · rw [q]; obtain ⟨_, e1, _⟩ := h1; exact Heap.lt_size e1
        · rw [q]; obtain ⟨_, e2, _⟩ := h2; exact Heap.lt_size e2
      rw [upd_ne (Nat.ne_of_lt hlt)]
      exact (hf c hcm).1
  done := by
    intro X hP hw hK hc i pins s σ H E I hf st hg
    subst hP; subst hw; subst hK
    obtain ⟨hz, hTI, ⟨x0, y0, hTO⟩, h1, h2⟩ := st
    obtain ⟨xs, ys, hqx, hqy, e1, e2⟩ := hg
    obtain ⟨its, rv, p, _⟩ := I.list hqx
    obtain ⟨its2, rv2, p2, _⟩ := I.tuple hqy
    have l1 : its.toArray.size = i := by rw [List.size_toArray, ← rv.length, e1]
    have l2 : its2.toArray.size = i := by rw [List.size_toArray, ← rv2.length, e2]
    exact wpAny_pyNext_zipD2_end D (Draws.list (A := X.A.in1) (I.ok.hd hc) i1 a d1 its.toArray) (Draws.tuple (A := X.A.in1) (I.ok.hd hc) i2 b d2 its2.toArray) hz hTI hTO (i := i) ⟨h1, p.isList⟩ ⟨h2, p2⟩ (by omega) (by omega) (.inl l1.symm) fun h' tk hk => ⟨rfl, I.turnedL (t' := tk) (ch := [z, TI, TO, i1, i2]) (fun c o hb q =>
      hk c o (fun q' => hb (by simp [q'])) (fun q' => hb (by simp [q'])) (fun q' => hb (by simp [q'])) (fun q' => hb (by simp [q'])) q) hf⟩
  self := fun A i s Q E st h => wpAny_pyIter_zip st.1 h
def iZipM (K : PySem.W.Frag) (ta : TA) : TI := fun σ H R => ta σ H fun vs H1 => ∃ a b xs ys, vs = [.ref a, .ref b] ∧ SqL K H1 a xs ∧ SqT K H1 b ys ∧ R (ItzM K a b) H1
theorem pi_zipM {X : Cx} {e e2 : Expr} {ta : TA} {p pos tpos : Pos} {elts : List Expr} {kk : Nat} (hg : Gl X "zip") (hm : X.mg "zip" = none) (ha : PA X [e, e2] ta)
    (hs : starEach [e, e2] X.env = (false, eval e X.env) :: starEach [e2] X.env := by rfl) (hpl : (backTo pos (starEach [e2] X.env)).any (·.1) = false := by rfl) :
    PI X (.Tuple elts kk tpos) (.Call (.Name "zip" p) [e, e2] [] pos) (iZipM X.K ta) := by
  refine ⟨fun pins s σ H R I h => ?_⟩
  refine Call_ (ld_blt I hg hm PyProof.Rows.boot_zip (PyProof.Rows.callWith_type1 (thn (ha.run pos pins s σ H _ I h) fun us s1 ⟨vs, H1, I1, r1, a, b, xs, ys, ex, hqx, hqy, q⟩ => ?_) hs hpl))
  subst ex
  obtain ⟨u1, u2, rfl, r2, r3⟩ := vals2 r1
  obtain rfl : u1 = Value.ref a := r2
  obtain rfl : u2 = Value.ref b := r3
  have fresh5 : ∀ c, c ∈ [s1.heap.objs.size + 4, s1.heap.objs.size + 2, s1.heap.objs.size + 3, s1.heap.objs.size, s1.heap.objs.size + 1] → FpOk X pins H1 c := fun c hcm => by
    have hle : s1.heap.objs.size ≤ c := by
      rcases (by simpa using hcm : c = s1.heap.objs.size + 4 ∨ c = s1.heap.objs.size + 2 ∨ c = s1.heap.objs.size + 3 ∨ c = s1.heap.objs.size ∨ c = s1.heap.objs.size + 1) with z | z | z | z | z
      · rw [z]; exact Nat.le_add_right _ _
      · rw [z]; exact Nat.le_add_right _ _
      · rw [z]; exact Nat.le_add_right _ _
      · rw [z]; exact Nat.le_refl _
      · rw [z]; exact Nat.le_add_right _ _
    exact I1.fpOk hle (I1.hok.fresh hle)
  obtain ⟨its, rv, p1, _⟩ := I1.list hqx
  obtain ⟨its2, rv2, p2, _⟩ := I1.tuple hqy
  obtain ⟨o2, ho2, _⟩ := id p2
  have la := p1.lt
  have lb := Heap.lt_size ho2
  have h2 : s1.heap.IsTuple b its2.toArray := p2
  refine zip_begins2 (begins_list a its.toArray) (begins_tuple b its2.toArray) p1.isList h2 fun h' hz hTI hTO g1 g2 hsz hk => wpAny_pyIter_zip hz ?_
  have I2 : Inv X pins σ H1 { s1 with heap := h' } := I1.kept (t' := s1.toks) hk
  exact ⟨s1.heap.objs.size + 4, [s1.heap.objs.size + 4, s1.heap.objs.size + 2, s1.heap.objs.size + 3, s1.heap.objs.size, s1.heap.objs.size + 1], _, _, H1, rfl, I2, turn_zipM (zip_sep2 (fp1 := [a]) (fp2 := [b]) (by simpa using la) (by simpa using lb)) (Nat.ne_of_lt la) (Nat.ne_of_lt (Nat.lt_succ_of_lt lb)), ⟨hz, hTI, ⟨_, _, hTO⟩, ⟨_, g1, rfl, rfl⟩, ⟨_, g2, rfl, rfl⟩⟩, fresh5, q⟩
/-- pairs of a new list and a tuple -/
theorem ei_zipM {T : Tb} {S : List Addr} {K : PySem.W.Frag} {δ : List (Option SD)} {H : Hp} {ta tb : TE} {ds es : List D} {l : Addr} {xs : List V} (ha : EvV T K ta δ H (.ref l)) (e : H l = some (.lst xs)) (r : Reps K H ds xs) (hS : l ∉ S) (hb : EvD T K tb δ H (.tup es)) (hl : ds.length = es.length) :
    EvI T K S (iZipM K (tCons ta (tCons tb tNil))) δ H ((List.range ds.length).map fun i => .tup [ds.getD i .non, es.getD i .non]) := fun σ H1 g s R q =>
  ha σ H1 g s _ fun H2 g2 => hb σ H2 (g.trans g2) (s.up g2) _ fun v H3 g3 rv => by
    obtain ⟨b, ys, ev, hs, rs⟩ := rv
    subst ev
    have gg := (g.trans g2).trans g3
    have el := gg.lst e (by simp)
    have rl := r.up gg
    refine ⟨l, b, xs, ys, rfl, .inl (.inl el), hs, q _ H3 (g2.trans g3) ?_⟩
    rw [List.length_map, List.length_range]
    have lx := rl.len
    have ly := rs.len
    refine ⟨fun i Ha hi g' => ⟨xs, ys, xs[i], ys[i], .inl (.inl (g'.lst el hS)), g'.sqT hs, by simp, by simp⟩, fun Ha g' => ⟨xs, ys, .inl (.inl (g'.lst el hS)), g'.sqT hs, lx, by omega⟩, fun i Ha x Hb hi g' y => ?_⟩
    obtain ⟨p, z1, z2, e1, hp, e2, e3, e4⟩ := y
    subst e1; subst e2
    obtain ⟨d1, hd1, rd1⟩ := rl.got (e3 xs (.inl (.inl (g'.lst el hS))))
    obtain ⟨d2, hd2, rd2⟩ := rs.got (e4 ys (g'.sqT hs))
    have gn : Gr T [] Ha (upd Ha p (.tup [z1, z2])) := Gr.new g'.tbs hp
    refine ⟨gn, .tup [d1, d2], ?_, p, _, rfl, .inl (.inl upd_same), z1, _, rfl, (rd1.up g').up gn, z2, _, rfl, (rd2.up g').up gn, rfl⟩
    rw [List.getElem?_map, List.getElem?_range hi]
    simp [List.getD_eq_getElem?_getD, hd1, hd2]
end Pd
set_option maxHeartbeats 4000000
namespace Pd
open PySem PySem.Spec PyProof.Rows L2
theorem cut_initF (ds : List D) : cutD ds none (some (-1)) = ds.dropLast := by
  have e : HT.sIx ds.length ds.length (some (-1)) = ds.length - 1 := by
    show (if (-1 : Int) < 0 then ((-1 : Int) + (ds.length : Int)).toNat else min (-1 : Int).toNat ds.length) = _
    rw [if_pos (by decide)]; omega
  unfold cutD
  rw [HT.sIx_none, List.drop_zero, Nat.sub_zero, List.dropLast_eq_take, e]
theorem atI_endF (ds : List D) (d : D) : atI (ds ++ [d]) (-1) = some d := by
  unfold atI ixN
  rw [if_neg (by decide), if_pos (by simp; omega)]
  show (ds ++ [d])[((-1 : Int) + ((ds ++ [d]).length : Int)).toNat]? = some d
  rw [show ((-1 : Int) + ((ds ++ [d]).length : Int)).toNat = ds.length by simp; omega, List.getElem?_append_right (Nat.le_refl _)]
  simp
section
variable {T : Tb} {S : List Addr} {K : PySem.W.Frag} {δ : List (Option SD)} {H : Hp} {ta tb te : TE} {ds : List D} {q : List Int} {i : Int} {d : D}
theorem ev_init (h : EvD T K te δ H (pathD (q ++ [i]))) : EvD T K (L2.tSl (rSlA K) te tNoPart (tPart (tUn (rU fun i => .int (-i)) (tC (.int 1))))) δ H (pathD q) := (ev_slT h eo_none (eo_some (i := -1) ((ev_neg ev_int).is rfl))).is (by
  rw [cut_initF, List.map_append]
  show D.tup ((q.map D.int ++ [D.int i]).dropLast) = _
  rw [List.dropLast_concat]; rfl)
theorem ev_end (h : EvD T K te δ H (pathD (q ++ [i]))) : EvD T K (tOp (rIxT K) te (tUn (rU fun i => .int (-i)) (tC (.int 1)))) δ H (.int i) := ev_ixT h ((ev_neg ev_int).is rfl) (by rw [List.map_append]; exact atI_endF _ _)
theorem ei_newL (h : EvL T K te δ H ds) (hS : ∀ x ∈ S, H x ≠ none) : EvI T K S (iList K te) δ H ds := fun σ H1 g s R q =>
  h σ H1 g s _ fun p xs H2 np g2 ep rp => by
    have nS : p ∉ S := fun z => hS p z (g.dom p np)
    refine ⟨p, rfl, ⟨xs, .inl (.inl ep)⟩, q _ H2 g2 ?_⟩
    rw [← rp.len]
    refine (walk_list (K := K) (a := p) (xs := xs)).mono (fun H' g' => .inl (.inl (Gr.lst g' ep nS))) fun i Ha x Hb hi g' y => ?_
    obtain ⟨e1, e2⟩ := y
    subst e1
    obtain ⟨d, hd, rd⟩ := rp.got e2
    exact ⟨Gr.refl g'.tbs, d, hd, rd.up g'⟩
end
section
variable {P : Program} {w : World} {K : PySem.W.Frag} {mg : Str → Option Value} {base : Heap} {T : Tb} {f : Addr} {fd : FuncData}
def RPod (lv : Nat) (ds es : List D) : Prop := ∃ (h : House) (p : List Int), ds = [h.toD, pathD p] ∧ h.ok ∧ h.many ≤ 12 ∧ h.deep < lv ∧ p.length + lv ≤ 100 ∧ es = (h.paths p).map pathD
def RDat (ds : List D) (d : D) : Prop := ∃ (h : House) (q : List Int) (i hand : Int) (dd : Doors) (n s : Int) (x : House), ds = [h.toD, pathD (q ++ [i])] ∧ h.ok ∧ h.at? q = some (.room hand dd) ∧ 0 ≤ i ∧ dd.get? i.toNat = some (n, s, x) ∧ d = doorD n s x.toD
def RPut (lv : Nat) (ds : List D) (d : D) : Prop := ∃ (h : House) (q : List Int) (x : House), ds = [h.toD, pathD q, x.toD] ∧ h.ok ∧ q.length < lv ∧ (h.at? q).isSome = true ∧ d = (h.putAt q x).toD
end
end Pd
namespace Pd
open PySem PySem.Spec PyProof.Rows L2
/-! ### defs that refuse -/
theorem raised_count {K : PySem.W.Frag} {val : D} {H : Hp} : Raised K .count val none H := by
  unfold Raised; rw [if_pos rfl]
def atD (o : Option House) : D := match o with | some x => x.toD | none => .non
def RRoomAtO (ds : List D) (d : D) : Prop := ∃ (h : House) (p : List Int), ds = [h.toD, .tup (p.map D.int)] ∧ d = atD (h.at? p)
section
variable {P : Program} {w : World} {K : PySem.W.Frag} {mg : Str → Option Value} {base : Heap} {T : Tb} {f : Addr} {fd : FuncData} {C : Ek → Addr}
def okPath (p : List Int) : Prop := p.length ≤ 40 ∧ ∀ i ∈ p, i.natAbs.log2 < 1920
/-- a path that leads to no door -/
def XCdoor (ds : List D) (o : Out) : Prop := ∃ (h : House) (p : List Int), ds = [h.toD, .tup (p.map D.int)] ∧ okPath p ∧ (p = [] ∨ h.at? p = none) ∧ o = .err .door (.tup (p.map D.int))
/-- a name that no way out has -/
def XCname (ds : List D) (o : Out) : Prop := ∃ (h : House) (nm : Str), ds = [h.toD, .str nm] ∧ h.ok ∧ h.deep < 13 ∧ h.has nm = false ∧ nm.length ≤ 50000 ∧ o = .err .name (.str nm)
/-- numbers beyond their limits -/
def XCount2 (ds : List D) (o : Out) : Prop := ∃ n lo hi : Int, ds = [.int n, .int lo, .int hi] ∧ ¬ (lo ≤ n ∧ n ≤ hi) ∧ o = .err .count .non
def XNum (lo hi : Int) (ds : List D) (o : Out) : Prop := ∃ n : Int, ds = [.int n] ∧ ¬ (lo ≤ n ∧ n ≤ hi) ∧ o = .err .count .non
def XLeaving (ds : List D) (o : Out) : Prop := ∃ (h : House) (l : Int), ds = [h.toD, .int l] ∧ h.ok ∧ h.many ≤ 12 ∧ ¬ (1 ≤ l ∧ l ≤ 1000000000000000) ∧ o = .err .count .non
def XNamed (ds : List D) (o : Out) : Prop := ∃ (h : House) (nm : Str) (n : Int), ds = [h.toD, .str nm, .int n] ∧ h.ok ∧ h.many ≤ 12 ∧ ((h.has nm = false ∧ nm.length ≤ 50000 ∧ o = .err .name (.str nm)) ∨ (h.has nm = true ∧ ¬ (1 ≤ n ∧ n ≤ 1000000000000000) ∧ o = .err .count .non))
def XPushed (ds : List D) (o : Out) : Prop := ∃ (h : House) (p : List Int) (n : Int), ds = [h.toD, .tup (p.map D.int), .int n] ∧ h.ok ∧ h.many ≤ 12 ∧ ((okPath p ∧ (p = [] ∨ h.at? p = none) ∧ o = .err .door (.tup (p.map D.int))) ∨ (p ≠ [] ∧ (∃ x, h.at? p = some x) ∧ ¬ (1 ≤ n ∧ n ≤ 1000000000000000) ∧ o = .err .count .non))
def XFitted (ds : List D) (o : Out) : Prop := ∃ (h : House) (n k : Int), ds = [h.toD, .int n, .int k] ∧ h.ok ∧ h.many ≤ 12 ∧ ¬ ((1 ≤ n ∧ n ≤ 1000000000000000) ∧ (0 ≤ k ∧ k ≤ 1000000000000000000)) ∧ o = .err .count .non
end
end Pd
namespace Pd
open PySem PySem.Spec PyProof.Rows L2
/-! ### any room: can it be, and the first that can't -/
def Doors.canB : Doors → Bool
  | .nil => true
  | .cons n s _ r => doorOk n s && r.canB
def House.canB : House → Bool
  | .out n => decide (okName n)
  | .room hand ds => ((decide (1 ≤ ds.len) && decide (ds.len ≤ 4)) && (decide (0 ≤ hand) && decide (hand < ds.len))) && ds.canB
mutual
def House.bad : House → List Int → Option (List Int)
  | .out n, p => if okName n then none else some p
  | .room hand ds, p => if (House.room hand ds).canB = true then ds.bad p 0 else some p
def Doors.bad : Doors → List Int → Nat → Option (List Int)
  | .nil, _, _ => none
  | .cons _ _ h r, p, k => match h.bad (p ++ [(k : Int)]) with
    | some q => some q
    | none => r.bad p (k + 1)
end
mutual
/-- not too big to be told -/
def House.fair : House → Prop
  | .out n => n.length ≤ 10000
  | .room _ ds => ds.len ≤ 1000 ∧ ds.fair
def Doors.fair : Doors → Prop
  | .nil => True
  | .cons _ _ h r => h.fair ∧ r.fair
end
theorem Doors.canB_all : ∀ ds : Doors, ds.toDs.all bdDoor = ds.canB
  | .nil => rfl
  | .cons n s h r => by
    simp only [Doors.toDs, List.all_cons, Doors.canB, Doors.canB_all r]
    rfl
theorem okName.allB (z : Str) : ((decide (1 ≤ z.length) && decide (z.length ≤ 6)) && z.cps.toList.all (fun c => decide (c ∈ ("abcdefghijklmnopqrstuvwxyz" : Str).cps.toList))) = decide (okName z) := by
  by_cases h : okName z
  · rw [h.all, decide_eq_true h]
    simp [h.1, h.2.1]
  · rw [decide_eq_false h]
    by_cases a : 1 ≤ z.length ∧ z.length ≤ 6
    · rw [Bool.and_eq_false_iff]; right
      rw [List.all_eq_false]
      by_cases b : ∀ c ∈ z.cps.toList, 97 ≤ c ∧ c ≤ 122
      · exact absurd ⟨a.1, a.2, b⟩ h
      · have ⟨c, hc⟩ : ∃ c, c ∈ z.cps.toList ∧ ¬ (97 ≤ c ∧ c ≤ 122) := by
          apply Classical.byContradiction
          intro z2
          exact b fun c hc => Classical.byContradiction fun q => z2 ⟨c, hc, q⟩
        refine ⟨c, hc.1, ?_⟩
        rw [letters_eq, decide_eq_true_eq, List.mem_range'_1]
        have := hc.2
        omega
    · rw [Bool.and_eq_false_iff]; left
      simp only [Bool.and_eq_false_iff, decide_eq_false_iff_not]
      omega
/-- the rooms behind, with their paths -/
def Doors.hind (p : List Int) : Doors → Nat → List (List Int × House)
  | .nil, _ => []
  | .cons _ _ h r, k => (p ++ [(k : Int)], h) :: r.hind p (k + 1)
def House.hind (p : List Int) : House → List (List Int × House)
  | .out _ => []
  | .room _ ds => ds.hind p 0
def toWait (x : List Int × House) : D := .tup [.tup (x.1.map D.int), x.2.toD]
def firsts : List (List Int × House) → Option (List Int)
  | [] => none
  | x :: r => match x.2.bad x.1 with
    | some q => some q
    | none => firsts r
theorem firsts_app : ∀ a b, firsts (a ++ b) = match firsts a with
    | some q => some q
    | none => firsts b
  | [], b => rfl
  | x :: r, b => by
    simp only [List.cons_append, firsts]
    cases x.2.bad x.1 with
    | some q => rfl
    | none => exact firsts_app r b
theorem Doors.bad_is : ∀ (ds : Doors) (p : List Int) (k : Nat), ds.bad p k = firsts (ds.hind p k)
  | .nil, _, _ => rfl
  | .cons n s h r, p, k => by
    simp only [Doors.bad, Doors.hind, firsts, Doors.bad_is r p (k + 1)]
theorem House.bad_is (h : House) (p : List Int) : h.bad p = if h.canB = true then firsts (h.hind p) else some p := by
  cases h with
  | out n =>
    simp only [House.bad, House.canB, House.hind, firsts, decide_eq_true_eq]
  | room hand ds =>
    simp only [House.bad, House.hind, Doors.bad_is]
def sumW : List (List Int × House) → Nat
  | [] => 0
  | x :: r => x.2.many + sumW r
theorem sumW_app : ∀ a b, sumW (a ++ b) = sumW a + sumW b
  | [], b => by simp [sumW]
  | x :: r, b => by simp only [List.cons_append, sumW, sumW_app r b]; omega
theorem sumW_rev : ∀ a, sumW a.reverse = sumW a
  | [] => rfl
  | x :: r => by rw [List.reverse_cons, sumW_app, sumW_rev r]; simp only [sumW]; omega
theorem Doors.sum_hind (p : List Int) : ∀ (ds : Doors) (k : Nat), sumW (ds.hind p k) + (ds.hind p k).length = ds.many
  | .nil, _ => rfl
  | .cons n s h r, k => by
    have := Doors.sum_hind p r (k + 1)
    simp only [Doors.hind, sumW, List.length_cons, Doors.many]
    omega
theorem House.sum_hind (p : List Int) : ∀ h : House, sumW (h.hind p) + (h.hind p).length = h.many
  | .out _ => rfl
  | .room _ ds => ds.sum_hind p 0
theorem Doors.hind_len (p : List Int) : ∀ (ds : Doors) (k : Nat), (ds.hind p k).length = ds.len
  | .nil, _ => rfl
  | .cons _ _ _ r, k => congrArg (· + 1) (Doors.hind_len p r (k + 1))
theorem Doors.hind_get (p : List Int) : ∀ (ds : Doors) (k i : Nat), (ds.hind p k)[i]? = (ds.get? i).map fun x => (p ++ [((k + i : Nat) : Int)], x.2.2)
  | .nil, _, _ => by simp [Doors.hind, Doors.get?]
  | .cons n s h r, k, 0 => rfl
  | .cons n s h r, k, i + 1 => by
    show (r.hind p (k + 1))[i]? = _
    rw [Doors.hind_get p r (k + 1) i, show k + 1 + i = k + (i + 1) by omega]; rfl
theorem Doors.hind_fair (p : List Int) : ∀ (ds : Doors) (k : Nat), ds.fair → ∀ x ∈ ds.hind p k, x.2.fair ∧ x.1.length = p.length + 1 ∧ x.2.deep ≤ ds.deep ∧ (∀ i ∈ x.1, i ∈ p ∨ ∃ j : Nat, i = j ∧ j < k + ds.len)
  | .nil, _, _, x, h => by simp [Doors.hind] at h
  | .cons n s h r, k, ⟨h5, h6⟩, x, hx => by
    simp only [Doors.hind, List.mem_cons] at hx
    rcases hx with rfl | hx
    · refine ⟨h5, by simp, Nat.le_max_left _ _, fun i hi => ?_⟩
      simp only [List.mem_append, List.mem_singleton] at hi
      exact hi.elim .inl fun e => .inr ⟨k, e, by simp only [Doors.len]; omega⟩
    · obtain ⟨a, b, c, d⟩ := Doors.hind_fair p r (k + 1) h6 x hx
      refine ⟨a, b, Nat.le_trans c (Nat.le_max_right _ _), fun i hi => (d i hi).imp id fun ⟨j, e, hj⟩ => ⟨j, e, by simp only [Doors.len]; omega⟩⟩
section
variable {P : Program} {w : World} {K : PySem.W.Frag} {mg : Str → Option Value} {base : Heap} {T : Tb} {f : Addr} {C : Ek → Addr} {fd : FuncData}
def RNameG (ds : List D) (d : D) : Prop := ∃ z, ds = [.str z] ∧ z.length ≤ 10000 ∧ d = .bl (decide (okName z))
theorem okG_isname {c Pt : Addr} (B : Bl mg) (TB : GxR.TabB base mg c Pt) (hP : Pt ∈ T.g) (hl : ∀ p ∈ T.l, p.1 ≠ Pt) (a : AtC K mg "is_name" s_is_name ["text"] f fd c) : Ok P w K mg base 1 "is_name" ["text"] (spR T K RNameG) := by
  refine okRC a sc_is_name (fun ds d ⟨_, e, _⟩ => by rw [e]; rfl) fun A outer s H E ds d Q hr hR hT q => ⟨_, (pss_one (ps_ret (pe_and (pe_chain op_le op_le pe_int (pe_callB cr_lenS (by rfl) B.len (by decide +kernel) (pa_cons (pv 0) pa_nil)) (pe_cstI (by rfl) B.LONGEST_NAME)) (pe_one
    (pe_allTx hr (by rfl) B.all (by decide +kernel) TB rfl (genS_by rfl rfl (by decide +kernel) rfl rfl) (pv 0) (fun pins σ H s1 I hP cc t => quiet_letter I hP rfl rfl rfl B.LETTERS (by decide) (by decide) cc t) (fun _ => rfl)))))), ?_⟩
  obtain ⟨z, rfl, hz, rfl⟩ := hR
  refine run_ret hT ((ev_andV (ev_chain ev_int (ev_lenS (ev_var rfl) (by omega)) ev_int) fun _ => ev_allTx (ev_var rfl) hP hl).is ?_) q
  rw [← okName.allB]
  congr 2
  by_cases a : 1 ≤ z.length <;> by_cases b : z.length ≤ 6 <;> simp [a, b] <;> omega
def House.top : House → Prop
  | .out n => n.length ≤ 10000
  | .room _ ds => ds.len ≤ 1000
def RCanG (ds : List D) (d : D) : Prop := ∃ h : House, ds = [h.toD] ∧ h.top ∧ d = .bl h.canB
theorem okG_canbe {c Pt : Addr} {fdoor : Addr} {fddoor : FuncData} (B : Bl mg) (TB : GxR.TabB base mg c Pt) (hP : Pt ∈ T.g) (hl : ∀ p ∈ T.l, p.1 ≠ Pt) (a : AtC K mg "can_be" s_can_be ["room"] f fd c) (Dr : At K mg "is_door" s_is_door ["door"] fdoor fddoor)
    (G_is_way_out : Ok P w K mg base 1 "is_way_out" ["room"] (spR T K RWay)) (G_is_name : Ok P w K mg base 1 "is_name" ["text"] (spR T K RNameG)) : Ok P w K mg base 2 "can_be" ["room"] (spR T K RCanG) := by
  refine okRC a sc_can_be (fun ds d ⟨_, e, _⟩ => by rw [e]; rfl) fun A outer s H E ds d Q hr hR hT q => ⟨_, (pss_cons (ps_if (pt_val (pe_own G_is_way_out hr (by decide) (by rfl) (pa_cons (pv 0) pa_nil))) (pss_one (ps_ret (pe_own G_is_name hr (by decide) (by rfl) (pa_cons (pv 0) pa_nil)))) pss_nil)
    (pss_cons (ps_asg (pv 0) (pg_tup rfl (pgs_cons (pg_name (i := 1) sc_can_be.nd rfl (Or.inl rfl)) (pgs_cons (pg_name (i := 2) sc_can_be.nd rfl (Or.inl rfl)) pgs_nil))))
    (pss_cons (ps_if (PW.pt (pw_or (pt_not (pt_chain op_le op_le pe_int (pe_callB cr_len (by rfl) B.len (by decide +kernel) (pa_cons (pv 2) pa_nil)) (pe_cstI (by rfl) B.MOST_DOORS_OF_A_ROOM))) (pw_or1 (pt_not (pt_chain op_le op_lt pe_int (pv 1) (pe_callB cr_len (by rfl) B.len (by decide +kernel) (pa_cons (pv 2) pa_nil))))))) (pss_one (ps_ret pe_bl)) pss_nil)
    (pss_one (ps_ret (pe_allTup (Pel := PelDoor K) hr (by rfl) B.all (by decide +kernel) TB rfl (genS_by rfl rfl (by decide +kernel) rfl rfl) (pv 2) (fun pins σ H s1 I hPt v u b hv ru => by
      obtain ⟨aa, n, ss, r, rfl, hq, rfl⟩ := hv
      obtain ⟨its, rv, pt, _⟩ := I.tuple hq
      cases rv with
      | cons r1 rv => cases rv with
        | cons r2 rv => cases rv with
          | cons r3 rv =>
            cases rv
            obtain ⟨t1, rfl⟩ := r1
            obtain ⟨t2, rfl⟩ := r2
            obtain rfl : u = Value.ref aa := ru
            obtain ⟨ps, hP2⟩ := hPt
            refine quiet_isdoor I (by rw [hP2]; simp) hr B Dr rfl rfl rfl (by decide) pt fun z => ?_
            have sP : s1.heap.get? Pt = some { cls := .none, data := .fields ps } := I.hok Pt _ hP2
            obtain ⟨o, e, e2, _⟩ := pt
            rw [z, sP] at e; cases e; cases e2) (fun _ => rfl))))))), ?_⟩
  obtain ⟨h, rfl, hok, rfl⟩ := hR
  cases h with
  | out n =>
    exact run_when hT (et_B (ev_call (ea_cons (ev_var rfl) ea_nil) ⟨_, rfl, rfl⟩)) (fun _ H1 g1 => run_ret g1.tbs (ev_call (ea_cons (ev_var rfl) ea_nil) ⟨n, rfl, hok, rfl⟩) fun v H2 g2 r => q v H2 (g1.trans g2) r) fun e => nomatch e
  | room hand ds =>
    refine run_when hT (et_B (ev_call (ea_cons (ev_var rfl) ea_nil) ⟨_, rfl, rfl⟩)) (fun e => nomatch e) fun _ H1 g1 => ?_
    refine run_asgG g1.tbs (ev_var rfl) (fun H1 g1 => eg_tup rfl (eg_cons eg_name (eg_cons eg_name eg_nil))) fun H2 g2 => ?_
    refine run_when g2.tbs (et_or (et_not (et_test (ev_chain ev_int (ev_lenT (ev_var rfl)) ev_int))) fun _ => et_not (et_test (ev_chain ev_int (ev_var rfl) (ev_lenT (ev_var rfl))))) (fun e H3 g3 => ?_) fun e H3 g3 => ?_
    · refine run_ret g3.tbs (d := .bl (House.room hand ds).canB) ((ev_bl (b := false)).is ?_) fun v H4 g4 r => q v H4 (((g1.trans g2).trans g3).trans g4) r
      rw [Doors.toDs_len] at e
      simp only [House.canB]
      by_cases a1 : 1 ≤ ds.len <;> by_cases a2 : ds.len ≤ 4 <;> by_cases a3 : 0 ≤ hand <;> by_cases a4 : hand < ds.len <;> simp [a1, a2, a3, a4] at e ⊢ <;> omega
    · refine run_ret g3.tbs ((ev_allT (bd := bdDoor) (ev_var rfl) hP hl fun d hd v H4 r => ?_).is ?_) fun v H4 g4 r => q v H4 (((g1.trans g2).trans g3).trans g4) r
      · obtain ⟨n, s, r', rfl⟩ := Doors.mem_toDs ds d hd
        obtain ⟨aa, xs, e, hs, x1, l1, e1, r1, x2, l2, e2, r2, x3, l3, e3, r3, e4⟩ := r
        cases (show x1 = _ from r1); cases (show x2 = _ from r2); cases (show l3 = [] from e4)
        subst e1; subst e2; subst e3
        exact ⟨aa, n, s, x3, e, hs, rfl⟩
      · rw [Doors.toDs_len] at e
        rw [Doors.canB_all]
        simp only [House.canB]
        by_cases a1 : 1 ≤ ds.len <;> by_cases a2 : ds.len ≤ 4 <;> by_cases a3 : 0 ≤ hand <;> by_cases a4 : hand < ds.len <;> simp [a1, a2, a3, a4] at e ⊢ <;> omega
end
end Pd
namespace Pd
open PySem PySem.Spec PyProof.Rows L2
/-! ### check_house, asked of any room -/
def RBehG (ds : List D) (es : List D) : Prop := ∃ (h : House) (p : List Int), ds = [h.toD, .tup (p.map D.int)] ∧ h.top ∧ p.length ≤ 100 ∧ es = (h.hind p).map toWait
def checkO (h : House) : Out := match h.bad [] with
  | some p => .err .house (pathD p)
  | none => if h.many ≤ 12 then .ret .non else .err .house (pathD [])
def House.told (h : House) : Prop := h.fair ∧ h.deep ≤ 39 ∧ h.many ≤ 40000
def XCheck (ds : List D) (o : Out) : Prop := ∃ h : House, ds = [h.toD] ∧ h.told ∧ o = checkO h
theorem House.fair_top : ∀ {h : House}, h.fair → h.top
  | .out _, h => h
  | .room _ _, h => h.1
section
variable {P : Program} {w : World} {K : PySem.W.Frag} {mg : Str → Option Value} {base : Heap} {T : Tb} {f : Addr} {C : Ek → Addr} {fd : FuncData}
theorem okG_behind (B : Bl mg) (a : At K mg "rooms_behind" s_rooms_behind ["room", "path"] f fd) (G_is_way_out : Ok P w K mg base 1 "is_way_out" ["room"] (spR T K RWay)) : Ok P w K mg base 2 "rooms_behind" ["room", "path"] (spRL T K RBehG) := by
  refine okRL a sc_rooms_behind (fun ds d ⟨_, _, e, _⟩ => by rw [e]; rfl) fun cdv A outer s H E ds es Q hr hR hT q => ⟨_, (pss_cons (ps_if (pt_val (pe_own G_is_way_out hr (by decide) (by rfl) (pa_cons (pv 0) pa_nil))) (pss_one (ps_ret (pe_lst pa_nil))) pss_nil)
    (pss_one (ps_ret (pe_lc (own := [("at", 2), ("door", 3)]) rfl sc_rooms_behind.nd (pi_enumT (by rfl) B.enumerate (pa_cons (pe_ix ix_tup (pv 0) pe_int (fun _ _ => rfl)) pa_nil)) (blkOk_by (N := ["room", "path", "at", "door"]) (sc := defScope s_rooms_behind) (by decide +kernel)) (fun _ _ _ _ _ => (pgTup (n := 2) (pgs_cons (pg_name (i := 2) sc_rooms_behind.nd rfl (Or.inl rfl)) (pgs_cons (pg_name (i := 3) sc_rooms_behind.nd rfl (Or.inl rfl)) pgs_nil)))) (fun _ _ _ _ _ => pts_nil) (fun _ _ _ _ _ => (pe_tup (pa_cons (pe_op catA (pv 1) (pe_tup (pa_cons (pv 2) pa_nil))) (pa_cons (pe_ix ixTup (pv 3) pe_int (fun _ _ => rfl)) pa_nil)))))))), ?_⟩
  obtain ⟨h, p, rfl, hok, hp, rfl⟩ := hR
  cases h with
  | out n => exact run_when hT (et_B (ev_call (ea_cons (ev_var rfl) ea_nil) ⟨_, rfl, rfl⟩)) (fun _ H1 g1 => run_retL g1.tbs (ev_lst ea_nil (by decide)) fun l xs H2 n1 g2 e r => q l xs H2 (g1.dom l n1) (g1.trans g2) e r) fun e => nomatch e
  | room hand ds =>
    have hl : ds.len ≤ 1000 := hok
    refine run_when hT (et_B (ev_call (ea_cons (ev_var rfl) ea_nil) ⟨_, rfl, rfl⟩)) (fun e => nomatch e) fun _ H1 g1 => ?_
    refine run_retL g1.tbs (ev_lcA (ds := (ds.hind p 0).map toWait) (ei_enumT (ea_cons (ev_ixT (ev_var rfl) ev_int (atI_nat (j := 1) rfl)) ea_nil)) (by rw [withNo_len, Doors.toDs_len]; omega) (by rw [withNo_len, Doors.toDs_len, List.length_map, Doors.hind_len]) fun i e y H2 he hy g2 => ?_) fun l xs H2 n1 g2 e r => q l xs H2 (g1.dom l n1) (g1.trans g2) e r
    rw [withNo_get, Doors.get_toDs] at he
    rw [List.getElem?_map, Doors.hind_get] at hy
    cases hd : ds.get? i with
    | none => rw [hd] at he; cases he
    | some x =>
      rw [hd] at he hy
      cases he; cases hy
      refine ⟨_, _, eg_tup rfl (eg_cons eg_name (eg_cons eg_name eg_nil)), by decide, ?_⟩
      refine ev_tup (ds := [.tup (p.map D.int ++ [.int ((0 + i : Nat) : Int)]), x.2.2.toD]) (ea_cons (ev_catT (ev_var rfl) (ev_tup (ea_cons (ev_var rfl) ea_nil) (by simp)) (by simp; omega)) (ea_cons (ev_ixT (ev_var rfl) ev_int (atI_nat (j := 2) rfl)) ea_nil)) (by simp) |>.is ?_
      simp [toWait]
theorem okG_check (B : Bl mg) (VE : EC P w K mg base .house (C .house)) (a : At K mg "check_house" s_check_house ["house"] f fd) (G_can_be : Ok P w K mg base 2 "can_be" ["room"] (spR T K RCanG)) (G_rooms_behind : Ok P w K mg base 2 "rooms_behind" ["room", "path"] (spRL T K RBehG)) : OkE P w K mg base 3 "check_house" ["house"] (spO T K C XCheck) := by
  refine okO a sc_check_house (fun ds o ⟨_, e, _⟩ => by rw [e]; rfl) fun cdv A outer s H E ds o Q hr hR hT q => ⟨_, (pss_cons (ps_set (i := 1) sc_check_house.nd rfl (Or.inl rfl) pe_int)
    (pss_cons (ps_set (i := 2) sc_check_house.nd rfl (Or.inl rfl) (pe_lst (pa_cons (pe_tup (pa_cons (pe_tup pa_nil) (pa_cons (pv 0) pa_nil))) pa_nil)))
    (pss_cons (ps_while PassesOwn.leaving (pt_truth (pv 2) (by intro _; rfl)) (pss_cons (ps_asg (pe_bm0 PySem.F.plainAttrs_list PySem.F.slot_list_pop PySem.F.type_list_pop mt_pop (pv 2)) (pg_tup rfl (pgs_cons (pg_name (i := 3) sc_check_house.nd rfl (Or.inl rfl)) (pgs_cons (pg_name (i := 4) sc_check_house.nd rfl (Or.inl rfl)) pgs_nil))))
    (pss_cons (ps_if (pt_not (pt_val (pe_own G_can_be hr (by decide) (by rfl) (pa_cons (pv 4) pa_nil)))) (pss_one (ps_raiseV (k := .house) VE rfl (hr.mono (by decide)) rfl (takes_of rfl rfl rfl rfl) (by rfl) (pv 3))) pss_nil)
    (pss_cons (ps_set (i := 5) sc_check_house.nd rfl (Or.inl rfl) (pe_own G_rooms_behind hr (by decide) (by rfl) (pa_cons (pv 4) (pa_cons (pv 3) pa_nil))))
    (pss_cons (ps_aug (i := 1) sc_check_house.nd rfl (Or.inl rfl) (pe_callB cr_len (by rfl) B.len (by decide +kernel) (pa_cons (pv 5) pa_nil)) ip_add)
    (pss_one (ps_expr (pe_bm PySem.F.plainAttrs_list PySem.F.slot_list_extend PySem.F.type_list_extend mt_extend (pv 2) (pa_cons (pe_revL (pv 5)) pa_nil)))))))))
    (pss_one (ps_if (pt_cmpR op_gt (pv 1) (pe_cstI (by rfl) B.MOST_DOORS_OF_A_HOUSE) (nomark _)) (pss_one (ps_raiseV (k := .house) VE rfl (hr.mono (by decide)) rfl (takes_of rfl rfl rfl rfl) (by rfl) (pe_tup pa_nil))) pss_nil))))), ?_⟩
  obtain ⟨h, rfl, ⟨hf, hdp, hmn⟩, rfl⟩ := hR
  refine run_asg hT ev_int fun H1 g1 => ?_
  refine run_asgL g1.tbs (ev_lst (ea_cons (ev_tup (ea_cons (ev_tup ea_nil (by decide)) (ea_cons (ev_var rfl) ea_nil)) (by simp)) ea_nil) (by simp)) fun l xs H2 nl g2 el rl => ?_
  have nl0 : H l = none := g1.dom l nl
  have fok : ∀ p : List Int, p.length ≤ 40 → (∀ i ∈ p, 0 ≤ i ∧ i ≤ 1000) → FmtOk (pathD p) := fun p p1 p2 => .inr (.inr ⟨p, rfl, p1, fun i hi => by
    have := p2 i hi
    exact Nat.lt_of_le_of_lt (Nat.log2_le_self _) (by omega)⟩)
  refine run_while (S := [l]) g2.tbs (fun m δ H => ∃ (pend : List (List Int × House)) (found : Int) (s3 s4 s5 : Option SD) (xs : List V), δ = [some (.d h.toD), some (.d (.int found)), some (.v (.ref l)), s3, s4, s5] ∧ found + sumW pend = h.many ∧ m = sumW pend + pend.length ∧ m ≤ h.many + 1 ∧
      (∀ x ∈ pend, x.2.fair ∧ x.1.length + x.2.deep ≤ 39 ∧ ∀ i ∈ x.1, 0 ≤ i ∧ i ≤ 1000) ∧ firsts pend.reverse = h.bad [] ∧ H l = some (.lst xs) ∧ Reps K H (pend.map toWait) xs)
    (fun m δ Ha Hb g ⟨pend, found, s3, s4, s5, ys, e1, e2, e3, em, e4, ef, e5, e6⟩ => ⟨pend, found, s3, s4, s5, ys, e1, e2, e3, em, e4, ef, g.lst e5 (by simp), e6.up g⟩)
    (h.many + 1) ⟨[([], h)], 0, none, none, none, xs, rfl, by simp [sumW], by simp [sumW], by omega, fun x hx => ?_, by simp only [List.reverse_cons, List.reverse_nil, List.nil_append, firsts]; cases h.bad [] <;> rfl, el, rl⟩ fun m δ Ha ga ⟨pend, found, s3, s4, s5, ys, e1, e2, e3, em, e4, ef, e5, e6⟩ => ?_
  · obtain rfl : x = ([], h) := by simpa using hx
    exact ⟨hf, by simpa using hdp, by simp⟩
  subst e1
  refine ⟨_, et_truL (ev_raw rfl) e5, fun hb Hb gb N hN => ?_, fun hb Hb gb => ?_⟩
  · -- a turn
    have ne : ys ≠ [] := fun z => by rw [z] at hb; exact absurd hb (by decide)
    have nep : pend ≠ [] := fun z => by subst z; exact ne (show ys = [] from e6)
    obtain ⟨rest, x, rfl⟩ : ∃ rest x, pend = rest ++ [x] := ⟨pend.dropLast, pend.getLast nep, (List.dropLast_concat_getLast nep).symm⟩
    obtain ⟨p, hh⟩ := x
    obtain ⟨ys0, y, rfl⟩ : ∃ ys0 y, ys = ys0 ++ [y] := ⟨ys.dropLast, ys.getLast ne, (List.dropLast_concat_getLast ne).symm⟩
    have elen := e6.len
    rw [List.map_append, List.length_append, List.length_append] at elen
    have elen' : ys0.length = (rest.map toWait).length := by simpa using elen
    have r0 : Reps K Ha (rest.map toWait) ys0 := by
      have := e6.take (rest.map toWait).length
      rw [List.map_append, List.take_left' rfl, List.take_left' elen'] at this
      exact this
    have ry : Rep K Ha (toWait (p, hh)) y := by
      obtain ⟨z, hz, rz⟩ := e6.get (i := (rest.map toWait).length) (d := toWait (p, hh)) (by rw [List.map_append, List.getElem?_append_right (Nat.le_refl _)]; simp)
      rw [← elen', List.getElem?_append_right (Nat.le_refl _)] at hz
      simp at hz
      rw [hz]; exact rz
    obtain ⟨hhf, hhd, hhi⟩ := e4 (p, hh) (by simp)
    have hhd' : p.length + hh.deep ≤ 39 := hhd
    have g0b : Gr T [l] H Hb := ((g1.trans g2).any.trans ga).trans gb.any
    have ef2 : (match hh.bad p with | some q => some q | none => firsts rest.reverse) = h.bad [] := by
      rw [← ef, List.reverse_append]; rfl
    refine run_popG gb.tbs (ev_raw rfl) (gb.lst e5 (by simp)) (ry.up gb) (fun H1 => eg_tup rfl (eg_cons eg_name (eg_cons eg_name eg_nil))) fun Hc gc elc => ?_
    have gl : Gr T [l] Hc (upd Hc l (.lst ys0)) := (Gr.refl gc.tbs).put elc (.inl (by simp))
    refine run_when gl.tbs (et_not (et_B (ev_call (ea_cons (ev_var rfl) ea_nil) ⟨hh, rfl, (House.fair_top hhf), rfl⟩))) (fun e Hd gd => ?_) fun e Hd gd => ?_
    · -- it can't be
      have eb : hh.bad p = some p := by rw [House.bad_is, if_neg (by simpa using e)]
      rw [eb] at ef2
      have eo : checkO h = .err .house (pathD p) := by unfold checkO; rw [← ef2]
      rw [eo] at q
      have gall : Gr T [] H Hd := (g1.trans g2).drop (((ga.trans gb.any).trans (gc.any.trans gl)).trans gd.any) nl0
      exact run_raiseV (by decide) gd.tbs (ev_var (d := pathD p) rfl) (fok p (by omega) hhi) fun σ d H' g hr => q d H' (gall.trans g) hr
    have ecan : hh.canB = true := by simpa using e
    have eb : hh.bad p = firsts (hh.hind p) := by rw [House.bad_is, if_pos ecan]
    refine run_asgL gd.tbs (ev_callL (ea_cons (ev_var rfl) (ea_cons (ev_var rfl) ea_nil)) ⟨hh, p, rfl, (House.fair_top hhf), by omega, rfl⟩) fun l2 zs He nl2 ge el2 rl2 => ?_
    refine run_aug ge.tbs rfl (ev_lenL (ev_raw rfl) el2) fun Hf gf => ?_
    have elf : Hf l = some (.lst ys0) := gf.lst (ge.lst (gd.lst upd_same (by simp)) (by simp)) (by simp)
    have el2f := gf.lst el2 (by simp)
    have hsb := House.sum_hind p hh
    have lz : zs.length = (hh.hind p).length := by rw [rl2.len, List.length_map]
    have hys : ys0.length = rest.length := by rw [elen', List.length_map]
    have hrest : rest.length ≤ 40001 := by
      rw [List.length_append] at e3
      omega
    have hhz : (hh.hind p).length ≤ 1000 := by
      cases hh with
      | out n => simp [House.hind]
      | room hand ds => have := hhf.1; simp only [House.hind, Doors.hind_len]; omega
    refine run_last (run_extR gf.tbs (ev_raw rfl) (ev_raw rfl) elf el2f (by omega) fun Hg gg elg => run_next fun σ sl => ?_)
    have glg : Gr T [l] Hg (upd Hg l (.lst (ys0 ++ zs.reverse))) := (Gr.refl gg.tbs).put elg (.inl (by simp))
    have gall : Gr T [l] Hb (upd Hg l (.lst (ys0 ++ zs.reverse))) := ((((gc.any.trans gl).trans gd.any).trans ge.any).trans (gf.any.trans gg.any)).trans glg
    refine hN (sumW rest + sumW (hh.hind p) + (rest.length + (hh.hind p).length)) _ σ _ ?_ gall ⟨rest ++ (hh.hind p).reverse, _, _, _, _, _, rfl, ?_, ?_, ?_, ?_, ?_, upd_same, ?_⟩ sl
    · rw [e3, sumW_app]; simp only [sumW, List.length_append, List.length_cons, List.length_nil]; omega
    · rw [sumW_app] at e2; rw [sumW_app, sumW_rev, lz]; simp only [sumW] at e2; omega
    · rw [sumW_app, sumW_rev, List.length_append, List.length_reverse]
    · rw [sumW_app, List.length_append] at e3; simp only [sumW, List.length_cons, List.length_nil] at e3; omega
    · intro x hx
      rcases List.mem_append.mp hx with hx | hx
      · exact e4 x (List.mem_append_left _ hx)
      · cases hh with
        | out n => simp [House.hind] at hx
        | room hand ds =>
          obtain ⟨b1, b2, b3, b4⟩ := Doors.hind_fair p ds 0 hhf.2 x (List.mem_reverse.mp hx)
          have hl : ds.len ≤ 1000 := hhf.1
          refine ⟨b1, ?_, fun i hi => (b4 i hi).elim (hhi i) fun ⟨j, ej, hj⟩ => by omega⟩
          simp only [House.deep] at hhd'
          omega
    · rw [List.reverse_append, List.reverse_reverse, firsts_app, ← eb]; exact ef2
    · rw [List.map_append, List.map_reverse]
      have r0g : Reps K Hg (rest.map toWait) ys0 := (((((r0.up gb).up gc).up gl).up gd).up ge).up (gf.trans gg)
      have r2g : Reps K Hg ((hh.hind p).map toWait) zs := (rl2.up gf).up gg
      exact (r0g.app r2g.rev).up glg
  · -- behind the loop
    have hy : ys = [] := by cases ys with
      | nil => rfl
      | cons z zs => simp at hb
    have hp : pend = [] := by
      subst hy
      have := e6.len
      simpa using this.symm
    subst hp
    have g0b : Gr T [] H Hb := ((g1.trans g2).drop (ga.trans gb.any) nl0)
    have e2' : found = h.many := by simpa [sumW] using e2
    have eo : checkO h = if h.many ≤ 12 then .ret .non else .err .house (pathD []) := by unfold checkO; rw [← ef]; rfl
    rw [eo] at q
    refine run_last (run_when gb.tbs (et_test (ev_B0 (ev_var rfl) ev_int)) (fun e Hc gc => ?_) fun e Hc gc => run_next fun σ sl => ?_)
    · have : ¬ h.many ≤ 12 := by simp at e; omega
      rw [if_neg this] at q
      exact run_raiseV (by decide) gc.tbs (ev_tup (ds := ([] : List Int).map D.int) ea_nil (by simp)) (fok [] (by simp) (by simp)) fun σ d H' g hr => q d H' ((g0b.trans gc).trans g) hr
    · have : h.many ≤ 12 := by simp at e; omega
      rw [if_pos this] at q
      exact q .non Hc (g0b.trans gc) rfl
end
end Pd
namespace Pd
open PySem PySem.Spec PyProof.Rows L2
theorem figures_eq : ("0123456789" : Str).cps.toList = List.range' 48 10 := by decide +kernel
theorem n_zero (c : Nat) : decide ((⟨#[c]⟩ : Str) = "0") = decide (some c = some 48) := by
  have e : ("0" : Str) = ⟨#[48]⟩ := by decide +kernel
  rw [e]
  by_cases h : c = 48
  · subst h; simp
  · have n1 : ¬ (⟨#[c]⟩ : Str) = ⟨#[48]⟩ := fun z => by
      have := congrArg (fun s : Str => s.cps.toList) z
      simp at this
      exact h this
    have n2 : ¬ some c = some 48 := by simpa using h
    rw [decide_eq_false n1, decide_eq_false n2]
theorem n_ro : decide (("room" : Str) = "out") = false := by decide +kernel
theorem n_do : decide (("door" : Str) = "out") = false := by decide +kernel
theorem n_dr : decide (("door" : Str) = "room") = false := by decide +kernel
theorem n_rd : decide (("room" : Str) = "door") = false := by decide +kernel
theorem n_or : decide (("out" : Str) = "room") = false := by decide +kernel
theorem n_od : decide (("out" : Str) = "door") = false := by decide +kernel
section
variable {P : Program} {w : World} {K : PySem.W.Frag} {mg : Str → Option Value} {base : Heap} {T : Tb} {f : Addr} {fd : FuncData}
/-! ### written -/
def RRows (lv : Nat) (ds : List D) (es : List D) : Prop := ∃ h : House, ds = [h.toD] ∧ h.ok ∧ h.deep < lv ∧ h.many ≤ 12 ∧ es = (h.words.map rowT).map D.str
end
end Pd
namespace Pd
open PySem PySem.Spec PyProof.Rows L2
section
variable {P : Program} {w : World} {K : PySem.W.Frag} {mg : Str → Option Value} {base : Heap} {T : Tb} {f : Addr} {fd : FuncData}
def RWritten (ds : List D) (d : D) : Prop := ∃ h : House, ds = [h.toD] ∧ h.ok ∧ h.many ≤ 12 ∧ d = .str h.text
theorem text_fits {h : House} (hok : h.ok) (h12 : h.many ≤ 12) : ((h.words.map rowT).map (·.length)).sum + (h.words.map rowT).length * ("\n" : Str).length ≤ 1000 := by
  have a := sum_rows h.words (House.words_ok h hok)
  have b := House.words_len h
  have c : ("\n" : Str).length = 1 := by decide +kernel
  rw [c, List.length_map]; omega
def RNum (ds : List D) (d : D) : Prop := ∃ z : Str, ds = [.str z] ∧ z.length ≤ 90000 ∧ d = .bl (isNum z)
theorem ok_isnum {c Pt : Addr} (B : Bl mg) (TB : GxR.TabB base mg c Pt) (hP : Pt ∈ T.g) (hl : ∀ p ∈ T.l, p.1 ≠ Pt) (a : AtC K mg "is_number" s_is_number ["word"] f fd c) : Ok P w K mg base 1 "is_number" ["word"] (spR T K RNum) := by
  refine okRC a sc_is_number (fun ds d ⟨_, e, _⟩ => by rw [e]; rfl) fun A outer s H E ds d Q hr hR hT q => ⟨_, (pss_cons (ps_if (PW.pt (pw_or (pt_not (pt_chain op_le op_le pe_int (pe_callB cr_lenS (by rfl) B.len (by decide +kernel) (pa_cons (pv 0) pa_nil)) (pe_cstI (by rfl) B.MOST_FIGURES))) (pw_or1 (pt_not (pt_val
    (pe_allTx hr (by rfl) B.all (by decide +kernel) TB rfl (genS_by rfl rfl (by decide +kernel) rfl rfl) (pv 0) (fun pins σ H s1 I hP cc t => quiet_letter I hP rfl rfl rfl B.FIGURES (by decide) (by decide) cc t) (fun _ => rfl))))))) (pss_one (ps_ret pe_bl)) pss_nil)
    (pss_one (ps_ret (pe_or (pe_cmpR op_eq (pe_callB cr_lenS (by rfl) B.len (by decide +kernel) (pa_cons (pv 0) pa_nil)) pe_int (nomark _)) (pe_one (pe_cmpR op_ne (pe_ix ix_str (pv 0) pe_int (fun _ _ => rfl)) pe_str (nomark _))))))), ?_⟩
  obtain ⟨z, rfl, hz, rfl⟩ := hR
  have hz' : z.length ≤ 100000 := by omega
  have hc : (decide ((1 : Int) ≤ (z.length : Int)) && decide ((z.length : Int) ≤ 2)) = (decide (1 ≤ z.length) && decide (z.length ≤ 2)) := by
    congr 1 <;> exact decide_eq_decide.mpr ⟨fun h => by omega, fun h => by omega⟩
  refine run_when hT (et_or (et_not (et_test (ev_chain ev_int (ev_lenS (ev_var rfl) hz') ev_int))) fun _ => et_not (et_B (ev_allTx (ev_var rfl) hP hl))) (fun hb H1 g1 => run_ret g1.tbs ev_bl fun v H2 g2 r => ?_) fun hb H1 g1 => ?_
  · have e : isNum z = false := by
      unfold isNum
      rw [Bool.or_eq_true, Bool.not_eq_true', Bool.not_eq_true', hc] at hb
      rcases hb with hb | hb
      · rw [hb]; rfl
      · rw [hb]; simp
    rw [e] at q
    exact q v H2 (g1.trans g2) r
  · rw [Bool.or_eq_false_iff, Bool.not_eq_false', Bool.not_eq_false', hc] at hb
    obtain ⟨b3, b2⟩ := hb
    have hlen : 1 ≤ z.length := by
      rw [Bool.and_eq_true, decide_eq_true_eq] at b3; exact b3.1
    obtain ⟨cc, hcc⟩ : ∃ cc, z.cps.toList[0]? = some cc := ⟨_, List.getElem?_eq_getElem (by rw [TL.len_tl] at hlen; exact hlen)⟩
    refine run_ret g1.tbs ((ev_orV (ev_eqI (ev_lenS (ev_var rfl) hz') ev_int) fun _ => ev_neS (ev_ixS (ev_var rfl) ev_int hz' (atI_nat (j := 0) hcc)) ev_str).is ?_) fun v H2 g2 r => q v H2 (g1.trans g2) r
    unfold isNum
    rw [b3, b2, hcc, n_zero]
    congr 1
    simp only [Bool.and_true, Bool.true_and]
    congr 1
    exact decide_eq_decide.mpr ⟨fun h => by omega, fun h => by omega⟩
/-! ### which rows can stand -/
def spStand (T : Tb) (K : PySem.W.Frag) : Sp := fun vs H Q _ => ∃ (l : Addr) (ws : List Str) (x : Str) (n : List Str), vs = [.ref l, .str x] ∧ H l = some (.lst (ws.map V.str)) ∧ Stands ws x n ∧ Tbs T H ∧ ∀ H', Gr T [] H H' → Q (.bl true) H'
theorem ok_stand (B : Bl mg) (a : At K mg "can_stand" s_can_stand ["words", "wanted"] f fd) (G_is_name : Ok P w K mg base 1 "is_name" ["text"] (spR T K RName)) (G_is_number : Ok P w K mg base 1 "is_number" ["word"] (spR T K RNum)) : Ok P w K mg base 2 "can_stand" ["words", "wanted"] (spStand T K) := by
  refine a.ok (a.F.ok sc_can_stand (fun vs H Q E ⟨_, _, _, _, e, _⟩ => by rw [e]; rfl) fun cdv A' outer s H vs Q E hr h => ⟨_, (pss_cons (ps_if (pt_cmpR op_eq (pe_ix ix_list (pv 0) pe_int (fun _ _ => rfl)) pe_str (nomark _)) (pss_one (ps_ret (pe_and (pe_cmpR op_eq (pv 1) pe_str (nomark _)) (pe_and (pe_cmpR op_eq (pe_callB cr_len (by rfl) B.len (by decide +kernel) (pa_cons (pv 0) pa_nil)) pe_int (nomark _)) (pe_one (pe_own G_is_name hr (by decide) (by rfl) (pa_cons (pe_ix ix_list (pv 0) pe_int (fun _ _ => rfl)) pa_nil))))))) pss_nil)
    (pss_one (ps_ret (pe_and (pe_cmpR op_eq (pe_ix ix_list (pv 0) pe_int (fun _ _ => rfl)) (pv 1) (nomark _)) (pe_and (pe_cmpR op_eq (pe_callB cr_len (by rfl) B.len (by decide +kernel) (pa_cons (pv 0) pa_nil)) pe_int (nomark _)) (pe_and (pe_own G_is_number hr (by decide) (by rfl) (pa_cons (pe_ix ix_list (pv 0) pe_int (fun _ _ => rfl)) pa_nil)) (pe_one (pe_own G_is_number hr (by decide) (by rfl) (pa_cons (pe_ix ix_list (pv 0) pe_int (fun _ _ => rfl)) pa_nil))))))))), ?_⟩)
  obtain ⟨l, ws, x, n, rfl, hl, st, hT, q⟩ := h
  dsimp only [Cx.nox, Cx.wish, cxOf]
  suffices hR : Run K _ _ [some (.v (.ref l)), some (.d (.str x))] H from
    hR _ ⟨_, _, rfl, rfl, _, _, rfl, rfl, rfl⟩
  cases st with
  | out n o =>
    refine run_when hT ((et_test (ev_eqS (ev_ixW (w := "out") (ev_raw rfl) ev_int hl rfl) ev_str)).is (c := true) (by simp)) (fun _ H1 g1 => ?_) fun e => nomatch e
    have hl1 := g1.lst hl (by simp)
    refine run_ret g1.tbs ((ev_andV (ev_eqS (ev_var rfl) ev_str) fun _ => ev_andV (ev_eqI ((ev_lenL (ev_raw rfl) hl1).is (x := .int 2) (by simp)) ev_int) fun _ => ev_call (ea_cons (ev_ixW (w := n) (ev_raw rfl) ev_int hl1 rfl) ea_nil) ⟨n, rfl, o, rfl⟩).is (x := .bl true) (by simp)) fun v H2 g2 r => ?_
    cases (show v = .bl true from r)
    exact q H2 (g1.trans g2)
  | room a b ha hb =>
    refine run_when hT ((et_test (ev_eqS (ev_ixW (w := "room") (ev_raw rfl) ev_int hl rfl) ev_str)).is n_ro) (fun e => nomatch e) fun _ H1 g1 => ?_
    have hl1 := g1.lst hl (by simp)
    refine run_ret g1.tbs ((ev_andV (ev_eqS (ev_ixW (w := "room") (ev_raw rfl) ev_int hl1 rfl) (ev_var rfl)) fun _ => ev_andV (ev_eqI ((ev_lenL (ev_raw rfl) hl1).is (x := .int 3) (by simp)) ev_int) fun _ => ev_andV (ev_call (ea_cons (ev_ixW (w := num a) (ev_raw rfl) ev_int hl1 rfl) ea_nil) ⟨_, rfl, by have := ha.len.2; omega, rfl⟩) fun _ => ev_call (ea_cons (ev_ixW (w := num b) (ev_raw rfl) ev_int hl1 rfl) ea_nil) ⟨_, rfl, by have := hb.len.2; omega, rfl⟩).is (x := .bl true) (by rw [ha.isNum, hb.isNum]; simp)) fun v H2 g2 r => ?_
    cases (show v = .bl true from r)
    exact q H2 (g1.trans g2)
  | door a b ha hb =>
    refine run_when hT ((et_test (ev_eqS (ev_ixW (w := "door") (ev_raw rfl) ev_int hl rfl) ev_str)).is n_do) (fun e => nomatch e) fun _ H1 g1 => ?_
    have hl1 := g1.lst hl (by simp)
    refine run_ret g1.tbs ((ev_andV (ev_eqS (ev_ixW (w := "door") (ev_raw rfl) ev_int hl1 rfl) (ev_var rfl)) fun _ => ev_andV (ev_eqI ((ev_lenL (ev_raw rfl) hl1).is (x := .int 3) (by simp)) ev_int) fun _ => ev_andV (ev_call (ea_cons (ev_ixW (w := num a) (ev_raw rfl) ev_int hl1 rfl) ea_nil) ⟨_, rfl, by have := ha.len.2; omega, rfl⟩) fun _ => ev_call (ea_cons (ev_ixW (w := num b) (ev_raw rfl) ev_int hl1 rfl) ea_nil) ⟨_, rfl, by have := hb.len.2; omega, rfl⟩).is (x := .bl true) (by rw [ha.isNum, hb.isNum]; simp)) fun v H2 g2 r => ?_
    cases (show v = .bl true from r)
    exact q H2 (g1.trans g2)
def spWanted (T : Tb) (K : PySem.W.Frag) : Sp := fun vs H Q _ => ∃ (l : Addr) (ws : List Str) (x : Str) (n : List Str), vs = [.ref l] ∧ H l = some (.lst (ws.map V.str)) ∧ Stands ws x n ∧ Tbs T H ∧ ∀ p H', H p = none → Gr T [] H H' → H' p = some (.lst (n.map V.str)) → Q (.ref p) H'
theorem ok_wanted (B : Bl mg) (a : At K mg "wanted_behind" s_wanted_behind ["words"] f fd) : Ok P w K mg base 1 "wanted_behind" ["words"] (spWanted T K) := by
  refine a.ok (a.F.ok (k := 0) sc_wanted_behind (fun vs H Q E ⟨_, _, _, _, e, _⟩ => by rw [e]; rfl) fun cdv A' outer s H vs Q E hr h => ⟨_, (pss_cons (ps_if (pt_cmpR op_eq (pe_ix ix_list (pv 0) pe_int (fun _ _ => rfl)) pe_str (nomark _)) (pss_one (ps_ret (pe_op op_rep (pe_lst (pa_cons pe_str pa_nil)) (pe_callTy call_int_str (by rfl) B.int (by decide +kernel) (pa_cons (pe_ix ix_list (pv 0) pe_int (fun _ _ => rfl)) pa_nil))))) pss_nil)
    (pss_cons (ps_if (pt_cmpR op_eq (pe_ix ix_list (pv 0) pe_int (fun _ _ => rfl)) pe_str (nomark _)) (pss_one (ps_ret (pe_lst (pa_cons pe_str pa_nil)))) pss_nil)
    (pss_one (ps_ret (pe_lst pa_nil))))), ?_⟩)
  obtain ⟨l, ws, x, n, rfl, hl, st, hT, q⟩ := h
  dsimp only [Cx.nox, Cx.wish, cxOf]
  suffices hR : Run K _ _ [some (.v (.ref l))] H from
    hR _ ⟨_, _, rfl, rfl, rfl⟩
  cases st with
  | out n o =>
    refine run_when hT ((et_test (ev_eqS (ev_ixW (w := "out") (ev_raw rfl) ev_int hl rfl) ev_str)).is n_or) (fun e => nomatch e) fun _ H1 g1 => ?_
    refine run_when g1.tbs ((et_test (ev_eqS (ev_ixW (w := "out") (ev_raw rfl) ev_int (g1.lst hl (by simp)) rfl) ev_str)).is n_od) (fun e => nomatch e) fun _ H2 g2 => ?_
    exact run_retL g2.tbs (ev_lst ea_nil (by simp)) fun p xs H3 np g3 e r => q p H3 (g1.dom p (g2.dom p np)) ((g1.trans g2).trans g3) (by rw [e, (Reps.strs (ws := []) r)])
  | room a b ha hb =>
    refine run_when hT ((et_test (ev_eqS (ev_ixW (w := "room") (ev_raw rfl) ev_int hl rfl) ev_str)).is (c := true) (by simp)) (fun _ H1 g1 => ?_) fun e => nomatch e
    have hl1 := g1.lst hl (by simp)
    exact run_retL g1.tbs (el_repS (ev_lst (ea_cons ev_str ea_nil) (by simp)) (ev_intS (ev_ixW (w := num b) (ev_raw rfl) ev_int hl1 rfl) hb) hb.1 (by have := hb.2; omega)) fun p xs H3 np g3 e r => q p H3 (g1.dom p np) (g1.trans g3) (by rw [e, r.strs])
  | door a b ha hb =>
    refine run_when hT ((et_test (ev_eqS (ev_ixW (w := "door") (ev_raw rfl) ev_int hl rfl) ev_str)).is n_dr) (fun e => nomatch e) fun _ H1 g1 => ?_
    refine run_when g1.tbs ((et_test (ev_eqS (ev_ixW (w := "door") (ev_raw rfl) ev_int (g1.lst hl (by simp)) rfl) ev_str)).is (c := true) (by simp)) (fun _ H2 g2 => ?_) fun e => nomatch e
    exact run_retL g2.tbs (ev_lst (ea_cons ev_str ea_nil) (by simp)) fun p xs H3 np g3 e r => q p H3 (g1.dom p (g2.dom p np)) ((g1.trans g2).trans g3) (by rw [e, (Reps.strs (ws := ["room"]) r)])
end
end Pd
namespace Pd
open PySem PySem.Spec PyProof.Rows L2
/-! ### lists of lists of texts, as they lie -/
def WR (S : List Addr) (H : Hp) : List (List Str) → List V → Prop
  | [], xs => xs = []
  | w :: ws, xs => ∃ p r, xs = .ref p :: r ∧ p ∉ S ∧ H p = some (.lst (w.map V.str)) ∧ WR S H ws r
section
variable {T : Tb} {S S' : List Addr} {K : PySem.W.Frag} {δ : List (Option SD)} {H H' : Hp} {te ta tb tl to : TE} {t u : TS} {B : Ends} {d : D} {l p : Addr} {xs ys : List V} {i : Int} {ws n : List Str} {ds es : List D} {wi : TI} {g : TG}
theorem WR.up : ∀ {ws : List (List Str)} {xs : List V}, WR S H ws xs → Gr T S H H' → WR S H' ws xs
  | [], _, h, _ => h
  | _ :: ws, _, ⟨p, r, e, n, h1, h2⟩, g => ⟨p, r, e, n, g.lst h1 n, WR.up (ws := ws) h2 g⟩
theorem WR.snoc {w : List Str} (n : p ∉ S) (hp : H p = some (.lst (w.map V.str))) : ∀ {ws : List (List Str)} {xs : List V}, WR S H ws xs → WR S H (ws ++ [w]) (xs ++ [.ref p])
  | [], _, h => by cases (show _ = [] from h); exact ⟨p, [], rfl, n, hp, rfl⟩
  | _ :: ws, _, ⟨p', r, e, n', h1, h2⟩ => by subst e; exact ⟨p', r ++ [.ref p], rfl, n', h1, WR.snoc n hp (ws := ws) h2⟩
theorem WR.rev : ∀ {ws : List (List Str)} {xs : List V}, WR S H ws xs → WR S H ws.reverse xs.reverse
  | [], _, h => by cases (show _ = [] from h); exact rfl
  | _ :: ws, _, ⟨p, r, e, n, h1, h2⟩ => by subst e; rw [List.reverse_cons, List.reverse_cons]; exact WR.snoc n h1 (WR.rev (ws := ws) h2)
theorem WR.get : ∀ {ws : List (List Str)} {xs : List V} {i : Nat} {x : V}, WR S H ws xs → xs[i]? = some x → ∃ w p, ws[i]? = some w ∧ x = .ref p ∧ p ∉ S ∧ H p = some (.lst (w.map V.str))
  | [], _, _, _, h, e => by cases (show _ = [] from h); simp at e
  | w :: _, _, 0, _, ⟨p, r, e, n, h1, h2⟩, q => by subst e; simp at q; subst q; exact ⟨w, p, rfl, rfl, n, h1⟩
  | _ :: ws, _, i + 1, _, ⟨p, r, e, n, h1, h2⟩, q => by subst e; simpa using WR.get (ws := ws) (i := i) h2 (by simpa using q)
theorem WR.off (hS : ∀ s ∈ S', H s = none) : ∀ {ws : List (List Str)} {xs : List V}, WR S H ws xs → WR S' H ws xs
  | [], _, h => h
  | _ :: ws, _, ⟨p, r, e, n, h1, h2⟩ => ⟨p, r, e, (fun z => by rw [hS p z] at h1; cases h1), h1, WR.off hS (ws := ws) h2⟩
theorem WR.all : ∀ {ws : List (List Str)} {xs : List V}, WR S H ws xs → WR [] H ws xs
  | [], _, h => h
  | _ :: ws, _, ⟨p, r, e, n, h1, h2⟩ => ⟨p, r, e, by simp, h1, WR.all (ws := ws) h2⟩
theorem WR.len : ∀ {ws : List (List Str)} {xs : List V}, WR S H ws xs → xs.length = ws.length
  | [], _, h => by cases (show _ = [] from h); rfl
  | _ :: ws, _, ⟨p, r, e, n, h1, h2⟩ => by subst e; exact congrArg (· + 1) (WR.len (ws := ws) h2)
theorem Reps.halves : ∀ {a b : List D} {ys : List V}, Reps K H (a ++ b) ys → ∃ y1 y2, ys = y1 ++ y2 ∧ Reps K H a y1 ∧ Reps K H b y2
  | [], _, ys, h => ⟨[], ys, rfl, rfl, h⟩
  | _ :: a, _, _, ⟨x, r, e, h1, h2⟩ => by
    obtain ⟨y1, y2, e2, h3, h4⟩ := Reps.halves (a := a) h2
    subst e; subst e2
    exact ⟨x :: y1, y2, rfl, ⟨x, y1, rfl, h1, h3⟩, h4⟩
theorem ev_ixD (ha : EvV T K ta δ H (.ref l)) (hb : EvD T K tb δ H (.int i)) (hl : H l = some (.lst xs)) (r : Reps K H ds xs) (h : atI ds i = some d) : EvD T K (tOp (rIxL K) ta tb) δ H d := fun σ H1 g s Q q =>
  ha σ H1 g s _ fun H2 g2 => hb σ H2 (g.trans g2) (s.up g2) _ fun w H3 g3 e => by
    have gg := (g.trans g2).trans g3
    obtain ⟨v, hv, rv⟩ := atI_rep (r.up gg) h
    exact ⟨l, xs, i, v, rfl, e, .inl (.inl (gg.lst hl (by simp))), hv, q v H3 (g2.trans g3) rv⟩
theorem el_slice {tlo thi : TO} {lo hi : Option Int} (ha : EvV T K ta δ H (.ref l)) (e : H l = some (.lst xs)) (r : Reps K H ds xs) (hl : EvO T K tlo δ H lo) (hh : EvO T K thi δ H hi) : EvL T K (L2.tSl (rSlL K) ta tlo thi) δ H (cutD ds lo hi) := fun σ H1 g s Q q =>
  ha σ H1 g s _ fun H2 g2 => hl σ H2 (g.trans g2) (s.up g2) _ fun H3 g3 => hh σ H3 ((g.trans g2).trans g3) ((s.up g2).up g3) _ fun H4 g4 => by
    have gg := ((g.trans g2).trans g3).trans g4
    refine ⟨l, xs, rfl, .inl (.inl (gg.lst e (by simp))), fun p np => ?_⟩
    have gn : Gr T [] H4 (upd H4 p (.lst (cutV xs lo hi))) := Gr.new g4.tbs np
    exact q p _ _ (g2.dom p (g3.dom p (g4.dom p np))) (((g2.trans g3).trans g4).trans gn) upd_same (((r.up gg).cut lo hi).up gn)
theorem cut_rest (ds : List D) (n : Nat) : cutD ds (some (n : Int)) none = ds.drop n := by
  unfold cutD
  rw [HT.sIx_none, HT.sIx_nat]
  by_cases h : n ≤ ds.length
  · rw [Nat.min_eq_left h, List.take_of_length_le (by rw [List.length_drop]; omega)]
  · rw [Nat.min_eq_right (by omega), List.drop_of_length_le (Nat.le_refl _), List.drop_of_length_le (by omega), List.take_nil]
/-- a for whose slots are told by a statement -/
theorem run_forS (hT : Tbs T H) (hi : EvI T K S wi δ H ds) (W : Nat → List (Option SD) → Hp → Prop) (h0 : ∀ H1, Gr T [] H H1 → W 0 δ H1) (hm : ∀ i δ H1 H2, Gr T [] H1 H2 → W i δ H1 → W i δ H2)
    (hs : ∀ i d δi H1 (N : L2.St → Hp → Prop), ds[i]? = some d → Gr T S H H1 → W i δi H1 → (∀ σ δ' H2, Gr T S H1 H2 → W (i + 1) δ' H2 → Slots K H2 δ' σ → N σ H2) → ∃ δ' js, EvG T K g d δi H1 δ' js ∧ Run K t { nx := N, rt := B.rt, bk := u B, ct := N } δ' H1)
    (hd : ∀ δe H1, Gr T S H H1 → W ds.length δe H1 → Run K u B δe H1) : Run K (tSeq (tFor wi g t) u) B δ H := fun σ s =>
  hi σ H (Gr.refl hT) s _ fun J H2 g2 Wk => by
    refine for_it Wk (fun i σ' H' => Gr T S H2 H' ∧ ∃ δi, W i δi H' ∧ Slots K H' δi σ') ⟨Gr.refl g2.tbs, δ, h0 H2 g2, s.up g2⟩ (fun i σ' H' _ p => p.1) (fun i x σ' Ha Hb hlt p y => ?_) (fun σ' H' p => ?_)
    · obtain ⟨p1, δi, p2, p3⟩ := p
      obtain ⟨ga, d, hd', rd⟩ := y
      have gb : Gr T S H Hb := (g2.any.trans p1).trans ga.any
      obtain ⟨δ', js, hg, hr⟩ := hs i d δi Hb (fun σ' H' => Gr T S H2 H' ∧ ∃ δi, W (i + 1) δi H' ∧ Slots K H' δi σ') hd' gb (hm i δi Ha Hb ga p2) fun σ2 δ2 H3 g3 i3 s3 => ⟨(p1.trans ga.any).trans g3, δ2, i3, s3⟩
      exact hg x σ' Hb (Gr.refl ga.tbs) rd (p3.up ga) _ fun σ2 s2 _ => hr σ2 s2
    · obtain ⟨p1, δi, p2, p3⟩ := p
      exact hd δi H' (g2.any.trans p1) p2 σ' p3
theorem el_catV (ha : EvV T K ta δ H (.ref l)) (e : H l = some (.lst xs)) (r : Reps K H ds xs) (hb : EvL T K tb δ H es) (hz : ds.length + es.length ≤ 10000) : EvL T K (tOp rCat ta tb) δ H (ds ++ es) := fun σ H1 g s Q q =>
  ha σ H1 g s _ fun H2 g2 => hb σ H2 (g.trans g2) (s.up g2) _ fun p ys H3 np g3 ep rp => by
    have gg := (g.trans g2).trans g3
    have rx := r.up gg
    refine ⟨l, p, xs, ys, rfl, rfl, gg.lst e (by simp), ep, sz (by rw [rx.len, rp.len]; omega), fun b hb => ?_⟩
    have gn : Gr T [] H3 (upd H3 b (.lst (xs ++ ys))) := Gr.new g3.tbs hb
    exact q b _ _ (g2.dom b (g3.dom b hb)) ((g2.trans g3).trans gn) upd_same ((rx.app rp).up gn)
theorem el_catL (ha : EvL T K ta δ H ds) (hb : EvL T K tb δ H es) (hz : ds.length + es.length ≤ 10000) : EvL T K (tOp rCat ta tb) δ H (ds ++ es) := fun σ H1 g s Q q =>
  ha σ H1 g s _ fun l xs H2 nl g2 e r => hb σ H2 (g.trans g2) (s.up g2) _ fun p ys H3 np g3 ep rp => by
    have rx := r.up g3
    refine ⟨l, p, xs, ys, rfl, rfl, g3.lst e (by simp), ep, sz (by rw [rx.len, rp.len]; omega), fun b hb => ?_⟩
    have gn : Gr T [] H3 (upd H3 b (.lst (xs ++ ys))) := Gr.new g3.tbs hb
    exact q b _ _ (g2.dom b (g3.dom b hb)) ((g2.trans g3).trans gn) upd_same ((rx.app rp).up gn)
theorem en_wanted {x : Str} {E : XK} (h : EvV T K ta δ H (.ref p)) (hp : H p = some (.lst (ws.map V.str))) (st : Stands ws x n) : EvN T K (tCall (spWanted T K) [] E (tCons ta tNil)) δ H (n.map V.str) := fun σ H1 g s Q q =>
  h σ H1 g s _ fun H2 g2 => ⟨p, ws, x, n, rfl, (g.trans g2).lst hp (by simp), st, g2.tbs, fun r H3 nr g3 e => q r H3 (g2.dom r nr) (g2.trans g3) e⟩
end
theorem Stands.len {ws n : List Str} {x : Str} (h : Stands ws x n) : n.length ≤ 99 := by
  cases h with
  | out _ _ => simp
  | room a b ha hb => have := hb.2; have := hb.1; simp; omega
  | door a b _ _ => simp
section
variable {P : Program} {w : World} {K : PySem.W.Frag} {mg : Str → Option Value} {base : Heap} {T : Tb} {f : Addr} {fd : FuncData}
def spWords (T : Tb) (K : PySem.W.Frag) : Sp := fun vs H Q _ => ∃ h : House, vs = [.str h.text] ∧ h.ok ∧ h.many ≤ 12 ∧ Tbs T H ∧ ∀ l xs H', H l = none → Gr T [] H H' → H' l = some (.lst xs) → WR [] H' h.words xs → Q (.ref l) H'
theorem ok_words (B : Bl mg) (a : At K mg "words_of_rows" s_words_of_rows ["text"] f fd) (G_can_stand : Ok P w K mg base 2 "can_stand" ["words", "wanted"] (spStand T K)) (G_wanted_behind : Ok P w K mg base 1 "wanted_behind" ["words"] (spWanted T K)) : Ok P w K mg base 3 "words_of_rows" ["text"] (spWords T K) := by
  refine a.ok (a.F.ok (k := 2) sc_words_of_rows (fun vs H Q E ⟨_, e, _⟩ => by rw [e]; rfl) fun cdv A' outer s H vs Q E hr h => ⟨_, (pss_cons (ps_set (i := 1) sc_words_of_rows.nd rfl (Or.inl rfl) (pe_lst pa_nil))
    (pss_cons (ps_set (i := 2) sc_words_of_rows.nd rfl (Or.inl rfl) (pe_lst (pa_cons pe_str pa_nil)))
    (pss_cons (ps_for PassesOwn.never rfl (pi_enum (by rfl) B.enumerate (pa_cons (pe_split (pv 0) pe_str) pa_nil)) (pg_tup (n := 2) rfl (pgs_cons (pg_name (i := 3) sc_words_of_rows.nd rfl (Or.inl rfl)) (pgs_cons (pg_name (i := 4) sc_words_of_rows.nd rfl (Or.inl rfl)) pgs_nil))) (pss_cons (ps_set (i := 5) sc_words_of_rows.nd rfl (Or.inl rfl) (pe_split (pv 4) pe_str))
    (pss_cons (ps_if (PW.pt (pw_or (pt_cmpR op_eq (pe_callB cr_len (by rfl) B.len (by decide +kernel) (pa_cons (pv 2) pa_nil)) pe_int (nomark _)) (pw_or1 (pt_not (pt_val (pe_own G_can_stand hr (by decide) (by rfl) (pa_cons (pv 5) (pa_cons (pe_bm0 PySem.F.plainAttrs_list PySem.F.slot_list_pop PySem.F.type_list_pop mt_pop (pv 2)) pa_nil)))))))) (pss_one ps_never) pss_nil)
    (pss_cons (ps_expr (pe_bm PySem.F.plainAttrs_list PySem.F.slot_list_extend PySem.F.type_list_extend mt_extend (pv 2) (pa_cons (pe_own G_wanted_behind hr (by decide) (by rfl) (pa_cons (pv 5) pa_nil)) pa_nil)))
    (pss_one (ps_expr (pe_bm PySem.F.plainAttrs_list PySem.F.slot_list_append PySem.F.type_list_append mt_append (pv 1) (pa_cons (pv 5) pa_nil))))))))
    (pss_cons (ps_if (pt_cmpR op_gt (pe_callB cr_len (by rfl) B.len (by decide +kernel) (pa_cons (pv 2) pa_nil)) pe_int (nomark _)) (pss_one ps_never) pss_nil)
    (pss_one (ps_ret (pv 1))))))), ?_⟩)
  obtain ⟨h, rfl, hok, h12, hT, q⟩ := h
  dsimp only [Cx.nox, Cx.wish, cxOf]
  suffices hR : Run K _ _ [some (.d (.str h.text)), none, none, none, none, none] H from
    hR _ ⟨_, _, rfl, rfl, _, _, rfl, trivial, _, _, rfl, trivial, _, _, rfl, trivial, _, _, rfl, trivial, _, _, rfl, trivial, rfl⟩
  refine run_asgL hT (ev_lst ea_nil (by simp)) fun tl_ xs0 H1 nt g1 et rt => ?_
  cases (show xs0 = [] from rt)
  refine run_asgL g1.tbs (ev_lst (ea_cons ev_str ea_nil) (by simp)) fun wl xs1 H2 nw g2 ew rw1 => ?_
  have ex1 : xs1 = ([("room" : Str)]).map V.str := Reps.strs (ws := ["room"]) rw1
  subst ex1
  have et2 := g2.lst et (by simp)
  have ne : tl_ ≠ wl := fun z => by subst z; rw [et] at nw; cases nw
  have nw0 : H wl = none := g1.dom wl nw
  have wlen := House.words_len h
  have hsp := text_split hok
  have hit : EvI T K [tl_, wl] _ _ H2 _ := ei_enumL (T := T) (K := K) (S := [tl_, wl]) (el_split (T := T) (K := K) (δ := [some (.d (.str h.text)), some (.v (.ref tl_)), some (.v (.ref wl)), none, none, none]) (H := H2) (to := tVar 0) (te := tC (.str "\n")) (ev_var rfl) ev_str (by decide +kernel) (by have := text_len hok; omega)) (fun s hs => by
    rcases (by simpa using hs : s = tl_ ∨ s = wl) with rfl | rfl
    · rw [et2]; simp
    · rw [ew]; simp)
  rw [hsp] at hit
  refine run_for (S := [tl_, wl]) g2.tbs hit (fun _ => [some (.d (.str h.text)), some (.v (.ref tl_)), some (.v (.ref wl)), none, none, none])
    (fun i H => ∃ (st : List Str) (told : List V), H wl = some (.lst (st.map V.str)) ∧ Goes st (h.words.drop i) [] ∧ st.length ≤ 1 + 99 * i ∧ H tl_ = some (.lst told) ∧ WR [tl_, wl] H (h.words.take i) told)
    (Less.refl _) (fun H3 g3 => ⟨["room"], [], g3.lst ew (by simp), House.goes h hok [], by simp, g3.lst et2 (by simp), rfl⟩)
    (fun i Ha Hb g ⟨st, told, a1, a2, a3, a4, a5⟩ => ⟨st, told, g.lst a1 (by simp), a2, a3, g.lst a4 (by simp), a5.up g.any⟩)
    (fun i d Ha N hdi ga ⟨st, told, a1, a2, a3, a4, a5⟩ hN => ?_) fun He ge ⟨st, told, a1, a2, a3, a4, a5⟩ => ?_
  · rw [withNo_get, List.getElem?_map, List.getElem?_map] at hdi
    cases hw : h.words[i]? with
    | none => rw [hw] at hdi; cases hdi
    | some ww =>
      rw [hw] at hdi; cases hdi
      have hlt : i < h.words.length := (List.getElem?_eq_some_iff.mp hw).1
      have hww : h.words[i] = ww := (List.getElem?_eq_some_iff.mp hw).2
      have rok := House.words_ok h hok ww (List.mem_of_getElem? hw)
      refine ⟨_, _, eg_tup rfl (eg_cons eg_name (eg_cons eg_name eg_nil)), ?_⟩
      refine run_asgL ga.tbs (el_split (ev_var rfl) ev_str (by decide +kernel) (by have := rok.signs.2.2.2; omega)) fun p xp Hb np gb ep rp => ?_
      rw [rok.split] at rp
      have exp := Reps.strs rp
      subst exp
      have npt : p ∉ [tl_, wl] := fun z => by
        rcases (by simpa using z : p = tl_ ∨ p = wl) with rfl | rfl
        · rw [a4] at np; cases np
        · rw [a1] at np; cases np
      rw [List.drop_eq_getElem_cons hlt, hww] at a2
      obtain ⟨st0, x, n, rfl, hst, a2'⟩ := a2
      have a1b := gb.lst a1 (by simp)
      rw [List.map_append] at a1b
      have a1b' : Hb wl = some (.lst (st0.map V.str ++ [.str x])) := a1b
      have a4b := gb.lst a4 (by simp)
      simp only [List.length_append, List.length_cons, List.length_nil] at a3
      have npw : p ∉ [wl] := fun z => npt (by simp at z; simp [z])
      refine run_can (sp := spStand T K) gb.tbs ((et_test (ev_eqI (ev_lenL (ev_raw rfl) a1b') ev_int)).is (by simp; omega)) (ev_raw rfl) (ev_raw rfl) a1b' (fun Hc gc Q' q' => ⟨p, ww, x, n, rfl, gc.lst ep npw, hst, gc.tbs, q'⟩) fun Hc gc ec _ => ?_
      have epc := gc.lst ep npw
      have tnw : tl_ ∉ [wl] := by simpa using ne
      have a4c := gc.lst a4b tnw
      refine run_extN gc.tbs (ev_raw rfl) (en_wanted (ev_raw rfl) epc hst) ec (by have := hst.len; simp only [List.length_map]; omega) fun Hd gd ed => ?_
      have gw : Gr T [wl] Hd (upd Hd wl (.lst (st0.map V.str ++ n.map V.str))) := (Gr.refl gd.tbs).put ed (.inl (by simp))
      have a4d : (upd Hd wl (.lst (st0.map V.str ++ n.map V.str))) tl_ = some (.lst told) := gw.lst (gd.lst a4c (by simp)) tnw
      have tlen := a5.len
      rw [List.length_take] at tlen
      refine run_last (run_app gw.tbs (ev_raw rfl) (ev_raw rfl) a4d (by omega) fun Hf gf ef => run_next fun σ sl => ?_)
      have gt : Gr T [tl_] Hf (upd Hf tl_ (.lst (told ++ [.ref p]))) := (Gr.refl gf.tbs).put ef (.inl (by simp))
      have m1 : ∀ x ∈ [wl], x ∈ [tl_, wl] := by simp
      have m2 : ∀ x ∈ [tl_], x ∈ [tl_, wl] := by simp
      have gall : Gr T [tl_, wl] Ha (upd Hf tl_ (.lst (told ++ [.ref p]))) := ((((gb.any.trans (gc.mono m1)).trans gd.any).trans (gw.mono m1)).trans gf.any).trans (gt.mono m2)
      have gall2 : Gr T [tl_, wl] Hb (upd Hf tl_ (.lst (told ++ [.ref p]))) := (((((gc.mono m1)).trans gd.any).trans (gw.mono m1)).trans gf.any).trans (gt.mono m2)
      have wnt : wl ∉ [tl_] := by simpa using fun z => ne z.symm
      refine hN σ _ gall ⟨st0 ++ n, told ++ [.ref p], ?_, a2', ?_, upd_same, ?_⟩ (Slots.less (.same _ (.same _ (.same _ (.drop _ (.drop _ (.drop _ .nil)))))) sl)
      · rw [List.map_append]; exact gt.lst (gf.lst upd_same (by simp)) wnt
      · have := hst.len; simp only [List.length_append]; omega
      · rw [List.take_succ, hw]
        exact WR.snoc npt (gall2.lst ep npt) (a5.up gall)
  · have eL : (withNo ((h.words.map rowT).map D.str) 0).length = h.words.length := by rw [withNo_len, List.length_map, List.length_map]
    rw [eL] at a2 a5
    rw [List.drop_length] at a2
    cases (show st = [] from a2)
    rw [List.take_length] at a5
    refine run_when ge.tbs ((et_test (ev_B0 (ev_lenL (ev_raw rfl) a1) ev_int)).is (c := false) (by simp)) (fun e => nomatch e) fun _ Hf gf => ?_
    refine run_retV gf.tbs (ev_raw rfl) fun Hg gg => ?_
    have gz : Gr T [tl_, wl] H2 Hg := (ge.trans gf.any).trans gg.any
    have g12 : Gr T [wl] H Hg := (g1.trans g2).any.drop gz nt
    exact q tl_ told Hg nt ((Gr.refl hT).drop g12 nw0) ((gf.trans gg).lst a4 (by simp)) (a5.up (gf.trans gg).any).all
end
end Pd
namespace Pd
open PySem PySem.Spec PyProof.Rows L2 TL
/-! ### rows of any words: which can stand -/
def canStand : List Str → Str → Bool
  | [], _ => false
  | w :: r, x => if w = "out" then decide (x = "room") && (decide (r.length = 1) && decide (okName (r.headD "")))
    else decide (w = x) && (decide (r.length = 2) && (isNum (r.headD "") && isNum ((r.drop 1).headD "")))
theorem canStand_cons (w : Str) (r : List Str) (x : Str) : canStand (w :: r) x = if w = "out" then decide (x = "room") && (decide (r.length = 1) && decide (okName (r.headD "")))
    else decide (w = x) && (decide (r.length = 2) && (isNum (r.headD "") && isNum ((r.drop 1).headD ""))) := rfl
/-- a number's word is that number's text -/
def numL (i : Nat) : List Nat := (num (i : Int)).cps.toList
theorem numL_all : (List.range 10).all (fun i => decide (numL i = [48 + i])) = true ∧ ((List.range 90).all fun i => decide (numL (i + 10) = [48 + (i + 10) / 10, 48 + (i + 10) % 10])) = true := by decide +kernel
theorem isNum_num {z : Str} (h : isNum z = true) : ∃ i : Int, fig i ∧ z = num i := by
  unfold isNum at h
  simp only [Bool.and_eq_true, decide_eq_true_eq, List.all_eq_true, Bool.or_eq_true, Bool.not_eq_true', decide_eq_false_iff_not] at h
  obtain ⟨⟨⟨l1, l2⟩, hf⟩, h0⟩ := h
  have figs : ("0123456789" : Str).cps.toList = [48, 49, 50, 51, 52, 53, 54, 55, 56, 57] := by decide +kernel
  have hd : ∀ c ∈ z.cps.toList, 48 ≤ c ∧ c ≤ 57 := fun c hc => by
    have := hf c hc
    rw [figs] at this
    simp only [List.mem_cons, List.not_mem_nil, or_false] at this
    omega
  have zl : z.length = z.cps.toList.length := by rw [Array.length_toList]; rfl
  obtain ⟨n1, n2⟩ := numL_all
  simp only [List.all_eq_true, List.mem_range, decide_eq_true_eq] at n1 n2
  match hz : z.cps.toList, zl with
  | [], e => rw [e] at l1; exact absurd l1 (by decide)
  | [c], e =>
    have hc := hd c (by rw [hz]; simp)
    refine ⟨((c - 48 : Nat) : Int), ⟨by omega, by omega⟩, ext_tl ?_⟩
    show z.cps.toList = numL (c - 48)
    rw [hz, n1 (c - 48) (by omega)]
    congr 1; omega
  | [c, d], e =>
    have hc := hd c (by rw [hz]; simp)
    have hdd := hd d (by rw [hz]; simp)
    have c0 : c ≠ 48 := fun q => by
      rcases h0 with h0 | h0
      · rw [e] at h0; exact absurd h0 (by simp)
      · exact h0 (by rw [hz, q]; rfl)
    refine ⟨(((c - 48) * 10 + (d - 48) : Nat) : Int), ⟨by omega, by omega⟩, ext_tl ?_⟩
    show z.cps.toList = numL ((c - 48) * 10 + (d - 48))
    have := n2 ((c - 48) * 10 + (d - 48) - 10) (by omega)
    rw [show (c - 48) * 10 + (d - 48) - 10 + 10 = (c - 48) * 10 + (d - 48) by omega] at this
    rw [hz, this]
    congr 1
    · omega
    · congr 1; omega
  | _ :: _ :: _ :: _, e => rw [e] at l2; simp at l2
theorem canStand_ok {ws : List Str} {x : Str} (h : canStand ws x = true) (hx : x = "room" ∨ x = "door") : ∃ n, Stands ws x n := by
  match ws, h with
  | w :: r, h =>
    rw [canStand_cons] at h
    by_cases c : w = "out"
    · subst c
      rw [if_pos rfl] at h
      simp only [Bool.and_eq_true, decide_eq_true_eq] at h
      obtain ⟨rfl, h2, h3⟩ := h
      match r, h2 with
      | [n], _ => exact ⟨[], .out n h3⟩
    · rw [if_neg c] at h
      simp only [Bool.and_eq_true, decide_eq_true_eq] at h
      obtain ⟨rfl, h2, h3, h4⟩ := h
      match r, h2 with
      | [a, b], _ =>
        obtain ⟨i, fi, ei⟩ := isNum_num (show isNum a = true from h3)
        obtain ⟨j, fj, ej⟩ := isNum_num (show isNum b = true from h4)
        subst ei; subst ej
        rcases hx with rfl | rfl
        · exact ⟨_, .room i j fi fj⟩
        · exact ⟨_, .door i j fi fj⟩
theorem Stands.can {ws n : List Str} {x : Str} (h : Stands ws x n) : canStand ws x = true := by
  cases h with
  | out n o => rw [canStand_cons, if_pos rfl]; simp [o]
  | room a b fa fb =>
    rw [canStand_cons, if_neg (by decide +kernel)]
    simp [fa.isNum, fb.isNum]
  | door a b fa fb =>
    rw [canStand_cons, if_neg (by decide +kernel)]
    simp [fa.isNum, fb.isNum]
section
variable {P : Program} {w : World} {K : PySem.W.Frag} {mg : Str → Option Value} {base : Heap} {T : Tb} {f : Addr} {fd : FuncData}
def spStandG (T : Tb) (K : PySem.W.Frag) : Sp := fun vs H Q _ => ∃ (l : Addr) (ws : List Str) (x : Str), vs = [.ref l, .str x] ∧ H l = some (.lst (ws.map V.str)) ∧ ws ≠ [] ∧ (∀ w ∈ ws, w.length ≤ 10000) ∧ ws.length ≤ 10000 ∧ Tbs T H ∧ ∀ H', Gr T [] H H' → Q (.bl (canStand ws x)) H'
theorem okG_stand (B : Bl mg) (a : At K mg "can_stand" s_can_stand ["words", "wanted"] f fd) (G_is_name : Ok P w K mg base 1 "is_name" ["text"] (spR T K RNameG)) (G_is_number : Ok P w K mg base 1 "is_number" ["word"] (spR T K RNum)) : Ok P w K mg base 2 "can_stand" ["words", "wanted"] (spStandG T K) := by
  refine a.ok (a.F.ok sc_can_stand (fun vs H Q E ⟨_, _, _, e, _⟩ => by rw [e]; rfl) fun cdv A' outer s H vs Q E hr h => ⟨_, (pss_cons (ps_if (pt_cmpR op_eq (pe_ix ix_list (pv 0) pe_int (fun _ _ => rfl)) pe_str (nomark _)) (pss_one (ps_ret (pe_and (pe_cmpR op_eq (pv 1) pe_str (nomark _)) (pe_and (pe_cmpR op_eq (pe_callB cr_len (by rfl) B.len (by decide +kernel) (pa_cons (pv 0) pa_nil)) pe_int (nomark _)) (pe_one (pe_own G_is_name hr (by decide) (by rfl) (pa_cons (pe_ix ix_list (pv 0) pe_int (fun _ _ => rfl)) pa_nil))))))) pss_nil)
    (pss_one (ps_ret (pe_and (pe_cmpR op_eq (pe_ix ix_list (pv 0) pe_int (fun _ _ => rfl)) (pv 1) (nomark _)) (pe_and (pe_cmpR op_eq (pe_callB cr_len (by rfl) B.len (by decide +kernel) (pa_cons (pv 0) pa_nil)) pe_int (nomark _)) (pe_and (pe_own G_is_number hr (by decide) (by rfl) (pa_cons (pe_ix ix_list (pv 0) pe_int (fun _ _ => rfl)) pa_nil)) (pe_one (pe_own G_is_number hr (by decide) (by rfl) (pa_cons (pe_ix ix_list (pv 0) pe_int (fun _ _ => rfl)) pa_nil))))))))), ?_⟩)
  obtain ⟨l, ws, x, rfl, hl, hne, hw, hwl, hT, q⟩ := h
  dsimp only [Cx.nox, Cx.wish, cxOf]
  suffices hR : Run K _ _ [some (.v (.ref l)), some (.d (.str x))] H from
    hR _ ⟨_, _, rfl, rfl, _, _, rfl, rfl, rfl⟩
  obtain ⟨w0, r, rfl⟩ : ∃ w0 r, ws = w0 :: r := by cases ws with
    | nil => exact absurd rfl hne
    | cons a b => exact ⟨a, b, rfl⟩
  have len : ∀ {δ : List (Option SD)} {H1 : Hp} {m : Nat}, δ[0]? = some (some (.v (.ref l))) → H1 l = some (.lst ((w0 :: r).map V.str)) → EvD T K (tOp rEq (tCB (rLenS K) (tCons (tVar 0) tNil)) (tC (.int ((m + 1 : Nat) : Int)))) δ H1 (.bl (decide (r.length = m))) := fun {δ H1 m} e el =>
    (ev_eqI (ev_lenL (ev_raw e) el) ev_int).is (by congr 1; rw [List.length_map, List.length_cons]; exact decide_eq_decide.mpr ⟨fun z => by omega, fun z => by omega⟩)
  refine run_when hT (et_test (ev_eqS (ev_ixW (w := w0) (ev_raw rfl) ev_int hl (atI_nat (j := 0) rfl)) ev_str)) (fun e H1 g1 => ?_) fun e H1 g1 => ?_
  · have e0 : w0 = "out" := by simpa using e
    have hl1 := g1.lst hl (by simp)
    refine run_ret g1.tbs ((ev_andV (ev_eqS (ev_var rfl) ev_str) fun _ => ev_andV (b := decide (okName (r.headD ""))) (len (m := 1) rfl hl1) fun hlen => ?_).is (x := .bl (canStand (w0 :: r) x)) (by rw [canStand_cons, if_pos e0])) fun v H2 g2 rr => by cases (show v = .bl _ from rr); exact q H2 (g1.trans g2)
    obtain ⟨n, rfl⟩ : ∃ n, r = [n] := by
      match r, (of_decide_eq_true hlen : r.length = 1) with
      | [n], _ => exact ⟨n, rfl⟩
    exact ev_call (ea_cons (ev_ixW (w := n) (ev_raw rfl) ev_int hl1 rfl) ea_nil) ⟨n, rfl, hw n (by simp), rfl⟩
  · have e0 : ¬ w0 = "out" := by simpa using e
    have hl1 := g1.lst hl (by simp)
    refine run_ret g1.tbs ((ev_andV (ev_eqS (ev_ixW (w := w0) (ev_raw rfl) ev_int hl1 (atI_nat (j := 0) rfl)) (ev_var rfl)) fun _ => ev_andV (b := isNum (r.headD "") && isNum ((r.drop 1).headD "")) (len (m := 2) rfl hl1) fun hlen => ?_).is (x := .bl (canStand (w0 :: r) x)) (by rw [canStand_cons, if_neg e0])) fun v H2 g2 rr => by cases (show v = .bl _ from rr); exact q H2 (g1.trans g2)
    obtain ⟨a, b, rfl⟩ : ∃ a b, r = [a, b] := by
      match r, (of_decide_eq_true hlen : r.length = 2) with
      | [a, b], _ => exact ⟨a, b, rfl⟩
    exact ev_andV (ev_call (ea_cons (ev_ixW (w := a) (ev_raw rfl) ev_int hl1 rfl) ea_nil) ⟨a, rfl, by have := hw a (by simp); omega, rfl⟩) fun _ => ev_call (ea_cons (ev_ixW (w := b) (ev_raw rfl) ev_int hl1 rfl) ea_nil) ⟨b, rfl, by have := hw b (by simp); omega, rfl⟩
end
end Pd
namespace Pd
open PySem L2
/-! ### the door at a path of a changed house, changed once more -/
theorem Inb.get : ∀ {cs : List Int} {xs : List Cho} {j : Nat} {c : Int}, Inb cs xs → cs[j]? = some c → ∃ x, xs[j]? = some x ∧ x.2.1 ≤ c ∧ c ≤ x.2.2
  | c0 :: cs, x :: xs, 0, c, h, e => by simp at e; subst e; exact ⟨x, rfl, h.1, h.2.1⟩
  | _ :: cs, _ :: xs, j + 1, c, h, e => by simpa using Inb.get (cs := cs) (xs := xs) (j := j) h.2.2 (by simpa using e)
  | [], [], _, _, _, e => by simp at e
  | [], _ :: _, _, _, h, _ => h.elim
  | _ :: _, [], _, _, h, _ => h.elim
theorem Inb.put : ∀ {cs : List Int} {xs : List Cho} {j : Nat} {x : Cho} {c : Int}, Inb cs xs → xs[j]? = some x → x.2.1 ≤ c → c ≤ x.2.2 → Inb (cs.set j c) xs
  | _ :: cs, _ :: xs, 0, x, c, h, e, a, b => by simp at e; subst e; exact ⟨a, b, h.2.2⟩
  | _ :: cs, _ :: xs, j + 1, x, c, h, e, a, b => ⟨h.1, h.2.1, Inb.put (cs := cs) (xs := xs) (j := j) h.2.2 (by simpa using e) a b⟩
  | [], [], _, _, _, _, e, _, _ => by simp at e
  | [], _ :: _, _, _, _, h, _, _, _ => h.elim
  | _ :: _, [], _, _, _, h, _, _, _ => h.elim
theorem sab_set : ∀ {cs : List Int} {j : Nat} {c d : Int}, cs[j]? = some c → sab (cs.set j d) + c.natAbs = sab cs + d.natAbs
  | c0 :: cs, 0, c, d, e => by simp at e; subst e; unfold sab; simp only [List.set_cons_zero, List.map_cons, List.sum_cons]; omega
  | c0 :: cs, j + 1, c, d, e => by
    have := sab_set (cs := cs) (j := j) (c := c) (d := d) (by simpa using e)
    unfold sab at *
    simp only [List.set_cons_succ, List.map_cons, List.sum_cons]; omega
  | [], _, _, _, e => by simp at e
mutual
theorem House.door2 : ∀ (h : House) (l : Int) (pre : List Int) (cs : List Int) (j : Nat) (p : List Int) (c0 c : Int), h.ok → (h.paths pre)[j]? = some p → Inb cs (h.cho l) → cs[j]? = some c0 →
    ∃ q i n s n0 s0, p = pre ++ q ++ [i] ∧ Door1 (h.chg cs) q i c n s (h.chg (cs.set j (c0 + c))) ∧ n = n0 + c0 ∧ s = (if s0 = n0 then n else s0) ∧ (s = n ↔ s0 = n0) ∧ (∃ x, (h.cho l)[j]? = some x ∧ x.2.1 = (if s0 = n0 then 1 else s0 + 1) - n0 ∧ x.2.2 = 99 - n0)
  | .out _, _, _, _, _, _, _, _, _, e, _, _ => by simp [House.paths] at e
  | .room hand ds, l, pre, cs, j, p, c0, c, ⟨o1, o2, o3, o4⟩, e, hi, z => by
    obtain ⟨m, n0, s0, n, s, a1, a2, a3, a4, h1⟩ := Doors.door2 ds hand ds.len 0 l pre 0 cs j p c0 c o4 e hi z
    rcases h1 with ⟨x, rfl, g, e2⟩ | ⟨q, i, n1, s1, x, x', rfl, g, d, e2⟩
    · refine ⟨[], (m : Nat), n, s, n0, s0, by simp, ⟨hand, ds.chg cs, x, ?_, by omega, by simpa using g, ?_⟩, a1, a2, a3, a4⟩
      · rw [House.at_nil]; rfl
      · simp only [House.putAt, House.chg, Int.toNat_natCast]; rw [e2]
    · obtain ⟨hand', ds', y, d1, d2, d3, d4⟩ := d.ex
      refine ⟨(m : Nat) :: q, i, n, s, n0, s0, by simp, ⟨hand', ds', y, ?_, d2, d3, ?_⟩, a1, a2, a3, a4⟩
      · simp only [House.chg]
        unfold House.at?
        rw [if_pos (by omega)]
        simp only [Int.toNat_natCast, g]
        exact d1
      · simp only [House.chg, House.putAt, Int.toNat_natCast, g]
        rw [d4, e2]
theorem Doors.door2 : ∀ (ds : Doors) (hand len k' l : Int) (pre : List Int) (k : Nat) (cs : List Int) (j : Nat) (p : List Int) (c0 c : Int), ds.ok → (ds.paths pre k)[j]? = some p → Inb cs (ds.cho hand len k' l) → cs[j]? = some c0 →
    ∃ (m : Nat) (n0 s0 n s : Int), n = n0 + c0 ∧ s = (if s0 = n0 then n else s0) ∧ (s = n ↔ s0 = n0) ∧ (∃ x, (ds.cho hand len k' l)[j]? = some x ∧ x.2.1 = (if s0 = n0 then 1 else s0 + 1) - n0 ∧ x.2.2 = 99 - n0) ∧
      ((∃ x, p = pre ++ [((k + m : Nat) : Int)] ∧ (ds.chg cs).get? m = some (n, s, x) ∧ (ds.chg cs).set m (n + c) (if s = n then n + c else s) x = ds.chg (cs.set j (c0 + c))) ∨
      ∃ q i n1 s1 x x', p = pre ++ [((k + m : Nat) : Int)] ++ q ++ [i] ∧ (ds.chg cs).get? m = some (n1, s1, x) ∧ Door1 x q i c n s x' ∧ (ds.chg cs).set m n1 s1 x' = ds.chg (cs.set j (c0 + c)))
  | .nil, _, _, _, _, _, _, _, _, _, _, _, _, e, _, _ => by simp [Doors.paths] at e
  | .cons n s h r, hand, len, k', l, pre, k, [], j, p, c0, c, _, e, hi, z => by simp at z
  | .cons n s h r, hand, len, k', l, pre, k, c1 :: cs, 0, p, c0, c, ⟨o1, o2, o3, o4, o5, o6⟩, e, hi, z => by
    simp [Doors.paths] at e
    simp at z
    subst z
    obtain ⟨i1, i2, i3⟩ := hi
    have i1' : (if s = n then (1 : Int) else s + 1) - n ≤ c1 := i1
    have w : ((if s = n then n + c1 else s) = n + c1 ↔ s = n) := by
      by_cases c : s = n
      · simp [c]
      · rw [if_neg c] at i1'
        rw [if_neg c]
        constructor
        · intro z; omega
        · intro z; exact absurd z c
    refine ⟨0, n, s, n + c1, _, rfl, rfl, w, ⟨_, rfl, rfl, rfl⟩, .inl ⟨h.chg (cs.take h.many), by simp [← e], ?_, ?_⟩⟩
    · simp only [Doors.chg, hd, List.headD_cons, List.tail_cons, Doors.get?]
    · simp only [Doors.chg, hd, List.headD_cons, List.tail_cons, Doors.set, List.set_cons_zero]
      by_cases c2 : s = n
      · simp only [if_pos c2, if_true]
        rw [Int.add_assoc]
      · have n2 : ¬ s = n + c1 := fun z => c2 (w.mp (by rw [if_neg c2]; exact z))
        simp only [if_neg c2, if_neg n2]
        rw [Int.add_assoc]
  | .cons n s h r, hand, len, k', l, pre, k, c1 :: cs, j + 1, p, c0, c, ⟨o1, o2, o3, o4, o5, o6⟩, e, hi, z => by
    simp only [Doors.paths, List.getElem?_cons_succ] at e
    simp only [List.getElem?_cons_succ] at z
    obtain ⟨i1, i2, i3⟩ := hi
    obtain ⟨j1, j2⟩ := i3.split
    rw [House.cho_len] at j1 j2
    by_cases lt : j < h.many
    · rw [List.getElem?_append_left (by rw [House.paths_len]; exact lt)] at e
      obtain ⟨q, i, n1, s1, n0, s0, e1, d, a1, a2, a3, x, a4, a5⟩ := House.door2 h _ _ (cs.take h.many) j p c0 c o5 e j1 (by rw [List.getElem?_take_of_lt lt]; exact z)
      refine ⟨0, n0, s0, n1, s1, a1, a2, a3, ⟨x, ?_, a5⟩, .inr ⟨q, i, _, _, _, _, by rw [e1]; rfl, rfl, d, ?_⟩⟩
      · simp only [Doors.cho, List.getElem?_cons_succ]
        rw [List.getElem?_append_left (by rw [House.cho_len]; exact lt)]; exact a4
      · simp only [Doors.chg, hd, List.headD_cons, List.tail_cons, Doors.set, List.set_cons_succ]
        rw [List.take_set, List.drop_set_of_lt lt]
    · rw [List.getElem?_append_right (by rw [House.paths_len]; omega), House.paths_len] at e
      obtain ⟨m, n0, s0, n1, s1, a1, a2, a3, ⟨x, a4, a5⟩, h1⟩ := Doors.door2 r hand len (k' + 1) l pre (k + 1) (cs.drop h.many) (j - h.many) p c0 c o6 e j2 (by rw [List.getElem?_drop, show h.many + (j - h.many) = j by omega]; exact z)
      have es : (cs.set j (c0 + c)).take h.many = cs.take h.many := List.take_set_of_le (by omega)
      have ed : (cs.set j (c0 + c)).drop h.many = (cs.drop h.many).set (j - h.many) (c0 + c) := by rw [List.drop_set]; rw [if_neg (by omega)]
      refine ⟨m + 1, n0, s0, n1, s1, a1, a2, a3, ⟨x, ?_, a5⟩, ?_⟩
      · simp only [Doors.cho, List.getElem?_cons_succ]
        rw [List.getElem?_append_right (by rw [House.cho_len]; omega), House.cho_len]; exact a4
      rw [show k + (m + 1) = k + 1 + m by omega]
      rcases h1 with ⟨x, a, b, d⟩ | ⟨q, i, n2, s2, x, x', a, b, d, f⟩
      · refine .inl ⟨x, a, b, ?_⟩
        simp only [Doors.chg, hd, List.headD_cons, List.tail_cons, Doors.set, List.set_cons_succ, es, ed]
        rw [d]
      · refine .inr ⟨q, i, n2, s2, x, x', a, b, d, ?_⟩
        simp only [Doors.chg, hd, List.headD_cons, List.tail_cons, Doors.set, List.set_cons_succ, es, ed]
        rw [f]
end
end Pd
namespace Pd
open PySem PySem.Spec PyProof.Rows L2
/-! ### the first room that can't be, where one was put -/
theorem Doors.get_set_same (ds : Doors) (i : Nat) {n s n' s' : Int} {h x : House} (e : ds.get? i = some (n, s, h)) : (ds.set i n' s' x).get? i = some (n', s', x) := by
  rw [Doors.get_set _ _ _ _ _ _ (ds.get_lt _ e), if_pos rfl]
theorem Doors.get_set_ne : ∀ (ds : Doors) (i j : Nat), i ≠ j → ∀ {n s : Int} {x : House}, (ds.set i n s x).get? j = ds.get? j
  | .nil, _, _, _, _, _, _ => rfl
  | .cons _ _ _ _, 0, 0, h, _, _, _ => absurd rfl h
  | .cons _ _ _ _, 0, _ + 1, _, _, _, _ => rfl
  | .cons _ _ _ _, _ + 1, 0, _, _, _, _ => rfl
  | .cons _ _ _ r, i + 1, j + 1, h, _, _, _ => Doors.get_set_ne r i j (fun z => h (by rw [z]))
theorem Doors.canB_ok : ∀ ds : Doors, ds.ok → ds.canB = true
  | .nil, _ => rfl
  | .cons n s h r, ⟨h1, h2, h3, h4, _, h6⟩ => by
    simp only [Doors.canB, Doors.canB_ok r h6, doorOk, Bool.and_true]
    simp [h1, h2, h3, h4]
theorem House.canB_ok : ∀ h : House, h.ok → h.canB = true
  | .out n, h => decide_eq_true (show okName n from h)
  | .room hand ds, ⟨h1, h2, h3, h4⟩ => by
    simp only [House.canB, ds.canB_ok h4, Bool.and_true, Bool.and_eq_true, decide_eq_true_eq]
    omega
mutual
theorem House.bad_ok : ∀ (h : House) (p : List Int), h.ok → h.bad p = none
  | .out n, p, h => by
    simp only [House.bad]; rw [if_pos (show okName n from h)]
  | .room hand ds, p, h => by
    simp only [House.bad]; rw [if_pos (House.canB_ok _ h)]; exact Doors.bad_ok ds p 0 h.2.2.2
theorem Doors.bad_ok : ∀ (ds : Doors) (p : List Int) (k : Nat), ds.ok → ds.bad p k = none
  | .nil, _, _, _ => rfl
  | .cons n s h r, p, k, ⟨_, _, _, _, h5, h6⟩ => by
    simp only [Doors.bad]; rw [House.bad_ok h _ h5]; exact Doors.bad_ok r p (k + 1) h6
end
theorem House.bad_top {b : House} (h : b.canB = false) (p : List Int) : b.bad p = some p := by
  rw [House.bad_is, if_neg (by rw [h]; decide)]
theorem Doors.canB_set : ∀ (ds : Doors) (i : Nat) {n s : Int} {h x : House}, ds.get? i = some (n, s, h) → (ds.set i n s x).canB = ds.canB
  | .nil, _, _, _, _, _, e => nomatch e
  | .cons _ _ _ _, 0, _, _, _, _, e => by cases e; rfl
  | .cons a b c r, i + 1, _, _, _, x, e => by
    simp only [Doors.set, Doors.canB, Doors.canB_set r i e]
theorem House.canB_put {hand : Int} {ds : Doors} {i : Nat} {n s : Int} {h x : House} (e : ds.get? i = some (n, s, h)) : (House.room hand (ds.set i n s x)).canB = (House.room hand ds).canB := by
  simp only [House.canB, Doors.len_set, Doors.canB_set ds i e]
/-- the room at q can't be, and what is ahead of it can -/
def FB : House → List Int → Prop
  | g, [] => g.canB = false
  | .out _, _ :: _ => False
  | .room hand ds, i :: r => 0 ≤ i ∧ (House.room hand ds).canB = true ∧ ∃ n s hh, ds.get? i.toNat = some (n, s, hh) ∧ (∀ j, j < i.toNat → ∀ n' s' h', ds.get? j = some (n', s', h') → ∀ p, h'.bad p = none) ∧ FB hh r
theorem Doors.bad_at : ∀ (ds : Doors) (p : List Int) (k i : Nat) {n s : Int} {h : House} {z : List Int}, ds.get? i = some (n, s, h) → (∀ j, j < i → ∀ n' s' h', ds.get? j = some (n', s', h') → ∀ p, h'.bad p = none) → h.bad (p ++ [((k + i : Nat) : Int)]) = some z → ds.bad p k = some z
  | .nil, _, _, _, _, _, _, _, e, _, _ => nomatch e
  | .cons _ _ h r, p, k, 0, _, _, _, z, e, _, hz => by
    cases e
    simp only [Doors.bad]
    rw [show (k : Int) = ((k + 0 : Nat) : Int) by simp, hz]
  | .cons n0 s0 h r, p, k, i + 1, _, _, _, z, e, ha, hz => by
    simp only [Doors.bad]
    rw [ha 0 (by omega) n0 s0 h rfl]
    exact Doors.bad_at r p (k + 1) i e (fun j hj n' s' h' ej => ha (j + 1) (by omega) n' s' h' ej) (by rw [show k + 1 + i = k + (i + 1) by omega]; exact hz)
theorem FB.bad : ∀ (q : List Int) {g : House} (p : List Int), FB g q → g.bad p = some (p ++ q)
  | [], g, p, h => by
    rw [List.append_nil]
    exact House.bad_top (by cases g <;> exact h) p
  | i :: r, .out _, p, h => by cases (show False from h)
  | i :: r, .room hand ds, p, ⟨i0, c, n, s, hh, e, ha, f⟩ => by
    rw [House.bad_is, if_pos c]
    show firsts (ds.hind p 0) = _
    rw [← Doors.bad_is]
    refine Doors.bad_at ds p 0 i.toNat e ha ?_
    rw [FB.bad r _ f, show ((0 + i.toNat : Nat) : Int) = i by omega]
    simp
theorem FB.check {g : House} {q : List Int} (h : FB g q) : checkO g = .err .house (pathD q) := by
  unfold checkO
  rw [FB.bad q [] h]; rfl
theorem FB.put : ∀ (q : List Int) {h y b : House}, h.ok → h.at? q = some y → b.canB = false → FB (h.putAt q b) q
  | [], h, y, b, _, _, hb => by
    have : h.putAt [] b = b := by cases h <;> simp [House.putAt]
    rw [this]
    cases b <;> exact hb
  | i :: r, .out _, _, _, _, e, _ => by simp [House.at?] at e
  | i :: r, .room hand ds, y, b, hok, e, hb => by
    unfold House.at? at e
    by_cases i0 : 0 ≤ i
    · simp only [if_pos i0] at e
      cases hg : ds.get? i.toNat with
      | none => rw [hg] at e; cases e
      | some tr =>
        obtain ⟨n, s, hh⟩ := tr
        rw [hg] at e
        have hhok := (Doors.get_ok ds _ hok.2.2.2 hg).2.2.2.2
        have ep : (House.room hand ds).putAt (i :: r) b = .room hand (ds.set i.toNat n s (hh.putAt r b)) := by simp [House.putAt, hg]
        rw [ep]
        refine ⟨i0, by rw [House.canB_put hg]; exact House.canB_ok _ hok, n, s, hh.putAt r b, ?_, fun j hj n' s' h' ej p => ?_, FB.put r hhok e hb⟩
        · exact Doors.get_set_same ds _ hg
        · rw [Doors.get_set_ne ds _ _ (by omega)] at ej
          exact House.bad_ok h' p (Doors.get_ok ds _ hok.2.2.2 ej).2.2.2.2
    · simp only [if_neg i0] at e; cases e
/-- later, and not behind it -/
def After : List Int → List Int → Prop
  | _, [] => False
  | [], _ :: _ => False
  | j :: l, i :: r => i < j ∨ (i = j ∧ After l r)
theorem FB.later : ∀ (q L : List Int) {g x : House}, FB g q → After L q → (∀ i ∈ L, 0 ≤ i) → FB (g.putAt L x) q
  | [], L, _, _, _, h, _ => by cases L <;> cases (show False from h)
  | _ :: _, [], _, _, _, h, _ => by cases (show False from h)
  | i :: r, j :: L, .out _, _, h, _, _ => by cases (show False from h)
  | i :: r, j :: L, .room hand ds, x, ⟨i0, c, n, s, hh, e, ha, f⟩, hl, h0 => by
    have j0 := h0 j (by simp)
    simp only [House.putAt]
    cases hg : ds.get? j.toNat with
    | none => exact ⟨i0, c, n, s, hh, e, ha, f⟩
    | some tr =>
      obtain ⟨n1, s1, h1⟩ := tr
      refine ⟨i0, by rw [House.canB_put hg]; exact c, ?_⟩
      rcases hl with lt | ⟨rfl, hl⟩
      · refine ⟨n, s, hh, ?_, fun k hk n' s' h' ek => ?_, f⟩
        · rw [Doors.get_set_ne ds _ _ (by omega)]; exact e
        · rw [Doors.get_set_ne ds _ _ (by omega)] at ek
          exact ha k hk n' s' h' ek
      · rw [e] at hg
        cases hg
        refine ⟨n, s, hh.putAt L x, Doors.get_set_same ds _ e, fun k hk n' s' h' ek => ?_, FB.later r L f hl fun k hk => h0 k (by simp [hk])⟩
        rw [Doors.get_set_ne ds _ _ (by omega)] at ek
        exact ha k hk n' s' h' ek
/-! not too big -/
mutual
theorem House.ok_fair : ∀ h : House, h.ok → h.fair
  | .out n, h => by
    have : n.length ≤ 6 := (show okName n from h).2.1
    show n.length ≤ 10000
    omega
  | .room hand ds, ⟨_, _, h3, h4⟩ => ⟨by omega, Doors.ok_fair ds h4⟩
theorem Doors.ok_fair : ∀ ds : Doors, ds.ok → ds.fair
  | .nil, _ => trivial
  | .cons _ _ h r, ⟨_, _, _, _, h5, h6⟩ => ⟨House.ok_fair h h5, Doors.ok_fair r h6⟩
end
theorem Doors.fair_set : ∀ (ds : Doors) (i : Nat) {n s : Int} {x : House}, ds.fair → x.fair → (ds.set i n s x).fair
  | .nil, _, _, _, _, _, _ => trivial
  | .cons _ _ _ _, 0, _, _, _, ⟨_, h2⟩, hx => ⟨hx, h2⟩
  | .cons _ _ _ r, i + 1, _, _, _, ⟨h1, h2⟩, hx => ⟨h1, Doors.fair_set r i h2 hx⟩
theorem Doors.get_fairM : ∀ (ds : Doors) (i : Nat) {n s : Int} {h : House}, ds.fair → ds.get? i = some (n, s, h) → h.fair
  | .nil, _, _, _, _, _, e => nomatch e
  | .cons _ _ _ _, 0, _, _, _, ⟨h1, _⟩, e => by cases e; exact h1
  | .cons _ _ _ r, i + 1, _, _, _, ⟨_, h2⟩, e => Doors.get_fairM r i h2 e
theorem House.fair_put : ∀ (q : List Int) {h x : House}, h.fair → x.fair → (h.putAt q x).fair
  | [], h, x, _, hx => by
    have : h.putAt [] x = x := by cases h <;> simp [House.putAt]
    rw [this]; exact hx
  | _ :: _, .out _, _, hf, _ => hf
  | i :: r, .room hand ds, x, ⟨f1, f2⟩, hx => by
    simp only [House.putAt]
    cases hg : ds.get? i.toNat with
    | none => exact ⟨f1, f2⟩
    | some tr =>
      obtain ⟨n, s, hh⟩ := tr
      exact ⟨by rw [Doors.len_set]; exact f1, Doors.fair_set ds _ f2 (House.fair_put r (Doors.get_fairM ds _ f2 hg) hx)⟩
theorem Doors.deep_set : ∀ (ds : Doors) (i : Nat) {n s : Int} {x : House}, (ds.set i n s x).deep ≤ max ds.deep x.deep
  | .nil, _, _, _, _ => by simp [Doors.set, Doors.deep]
  | .cons _ _ h r, 0, _, _, x => by simp only [Doors.set, Doors.deep]; omega
  | .cons _ _ h r, i + 1, n, s, x => by
    have := Doors.deep_set r i (n := n) (s := s) (x := x)
    simp only [Doors.set, Doors.deep]; omega
theorem House.deep_put : ∀ (q : List Int) {h x : House}, (h.putAt q x).deep ≤ max h.deep (q.length + x.deep)
  | [], h, x => by
    have : h.putAt [] x = x := by cases h <;> simp [House.putAt]
    rw [this]; simp; omega
  | _ :: _, .out _, _ => by simp [House.putAt, House.deep]
  | i :: r, .room hand ds, x => by
    simp only [House.putAt]
    cases hg : ds.get? i.toNat with
    | none => simp only; omega
    | some tr =>
      obtain ⟨n, s, hh⟩ := tr
      have a := Doors.deep_set ds i.toNat (n := n) (s := s) (x := hh.putAt r x)
      have b := House.deep_put r (h := hh) (x := x)
      have c := Doors.get_deep ds _ hg
      simp only [House.deep, List.length_cons]
      omega
theorem Doors.many_put : ∀ (ds : Doors) (i : Nat) {n s : Int} {h x : House} {c : Nat}, ds.get? i = some (n, s, h) → x.many ≤ h.many + c → (ds.set i n s x).many ≤ ds.many + c
  | .nil, _, _, _, _, _, _, e, _ => nomatch e
  | .cons _ _ _ r, 0, _, _, _, _, _, e, hc => by cases e; simp only [Doors.set, Doors.many]; omega
  | .cons _ _ _ r, i + 1, _, _, _, _, _, e, hc => by
    have := Doors.many_put r i e hc
    simp only [Doors.set, Doors.many]; omega
theorem House.many_put : ∀ (q : List Int) {h x : House}, (h.putAt q x).many ≤ h.many + x.many
  | [], h, x => by
    have : h.putAt [] x = x := by cases h <;> simp [House.putAt]
    rw [this]; omega
  | _ :: _, .out _, _ => by simp [House.putAt, House.many]
  | i :: r, .room hand ds, x => by
    simp only [House.putAt]
    cases hg : ds.get? i.toNat with
    | none => simp only; omega
    | some tr =>
      obtain ⟨n, s, hh⟩ := tr
      exact Doors.many_put ds _ hg (House.many_put r)
end Pd
namespace Pd
open PySem PySem.Spec PyProof.Rows L2 TL
/-! ### a text cut at a sign -/
theorem pre1 (s c : Nat) (r : List Nat) : pre [s] (c :: r) = decide (c = s) := by
  unfold pre
  by_cases h : c = s
  · subst h; simp
  · simp [h]
theorem spl1 (s : Nat) : ∀ (xs acc : List Nat), joinL [s] (spl [s] 0 acc xs) = acc ++ xs ∧ spl [s] 0 acc xs ≠ [] ∧ (∀ p ∈ spl [s] 0 acc xs, p.length ≤ acc.length + xs.length) ∧ (spl [s] 0 acc xs).length ≤ xs.length + 1
  | [], acc => by rw [spl_nil]; simp [joinL]
  | c :: r, acc => by
    by_cases h : c = s
    · rw [spl_hit (by rw [pre1, decide_eq_true h])]
      obtain ⟨a1, a2, a3, a4⟩ := spl1 s r []
      show joinL [s] (acc :: spl [s] 0 [] r) = _ ∧ (acc :: spl [s] 0 [] r) ≠ [] ∧ _ ∧ _
      refine ⟨?_, by simp, fun p hp => ?_, by simp only [List.length_cons]; exact Nat.succ_le_succ a4⟩
      · obtain ⟨q, l, e⟩ : ∃ q l, spl [s] 0 [] r = q :: l := by
          cases e : spl [s] 0 [] r with
          | nil => exact absurd e a2
          | cons q l => exact ⟨q, l, rfl⟩
        rw [e] at a1 ⊢
        show acc ++ ([s] ++ joinL [s] (q :: l)) = _
        rw [a1, h]; rfl
      · rcases List.mem_cons.mp hp with rfl | hp
        · omega
        · have := a3 p hp
          simp only [List.length_nil, List.length_cons] at this ⊢; omega
    · rw [spl_miss (by rw [pre1, decide_eq_false h])]
      obtain ⟨a1, a2, a3, a4⟩ := spl1 s r (acc ++ [c])
      refine ⟨by rw [a1]; simp, a2, fun p hp => ?_, by simp only [List.length_cons]; omega⟩
      have := a3 p hp
      simp only [List.length_append, List.length_cons, List.length_nil] at this ⊢; omega
theorem split_back (x y : Str) {s : Nat} (ey : tl y = [s]) (hk : y.cps.all (· < 256) = true) : Txt.join y (Txt.split x y) = x ∧ Txt.split x y ≠ [] ∧ (∀ p ∈ Txt.split x y, p.length ≤ x.length) ∧ (Txt.split x y).length ≤ x.length + 1 := by
  have e := split_spl x y (by rw [ey]; simp) (kind_ok hk)
  rw [ey] at e
  obtain ⟨a1, a2, a3, a4⟩ := spl1 s (tl x) []
  rw [← e] at a1 a2 a3 a4
  refine ⟨ext_tl ?_, fun z => a2 (by rw [z]; rfl), fun p hp => ?_, ?_⟩
  · rw [join_eq, tl_join, ey, a1]; rfl
  · have := a3 (tl p) (List.mem_map.mpr ⟨p, hp, rfl⟩)
    rw [len_tl, len_tl]; simpa using this
  · rw [List.length_map] at a4; rw [len_tl]; exact a4
def wordsOf (x : Str) : List (List Str) := (Txt.split x "\n").map fun r => Txt.split r " "
theorem sp_ok : (" " : Str).cps.all (· < 256) = true := by decide +kernel
theorem nl_ok : ("\n" : Str).cps.all (· < 256) = true := by decide +kernel
theorem wordsOf_get {x : Str} {i : Nat} {w : List Str} (h : (wordsOf x)[i]? = some w) : ∃ r, (Txt.split x "\n")[i]? = some r ∧ w = Txt.split r " " ∧ r = rowT w ∧ w ≠ [] ∧ r.length ≤ x.length ∧ (∀ p ∈ w, p.length ≤ x.length) ∧ w.length ≤ x.length + 1 := by
  unfold wordsOf at h
  rw [List.getElem?_map] at h
  cases e : (Txt.split x "\n")[i]? with
  | none => rw [e] at h; cases h
  | some r =>
    rw [e] at h; cases h
    have hr := (split_back x "\n" tl_nl nl_ok).2.2.1 r (List.mem_of_getElem? e)
    obtain ⟨b1, b2, b3, b4⟩ := split_back r " " tl_sp sp_ok
    exact ⟨r, rfl, rfl, b1.symm, b2, hr, fun p hp => Nat.le_trans (b3 p hp) hr, (show (Txt.split r " ").length ≤ x.length + 1 by omega)⟩
theorem wordsOf_len (x : Str) : (wordsOf x).length ≤ x.length + 1 ∧ wordsOf x ≠ [] := by
  obtain ⟨_, a, _, b⟩ := split_back x "\n" tl_nl nl_ok
  unfold wordsOf
  exact ⟨by rw [List.length_map]; exact b, fun z => a (List.map_eq_nil_iff.mp z)⟩
/-! ### houses of any figures -/
mutual
def House.figs : House → Prop
  | .out n => okName n
  | .room hand ds => fig hand ∧ ds.len ≤ 99 ∧ ds.figs
def Doors.figs : Doors → Prop
  | .nil => True
  | .cons n s h r => fig n ∧ fig s ∧ h.figs ∧ r.figs
end
mutual
theorem House.goesF : ∀ h : House, h.figs → ∀ st, Goes (st ++ [("room" : Str)]) h.words st
  | .out n, o, st => ⟨st, "room", [], rfl, .out n o, by simp [Goes]⟩
  | .room hand ds, ⟨o1, o2, o3⟩, st => by
    have := Doors.goesF ds o3 st
    exact ⟨st, "room", _, rfl, .room _ _ o1 ⟨by omega, by omega⟩, by rw [Int.toNat_natCast]; exact this⟩
theorem Doors.goesF : ∀ ds : Doors, ds.figs → ∀ st, Goes (st ++ List.replicate ds.len ("door" : Str)) ds.words st
  | .nil, _, st => by simp [Goes, Doors.words, Doors.len]
  | .cons n s h r, ⟨o1, o2, o5, o6⟩, st => by
    refine ⟨st ++ List.replicate r.len ("door" : Str), "door", ["room"], ?_, .door _ _ o1 o2, Goes.app (House.goesF h o5 _) (Doors.goesF r o6 st)⟩
    rw [Doors.len, List.replicate_succ', List.append_assoc]
end
mutual
theorem House.endsF : ∀ h : House, h.figs → ∀ st, Comes h.words.reverse st (h.toD :: st)
  | .out n, o, st => ⟨_, .out n st, rfl⟩
  | .room hand ds, ⟨o1, o2, o3⟩, st => by
    simp only [House.words, List.reverse_cons]
    refine Comes.app (Doors.endsF ds o3 st) ⟨_, ?_, rfl⟩
    have := Step.room hand ds.toDs st o1 (by rw [Doors.toDs_len]; omega)
    rw [Doors.toDs_len] at this
    exact this
theorem Doors.endsF : ∀ ds : Doors, ds.figs → ∀ st, Comes ds.words.reverse st (ds.toDs ++ st)
  | .nil, _, st => by simp [Comes, Doors.words, Doors.toDs]
  | .cons n s h r, ⟨o1, o2, o5, o6⟩, st => by
    simp only [Doors.words, List.reverse_cons, List.reverse_append, Doors.toDs, List.append_assoc, List.cons_append]
    rw [← List.append_assoc]
    exact Comes.app (Comes.app (Doors.endsF r o6 st) (House.endsF h o5 _)) ⟨_, .door n s h.toD _ o1 o2, rfl⟩
end
mutual
theorem House.figs_fair : ∀ h : House, h.figs → h.fair
  | .out n, h => by
    have : n.length ≤ 6 := (show okName n from h).2.1
    show n.length ≤ 10000
    omega
  | .room hand ds, ⟨_, h3, h4⟩ => ⟨by omega, Doors.figs_fair ds h4⟩
theorem Doors.figs_fair : ∀ ds : Doors, ds.figs → ds.fair
  | .nil, _ => trivial
  | .cons _ _ h r, ⟨_, _, h5, h6⟩ => ⟨House.figs_fair h h5, Doors.figs_fair r h6⟩
end
mutual
theorem House.deep_words : ∀ h : House, 2 * h.deep ≤ h.words.length + 1
  | .out _ => by simp [House.deep]
  | .room hand ds => by
    have := Doors.deep_words ds
    simp only [House.deep, House.words, List.length_cons]; omega
theorem Doors.deep_words : ∀ ds : Doors, 2 * ds.deep ≤ ds.words.length
  | .nil => by simp [Doors.deep]
  | .cons n s h r => by
    have a := House.deep_words h
    have b := Doors.deep_words r
    simp only [Doors.deep, Doors.words, List.length_cons, List.length_append]; omega
end
/-- where a text stops to be a house's -/
def Halts (W : List (List Str)) (k : Nat) : Prop := k ≤ W.length ∧ ((∃ st x, Goes [("room" : Str)] (W.take k) (st ++ [x]) ∧ (k = W.length ∨ ∃ w, W[k]? = some w ∧ canStand w x = false)) ∨ (Goes [("room" : Str)] (W.take k) [] ∧ k < W.length))
theorem Goes.xs : ∀ {W : List (List Str)} {a c : List Str}, Goes a W c → (∀ x ∈ a, x = "room" ∨ x = "door") → ∀ x ∈ c, x = "room" ∨ x = "door"
  | [], _, _, h, ha => by cases (show _ = _ from h); exact ha
  | w :: W, _, _, ⟨st0, y, n, e, s, g⟩, ha => by
    subst e
    refine Goes.xs g fun x hx => ?_
    rcases List.mem_append.mp hx with hx | hx
    · exact ha x (List.mem_append_left _ hx)
    · cases s with
      | out => cases hx
      | room a b => exact .inr (List.eq_of_mem_replicate hx)
      | door a b => rcases List.mem_singleton.mp hx with rfl; exact .inl rfl
end Pd
namespace Pd
open PySem PySem.Spec PyProof.Rows L2
section
variable {P : Program} {w : World} {K : PySem.W.Frag} {mg : Str → Option Value} {base : Heap} {T : Tb} {f : Addr} {fd : FuncData}
def spBuilt (T : Tb) (K : PySem.W.Frag) : Sp := fun vs H Q _ => ∃ (l : Addr) (xs : List V) (W : List (List Str)) (d : D), vs = [.ref l] ∧ H l = some (.lst xs) ∧ WR [] H W xs ∧ Comes W.reverse [] [d] ∧ W.length ≤ 100 ∧ Tbs T H ∧ ∀ v H', Gr T [] H H' → Rep K H' d v → Q v H'
theorem ok_built (B : Bl mg) (a : At K mg "built" s_built ["told"] f fd) : Ok P w K mg base 1 "built" ["told"] (spBuilt T K) := by
  refine a.ok (a.F.ok (k := 0) sc_built (fun vs H Q E ⟨_, _, _, _, e, _⟩ => by rw [e]; rfl) fun cdv A' outer s H vs Q E hr h => ⟨_, (pss_cons (ps_set (i := 1) sc_built.nd rfl (Or.inl rfl) (pe_lst pa_nil))
    (pss_cons (ps_for PassesOwn.never rfl (pi_list (pe_revL (pv 0))) (pg_name (i := 2) sc_built.nd rfl (Or.inl rfl)) (pss_one (ps_if (pt_cmpR op_eq (pe_ix ix_list (pv 2) pe_int (fun _ _ => rfl)) pe_str (nomark _)) (pss_one (ps_expr (pe_bm PySem.F.plainAttrs_list PySem.F.slot_list_append PySem.F.type_list_append mt_append (pv 1) (pa_cons (pe_ix ix_list (pv 2) pe_int (fun _ _ => rfl)) pa_nil)))) (pss_one (ps_if (pt_cmpR op_eq (pe_ix ix_list (pv 2) pe_int (fun _ _ => rfl)) pe_str (nomark _)) (pss_one (ps_expr (pe_bm PySem.F.plainAttrs_list PySem.F.slot_list_append PySem.F.type_list_append mt_append (pv 1) (pa_cons (pe_tup (pa_cons (pe_callTy call_int_str (by rfl) B.int (by decide +kernel) (pa_cons (pe_ix ix_list (pv 2) pe_int (fun _ _ => rfl)) pa_nil)) (pa_cons (pe_callTy call_int_str (by rfl) B.int (by decide +kernel) (pa_cons (pe_ix ix_list (pv 2) pe_int (fun _ _ => rfl)) pa_nil)) (pa_cons (pe_bm0 PySem.F.plainAttrs_list PySem.F.slot_list_pop PySem.F.type_list_pop mt_pop (pv 1)) pa_nil)))) pa_nil)))) (pss_cons (ps_set (i := 3) sc_built.nd rfl (Or.inl rfl) (pe_op op_sub (pe_callB cr_len (by rfl) B.len (by decide +kernel) (pa_cons (pv 1) pa_nil)) (pe_callTy call_int_str (by rfl) B.int (by decide +kernel) (pa_cons (pe_ix ix_list (pv 2) pe_int (fun _ _ => rfl)) pa_nil))))
    (pss_cons (ps_set (i := 4) sc_built.nd rfl (Or.inl rfl) (pe_callTy cr_tup (by rfl) B.tuple (by decide +kernel) (pa_cons (pe_revL (pe_slice sl_list (pv 1) (po_some (pv 3)) po_none)) pa_nil)))
    (pss_cons (ps_delS (pv 1) (po_some (pv 3)))
    (pss_one (ps_expr (pe_bm PySem.F.plainAttrs_list PySem.F.slot_list_append PySem.F.type_list_append mt_append (pv 1) (pa_cons (pe_tup (pa_cons (pe_callTy call_int_str (by rfl) B.int (by decide +kernel) (pa_cons (pe_ix ix_list (pv 2) pe_int (fun _ _ => rfl)) pa_nil)) (pa_cons (pv 4) pa_nil))) pa_nil))))))))))))
    (pss_one (ps_ret (pe_ix ix_list (pv 1) pe_int (fun _ _ => rfl)))))), ?_⟩)
  obtain ⟨l, xs, W, d, rfl, hl, hW, hC, hlen, hT, q⟩ := h
  dsimp only [Cx.nox, Cx.wish, cxOf]
  suffices hR : Run K _ _ [some (.v (.ref l)), none, none, none, none] H from
    hR _ ⟨_, _, rfl, rfl, _, _, rfl, trivial, _, _, rfl, trivial, _, _, rfl, trivial, _, _, rfl, trivial, rfl⟩
  refine run_asgL hT (ev_lst ea_nil (by simp)) fun rl xs0 H1 nr g1 er rr => ?_
  cases (show xs0 = [] from rr)
  have hW1 : WR [rl] H1 W xs := (WR.off (S' := [rl]) (fun s hs => by rw [(by simpa using hs : s = rl)]; exact nr) hW).up g1.any
  have hl1 := g1.lst hl (by simp)
  have hWl := hW.len
  refine run_forN (S := [rl]) g1.tbs (en_rev (ev_raw rfl) hl1) (fun s hs => by rw [(by simpa using hs : s = rl), er]; simp) (fun _ => [some (.v (.ref l)), some (.v (.ref rl)), none, none, none])
    (fun i H => ∃ (st : List D) (ys : List V), H rl = some (.lst ys) ∧ Reps K H st.reverse ys ∧ Comes (W.reverse.drop i) st [d] ∧ st.length ≤ i ∧ WR [rl] H W.reverse xs.reverse)
    (Less.refl _) (fun H2 g2 => ⟨[], [], g2.lst er (by simp), rfl, hC, Nat.le_refl _, hW1.rev.up g2.any⟩)
    (fun i Ha Hb g ⟨st, ys, a1, a2, a3, a4, a5⟩ => ⟨st, ys, g.lst a1 (by simp), a2.up g, a3, a4, a5.up g.any⟩)
    (fun i x Ha N hx ga ⟨st, ys, a1, a2, a3, a4, a5⟩ hN => ?_) fun He ge ⟨st, ys, a1, a2, a3, a4, a5⟩ => ?_
  · obtain ⟨ww, p, hw, rfl, np, ep⟩ := a5.get hx
    have hlt : i < W.reverse.length := (List.getElem?_eq_some_iff.mp hw).1
    have hww : W.reverse[i] = ww := (List.getElem?_eq_some_iff.mp hw).2
    rw [List.drop_eq_getElem_cons hlt, hww] at a3
    obtain ⟨st', hst, a3'⟩ := a3
    have hi : i < 100 := by rw [List.length_reverse] at hlt; omega
    have fin : ∀ Hb Hc σ v (st2 : List D) (ys2 : List V) (s3 s4 : Option SD), Gr T [rl] Ha Hc → Hc rl = some (.lst (ys2 ++ [v])) → Reps K Hc st2.reverse ys2 → Rep K Hc Hb v → st' = Hb :: st2 → st2.length ≤ i → Slots K Hc [some (.v (.ref l)), some (.v (.ref rl)), some (.v (.ref p)), s3, s4] σ → N σ Hc := fun dd Hc σ v st2 ys2 s3 s4 g e r rv est hl2 sl =>
      hN σ Hc g ⟨st', ys2 ++ [v], e, by rw [est, List.reverse_cons]; exact r.app ⟨v, [], rfl, rv, rfl⟩, a3', by rw [est, List.length_cons]; omega, a5.up g⟩ (Slots.less (.same _ (.same _ (.drop _ (.drop _ (.drop _ .nil))))) sl)
    have ysl := a2.len
    rw [List.length_reverse] at ysl
    cases hst with
    | out n st =>
      refine run_if ga.tbs ((et_test (ev_eqS (ev_ixW (w := "out") (ev_raw rfl) ev_int ep rfl) ev_str)).is (c := true) (by simp)) (fun _ Hb gb => ?_) fun e => nomatch e
      refine run_last (run_appD gb.tbs (ev_raw rfl) (ev_ixW (w := n) (ev_raw rfl) ev_int (gb.lst ep (by simp)) rfl) (gb.lst a1 (by simp)) (by omega) fun v Hc gc ec rc => run_next fun σ sl => ?_)
      have gp : Gr T [rl] Hc (upd Hc rl (.lst (ys ++ [v]))) := (Gr.refl gc.tbs).put ec (.inl (by simp))
      have gall : Gr T [rl] Ha _ := (gb.trans gc).any.trans gp
      exact fin (.str n) _ σ v st ys _ _ gall upd_same (a2.up gall) (Rep.up rc gp) rfl a4 sl
    | door aa bb y st fa fb =>
      rw [List.reverse_cons] at a2
      obtain ⟨y1, y2, rfl, r1, yv, yr, e2, r2, e3⟩ := a2.halves
      cases (show yr = [] from e3)
      subst e2
      simp only [List.length_append, List.length_cons, List.length_nil] at ysl a4
      refine run_if ga.tbs ((et_test (ev_eqS (ev_ixW (w := "door") (ev_raw rfl) ev_int ep rfl) ev_str)).is n_do) (fun e => nomatch e) fun _ Hb gb => ?_
      refine run_if gb.tbs ((et_test (ev_eqS (ev_ixW (w := "door") (ev_raw rfl) ev_int (gb.lst ep (by simp)) rfl) ev_str)).is (c := true) (by simp)) (fun _ Hc gc => ?_) fun e => nomatch e
      have gbc := gb.trans gc
      have ep2 := gbc.lst ep (by simp)
      refine run_last (run_appPop gc.tbs (ev_raw rfl) (ev_raw rfl) (ev_intS (ev_ixW (w := num aa) (ev_raw rfl) ev_int ep2 rfl) fa) (ev_intS (ev_ixW (w := num bb) (ev_raw rfl) ev_int ep2 rfl) fb) (gbc.lst a1 (by simp)) (Rep.up r2 gbc) (by omega) fun v Hd gd ed rd => run_next fun σ sl => ?_)
      have gall : Gr T [rl] Ha Hd := gbc.any.trans gd
      exact fin _ _ σ v st y1 _ _ gall ed (r1.up gall) rd rfl (by omega) sl
    | room aa ds st fa hds =>
      rw [List.reverse_append] at a2
      have fb : fig (ds.length : Int) := ⟨by omega, by omega⟩
      have a4' : ds.length + st.length ≤ i := by simpa using a4
      have ysl' : ys.length = ds.length + st.length := by simpa using ysl
      refine run_if ga.tbs ((et_test (ev_eqS (ev_ixW (w := "room") (ev_raw rfl) ev_int ep rfl) ev_str)).is n_ro) (fun e => nomatch e) fun _ Hb gb => ?_
      refine run_if gb.tbs ((et_test (ev_eqS (ev_ixW (w := "room") (ev_raw rfl) ev_int (gb.lst ep (by simp)) rfl) ev_str)).is n_rd) (fun e => nomatch e) fun _ Hc gc => ?_
      have gbc := gb.trans gc
      refine run_asg gc.tbs ((ev_I0 (ev_lenL (ev_raw rfl) (gbc.lst a1 (by simp))) (ev_intS (ev_ixW (w := num ds.length) (ev_raw rfl) ev_int (gbc.lst ep (by simp)) rfl) fb)).is (x := .int (st.length : Nat)) (by congr 1; omega)) fun Hd gd => ?_
      have gbd := gbc.trans gd
      refine run_asg gd.tbs ((ev_tupN (el_revL (el_slice (ev_raw rfl) (gbd.lst a1 (by simp)) (a2.up gbd) (eo_some (ev_var rfl)) eo_none))).is (x := .tup ds) (by rw [cut_rest, List.drop_left' (by simp), List.reverse_reverse])) fun He ge => ?_
      have gbe := gbd.trans ge
      refine run_delS ge.tbs (ev_raw rfl) (eo_some (ev_var rfl)) (gbe.lst a1 (by simp)) (by omega) fun Hf gf ef => ?_
      have gp : Gr T [rl] Hf (upd Hf rl (.lst (ys.take st.length))) := (Gr.refl gf.tbs).put ef (.inl (by simp))
      have gbf : Gr T [rl] Ha (upd Hf rl (.lst (ys.take st.length))) := (gbe.trans gf).any.trans gp
      have r2 := (a2.up gbf).take st.length
      rw [List.take_left' (by simp)] at r2
      refine run_last (run_appD gp.tbs (ev_raw rfl) (ev_tup (ea_cons (ev_intS (ev_ixW (w := num aa) (ev_raw rfl) ev_int (gbf.lst ep np) rfl) fa) (ea_cons (ev_var rfl) ea_nil)) (by simp)) upd_same (by rw [List.length_take]; omega) fun v Hg gg eg rg => run_next fun σ sl => ?_)
      have gq : Gr T [rl] Hg (upd Hg rl (.lst (ys.take st.length ++ [v]))) := (Gr.refl gg.tbs).put eg (.inl (by simp))
      have gall : Gr T [rl] Ha _ := (gbf.trans gg.any).trans gq
      exact fin _ _ σ v st _ _ _ gall upd_same ((r2.up gg).up gq) (Rep.up rg gq) rfl (by omega) sl
  · rw [List.drop_of_length_le (by rw [List.length_reverse, List.length_reverse]; omega)] at a3
    cases (show st = [d] from a3)
    have nr0 : H rl = none := nr
    exact run_ret ge.tbs (ev_ixD (ds := [d]) (ev_raw rfl) ev_int a1 a2 rfl) fun v Hf gf r => q v Hf (g1.drop (ge.trans gf.any) nr0) r
def RRead (ds : List D) (d : D) : Prop := ∃ h : House, ds = [.str h.text] ∧ h.ok ∧ h.many ≤ 12 ∧ d = h.toD
theorem ok_read (B : Bl mg) (a : At K mg "read" s_read ["text"] f fd) (G_built : Ok P w K mg base 1 "built" ["told"] (spBuilt T K)) (G_words_of_rows : Ok P w K mg base 3 "words_of_rows" ["text"] (spWords T K)) (G_check_house : Ok P w K mg base 3 "check_house" ["house"] (spR T K RCheck)) : Ok P w K mg base 4 "read" ["text"] (spR T K RRead) := by
  refine okR a sc_read (fun ds d ⟨_, e, _⟩ => by rw [e]; rfl) fun cdv A outer s H E ds d Q hr hR hT q => ⟨_, (pss_cons (ps_set (i := 1) sc_read.nd rfl (Or.inl rfl) (pe_own G_built hr (by decide) (by rfl) (pa_cons (pe_own G_words_of_rows hr (by decide) (by rfl) (pa_cons (pv 0) pa_nil)) pa_nil)))
    (pss_cons (ps_expr (pe_own G_check_house hr (by decide) (by rfl) (pa_cons (pv 1) pa_nil)))
    (pss_one (ps_ret (pv 1))))), ?_⟩
  obtain ⟨h, rfl, hok, h12, rfl⟩ := hR
  refine run_asg (d := h.toD) hT (fun σ H1 g s Q q => ?_) fun H1 g1 => ?_
  · refine (ev_var (T := T) (K := K) (δ := [some (.d (.str h.text)), none]) (H := H) (d := .str h.text) (n := 0) rfl) σ H1 g s _ fun v H2 g2 e => ?_
    refine ⟨h, by rw [(show v = .str h.text from e)]; rfl, hok, h12, g2.tbs, fun l xs H3 nl g3 el hw => ?_⟩
    exact ⟨l, xs, h.words, h.toD, rfl, el, hw, House.ends h hok [], by rw [House.words_len]; omega, g3.tbs, fun v' H4 g4 r => q v' H4 ((g2.trans g3).trans g4) r⟩
  · refine run_drop g1.tbs (ev_call (ea_cons (ev_var rfl) ea_nil) ⟨h, rfl, hok, h12, rfl⟩) fun H2 g2 => ?_
    exact run_ret g2.tbs (ev_var rfl) fun v H3 g3 r => q v H3 ((g1.trans g2).trans g3) r
/-! ### the law's own rows -/
theorem ok_lrows (B : Bl mg) (a : At K mg "_law_rows" s__law_rows ["_law_room_here"] f fd) : ∀ lv, Ok P w K mg base lv "_law_rows" ["_law_room_here"] (spRL T K (RRows lv)) := by
  intro lv
  induction lv with
  | zero => exact a.none fun vs H Q E ⟨_, _, ⟨_, _, _, h, _⟩, _⟩ => absurd h (Nat.not_lt_zero _)
  | succ lv G__law_rows =>
  refine okRL a sc__law_rows (fun ds d ⟨_, e, _⟩ => by rw [e]; rfl) fun cdv A outer s H E ds es Q hr hR hT q => ⟨_, (pss_cons (ps_if (pt_val (pe_callB call_isi (by rfl) B.isinstance (by decide +kernel) (pa_cons (pv 0) (pa_cons (pe_bltn (v := .ty "str") (by rfl) B.str (by decide +kernel) rfl) pa_nil)))) (pss_one (ps_ret (pe_lst (pa_cons (pe_op op_add_str pe_str (pv 0)) pa_nil)))) pss_nil)
    (pss_cons (ps_set (i := 1) sc__law_rows.nd rfl (Or.inl rfl) (pe_lst (pa_cons (pe_op op_add_str (pe_op op_add_str (pe_op op_add_str pe_str (pe_callTy call_str_int (by rfl) B.str (by decide +kernel) (pa_cons (pe_ix ix_tup (pv 0) pe_int (fun _ _ => rfl)) pa_nil))) pe_str) (pe_callTy call_str_int (by rfl) B.str (by decide +kernel) (pa_cons (pe_callB cr_len (by rfl) B.len (by decide +kernel) (pa_cons (pe_ix ix_tup (pv 0) pe_int (fun _ _ => rfl)) pa_nil)) pa_nil))) pa_nil)))
    (pss_cons (ps_for PassesOwn.never rfl (pi_tup (pe_ix ix_tup (pv 0) pe_int (fun _ _ => rfl))) (pg_tup (n := 3) rfl (pgs_cons (pg_name (i := 2) sc__law_rows.nd rfl (Or.inl rfl)) (pgs_cons (pg_name (i := 3) sc__law_rows.nd rfl (Or.inl rfl)) (pgs_cons (pg_name (i := 4) sc__law_rows.nd rfl (Or.inl rfl)) pgs_nil)))) (pss_one (ps_set (i := 1) sc__law_rows.nd rfl (Or.inl rfl) (pe_op op_cat (pe_op op_cat (pv 1) (pe_lst (pa_cons (pe_op op_add_str (pe_op op_add_str (pe_op op_add_str pe_str (pe_callTy call_str_int (by rfl) B.str (by decide +kernel) (pa_cons (pv 2) pa_nil))) pe_str) (pe_callTy call_str_int (by rfl) B.str (by decide +kernel) (pa_cons (pv 3) pa_nil))) pa_nil))) (pe_own G__law_rows hr (Nat.le_refl _) (by rfl) (pa_cons (pv 4) pa_nil))))))
    (pss_one (ps_ret (pv 1)))))), ?_⟩
  obtain ⟨h, rfl, hok, hd, h12, rfl⟩ := hR
  have lx : ∀ {a : Int}, fig a → ("room " : Str).length + (num a).length ≤ 100000 ∧ ("room " ++ num a).length + (" " : Str).length ≤ 100000 ∧ ("door " : Str).length + (num a).length ≤ 100000 ∧ ("door " ++ num a).length + (" " : Str).length ≤ 100000 ∧ ∀ {b : Int}, fig b → ("room " ++ num a ++ " ").length + (num b).length ≤ 100000 ∧ ("door " ++ num a ++ " ").length + (num b).length ≤ 100000 := fun {a} ha => by
    have := ha.len.2
    simp only [TL.len_tl] at this
    refine ⟨?_, ?_, ?_, ?_, fun {b} hb => ?_⟩
    · simp only [TL.len_tl, TL.tl_append, tl_room_, tl_door_, tl_sp, List.length_append, List.length_cons, List.length_nil]; omega
    · simp only [TL.len_tl, TL.tl_append, tl_room_, tl_door_, tl_sp, List.length_append, List.length_cons, List.length_nil]; omega
    · simp only [TL.len_tl, TL.tl_append, tl_room_, tl_door_, tl_sp, List.length_append, List.length_cons, List.length_nil]; omega
    · simp only [TL.len_tl, TL.tl_append, tl_room_, tl_door_, tl_sp, List.length_append, List.length_cons, List.length_nil]; omega
    · have t2 := hb.len.2
      simp only [TL.len_tl] at t2
      refine ⟨?_, ?_⟩ <;> (simp only [TL.len_tl, TL.tl_append, tl_room_, tl_door_, tl_sp, List.length_append, List.length_cons, List.length_nil]; omega)
  cases h with
  | out n =>
    have hn : n.length ≤ 6 := hok.2.1
    have eo : ("out " : Str).length = 4 := by decide +kernel
    refine run_when hT (et_B (ev_isStr (ev_var rfl))) (fun _ H1 g1 => ?_) fun e => nomatch e
    refine run_retL g1.tbs (ev_lst (ea_cons (ev_addS ev_str (ev_var rfl) (by rw [eo]; omega)) ea_nil) (by simp)) fun p xs H2 n1 g2 e r => q p xs H2 (g1.dom p n1) (g1.trans g2) e ?_
    rw [row_out] at r; exact r
  | room hand ds =>
    obtain ⟨o1, o2, o3, o4⟩ := hok
    have hdd : ds.deep < lv := by simp only [House.deep] at hd; omega
    have h12' : ds.many ≤ 12 := h12
    have fh : fig hand := ⟨o1, by omega⟩
    have fl : fig (ds.len : Int) := ⟨by omega, by omega⟩
    refine run_when hT (et_B (ev_isStr (ev_var rfl))) (fun e => nomatch e) fun _ H1 g1 => ?_
    refine run_asgL g1.tbs (ev_lst (ea_cons (ev_addS (ev_addS (ev_addS ev_str (ev_strI (ev_ixT (ev_var rfl) ev_int (atI_nat (j := 0) rfl)) fh) (lx fh).1) ev_str (lx fh).2.1) (ev_strI ((ev_lenT (ev_ixT (d := .tup ds.toDs) (ev_var rfl) ev_int (atI_nat (j := 1) rfl))).is (by rw [Doors.toDs_len])) fl) ((lx fh).2.2.2.2 fl).1) ea_nil) (by simp)) fun l xs H2 nl g2 el rl => ?_
    rw [row_room] at rl
    refine run_forS (S := []) g2.tbs (ei_tup (ds := ds.toDs) (ev_ixT (ev_var rfl) ev_int (atI_nat (j := 1) rfl)))
      (fun i δ H' => ∃ (pre : List (List Str)) (l : Addr) (xs : List V) (s2 s3 s4 : Option SD), δ = [some (.d (House.room hand ds).toD), some (.v (.ref l)), s2, s3, s4] ∧ H l = none ∧ H' l = some (.lst xs) ∧ Reps K H' ((pre.map rowT).map D.str) xs ∧ pre ++ (ds.skip i).words = (House.room hand ds).words)
      (fun H3 g3 => ⟨[["room", num hand, num ds.len]], l, xs, none, none, none, rfl, g1.dom l nl, g3.lst el (by simp), rl.up g3, by rw [Doors.skip_zero]; rfl⟩)
      (fun i δ H3 H4 g ⟨pre, l, xs, s2, s3, s4, e, n0, a1, a2, a3⟩ => ⟨pre, l, xs, s2, s3, s4, e, n0, g.lst a1 (by simp), a2.up g, a3⟩)
      (fun i d δi H3 N hdi g3 ⟨pre, l, xs, s2, s3, s4, e, n0, a1, a2, a3⟩ hN => ?_) fun δe H3 g3 ⟨pre, l, xs, s2, s3, s4, e, n0, a1, a2, a3⟩ => ?_
    · subst e
      rw [Doors.get_toDs] at hdi
      cases hg : ds.get? i with
      | none => rw [hg] at hdi; cases hdi
      | some tr =>
        obtain ⟨nn, ss, hh⟩ := tr
        rw [hg] at hdi; cases hdi
        obtain ⟨q1, q2, q3, q4, q5⟩ := Doors.get_ok ds i o4 hg
        have fn : fig nn := ⟨by omega, q2⟩
        have fs : fig ss := ⟨q3, by omega⟩
        have hskip := Doors.skip_get ds i hg
        have hdeep := Doors.get_deep ds i hg
        have hmany := Doors.get_manyW ds i hg
        have wl := House.words_len (House.room hand ds)
        rw [← a3, hskip] at wl
        simp only [Doors.words, List.length_append, List.length_cons, House.many] at wl
        refine ⟨_, _, eg_tup rfl (eg_cons eg_name (eg_cons eg_name (eg_cons eg_name eg_nil))), ?_⟩
        have e1 := row_door (num nn) (num ss)
        refine run_last (run_asgL g3.tbs (el_catL (el_catV (ev_raw rfl) a1 a2 (ev_lst (ea_cons (ev_addS (ev_addS (ev_addS ev_str (ev_strI (ev_var rfl) fn) (lx fn).2.2.1) ev_str (lx fn).2.2.2.1) (ev_strI (ev_var rfl) fs) ((lx fn).2.2.2.2 fs).2) ea_nil) (by simp)) (by simp only [List.length_map, List.length_cons, List.length_nil]; omega)) (ev_callL (ea_cons (ev_var rfl) ea_nil) ⟨hh, rfl, q5, by omega, by omega, rfl⟩) (by simp only [List.length_append, List.length_map, List.length_cons, List.length_nil]; omega)) fun l2 xs2 H4 nl2 g4 el2 rl2 => run_next fun σ sl => ?_)
        refine hN σ _ H4 g4 ⟨pre ++ ((["door", num nn, num ss] : List Str) :: hh.words), l2, xs2, _, _, _, rfl, g1.dom l2 (g2.dom l2 (g3.dom l2 nl2)), el2, ?_, ?_⟩ sl
        · rw [e1] at rl2; simpa using rl2
        · rw [← a3, hskip]; simp [Doors.words]
    · subst e
      rw [Doors.toDs_len, Doors.skip_len] at a3
      simp only [Doors.words, List.append_nil] at a3
      subst a3
      exact run_retV g3.tbs (ev_raw rfl) fun H5 g5 => q l xs H5 n0 (((g1.trans g2).trans g3).trans g5) (g5.lst a1 (by simp)) (a2.up g5)
end
end Pd
namespace Pd
open PySem PySem.Spec PyProof.Rows L2 TL
section
variable {T : Tb} {S : List Addr} {K : PySem.W.Frag} {δ : List (Option SD)} {H : Hp} {ta to : TE} {t u : TS} {B : Ends} {l : Addr} {xs : List V}
/-- if so or not f(a, list.pop()): leave -/
theorem run_canB {sp : Sp} {E : XK} {t0 : TT} {v y : V} {b : Bool} (hT : Tbs T H) (h0 : EvT T K t0 δ H false) (hw : EvV T K ta δ H v) (hl : EvV T K to δ H (.ref l)) (e : H l = some (.lst (xs ++ [y])))
    (hsp : ∀ H1, Gr T [l] H H1 → ∀ Q : VK, (∀ H2, Gr T [] H1 H2 → Q (.bl b) H2) → sp [v, y] H1 Q E)
    (k1 : b = false → ∀ H1, Gr T [l] H H1 → Run K t { B with nx := u B } δ H1) (k : b = true → ∀ H1, Gr T [l] H H1 → H1 l = some (.lst xs) → Run K u B δ H1) :
    Run K (tSeq (tIfS (tOr t0 (tNot (tB (tCall sp [] E (tCons ta (tCons (tBM0 K "list" rPop to) tNil)))))) t tNext) u) B δ H := fun σ s =>
  h0 σ H (Gr.refl hT) s _ fun H1 g1 => by
    refine (show ta σ H1 _ from hw σ H1 g1 (s.up g1) _ fun H2 g2 => hl σ H2 (g1.trans g2) ((s.up g1).up g2) _ fun H3 g3 => ?_)
    have g := (g1.trans g2).trans g3
    have el := g.lst e (by simp)
    have gp : Gr T [l] H3 (upd H3 l (.lst xs)) := (Gr.refl g.tbs).put el (.inl (by simp))
    refine ⟨.inl ⟨rfl, _, .inl (.inl el)⟩, l, _, y, rfl, rfl, el, by simp, ?_⟩
    rw [List.dropLast_concat]
    refine hsp _ (g.any.trans gp) _ fun H4 g4 => ⟨b, rfl, ?_⟩
    cases b with
    | true => exact k rfl H4 ((g.any.trans gp).trans g4.any) (g4.lst upd_same (by simp)) σ (((s.up g).up gp).up g4)
    | false => exact k1 rfl H4 ((g.any.trans gp).trans g4.any) σ (((s.up g).up gp).up g4)
/-- the list is empty: leave -/
theorem run_canE {sp : Sp} {E : XK} {t0 : TT} {tn : TE} (hT : Tbs T H) (h0 : EvT T K t0 δ H true) (k1 : ∀ H1, Gr T [] H H1 → Run K t { B with nx := u B } δ H1) :
    Run K (tSeq (tIfS (tOr t0 (tNot (tB (tCall sp [] E (tCons ta (tCons tn tNil)))))) t tNext) u) B δ H := fun σ s =>
  h0 σ H (Gr.refl hT) s _ fun H1 g1 => k1 H1 g1 σ (s.up g1)
end
section
variable {P : Program} {w : World} {K : PySem.W.Frag} {mg : Str → Option Value} {base : Heap} {T : Tb} {f : Addr} {fd : FuncData} {C : Ek → Addr}
theorem Goes.take {W : List (List Str)} : ∀ {i : Nat} {a c : List Str}, Goes a W c → ∃ b, Goes a (W.take i) b ∧ Goes b (W.drop i) c := by
  induction W with
  | nil => intro i a c h; exact ⟨a, by simp [Goes], by simpa [Goes] using h⟩
  | cons w W ih =>
    intro i a c h
    cases i with
    | zero => exact ⟨a, by simp [Goes], h⟩
    | succ i =>
      obtain ⟨st0, x, n, e, s, g⟩ := h
      obtain ⟨b, g1, g2⟩ := ih (i := i) g
      exact ⟨b, ⟨st0, x, n, e, s, g1⟩, g2⟩
def spWordsE (T : Tb) (K : PySem.W.Frag) (C : Ek → Addr) : Sp := fun vs H Q E => ∃ x : Str, vs = [.str x] ∧ x.length ≤ 400 ∧ Tbs T H ∧
  ((Goes [("room" : Str)] (wordsOf x) [] ∧ ∀ l xs H', H l = none → Gr T [] H H' → H' l = some (.lst xs) → WR [] H' (wordsOf x) xs → Q (.ref l) H') ∨
   ∃ k : Nat, Halts (wordsOf x) k ∧ ∀ d H', Gr T [] H H' → Raised K .text (.int k) d H' → E (.ref (C .text)) d H')
theorem okE_words (B : Bl mg) (VE : EC P w K mg base .text (C .text)) (a : At K mg "words_of_rows" s_words_of_rows ["text"] f fd) (G_can_stand : Ok P w K mg base 2 "can_stand" ["words", "wanted"] (spStandG T K)) (G_wanted_behind : Ok P w K mg base 1 "wanted_behind" ["words"] (spWanted T K)) : OkE P w K mg base 3 "words_of_rows" ["text"] (spWordsE T K C) := by
  obtain ⟨oc, od, kV, doc, pm, an, cdv, ct, osl, efd, lk, hcd⟩ := a.F.ex
  subst efd
  refine ⟨f, _, ?_, a.m, a.F.kp, a.b⟩
  refine fn_of (k := 2) lk hcd sc_words_of_rows (fun vs H Q E ⟨_, e, _⟩ => by rw [e]; rfl) fun A outer s H vs Q E hr h => ⟨_, (pss_cons (ps_set (i := 1) sc_words_of_rows.nd rfl (Or.inl rfl) (pe_lst pa_nil))
    (pss_cons (ps_set (i := 2) sc_words_of_rows.nd rfl (Or.inl rfl) (pe_lst (pa_cons pe_str pa_nil)))
    (pss_cons (ps_for PassesOwn.leaving rfl (pi_enum (by rfl) B.enumerate (pa_cons (pe_split (pv 0) pe_str) pa_nil)) (pg_tup (n := 2) rfl (pgs_cons (pg_name (i := 3) sc_words_of_rows.nd rfl (Or.inl rfl)) (pgs_cons (pg_name (i := 4) sc_words_of_rows.nd rfl (Or.inl rfl)) pgs_nil))) (pss_cons (ps_set (i := 5) sc_words_of_rows.nd rfl (Or.inl rfl) (pe_split (pv 4) pe_str))
    (pss_cons (ps_if (PW.pt (pw_or (pt_cmpR op_eq (pe_callB cr_len (by rfl) B.len (by decide +kernel) (pa_cons (pv 2) pa_nil)) pe_int (nomark _)) (pw_or1 (pt_not (pt_val (pe_own G_can_stand hr (by decide) (by rfl) (pa_cons (pv 5) (pa_cons (pe_bm0 PySem.F.plainAttrs_list PySem.F.slot_list_pop PySem.F.type_list_pop mt_pop (pv 2)) pa_nil)))))))) (pss_one (ps_raiseV (k := .text) VE rfl (hr.mono (by decide)) rfl (takes_of rfl rfl rfl rfl) (by rfl) (pv 3))) pss_nil)
    (pss_cons (ps_expr (pe_bm PySem.F.plainAttrs_list PySem.F.slot_list_extend PySem.F.type_list_extend mt_extend (pv 2) (pa_cons (pe_own G_wanted_behind hr (by decide) (by rfl) (pa_cons (pv 5) pa_nil)) pa_nil)))
    (pss_one (ps_expr (pe_bm PySem.F.plainAttrs_list PySem.F.slot_list_append PySem.F.type_list_append mt_append (pv 1) (pa_cons (pv 5) pa_nil))))))))
    (pss_cons (ps_if (pt_cmpR op_gt (pe_callB cr_len (by rfl) B.len (by decide +kernel) (pa_cons (pv 2) pa_nil)) pe_int (nomark _)) (pss_one (ps_raiseV (k := .text) VE rfl (hr.mono (by decide)) rfl (takes_of rfl rfl rfl rfl) (by rfl) (pe_callB cr_len (by rfl) B.len (by decide +kernel) (pa_cons (pv 1) pa_nil)))) pss_nil)
    (pss_one (ps_ret (pv 1))))))), ?_⟩
  obtain ⟨x, rfl, hx, hT, hq⟩ := h
  dsimp only [Cx.wish, cxOf]
  suffices hR : Run K _ _ [some (.d (.str x)), none, none, none, none, none] H from
    hR _ ⟨_, _, rfl, rfl, _, _, rfl, trivial, _, _, rfl, trivial, _, _, rfl, trivial, _, _, rfl, trivial, _, _, rfl, trivial, rfl⟩
  obtain ⟨wl1, wne⟩ := wordsOf_len x
  -- how far it goes, and what is left then
  obtain ⟨k, fin, hk, hgo, hend⟩ : ∃ (k : Nat) (fin : List Str), k ≤ (wordsOf x).length ∧ Goes [("room" : Str)] ((wordsOf x).take k) fin ∧
      ((k = (wordsOf x).length ∧ fin = [] ∧ ∀ l xs H', H l = none → Gr T [] H H' → H' l = some (.lst xs) → WR [] H' (wordsOf x) xs → Q (.ref l) H') ∨
       ((∀ d H', Gr T [] H H' → Raised K .text (.int (k : Nat)) d H' → E (.ref (C .text)) d H') ∧ ((k = (wordsOf x).length ∧ fin ≠ []) ∨ (∃ w, (wordsOf x)[k]? = some w ∧ (fin = [] ∨ ∃ st y, fin = st ++ [y] ∧ canStand w y = false))))) := by
    rcases hq with ⟨g, q⟩ | ⟨k, ⟨hk, hh⟩, q⟩
    · exact ⟨_, [], Nat.le_refl _, by rw [List.take_length]; exact g, .inl ⟨rfl, rfl, q⟩⟩
    · rcases hh with ⟨st, y, g, hh⟩ | ⟨g, hlt⟩
      · rcases hh with rfl | ⟨w, hw, hc⟩
        · exact ⟨_, _, hk, g, .inr ⟨q, .inl ⟨rfl, by simp⟩⟩⟩
        · exact ⟨k, _, hk, g, .inr ⟨q, .inr ⟨w, hw, .inr ⟨st, y, rfl, hc⟩⟩⟩⟩
      · exact ⟨k, [], hk, g, .inr ⟨q, .inr ⟨_, List.getElem?_eq_getElem hlt, .inl rfl⟩⟩⟩
  have hfin : ∀ y ∈ fin, y = "room" ∨ y = "door" := hgo.xs (by simp)
  have fint : ∀ i : Nat, i ≤ 500 → FmtOk (.int (i : Nat)) := fun i hi => .inl ⟨_, rfl, Nat.lt_of_le_of_lt (Nat.log2_le_self _) (by omega)⟩
  refine run_asgL hT (ev_lst ea_nil (by simp)) fun tl_ xs0 H1 nt g1 et rt => ?_
  cases (show xs0 = [] from rt)
  refine run_asgL g1.tbs (ev_lst (ea_cons ev_str ea_nil) (by simp)) fun wl xs1 H2 nw g2 ew rw1 => ?_
  have ex1 : xs1 = ([("room" : Str)]).map V.str := Reps.strs (ws := ["room"]) rw1
  subst ex1
  have et2 := g2.lst et (by simp)
  have ne : tl_ ≠ wl := fun z => by subst z; rw [et] at nw; cases nw
  have nw0 : H wl = none := g1.dom wl nw
  have back : ∀ {Hx : Hp}, Gr T [tl_, wl] H2 Hx → Gr T [] H Hx := fun g => (Gr.refl hT).drop (((g1.trans g2).any : Gr T [wl] H H2) |>.drop g nt) nw0
  have hit : EvI T K [tl_, wl] _ _ H2 _ := ei_enumL (T := T) (K := K) (S := [tl_, wl]) (el_split (T := T) (K := K) (δ := [some (.d (.str x)), some (.v (.ref tl_)), some (.v (.ref wl)), none, none, none]) (H := H2) (to := tVar 0) (te := tC (.str "\n")) (ev_var rfl) ev_str (by decide +kernel) (by omega)) (fun s hs => by
    rcases (by simpa using hs : s = tl_ ∨ s = wl) with rfl | rfl
    · rw [et2]; simp
    · rw [ew]; simp)
  refine run_for (S := [tl_, wl]) g2.tbs hit (fun _ => [some (.d (.str x)), some (.v (.ref tl_)), some (.v (.ref wl)), none, none, none])
    (fun i H => i ≤ k ∧ ∃ (st : List Str) (told : List V), H wl = some (.lst (st.map V.str)) ∧ Goes st (((wordsOf x).take k).drop i) fin ∧ st.length ≤ 1 + 99 * i ∧ H tl_ = some (.lst told) ∧ WR [tl_, wl] H ((wordsOf x).take i) told)
    (Less.refl _) (fun H3 g3 => ⟨Nat.zero_le _, ["room"], [], g3.lst ew (by simp), hgo, by simp, g3.lst et2 (by simp), rfl⟩)
    (fun i Ha Hb g ⟨a0, st, told, a1, a2, a3, a4, a5⟩ => ⟨a0, st, told, g.lst a1 (by simp), a2, a3, g.lst a4 (by simp), a5.up g.any⟩)
    (fun i d Ha N hdi ga ⟨a0, st, told, a1, a2, a3, a4, a5⟩ hN => ?_) fun He ge ⟨a0, st, told, a1, a2, a3, a4, a5⟩ => ?_
  · rw [withNo_get, List.getElem?_map] at hdi
    cases hrow : (Txt.split x "\n")[i]? with
    | none => rw [hrow] at hdi; cases hdi
    | some row =>
      rw [hrow] at hdi; cases hdi
      have hw : (wordsOf x)[i]? = some (Txt.split row " ") := by unfold wordsOf; rw [List.getElem?_map, hrow]; rfl
      generalize eww : Txt.split row " " = ww at hw
      obtain ⟨row', hr2, e2, _, wwne, rl, wwl, wwn⟩ := wordsOf_get hw
      rw [hrow] at hr2; cases hr2
      have hlt : i < (wordsOf x).length := (List.getElem?_eq_some_iff.mp hw).1
      have hww : (wordsOf x)[i] = ww := (List.getElem?_eq_some_iff.mp hw).2
      refine ⟨_, _, eg_tup rfl (eg_cons eg_name (eg_cons eg_name eg_nil)), ?_⟩
      refine run_asgL ga.tbs (el_split (ev_var rfl) ev_str (by decide +kernel) (by omega)) fun p xp Hb np gb ep rp => ?_
      rw [eww] at rp
      have exp := Reps.strs rp
      subst exp
      have npt : p ∉ [tl_, wl] := fun z => by
        rcases (by simpa using z : p = tl_ ∨ p = wl) with rfl | rfl
        · rw [a4] at np; cases np
        · rw [a1] at np; cases np
      have npw : p ∉ [wl] := fun z => npt (by simp at z; simp [z])
      have a1b := gb.lst a1 (by simp)
      have m1 : ∀ x ∈ [wl], x ∈ [tl_, wl] := by simp
      have m2 : ∀ x ∈ [tl_], x ∈ [tl_, wl] := by simp
      by_cases ik : i = k
      · -- it stops here
        subst ik
        have dr : ((wordsOf x).take i).drop i = [] := by rw [List.drop_eq_nil_iff]; simp; omega
        rw [dr] at a2
        cases (show st = fin from a2)
        rcases hend with ⟨e1, _⟩ | ⟨q, hend⟩
        · omega
        rcases hend with ⟨e1, _⟩ | ⟨w', hw', hend⟩
        · omega
        rw [hw] at hw'; cases hw'
        rcases hend with rfl | ⟨st0, y, rfl, hc⟩
        · refine run_canE gb.tbs ((et_test (ev_eqI (ev_lenL (ev_raw rfl) a1b) ev_int)).is (c := true) (by simp)) fun Hc gc => ?_
          exact run_raiseV (by decide) gc.tbs (ev_var (d := .int ((0 + i : Nat) : Int)) rfl) (fint _ (by omega)) fun σ d H' g hr => q d H' ((back ((ga.trans gb.any).trans gc.any)).trans g) (by rw [Nat.zero_add] at hr; exact hr)
        · rw [List.map_append] at a1b
          have a1b' : Hb wl = some (.lst (st0.map V.str ++ [.str y])) := a1b
          refine run_canB (b := false) (sp := spStandG T K) gb.tbs ((et_test (ev_eqI (ev_lenL (ev_raw rfl) a1b') ev_int)).is (by simp; omega)) (ev_raw rfl) (ev_raw rfl) a1b' (fun Hc gc Q' q' => ⟨p, ww, y, rfl, gc.lst ep npw, wwne, fun z hz => by have := wwl z hz; omega, by omega, gc.tbs, by rw [hc]; exact q'⟩) (fun _ Hc gc => ?_) (fun e => nomatch e)
          exact run_raiseV (by decide) gc.tbs (ev_var (d := .int ((0 + i : Nat) : Int)) rfl) (fint _ (by omega)) fun σ d H' g hr => q d H' ((back ((ga.trans gb.any).trans (gc.mono m1))).trans g) (by rw [Nat.zero_add] at hr; exact hr)
      · have ilt : i < k := by omega
        have idr : ((wordsOf x).take k).drop i = ww :: ((wordsOf x).take k).drop (i + 1) := by
          rw [List.drop_eq_getElem_cons (by rw [List.length_take]; omega), List.getElem_take, hww]
        rw [idr] at a2
        obtain ⟨st0, y, n, rfl, hst, a2'⟩ := a2
        rw [List.map_append] at a1b
        have a1b' : Hb wl = some (.lst (st0.map V.str ++ [.str y])) := a1b
        have a4b := gb.lst a4 (by simp)
        simp only [List.length_append, List.length_cons, List.length_nil] at a3
        refine run_canB (b := true) (sp := spStandG T K) gb.tbs ((et_test (ev_eqI (ev_lenL (ev_raw rfl) a1b') ev_int)).is (by simp; omega)) (ev_raw rfl) (ev_raw rfl) a1b' (fun Hc gc Q' q' => ⟨p, ww, y, rfl, gc.lst ep npw, wwne, fun z hz => by have := wwl z hz; omega, by omega, gc.tbs, by rw [hst.can]; exact q'⟩) (fun e => nomatch e) fun _ Hc gc ec => ?_
        have epc := gc.lst ep npw
        have tnw : tl_ ∉ [wl] := by simpa using ne
        have a4c := gc.lst a4b tnw
        refine run_extN gc.tbs (ev_raw rfl) (en_wanted (ev_raw rfl) epc hst) ec (by have := hst.len; simp only [List.length_map]; omega) fun Hd gd ed => ?_
        have gw : Gr T [wl] Hd (upd Hd wl (.lst (st0.map V.str ++ n.map V.str))) := (Gr.refl gd.tbs).put ed (.inl (by simp))
        have a4d : (upd Hd wl (.lst (st0.map V.str ++ n.map V.str))) tl_ = some (.lst told) := gw.lst (gd.lst a4c (by simp)) tnw
        have tlen := a5.len
        rw [List.length_take] at tlen
        refine run_last (run_app gw.tbs (ev_raw rfl) (ev_raw rfl) a4d (by omega) fun Hf gf ef => run_next fun σ sl => ?_)
        have gt : Gr T [tl_] Hf (upd Hf tl_ (.lst (told ++ [.ref p]))) := (Gr.refl gf.tbs).put ef (.inl (by simp))
        have gall2 : Gr T [tl_, wl] Hb (upd Hf tl_ (.lst (told ++ [.ref p]))) := (((((gc.mono m1)).trans gd.any).trans (gw.mono m1)).trans gf.any).trans (gt.mono m2)
        have gall : Gr T [tl_, wl] Ha (upd Hf tl_ (.lst (told ++ [.ref p]))) := gb.any.trans gall2
        have wnt : wl ∉ [tl_] := by simpa using fun z => ne z.symm
        refine hN σ _ gall ⟨by omega, st0 ++ n, told ++ [.ref p], ?_, a2', ?_, upd_same, ?_⟩ (Slots.less (.same _ (.same _ (.same _ (.drop _ (.drop _ (.drop _ .nil)))))) sl)
        · rw [List.map_append]; exact gt.lst (gf.lst upd_same (by simp)) wnt
        · have := hst.len; simp only [List.length_append]; omega
        · rw [List.take_succ, hw]
          exact WR.snoc npt (gall2.lst ep npt) (a5.up gall)
  · have eL : (withNo ((Txt.split x "\n").map D.str) 0).length = (wordsOf x).length := by rw [withNo_len, List.length_map]; unfold wordsOf; rw [List.length_map]
    rw [eL] at a0 a2 a5
    have ek : k = (wordsOf x).length := by omega
    rw [ek, List.take_length, List.drop_length] at a2
    have esf : st = fin := a2
    subst esf
    rw [List.take_length] at a5
    have tlen := a5.len
    rcases hend with ⟨_, rfl, q⟩ | ⟨q, hend⟩
    · refine run_when ge.tbs ((et_test (ev_B0 (ev_lenL (ev_raw rfl) a1) ev_int)).is (c := false) (by simp)) (fun e => nomatch e) fun _ Hf gf => ?_
      refine run_retV gf.tbs (ev_raw rfl) fun Hg gg => ?_
      exact q tl_ told Hg nt (back ((ge.trans gf.any).trans gg.any)) ((gf.trans gg).lst a4 (by simp)) (a5.up (gf.trans gg).any).all
    · have fne : st ≠ [] := by
        rcases hend with ⟨_, h⟩ | ⟨w', hw', _⟩
        · exact h
        · rw [ek] at hw'; simp at hw'
      refine run_when ge.tbs ((et_test (ev_B0 (ev_lenL (ev_raw rfl) a1) ev_int)).is (c := true) (by cases st with
        | nil => exact absurd rfl fne
        | cons a b => simp)) (fun _ Hf gf => ?_) fun e => nomatch e
      refine run_raiseV (by decide) gf.tbs ((ev_lenL (ev_raw rfl) (gf.lst a4 (by simp))).is (x := .int (k : Nat)) (by rw [tlen, ek])) (fint _ (by omega)) fun σ d H' g hr => q d H' ((back (ge.trans gf.any)).trans g) hr
end
end Pd
namespace Pd
open PySem PySem.Spec PyProof.Rows L2 TL
theorem House.many_words (h : House) : 2 * h.many ≤ h.words.length := by rw [House.words_len]; omega
section
variable {P : Program} {w : World} {K : PySem.W.Frag} {mg : Str → Option Value} {base : Heap} {T : Tb} {f : Addr} {fd : FuncData} {C : Ek → Addr}
def spReadE (T : Tb) (K : PySem.W.Frag) (C : Ek → Addr) : Sp := fun vs H Q E => ∃ x : Str, vs = [.str x] ∧ x.length ≤ 400 ∧ (wordsOf x).length ≤ 70 ∧ Tbs T H ∧
  ((∃ h : House, h.figs ∧ wordsOf x = h.words ∧ endsO T K C E H (match checkO h with | .ret _ => .ret h.toD | e => e) Q) ∨ ∃ k : Nat, Halts (wordsOf x) k ∧ ∀ d H', Gr T [] H H' → Raised K .text (.int k) d H' → E (.ref (C .text)) d H')
theorem okE_read (B : Bl mg) (a : At K mg "read" s_read ["text"] f fd) (G_built : Ok P w K mg base 1 "built" ["told"] (spBuilt T K)) (GX_words_of_rows : OkE P w K mg base 3 "words_of_rows" ["text"] (spWordsE T K C)) (GX_check_house : OkE P w K mg base 3 "check_house" ["house"] (spO T K C XCheck)) : OkE P w K mg base 4 "read" ["text"] (spReadE T K C) := by
  obtain ⟨oc, od, kV, doc, pm, an, cdv, ct, osl, efd, lk, hcd⟩ := a.F.ex
  subst efd
  refine ⟨f, _, ?_, a.m, a.F.kp, a.b⟩
  refine fn_of (k := 3) lk hcd sc_read (fun vs H Q E ⟨_, e, _⟩ => by rw [e]; rfl) fun A outer s H vs Q E hr h => ⟨_, (pss_cons (ps_set (i := 1) sc_read.nd rfl (Or.inl rfl) (pe_own G_built hr (by decide) (by rfl) (pa_cons (pe_ownE (E := E) GX_words_of_rows (takes_of rfl rfl rfl rfl) hr (by decide) (by rfl) (pa_cons (pv 0) pa_nil)) pa_nil)))
    (pss_cons (ps_expr (pe_ownE (E := E) GX_check_house (takes_of rfl rfl rfl rfl) hr (by decide) (by rfl) (pa_cons (pv 1) pa_nil)))
    (pss_one (ps_ret (pv 1))))), ?_⟩
  obtain ⟨x, rfl, hx, hx2, hT, hq⟩ := h
  suffices hR : Run K _ _ [some (.d (.str x)), none] H from hR _ ⟨_, _, rfl, rfl, _, _, rfl, trivial, rfl⟩
  rcases hq with ⟨h, hf, hw, q⟩ | ⟨k, hk, q⟩
  · have hg : Goes [("room" : Str)] (wordsOf x) [] := by rw [hw]; exact House.goesF h hf []
    have wl := House.many_words h
    have wd := House.deep_words h
    rw [← hw] at wl wd
    have ht : h.told := ⟨House.figs_fair h hf, by omega, by omega⟩
    refine run_asg (d := h.toD) hT (fun σ H1 g s Q1 q1 => ?_) fun H1 g1 => ?_
    · refine (ev_var (T := T) (K := K) (δ := [some (.d (.str x)), none]) (H := H) (d := .str x) (n := 0) rfl) σ H1 g s _ fun v H2 g2 e => ?_
      refine ⟨x, by rw [(show v = .str x from e)]; rfl, hx, g2.tbs, .inl ⟨hg, fun l xs H3 nl g3 el hwr => ?_⟩⟩
      refine ⟨l, xs, wordsOf x, h.toD, rfl, el, hwr, ?_, by omega, g3.tbs, fun v' H4 g4 r => q1 v' H4 ((g2.trans g3).trans g4) r⟩
      rw [hw]; exact House.endsF h hf []
    · cases ec : checkO h with
      | ret d =>
        rw [ec] at q
        have ed : d = .non := by
          unfold checkO at ec
          split at ec
          · cases ec
          · split at ec
            · cases ec; rfl
            · cases ec
        subst ed
        refine run_drop g1.tbs (ev_callO (R := XCheck) (C := C) (d := .non) (ea_cons (ev_var (d := h.toD) rfl) ea_nil) ⟨h, rfl, ht, ec.symm⟩) fun H2 g2 => ?_
        exact run_ret g2.tbs (ev_var rfl) fun v H3 g3 r => q v H3 ((g1.trans g2).trans g3) r
      | err k val =>
        rw [ec] at q
        exact run_dropE g1.tbs (ea_cons (ev_var (d := h.toD) rfl) ea_nil) ⟨h, rfl, ht, ec.symm⟩ fun d H2 g2 r2 => q d H2 (g1.trans g2) r2
  · intro σ s
    unfold tSeq tAsg
    refine (ev_var (T := T) (K := K) (δ := [some (.d (.str x)), none]) (H := H) (d := .str x) (n := 0) rfl) σ H (Gr.refl hT) s _ fun v H2 g2 e => ?_
    exact ⟨x, by rw [(show v = .str x from e)]; rfl, hx, g2.tbs, .inr ⟨k, hk, fun d H3 g3 r3 => q d H3 (g2.trans g3) r3⟩⟩
end
end Pd
namespace Pd
open PySem PySem.Spec PyProof.Rows L2 TL
def leS (i j : Str) : Bool := !decide (j.cps.toList < i.cps.toList)
theorem leS_lo {a c : Nat} : leS ⟨#[a]⟩ ⟨#[c]⟩ = decide (a ≤ c) := by
  unfold leS
  have e : ((⟨#[c]⟩ : Str).cps.toList < (⟨#[a]⟩ : Str).cps.toList) ↔ c < a := by
    show [c] < [a] ↔ c < a
    rw [List.cons_lt_cons_iff]
    constructor
    · rintro (h | ⟨_, h⟩)
      · exact h
      · exact absurd h (List.not_lt_nil _)
    · exact .inl
  rw [decide_eq_decide.mpr e]
  by_cases h : c < a
  · rw [decide_eq_true h, decide_eq_false (by omega)]; rfl
  · rw [decide_eq_false h, decide_eq_true (by omega)]; rfl
theorem s_0 : ("0" : Str) = ⟨#[48]⟩ := by decide +kernel
theorem s_9 : ("9" : Str) = ⟨#[57]⟩ := by decide +kernel
theorem s_a : ("a" : Str) = ⟨#[97]⟩ := by decide +kernel
theorem s_z : ("z" : Str) = ⟨#[122]⟩ := by decide +kernel
/-- a row that tells a room or a door: the word, two numbers -/
def isTwo : List Str → Str → Bool
  | [], _ => false
  | w :: r, x => decide (w = x) && (decide (r.length = 2) && (isNum (r.headD "") && isNum ((r.drop 1).headD "")))
def Two (ws : List Str) (x : Str) (d : D) : Prop := (∃ i j, fig i ∧ fig j ∧ ws = [x, num i, num j] ∧ d = .tup [.int i, .int j]) ∨ (isTwo ws x = false ∧ d = .non)
theorem isNum_is {z : Str} : isNum z = (decide (1 ≤ z.length ∧ z.length ≤ 2) && z.cps.toList.all (fun c => decide (48 ≤ c) && decide (c ≤ 57)) && (decide (z = "0") || !decide (z.cps.toList[0]? = some 48))) := by
  unfold isNum
  have zl : z.length = z.cps.toList.length := by rw [Array.length_toList]; rfl
  have figs : ∀ c : Nat, decide (c ∈ ("0123456789" : Str).cps.toList) = (decide (48 ≤ c) && decide (c ≤ 57)) := fun c => by
    rw [figures_eq, ← Bool.decide_and]
    exact decide_eq_decide.mpr (by rw [List.mem_range'_1]; omega)
  rw [← Bool.decide_and]
  rw [show (fun c => decide (c ∈ ("0123456789" : Str).cps.toList)) = (fun c : Nat => decide (48 ≤ c) && decide (c ≤ 57)) from funext figs]
  by_cases h1 : 1 ≤ z.length ∧ z.length ≤ 2
  · congr 1
    by_cases h0 : z.cps.toList[0]? = some 48
    · congr 1
      refine decide_eq_decide.mpr ⟨fun h => ?_, fun h => by rw [h]; decide +kernel⟩
      refine ext_tl ?_
      show z.cps.toList = _
      rw [zl] at h
      match hz : z.cps.toList, h with
      | [c], _ => rw [hz] at h0; cases h0; exact (show [48] = tl "0" by decide +kernel)
    · rw [decide_eq_false h0]; simp
  · rw [decide_eq_false h1]; rfl
theorem all_madeD {z : Str} {p : Nat → Bool} {f : Nat → D} : (madeD (fun i => p (z.cps.toList.getD i 0)) f z.cps.toList.length).length < z.cps.toList.length ↔ z.cps.toList.all p = false := by
  unfold madeD
  rw [List.length_map]
  have := @List.length_filter_lt_length_iff_exists Nat (fun i => p (z.cps.toList.getD i 0)) (List.range z.cps.toList.length)
  rw [List.length_range] at this
  rw [this]
  constructor
  · rintro ⟨i, hi, hp⟩
    rw [List.mem_range] at hi
    rw [List.all_eq_false]
    refine ⟨z.cps.toList[i], List.getElem_mem hi, ?_⟩
    rw [List.getD_eq_getElem?_getD, List.getElem?_eq_getElem hi] at hp
    exact hp
  · intro h
    rw [List.all_eq_false] at h
    obtain ⟨c, hc, hp⟩ := h
    obtain ⟨i, hi, e⟩ := List.mem_iff_getElem.mp hc
    refine ⟨i, List.mem_range.mpr hi, ?_⟩
    rw [List.getD_eq_getElem?_getD, List.getElem?_eq_getElem hi, Option.getD_some, e]
    exact hp
section
variable {P : Program} {w : World} {K : PySem.W.Frag} {mg : Str → Option Value} {base : Heap} {T : Tb} {f : Addr} {fd : FuncData}
variable {S : List Addr} {δ : List (Option SD)} {H : Hp} {te ta tb tc : TE}
def signsD (z : Str) : List D := z.cps.toList.map fun c => .str ⟨#[c]⟩
theorem ei_str {z : Str} (h : EvD T K te δ H (.str z)) : EvI T K S (iStr te) δ H (signsD z) := fun σ H1 g s R q =>
  h σ H1 g s _ fun v H2 g2 e => by
    refine ⟨z, e, q _ H2 g2 ?_⟩
    rw [show (signsD z).length = z.cps.size by unfold signsD; rw [List.length_map]; exact Array.length_toList]
    refine (walk_str (z := z)).mono (fun _ _ => trivial) fun i Ha x Hb hi g' y => ?_
    obtain ⟨e1, c, hc, e2⟩ := y
    subst e1; subst e2
    refine ⟨Gr.refl g'.tbs, .str ⟨#[c]⟩, ?_, rfl⟩
    unfold signsD
    rw [List.getElem?_map, Array.getElem?_toList, hc]; rfl
theorem ev_chainS {a b c : Str} (ha : EvD T K ta δ H (.str a)) (hb : EvD T K tb δ H (.str b)) (hc : EvD T K tc δ H (.str c)) :
    EvD T K (tChain (fun x y H Q => ∃ i j : Str, x = .str i ∧ y = .str j ∧ Q (.bl (!decide (j.cps.toList < i.cps.toList))) H) (fun x y H Q => ∃ i j : Str, x = .str i ∧ y = .str j ∧ Q (.bl (!decide (j.cps.toList < i.cps.toList))) H) ta tb tc) δ H (.bl (leS a b && leS b c)) := fun σ H1 g s Q q =>
  ha σ H1 g s _ fun v H2 g2 e1 => hb σ H2 (g.trans g2) (s.up g2) _ fun w H3 g3 e2 => ⟨a, b, e1, e2, leS a b, rfl, by
    cases hf : leS a b with
    | true =>
      show tc σ H3 _
      refine hc σ H3 ((g.trans g2).trans g3) ((s.up g2).up g3) _ fun x H4 g4 e3 => ⟨b, c, e2, e3, ?_⟩
      have := q (.bl (leS a b && leS b c)) H4 ((g2.trans g3).trans g4) rfl
      rw [hf] at this; exact this
    | false =>
      show Q (.bl false) H3
      have := q (.bl (leS a b && leS b c)) H3 (g2.trans g3) rfl
      rw [hf] at this; exact this⟩
def spTwo (T : Tb) (K : PySem.W.Frag) : Sp := fun vs H Q _ => ∃ (l : Addr) (ws : List Str) (x : Str) (d : D), vs = [.ref l, .str x] ∧ H l = some (.lst (ws.map V.str)) ∧ ws ≠ [] ∧ (∀ w ∈ ws, w.length ≤ 10000) ∧ ws.length ≤ 10000 ∧ Tbs T H ∧ Two ws x d ∧ ∀ v H', Gr T [] H H' → Rep K H' d v → Q v H'
theorem ok_two (B : Bl mg) (a : At K mg "_law_two" s__law_two ["_law_words", "_law_head"] f fd) : Ok P w K mg base 1 "_law_two" ["_law_words", "_law_head"] (spTwo T K) := by
  refine a.ok (a.F.ok (k := 0) sc__law_two (fun vs H Q E ⟨_, _, _, _, e, _⟩ => by rw [e]; rfl) fun cdv A' outer s H vs Q E hr h => ⟨_, (pss_cons (ps_if (PW.pt (pw_or (pt_cmpR op_ne (pe_callB cr_len (by rfl) B.len (by decide +kernel) (pa_cons (pv 0) pa_nil)) pe_int (nomark _)) (pw_or1 (pt_cmpR op_ne (pe_ix ix_list (pv 0) pe_int (fun _ _ => rfl)) (pv 1) (nomark _))))) (pss_one (ps_ret pe_non)) pss_nil)
    (pss_cons (ps_for PassesOwn.never rfl (pi_list (pe_slice sl_list (pv 0) (po_some pe_int) po_none)) (pg_name (i := 2) sc__law_two.nd rfl (Or.inl rfl)) (pss_cons (ps_setLc (i := 3) (own := [("_law_sign", 4)]) rfl sc__law_two.nd rfl rfl (sw_true rfl rfl rfl (by decide +kernel)) (pi_str (pv 2)) (blkOk_by (N := ["_law_words", "_law_head", "_law_word", "_law_good", "_law_sign"]) (sc := defScope s__law_two) (by decide +kernel)) (fun _ _ _ _ _ => (pg_name (i := 4) sc__law_two.nd rfl (Or.inl rfl))) (fun _ _ _ _ _ => (pts_one (pt_chain op_le_str op_le_str pe_str (pv 4) pe_str))) (fun _ _ _ _ _ => (pv 4)))
    (pss_one (ps_if (PW.pt (pw_or (pt_not (pt_chain op_le op_le pe_int (pe_callB cr_lenS (by rfl) B.len (by decide +kernel) (pa_cons (pv 2) pa_nil)) pe_int)) (pw_or (pt_cmpR op_lt (pe_callB cr_len (by rfl) B.len (by decide +kernel) (pa_cons (pv 3) pa_nil)) (pe_callB cr_lenS (by rfl) B.len (by decide +kernel) (pa_cons (pv 2) pa_nil)) (nomark _)) (pw_or1 (PW.pt (pw_and (pt_cmpR op_ne (pv 2) pe_str (nomark _)) (pw_and1 (pt_cmpR op_eq (pe_ix ix_str (pv 2) pe_int (fun _ _ => rfl)) pe_str (nomark _))))))))) (pss_one (ps_ret pe_non)) pss_nil))))
    (pss_one (ps_ret (pe_tup (pa_cons (pe_callTy call_int_str (by rfl) B.int (by decide +kernel) (pa_cons (pe_ix ix_list (pv 0) pe_int (fun _ _ => rfl)) pa_nil)) (pa_cons (pe_callTy call_int_str (by rfl) B.int (by decide +kernel) (pa_cons (pe_ix ix_list (pv 0) pe_int (fun _ _ => rfl)) pa_nil)) pa_nil))))))), ?_⟩)
  obtain ⟨l, ws, x, d, rfl, hl, hne, hw, hwl, hT, hd, q⟩ := h
  dsimp only [Cx.nox, Cx.wish, cxOf]
  suffices hR : Run K _ _ [some (.v (.ref l)), some (.d (.str x)), none, none, none] H from
    hR _ ⟨_, _, rfl, rfl, _, _, rfl, rfl, _, _, rfl, trivial, _, _, rfl, trivial, _, _, rfl, trivial, rfl⟩
  obtain ⟨w0, r, rfl⟩ : ∃ w0 r, ws = w0 :: r := by cases ws with
    | nil => exact absurd rfl hne
    | cons a b => exact ⟨a, b, rfl⟩
  have none_of : isTwo (w0 :: r) x = false → ∀ v H', Gr T [] H H' → Rep K H' .non v → Q v H' := fun e => by
    rcases hd with ⟨i, j, fi, fj, ew, _⟩ | ⟨_, rfl⟩
    · rw [ew] at e
      exfalso
      simp [isTwo, fi.isNum, fj.isNum] at e
    · exact q
  refine run_when hT (et_or (et_test (ev_neI (ev_lenL (ev_raw rfl) hl) ev_int)) fun _ => et_test (ev_neS (ev_ixW (w := w0) (ev_raw rfl) ev_int hl (atI_nat (j := 0) rfl)) (ev_var rfl))) (fun e H1 g1 => ?_) fun e H1 g1 => ?_
  · refine run_ret g1.tbs ev_non fun v H2 g2 rr => none_of ?_ v H2 (g1.trans g2) rr
    simp only [List.length_map, List.length_cons, Bool.or_eq_true, Bool.not_eq_true', decide_eq_false_iff_not] at e
    simp only [isTwo]
    rcases e with e | e
    · rw [decide_eq_false (show ¬ r.length = 2 by omega)]; simp
    · rw [decide_eq_false e]; rfl
  · simp only [List.length_map, List.length_cons, Bool.or_eq_false_iff, Bool.not_eq_false', decide_eq_true_eq] at e
    obtain ⟨e1, rfl⟩ := e
    obtain ⟨u, v, rfl⟩ : ∃ u v, r = [u, v] := by
      match r, (show r.length = 2 by omega) with
      | [u, v], _ => exact ⟨u, v, rfl⟩
    have hl1 := g1.lst hl (by simp)
    have sw : EvL T K (L2.tSl (rSlL K) (tVar 0) (tPart (tC (.int 1))) tNoPart) [some (.v (.ref l)), some (.d (.str w0)), none, none, none] H1 (([u, v] : List Str).map D.str) := by
      have := el_slice (T := T) (K := K) (δ := [some (.v (.ref l)), some (.d (.str w0)), none, none, none]) (ta := tVar 0) (tlo := tPart (tC (.int 1))) (thi := tNoPart) (lo := some 1) (hi := none) (ev_raw rfl) hl1 (Reps.ofStrs [w0, u, v]) (eo_some ev_int) eo_none
      rw [show (1 : Int) = ((1 : Nat) : Int) from rfl, cut_rest] at this
      exact this
    refine run_for (S := []) g1.tbs (ei_newL sw (by simp)) (fun _ => [some (.v (.ref l)), some (.d (.str w0)), none, none, none]) (fun i _ => ∀ j, j < i → isNum (([u, v] : List Str).getD j "") = true)
      (.same _ (.same _ (.same _ (.same _ (.same _ .nil))))) (fun _ _ j h => absurd h (Nat.not_lt_zero _)) (fun _ _ _ _ h => h) (fun i e H2 N hdi g2 hI hN => ?_) fun H2 g2 hI => ?_
    · rw [List.getElem?_map] at hdi
      obtain ⟨z, hz, ez⟩ := Option.map_eq_some_iff.mp hdi
      subst ez
      have hzl : z.length ≤ 10000 := hw z (List.mem_cons_of_mem _ (List.mem_of_getElem? hz))
      have hzg : ([u, v] : List Str).getD i "" = z := by rw [List.getD_eq_getElem?_getD, hz]; rfl
      have zl : z.length = z.cps.toList.length := by rw [Array.length_toList]; rfl
      refine ⟨_, _, eg_name, ?_⟩
      have two_no : isNum z = false → isTwo (w0 :: [u, v]) w0 = false := fun h => by
        have hi : i = 0 ∨ i = 1 := by
          have := (List.getElem?_eq_some_iff.mp hz).1
          simp only [List.length_cons, List.length_nil] at this; omega
        simp only [isTwo]
        rcases hi with rfl | rfl
        · cases hz
          show (_ && (_ && (isNum u && _))) = false
          rw [h]; simp
        · cases hz
          show (_ && (_ && (_ && isNum v))) = false
          rw [h]; simp
      refine run_asgL g2.tbs (ev_lc (fun k => (fun c : Nat => decide (48 ≤ c) && decide (c ≤ 57)) (z.cps.toList.getD k 0)) (fun k => .str ⟨#[z.cps.toList.getD k 0]⟩) (ei_str (ev_var rfl)) (by unfold signsD; rw [List.length_map]; omega) fun k e H3 he g3 => ?_) fun lg xs H3 nlg g3 elg rlg => ?_
      · unfold signsD at he
        rw [List.getElem?_map] at he
        obtain ⟨c, hc, ec⟩ := Option.map_eq_some_iff.mp he
        subst ec
        have hcg : z.cps.toList.getD k 0 = c := by rw [List.getD_eq_getElem?_getD, hc]; rfl
        rw [hcg]
        refine ⟨_, _, eg_name, by simp, ?_, fun _ => ev_var rfl⟩
        refine (et_test (ev_chainS ev_str (ev_var rfl) ev_str)).is ?_
        rw [s_0, s_9, leS_lo, leS_lo]
      · have lx : xs.length = (madeD (fun i => (fun c : Nat => decide (48 ≤ c) && decide (c ≤ 57)) (z.cps.toList.getD i 0)) (fun k => .str ⟨#[z.cps.toList.getD k 0]⟩) z.cps.toList.length).length := by
          rw [rlg.len, show (signsD z).length = z.cps.toList.length by unfold signsD; rw [List.length_map]]
        have hb : (!(decide ((1 : Int) ≤ (z.length : Int)) && decide ((z.length : Int) ≤ 2)) || (decide ((xs.length : Int) < (z.length : Int)) || ((!decide (z = "0")) && decide (z.cps.toList[0]? = some 48)))) = !isNum z := by
          have hA : (decide ((1 : Int) ≤ (z.length : Int)) && decide ((z.length : Int) ≤ 2)) = decide (1 ≤ z.length ∧ z.length ≤ 2) := by
            rw [← Bool.decide_and]
            exact decide_eq_decide.mpr ⟨fun h => by omega, fun h => by omega⟩
          have hB : decide ((xs.length : Int) < (z.length : Int)) = !z.cps.toList.all (fun c : Nat => decide (48 ≤ c) && decide (c ≤ 57)) := by
            have := @all_madeD z (fun c : Nat => decide (48 ≤ c) && decide (c ≤ 57)) (fun k => .str ⟨#[z.cps.toList.getD k 0]⟩)
            rw [← lx] at this
            cases ea : z.cps.toList.all (fun c : Nat => decide (48 ≤ c) && decide (c ≤ 57)) with
            | true => rw [ea] at this; exact decide_eq_false fun h => by have := this.mp (by omega); cases this
            | false => rw [ea] at this; exact decide_eq_true (by have := this.mpr rfl; omega)
          rw [isNum_is, hA, hB]
          simp only [Bool.not_and, Bool.not_or, Bool.not_not, Bool.or_assoc]
        refine run_last (run_when (b := !isNum z) g3.tbs ((et_or (et_not (et_test (ev_chain ev_int (ev_lenS (ev_var rfl) (by omega)) ev_int))) fun h0 => et_or (et_test (ev_B0 (ev_lenL (ev_raw rfl) elg) (ev_lenS (ev_var rfl) (by omega)))) fun _ => et_and (et_test (ev_neS (ev_var rfl) ev_str)) fun _ => ?_).is hb) (fun hz2 H4 g4 => run_ret g4.tbs ev_non fun v' H5 g5 rr => none_of (two_no (by simpa using hz2)) v' H5 ((((g1.trans g2).trans g3).trans g4).trans g5) rr) fun hz2 H4 g4 => run_next fun σ sl => ?_)
        · rw [Bool.not_eq_false', Bool.and_eq_true, decide_eq_true_eq, decide_eq_true_eq] at h0
          obtain ⟨c, hc⟩ : ∃ c, z.cps.toList[0]? = some c := ⟨_, List.getElem?_eq_getElem (by omega)⟩
          refine (et_test (ev_eqS (ev_ixS (ev_var rfl) ev_int (by omega) (atI_nat (j := 0) hc)) ev_str)).is ?_
          rw [n_zero, hc]
        · refine hN σ _ (g3.trans g4) (fun j hj => ?_) (Slots.less (.same _ (.same _ (.drop _ (.drop _ (.drop _ .nil))))) sl)
          by_cases hj2 : j = i
          · subst hj2; rw [hzg]; simpa using hz2
          · exact hI j (by omega)
    · have n1 : isNum u = true := hI 0 (by simp)
      have n2 : isNum v = true := hI 1 (by simp)
      have hl2 := g2.lst hl1 (by simp)
      obtain ⟨i, fi, ei⟩ := isNum_num n1
      obtain ⟨j, fj, ej⟩ := isNum_num n2
      subst ei; subst ej
      have q' : ∀ v H', Gr T [] H H' → Rep K H' (.tup [.int i, .int j]) v → Q v H' := by
        rcases hd with ⟨i', j', fi', fj', ew, rfl⟩ | ⟨e, _⟩
        · simp only [List.cons.injEq, and_true, true_and] at ew
          have ei : i' = i := by have := fi.val; rw [ew.1, fi'.val] at this; exact Option.some.inj this
          have ej : j' = j := by have := fj.val; rw [ew.2, fj'.val] at this; exact Option.some.inj this
          subst ei; subst ej
          exact q
        · exfalso
          simp [isTwo, fi.isNum, fj.isNum] at e
      exact run_ret g2.tbs (ev_tup (ea_cons (ev_intS (ev_ixW (w := num i) (ev_raw rfl) ev_int hl2 (atI_nat (j := 1) rfl)) fi) (ea_cons (ev_intS (ev_ixW (w := num j) (ev_raw rfl) ev_int hl2 (atI_nat (j := 2) rfl)) fj) ea_nil)) (by simp)) fun v' H3 g3 rr => q' v' H3 ((g1.trans g2).trans g3) rr
end
end Pd
namespace Pd
open PySem PySem.Spec PyProof.Rows L2 TL
theorem Doors.words_app : ∀ a b : Doors, (a.app b).words = a.words ++ b.words
  | .nil, b => by simp [Doors.app, Doors.words]
  | .cons n s h r, b => by simp [Doors.app, Doors.words, Doors.words_app r b]
theorem Doors.figs_app : ∀ a b : Doors, a.figs → b.figs → (a.app b).figs
  | .nil, b, _, hb => by simpa [Doors.app] using hb
  | .cons n s h r, b, ⟨a1, a2, a3, a4⟩, hb => ⟨a1, a2, a3, Doors.figs_app r b a4 hb⟩
theorem num_inj {a b : Int} (fa : fig a) (fb : fig b) (h : num a = num b) : a = b := by
  have := fa.val
  rw [h, fb.val] at this
  exact (Option.some.inj this).symm
theorem Goes.frame (b : List Str) : ∀ {W : List (List Str)} {a c : List Str}, Goes a W c → Goes (b ++ a) W (b ++ c)
  | [], _, _, h => by cases (show _ = _ from h); rfl
  | w :: W, _, _, ⟨st0, x, n, e, s, g⟩ => ⟨b ++ st0, x, n, by rw [e, List.append_assoc], s, by rw [List.append_assoc]; exact Goes.frame b g⟩
theorem n_nil (a : Str) (x y : List Str) : x ++ [a] ≠ [] := by simp
theorem Stands.det {w n m : List Str} {x y : Str} (h : Stands w x n) (g : Stands w y m) : x = y ∧ n = m := by
  cases h with
  | out a o =>
    generalize e : (["out", a] : List Str) = w' at g
    cases g with
    | out b o' => exact ⟨rfl, rfl⟩
    | room b c fb fc => simp at e
    | door b c fb fc => simp at e
  | room a b fa fb =>
    generalize e : (["room", num a, num b] : List Str) = w' at g
    cases g with
    | out b o' => simp at e
    | room c d fc fd =>
      simp only [List.cons.injEq, and_true, true_and] at e
      have := num_inj fb fd e.2
      subst this
      exact ⟨rfl, rfl⟩
    | door c d fc fd =>
      simp only [List.cons.injEq] at e
      exact absurd e.1 (by decide +kernel)
  | door a b fa fb =>
    generalize e : (["door", num a, num b] : List Str) = w' at g
    cases g with
    | out b o' => simp at e
    | room c d fc fd =>
      simp only [List.cons.injEq] at e
      exact absurd e.1 (by decide +kernel)
    | door c d fc fd => exact ⟨rfl, rfl⟩
theorem Goes.det : ∀ {W : List (List Str)} {a b c : List Str}, Goes a W b → Goes a W c → b = c
  | [], _, _, _, h, g => by cases (show _ = _ from h); exact (show _ = _ from g)
  | w :: W, _, _, _, ⟨s0, x, n, e, s, h⟩, ⟨s1, y, m, e', s', g⟩ => by
    obtain ⟨e1, e2⟩ := List.append_inj' (e.symm.trans e') rfl
    subst e1
    cases e2
    obtain ⟨_, rfl⟩ := s.det s'
    exact Goes.det h g
/-- where the rows stop to be what is wanted -/
def Stuck (a : List Str) (W : List (List Str)) (k : Nat) : Prop := k ≤ W.length ∧ ∃ st x, Goes a (W.take k) (st ++ [x]) ∧ (k = W.length ∨ ∃ w, W[k]? = some w ∧ canStand w x = false)
theorem Stuck.frame (b : List Str) {a : List Str} {W : List (List Str)} {k : Nat} : Stuck a W k → Stuck (b ++ a) W k
  | ⟨h, st, x, g, c⟩ => ⟨h, b ++ st, x, by rw [List.append_assoc]; exact g.frame b, c⟩
theorem Stuck.after {a b : List Str} {U V : List (List Str)} {k : Nat} (g : Goes a U b) : Stuck b V k → Stuck a (U ++ V) (U.length + k)
  | ⟨h, st, x, g2, c⟩ => by
    refine ⟨by rw [List.length_append]; omega, st, x, ?_, ?_⟩
    · rw [List.take_append, List.take_of_length_le (by omega), Nat.add_sub_cancel_left]
      exact g.app g2
    · rcases c with rfl | ⟨w, hw, hc⟩
      · exact .inl (by rw [List.length_append])
      · exact .inr ⟨w, by rw [List.getElem?_append_right (by omega), Nat.add_sub_cancel_left]; exact hw, hc⟩
theorem Stuck.now {st : List Str} {x : Str} {W : List (List Str)} (h : W = [] ∨ ∃ w, W[0]? = some w ∧ canStand w x = false) : Stuck (st ++ [x]) W 0 := by
  refine ⟨Nat.zero_le _, st, x, by simp [Goes], ?_⟩
  rcases h with rfl | h
  · exact .inl rfl
  · exact .inr h
theorem Stuck.met {a : List Str} {W : List (List Str)} {k n : Nat} {c : List Str} (s : Stuck a W k) (hk : k < n) (hn : n ≤ W.length) (g : Goes a (W.take n) c) : False := by
  obtain ⟨h, st, x, g1, d⟩ := s
  obtain ⟨b, g2, g3⟩ := Goes.take (i := k) g
  rw [List.take_take, Nat.min_eq_left (by omega)] at g2
  have := Goes.det g1 g2
  subst this
  obtain ⟨w, hw⟩ : ∃ w, W[k]? = some w := ⟨_, List.getElem?_eq_getElem (by omega)⟩
  have e : (W.take n).drop k = w :: ((W.take n).drop (k + 1)) := by
    have hw2 : (W.take n)[k]? = some w := by rw [List.getElem?_take, if_pos hk]; exact hw
    obtain ⟨l1, l2⟩ := List.getElem?_eq_some_iff.mp hw2
    rw [List.drop_eq_getElem_cons l1, l2]
  rw [e] at g3
  obtain ⟨s0, y, m, e', s', _⟩ := g3
  obtain ⟨_, e2⟩ := List.append_inj' e' rfl
  cases e2
  rcases d with d | ⟨w', hw', hc⟩
  · omega
  · rw [hw] at hw'; cases hw'
    rw [s'.can] at hc; cases hc
theorem Stuck.det {a : List Str} {W : List (List Str)} {k n : Nat} (s : Stuck a W k) (t : Stuck a W n) : k = n := by
  rcases Nat.lt_trichotomy k n with h | h | h
  · obtain ⟨hn, st, x, g, _⟩ := t
    exact absurd (s.met h hn g) id
  · exact h
  · obtain ⟨hn, st, x, g, _⟩ := s
    exact absurd (t.met h hn g) id
theorem Stuck.none {h : House} (hf : h.figs) {r : List (List Str)} {k : Nat} (s : Stuck [("room" : Str)] (h.words ++ r) k) : False := by
  have g0 : Goes [("room" : Str)] h.words [] := House.goesF h hf []
  by_cases hk : k < h.words.length
  · exact s.met hk (by rw [List.length_append]; omega) (c := []) (by rw [List.take_left']; exact g0; rfl)
  · obtain ⟨_, st, x, g, _⟩ := s
    rw [List.take_append, List.take_of_length_le (by omega)] at g
    obtain ⟨b, g1, g2⟩ := Goes.take (i := h.words.length) g
    rw [List.take_left' rfl] at g1
    rw [List.drop_left' rfl] at g2
    have := g1.det g0
    subst this
    cases e : r.take (k - h.words.length) with
    | nil => rw [e] at g2; exact absurd (show ([] : List Str) = st ++ [x] from g2) (by simp)
    | cons w W =>
      rw [e] at g2
      obtain ⟨s0, y, m, e', _⟩ := g2
      exact absurd e' (by simp)
mutual
theorem House.words_inj : ∀ h g : House, h.figs → g.figs → ∀ r s : List (List Str), h.words ++ r = g.words ++ s → h = g ∧ r = s
  | .out a, .out b, _, _, r, s, e => by
    simp only [House.words, List.cons_append, List.nil_append, List.cons.injEq, and_true, true_and] at e
    exact ⟨by rw [e.1], e.2⟩
  | .out a, .room hand ds, _, _, r, s, e => by simp [House.words] at e
  | .room hand ds, .out b, _, _, r, s, e => by simp [House.words] at e
  | .room hand ds, .room hand' ds', ⟨a1, a2, a3⟩, ⟨b1, b2, b3⟩, r, s, e => by
    simp only [House.words, List.cons_append, List.cons.injEq, and_true, true_and] at e
    obtain ⟨⟨e1, e2⟩, e3⟩ := e
    have := num_inj a1 b1 e1
    have l := num_inj (a := ds.len) (b := ds'.len) ⟨by omega, by omega⟩ ⟨by omega, by omega⟩ e2
    obtain ⟨p, q⟩ := Doors.words_inj ds ds' a3 b3 (by omega) r s e3
    exact ⟨by rw [this, p], q⟩
theorem Doors.words_inj : ∀ h g : Doors, h.figs → g.figs → h.len = g.len → ∀ r s : List (List Str), h.words ++ r = g.words ++ s → h = g ∧ r = s
  | .nil, .nil, _, _, _, r, s, e => ⟨rfl, by simpa [Doors.words] using e⟩
  | .nil, .cons .., _, _, l, _, _, _ => by simp only [Doors.len] at l; omega
  | .cons .., .nil, _, _, l, _, _, _ => by simp only [Doors.len] at l; omega
  | .cons n t h d, .cons n' t' h' d', ⟨a1, a2, a3, a4⟩, ⟨b1, b2, b3, b4⟩, l, r, s, e => by
    simp only [Doors.len] at l
    simp only [Doors.words, List.cons_append, List.append_assoc, List.cons.injEq, and_true, true_and] at e
    obtain ⟨⟨e1, e2⟩, e3⟩ := e
    obtain ⟨p, q⟩ := House.words_inj h h' a3 b3 _ _ e3
    obtain ⟨p', q'⟩ := Doors.words_inj d d' a4 b4 (by omega) r s q
    exact ⟨by rw [num_inj a1 b1 e1, num_inj a2 b2 e2, p, p'], q'⟩
end
theorem took_doors (n : Nat) (ih : ∀ W : List (List Str), W.length ≤ n → (∃ h : House, h.figs ∧ ∃ r, W = h.words ++ r) ∨ ∃ k, Stuck [("room" : Str)] W k) : ∀ (m : Nat) (W : List (List Str)), W.length ≤ n + 1 → (∃ ds : Doors, ds.figs ∧ ds.len = m ∧ ∃ r, W = ds.words ++ r) ∨ ∃ k, Stuck (List.replicate m ("door" : Str)) W k
  | 0, W, _ => .inl ⟨.nil, trivial, rfl, W, rfl⟩
  | m + 1, [], _ => .inr ⟨0, by rw [List.replicate_succ']; exact Stuck.now (.inl rfl)⟩
  | m + 1, w :: W, hW => by
    simp only [List.length_cons] at hW
    by_cases hc : canStand w "door" = true
    · obtain ⟨nn, hs⟩ := canStand_ok hc (.inr rfl)
      have hs0 := hs
      generalize ex : ("door" : Str) = xx at hs
      cases hs with
      | out a o => exact absurd ex (by decide +kernel)
      | room a b fa fb => exact absurd ex (by decide +kernel)
      | door a b fa fb =>
        rcases ih W (by omega) with ⟨h, hf, r, rfl⟩ | ⟨k, hk⟩
        · rw [List.length_append] at hW
          rcases took_doors n ih m r (by omega) with ⟨ds, df, dl, r', rfl⟩ | ⟨k, hk⟩
          · exact .inl ⟨.cons a b h ds, ⟨fa, fb, hf, df⟩, by simp only [Doors.len]; omega, r', by simp [Doors.words]⟩
          · refine .inr ⟨_, Stuck.after (U := (["door", num a, num b] : List Str) :: h.words) (V := r) ⟨List.replicate m "door", "door", ["room"], List.replicate_succ', hs0, House.goesF h hf _⟩ hk⟩
        · refine .inr ⟨_, Stuck.after (U := [(["door", num a, num b] : List Str)]) (V := W) ⟨List.replicate m "door", "door", ["room"], List.replicate_succ', hs0, rfl⟩ (hk.frame _)⟩
    · exact .inr ⟨0, by rw [List.replicate_succ']; exact Stuck.now (.inr ⟨w, rfl, by simpa using hc⟩)⟩
theorem took : ∀ (n : Nat) (W : List (List Str)), W.length ≤ n → (∃ h : House, h.figs ∧ ∃ r, W = h.words ++ r) ∨ ∃ k, Stuck [("room" : Str)] W k
  | n, [], _ => .inr ⟨0, Stuck.now (st := []) (.inl rfl)⟩
  | 0, w :: W, h => by simp at h
  | n + 1, w :: W, hW => by
    simp only [List.length_cons] at hW
    by_cases hc : canStand w "room" = true
    · obtain ⟨nn, hs⟩ := canStand_ok hc (.inl rfl)
      have hs0 := hs
      generalize ex : ("room" : Str) = xx at hs
      cases hs with
      | out a o => exact .inl ⟨.out a, o, W, rfl⟩
      | door a b fa fb => exact absurd ex (by decide +kernel)
      | room a b fa fb =>
        rcases took_doors n (took n) b.toNat W (by omega) with ⟨ds, df, dl, r, rfl⟩ | ⟨k, hk⟩
        · refine .inl ⟨.room a ds, ⟨fa, by obtain ⟨_, _⟩ := fb; omega, df⟩, r, ?_⟩
          rw [House.words, dl, Int.toNat_of_nonneg fb.1]; rfl
        · exact .inr ⟨_, Stuck.after (U := [(["room", num a, num b] : List Str)]) (V := W) ⟨[], "room", _, rfl, hs0, rfl⟩ hk⟩
    · exact .inr ⟨0, Stuck.now (st := []) (.inr ⟨w, rfl, by simpa using hc⟩)⟩
theorem Stuck.halts {W : List (List Str)} {k : Nat} : Stuck [("room" : Str)] W k → Halts W k
  | ⟨h, st, x, g, c⟩ => ⟨h, .inl ⟨st, x, g, c⟩⟩
end Pd
namespace Pd
open PySem PySem.Spec PyProof.Rows L2 TL
/-! ### what is taken from a row on -/
def TakenD (W : List (List Str)) (at_ : Nat) (d : D) : Prop := (∃ h : House, h.figs ∧ (∃ r, W.drop at_ = h.words ++ r) ∧ d = .tup [h.toD, .int ((at_ + h.words.length : Nat) : Int)]) ∨ ∃ k, Stuck [("room" : Str)] (W.drop at_) k ∧ d = .tup [.non, .int ((at_ + k : Nat) : Int)]
theorem drop_at {α : Type} {W : List α} {i : Nat} {w : α} (h : W[i]? = some w) : W.drop i = w :: W.drop (i + 1) := by
  obtain ⟨l1, l2⟩ := List.getElem?_eq_some_iff.mp h
  rw [List.drop_eq_getElem_cons l1, l2]
theorem drop_more {α : Type} {W u r : List α} {n : Nat} (hn : n ≤ W.length) (h : W.drop n = u ++ r) : r = W.drop (n + u.length) ∧ n + u.length ≤ W.length := by
  have l := congrArg List.length h
  rw [List.length_drop, List.length_append] at l
  refine ⟨?_, by omega⟩
  rw [← List.drop_drop, h, List.drop_left' rfl]
theorem isTwo_can {w : Str} {r : List Str} {x : Str} (h : w ≠ "out") : canStand (w :: r) x = isTwo (w :: r) x := by rw [canStand_cons, if_neg h]; rfl
theorem isTwo_door {ws : List Str} (h : isTwo ws "door" = false) : canStand ws "door" = false := by
  cases ws with
  | nil => rfl
  | cons w r =>
    by_cases c : w = "out"
    · rw [canStand_cons, if_pos c, decide_eq_false (by decide +kernel)]; rfl
    · rw [isTwo_can c]; exact h
theorem two_all (ws : List Str) {x : Str} (hx : x = "room" ∨ x = "door") : (∃ i j, fig i ∧ fig j ∧ ws = [x, num i, num j]) ∨ isTwo ws x = false := by
  match ws with
  | [] => exact .inr rfl
  | w :: r =>
    cases e : isTwo (w :: r) x with
    | false => exact .inr rfl
    | true =>
      simp only [isTwo, Bool.and_eq_true, decide_eq_true_eq] at e
      obtain ⟨rfl, h2, h3, h4⟩ := e
      match r, h2 with
      | [a, b], _ =>
        obtain ⟨i, fi, ei⟩ := isNum_num (show isNum a = true from h3)
        obtain ⟨j, fj, ej⟩ := isNum_num (show isNum b = true from h4)
        exact .inl ⟨i, j, fi, fj, by rw [ei, ej]⟩
theorem taken_door {a b : Int} (fa : fig a) (fb : fig b) {pre : Doors} (pf : pre.figs) (hl : pre.len < b.toNat) {V : List (List Str)} {k : Nat} (s : Stuck [("door" : Str)] V k) : Stuck [("room" : Str)] (((["room", num a, num b] : List Str) :: pre.words) ++ V) (1 + pre.words.length + k) := by
  have g : Goes [("room" : Str)] ((["room", num a, num b] : List Str) :: pre.words) (List.replicate (b.toNat - pre.len - 1) ("door" : Str) ++ [("door" : Str)]) := by
    refine ⟨[], "room", _, rfl, .room a b fa fb, ?_⟩
    have := Doors.goesF pre pf (List.replicate (b.toNat - pre.len - 1) ("door" : Str) ++ [("door" : Str)])
    rw [← List.replicate_succ', List.replicate_append_replicate, show b.toNat - pre.len - 1 + 1 + pre.len = b.toNat by omega] at this
    rw [← List.replicate_succ']
    exact this
  have := Stuck.after g (s.frame _)
  rw [show ((["room", num a, num b] : List Str) :: pre.words).length = 1 + pre.words.length by rw [List.length_cons]; omega] at this
  exact this
theorem letters {z : Str} {f : Nat → D} : (madeD (fun i => (fun c : Nat => !(decide (97 ≤ c) && decide (c ≤ 122))) (z.cps.toList.getD i 0)) f z.cps.toList.length).isEmpty = z.cps.toList.all (fun c : Nat => decide (97 ≤ c) && decide (c ≤ 122)) := by
  unfold madeD
  rw [List.isEmpty_map]
  cases e : z.cps.toList.all (fun c : Nat => decide (97 ≤ c) && decide (c ≤ 122)) with
  | true =>
    rw [List.all_eq_true] at e
    rw [List.isEmpty_iff, List.filter_eq_nil_iff]
    intro i hi
    rw [List.mem_range] at hi
    have := e z.cps.toList[i] (List.getElem_mem hi)
    simp only [List.getD_eq_getElem?_getD, List.getElem?_eq_getElem hi, Option.getD_some, Bool.not_eq_true]
    rw [this]; rfl
  | false =>
    rw [List.all_eq_false] at e
    obtain ⟨c, hc, hp⟩ := e
    obtain ⟨i, hi, e⟩ := List.mem_iff_getElem.mp hc
    have : i ∈ (List.range z.cps.toList.length).filter (fun i => (fun c : Nat => !(decide (97 ≤ c) && decide (c ≤ 122))) (z.cps.toList.getD i 0)) := by
      rw [List.mem_filter]
      refine ⟨List.mem_range.mpr hi, ?_⟩
      simp only [List.getD_eq_getElem?_getD, List.getElem?_eq_getElem hi, Option.getD_some]
      rw [e]; cases hq : (decide (97 ≤ c) && decide (c ≤ 122)) with
      | true => exact absurd hq hp
      | false => rfl
    cases q : (List.range z.cps.toList.length).filter (fun i => (fun c : Nat => !(decide (97 ≤ c) && decide (c ≤ 122))) (z.cps.toList.getD i 0)) with
    | nil => rw [q] at this; cases this
    | cons _ _ => rfl
theorem okName_letters {z : Str} : decide (okName z) = ((decide (1 ≤ z.length) && decide (z.length ≤ 6)) && z.cps.toList.all (fun c : Nat => decide (97 ≤ c) && decide (c ≤ 122))) := by
  by_cases h : okName z
  · rw [decide_eq_true h]
    obtain ⟨h1, h2, h3⟩ := h
    rw [decide_eq_true h1, decide_eq_true h2]
    symm
    rw [Bool.and_self, Bool.true_and, List.all_eq_true]
    intro c hc
    obtain ⟨a, b⟩ := h3 c hc
    simp [a, b]
  · rw [decide_eq_false h]
    symm
    rw [Bool.eq_false_iff]
    intro e
    simp only [Bool.and_eq_true, decide_eq_true_eq, List.all_eq_true] at e
    exact h ⟨e.1.1, e.1.2, e.2⟩
theorem pieces (S : List Nat) : ∀ {ls : List (List Nat)} {p : List Nat} {c : Nat}, p ∈ ls → c ∈ p → c ∈ joinL S ls
  | [], _, _, h, _ => by cases h
  | [q], _, _, h, hc => by
    cases List.mem_singleton.mp h
    exact hc
  | q :: q2 :: ls, p, c, h, hc => by
    show c ∈ q ++ (S ++ joinL S (q2 :: ls))
    rcases List.mem_cons.mp h with rfl | h
    · exact List.mem_append_left _ hc
    · exact List.mem_append_right _ (List.mem_append_right _ (pieces S h hc))
theorem mem_join {y : Str} {ws : List Str} {p : Str} {c : Nat} (hp : p ∈ ws) (hc : c ∈ tl p) : c ∈ tl (Txt.join y ws) := by
  rw [join_eq, tl_join]
  exact pieces _ (List.mem_map.mpr ⟨p, hp, rfl⟩) hc
/-- signs of the words of a text are the text's -/
theorem wordsOf_signs {x : Str} {i : Nat} {w : List Str} (h : (wordsOf x)[i]? = some w) {p : Str} (hp : p ∈ w) {c : Nat} (hc : c ∈ tl p) : c ∈ tl x := by
  obtain ⟨r, hr, e, e2, _⟩ := wordsOf_get h
  have h1 : c ∈ tl r := by rw [e2]; exact mem_join hp hc
  have := mem_join (y := "\n") (List.mem_of_getElem? hr) h1
  rwa [(split_back x "\n" tl_nl nl_ok).1] at this
section
variable {P : Program} {w : World} {K : PySem.W.Frag} {mg : Str → Option Value} {base : Heap} {T : Tb} {f : Addr} {fd : FuncData}
variable {S : List Addr} {δ : List (Option SD)} {H : Hp} {te ta tb tc : TE} {u : TS} {B : Ends} {E : XK}
/-- a datum that is one of those -/
def EvDP (T : Tb) (K : PySem.W.Frag) (p : D → Prop) (te : TE) (δ : List (Option SD)) (H : Hp) : Prop := ∀ σ H1, Gr T [] H H1 → Slots K H1 δ σ → ∀ Q : VK, (∀ d v H2, p d → Gr T [] H1 H2 → Rep K H2 d v → Q v H2) → te σ H1 Q
theorem run_asgP {g : TG} {p : D → Prop} (hT : Tbs T H) (h : EvDP T K p te δ H) (k : ∀ d H1, p d → Gr T [] H H1 → ∃ δ' js, EvG T K g d δ H1 δ' js ∧ Run K u B δ' H1) : Run K (tSeq (tAsg te g) u) B δ H := fun σ s =>
  h σ H (Gr.refl hT) s _ fun d v H1 pd g1 r => by
    obtain ⟨δ', js, hg, hr⟩ := k d H1 pd g1
    exact hg v σ H1 (Gr.refl g1.tbs) r (s.up g1) _ fun σ' s' _ => hr σ' s'
/-- a, b = a new list, y -/
theorem run_parLD {ds : List D} {d : D} {i j : Nat} (hT : Tbs T H) (ha : EvL T K ta δ H ds) (hb : EvD T K tb δ H d)
    (k : ∀ p xs H1, H p = none → Gr T [] H H1 → H1 p = some (.lst xs) → Reps K H1 ds xs → Run K u B ((δ.set i (some (.v (.ref p)))).set j (some (.d d))) H1) : Run K (tSeq (tPar i j (tCons ta (tCons tb tNil))) u) B δ H := fun σ s =>
  ha σ H (Gr.refl hT) s _ fun p xs H1 n1 g1 e rs => hb σ H1 g1 (s.up g1) _ fun v H2 g2 r => ⟨.ref p, v, rfl, k p xs H2 n1 (g1.trans g2) (g2.lst e (by simp)) (rs.up g2) _ (((s.up (g1.trans g2)).set i (show SlotOk K H2 (some (.v (.ref p))) (some (.ref p)) from rfl)).set j (show SlotOk K H2 (some (.d d)) (some v) from r))⟩
theorem ev_eqLNx {ds : List D} {l : Addr} {xs : List V} {k : Nat} (ha : EvV T K ta δ H (.ref l)) (e : H l = some (.lst xs)) (r : Reps K H ds xs) (hb : EvL T K tb δ H []) (hd : D.cans k ds) (hk : k ≤ 63) : EvD T K (tOp (rEqD K) ta tb) δ H (.bl ds.isEmpty) := fun σ H1 g s Q q =>
  ha σ H1 g s _ fun H2 g2 => hb σ H2 (g.trans g2) (s.up g2) _ fun c ys H3 nc g3 ec rc => by
    have gg := (g.trans g2).trans g3
    refine ⟨_, _, .lst (.inl (.inl (gg.lst e (by simp)))) (reps_dp ds xs (r.up gg)), .lst (.inl (.inl ec)) (reps_dp [] ys rc), D.cans_shaped hd hk, by decide +kernel, ?_⟩
    have : PyData.eqv (.list (D.pys ds)) (.list (D.pys [])) = ds.isEmpty := by
      cases ds with
      | nil => rfl
      | cons d ds => rfl
    rw [this]
    exact q _ H3 (g2.trans g3) rfl
theorem ev_two {p : Addr} {ws : List Str} {x : Str} {d : D} (ha : EvV T K ta δ H (.ref p)) (hb : EvD T K tb δ H (.str x)) (hp : H p = some (.lst (ws.map V.str))) (h1 : ws ≠ []) (h2 : ∀ w ∈ ws, w.length ≤ 10000) (h3 : ws.length ≤ 10000) (hd : Two ws x d) : EvD T K (tCall (spTwo T K) [] E (tCons ta (tCons tb tNil))) δ H d := fun σ H1 g s Q q =>
  ha σ H1 g s _ fun H2 g2 => hb σ H2 (g.trans g2) (s.up g2) _ fun v H3 g3 e => by
    cases (show v = .str x from e)
    exact ⟨p, ws, x, d, rfl, ((g.trans g2).trans g3).lst hp (by simp), h1, h2, h3, g3.tbs, hd, fun v H4 g4 r => q v H4 ((g2.trans g3).trans g4) r⟩
theorem ev_twoN {ws : List Str} {x : Str} {d : D} (ha : EvL T K ta δ H (ws.map D.str)) (hb : EvD T K tb δ H (.str x)) (h1 : ws ≠ []) (h2 : ∀ w ∈ ws, w.length ≤ 10000) (h3 : ws.length ≤ 10000) (hd : Two ws x d) : EvD T K (tCall (spTwo T K) [] E (tCons ta (tCons tb tNil))) δ H d := fun σ H1 g s Q q =>
  ha σ H1 g s _ fun p xs H2 np g2 ep rp => hb σ H2 (g.trans g2) (s.up g2) _ fun v H3 g3 e => by
    cases (show v = .str x from e)
    have := Reps.strs rp
    subst this
    exact ⟨p, ws, x, d, rfl, g3.lst ep (by simp), h1, h2, h3, g3.tbs, hd, fun v H4 g4 r => q v H4 ((g2.trans g3).trans g4) r⟩
def spTaken (T : Tb) (K : PySem.W.Frag) (lv : Nat) : Sp := fun vs H Q _ => ∃ (l : Addr) (x : Str) (n : Nat), vs = [.ref l, .int (n : Nat)] ∧ H l = some (.lst ((Txt.split x "\n").map V.str)) ∧ x.length ≤ 400 ∧ (∀ c ∈ tl x, c < 256) ∧ n ≤ (wordsOf x).length ∧ (wordsOf x).length < n + 2 * lv ∧ Tbs T H ∧ ∀ d v H', TakenD (wordsOf x) n d → Gr T [] H H' → Rep K H' d v → Q v H'
theorem ev_taken {l : Addr} {x : Str} {n lv : Nat} (ha : EvV T K ta δ H (.ref l)) (hb : EvD T K tb δ H (.int (n : Nat))) (hl : H l = some (.lst ((Txt.split x "\n").map V.str))) (hx : x.length ≤ 400) (hc : ∀ c ∈ tl x, c < 256) (h1 : n ≤ (wordsOf x).length) (h2 : (wordsOf x).length < n + 2 * lv) : EvDP T K (TakenD (wordsOf x) n) (tCall (spTaken T K lv) [] E (tCons ta (tCons tb tNil))) δ H := fun σ H1 g s Q q =>
  ha σ H1 g s _ fun H2 g2 => hb σ H2 (g.trans g2) (s.up g2) _ fun v H3 g3 e => by
    cases (show v = .int (n : Nat) from e)
    exact ⟨l, x, n, rfl, ((g.trans g2).trans g3).lst hl (by simp), hx, hc, h1, h2, g3.tbs, fun d v H4 hd g4 r => q d v H4 hd ((g2.trans g3).trans g4) r⟩
end
end Pd
set_option maxHeartbeats 2000000
namespace Pd
open PySem PySem.Spec PyProof.Rows L2
/-- [e for x, y, z in a list of lists of three] -/
theorem ev_lcU3 {T : Tb} {K : PySem.W.Frag} {δ : List (Option SD)} {H : Hp} {tl te : TE} {l : Addr} {refs : List V} {ds : List D} {n1 n2 n3 : Nat} (hl : EvV T K tl δ H (.ref l)) (e : H l = some (.lst refs)) (hz : refs.length ≤ 50000) (hlen : ds.length = refs.length)
    (hs : ∀ (i : Nat) (c : V) (y : D) (H1 : Hp), refs[i]? = some c → ds[i]? = some y → Gr T [] H H1 → ∃ a x1 x2 x3, c = V.ref a ∧ H1 a = some (.lst [x1, x2, x3]) ∧ EvD T K te ((((wipeD δ [n1, n2, n3]).set n1 (some (.v x1))).set n2 (some (.v x2))).set n3 (some (.v x3))) H1 y) :
    EvL T K (tLc (iList K tl) (gUnl K 3 (gCons (gName n1) (gCons (gName n2) (gCons (gName n3) gNil)))) tYes te [n1, n2, n3]) δ H ds := fun σ H1 g1 s Q q =>
  hl σ H1 g1 s _ fun H2 g2 => by
    have e2 := (g1.trans g2).lst e (by simp)
    refine ⟨l, rfl, ⟨refs, .inl (.inl e2)⟩, fun Dl hD => ?_⟩
    have W : Walk (Itl K l) refs.length (fun H' => Gr T [] H2 H') (fun i Ha x Hb => Ha = Hb ∧ refs[i]? = some x) := (walk_list (K := K) (a := l) (xs := refs)).mono (fun H' g => .inl (.inl (Gr.lst g e2 (by simp)))) fun i Ha x Hb hi g q => ⟨q.1.symm, q.2⟩
    refine lc_it W (fun i H' => Gr T [] H2 H' ∧ ∃ acc, H' Dl = some (.lst acc) ∧ Reps K H' (ds.take i) acc) ⟨Gr.new g2.tbs hD, [], upd_same, by rw [List.take_zero]; exact rfl⟩ (fun i H' _ pv => pv.1) (fun i x Ha Hb hlt pv y => ?_) (fun H' pv => ?_)
    · obtain ⟨p1, acc, p2, p3⟩ := pv
      obtain ⟨rfl, hx⟩ := y
      have hlt' : i < ds.length := by rw [hlen]; exact (List.getElem?_eq_some_iff.mp hx).1
      obtain ⟨a, x1, x2, x3, rfl, ha, he⟩ := hs i x ds[i] Ha hx (List.getElem?_eq_getElem hlt') ((g1.trans g2).trans p1)
      have s2 := (((s.up g2).up p1).wipe [n1, n2, n3])
      refine ⟨a, [x1, x2, x3], rfl, .inl (.inl ha), rfl, x1, _, rfl, x2, _, rfl, x3, _, rfl, rfl, ?_⟩
      have s3 := ((s2.set n1 (show SlotOk K Ha (some (.v x1)) (some x1) from rfl)).set n2 (show SlotOk K Ha (some (.v x2)) (some x2) from rfl)).set n3 (show SlotOk K Ha (some (.v x3)) (some x3) from rfl)
      refine ⟨(Off.wipe (js := [n1, n2, n3]) ⟨by simp, fun j hj => ?_⟩ (fun j hj => hj)), ?_⟩
      · have h1 : n1 ≠ j := fun z => hj (by simp [z])
        have h2 : n2 ≠ j := fun z => hj (by simp [z])
        have h3 : n3 ≠ j := fun z => hj (by simp [z])
        rw [List.getElem?_set_ne h3, List.getElem?_set_ne h2, List.getElem?_set_ne h1]
      · show te _ Ha _
        refine he _ Ha (Gr.refl p1.tbs) s3 _ fun v H4 g4 r4 => ?_
        have eD := g4.lst p2 (by simp)
        have gu : Gr T [Dl] H4 (upd H4 Dl (.lst (acc ++ [v]))) := (Gr.refl g4.tbs).put eD (.inl (by simp))
        refine ⟨acc, eD, ?_, (p1.trans g4).put eD (.inr hD), acc ++ [v], upd_same, ?_⟩
        · have l1 := p3.len
          rw [List.length_take] at l1
          exact Nat.lt_of_le_of_lt (by omega : acc.length ≤ 50000) (by decide)
        · rw [take_succ' (List.getElem?_eq_getElem hlt')]
          exact ((p3.up g4).app (es := [ds[i]]) ⟨v, [], rfl, r4, rfl⟩).up gu
    · obtain ⟨p1, acc, p2, p3⟩ := pv
      rw [← hlen, List.take_length] at p3
      exact q Dl acc H' (g2.dom Dl hD) (g2.trans p1) p2 p3
section
variable {P : Program} {w : World} {K : PySem.W.Frag} {mg : Str → Option Value} {base : Heap} {T : Tb} {f : Addr} {fd : FuncData}
/-- a house of lists as a house -/
def spFroz (T : Tb) (K : PySem.W.Frag) (lv : Nat) : Sp := fun vs H Q _ => ∃ t : LH, vs = [t.val] ∧ CAt H t.cells ∧ t.house.ok ∧ t.house.deep < lv ∧ Tbs T H ∧ ∀ v H', Gr T [] H H' → Rep K H' t.house.toD v → Q v H'
theorem ev_froz {δ : List (Option SD)} {H : Hp} {ta : TE} {E : XK} {lv : Nat} {t : LH} (ha : EvV T K ta δ H t.val) (hC : CAt H t.cells) (ok : t.house.ok) (hd : t.house.deep < lv) : EvD T K (tCall (spFroz T K lv) [] E (tCons ta tNil)) δ H t.house.toD := fun σ H1 g s Q q =>
  ha σ H1 g s _ fun H2 g2 => ⟨t, rfl, (hC.up g (by simp)).up g2 (by simp), ok, hd, g2.tbs, fun v H3 g3 r => q v H3 (g2.trans g3) r⟩
end
end Pd
namespace Pd
open PySem PySem.Spec PyProof.Rows L2
/-! ### the same, and of the same kinds -/
mutual
/-- ints, texts, short tuples of these, nested less deep than k -/
def D.fit (k : Nat) : D → Prop
  | .int _ => 0 < k
  | .str _ => 0 < k
  | .non => 0 < k
  | .tup ds => ds.length ≤ 1000 ∧ D.fits (k - 1) ds ∧ 0 < k
  | _ => False
def D.fits (k : Nat) : List D → Prop
  | [] => True
  | d :: ds => d.fit k ∧ D.fits k ds
end
theorem D.fits_get {k : Nat} : ∀ {ds : List D} {i : Nat} {d : D}, D.fits k ds → ds[i]? = some d → d.fit k
  | [], _, _, _, e => by simp at e
  | _ :: _, 0, _, h, e => by simp at e; subst e; exact h.1
  | _ :: ds, i + 1, _, h, e => D.fits_get (ds := ds) (i := i) h.2 (by simpa using e)
theorem D.fits_app {k : Nat} : ∀ {a b : List D}, D.fits k a → D.fits k b → D.fits k (a ++ b)
  | [], _, _, h => h
  | _ :: a, _, ⟨h1, h2⟩, h => ⟨h1, D.fits_app (a := a) h2 h⟩
theorem D.fits_all {k : Nat} : ∀ {ds : List D}, (∀ d ∈ ds, d.fit k) → D.fits k ds
  | [], _ => trivial
  | d :: ds, h => ⟨h d (by simp), D.fits_all fun x hx => h x (by simp [hx])⟩
/-- a datum, or a list of data -/
inductive AV where
  | d (x : D) | l (ds : List D)
def AVRep (K : PySem.W.Frag) (H : Hp) : AV → V → Prop
  | .d x, v => Rep K H x v
  | .l ds, v => ∃ p xs, v = .ref p ∧ H p = some (.lst xs) ∧ Reps K H ds xs
def AV.ty : AV → String
  | .d (.int _) => "int"
  | .d (.str _) => "str"
  | .d (.tup _) => "tuple"
  | .d (.bl _) => "bool"
  | .d .non => "NoneType"
  | .l _ => "list"
def AV.items : AV → List D
  | .d (.tup ds) => ds
  | .l ds => ds
  | _ => []
section
variable {T : Tb} {K : PySem.W.Frag} {δ : List (Option SD)} {H H' : Hp} {ta tb : TE} {x : AV} {v : V}
theorem AVRep.up (h : AVRep K H x v) (g : Gr T [] H H') : AVRep K H' x v := by
  cases x with
  | d x => exact Rep.up h g
  | l ds =>
    obtain ⟨p, xs, e, h1, h2⟩ := h
    exact ⟨p, xs, e, g.lst h1 (by simp), h2.up g⟩
theorem AVRep.ty (h : AVRep K H x v) : TyX K H v (.type x.ty) := by
  cases x with
  | d x => cases x with
    | non => cases (show v = .non from h); exact .base .non
    | bl b => cases (show v = .bl b from h); exact .base (.bl b)
    | int i => cases (show v = .int i from h); exact .base (.int i)
    | str z => cases (show v = .str z from h); exact .base (.str z)
    | tup ds =>
      obtain ⟨a, xs, e, hs, _⟩ := h
      subst e
      exact tyx_tup hs
  | l ds =>
    obtain ⟨p, xs, e, h1, _⟩ := h
    subst e
    exact .base (.lst h1)
theorem ev_isA {n : String} {b : Bool} (h : EvV T K ta δ H v) (hv : AVRep K H x v) (e : kitB x.ty n = some b) : EvD T K (tCB (rIsi K) (tCons ta (tCons (tC (.ty n)) tNil))) δ H (.bl b) := fun σ H1 g s Q q =>
  h σ H1 g s _ fun H2 g2 => ⟨v, .ty n, .type x.ty, .type n, b, rfl, .ty _, (hv.up (g.trans g2)).ty, kit_ty e, q _ H2 g2 rfl⟩
theorem ev_isTL {b1 b2 : Bool} (h : EvV T K ta δ H v) (hv : AVRep K H x v) (e1 : kitB x.ty "tuple" = some b1) (e2 : kitB x.ty "list" = some b2) : EvD T K (tCB (rIsiT K) (tCons ta (tCons (tTup (tCons (tC (.ty "tuple")) (tCons (tC (.ty "list")) tNil))) tNil))) δ H (.bl (b1 || b2)) := fun σ H1 g s Q q =>
  h σ H1 g s _ fun H2 g2 => ⟨(by show 2 ≤ sizeLine; decide), fun p hp => by
    have gn : Gr T [] H2 (upd H2 p (.tup [.ty "tuple", .ty "list"])) := Gr.new g2.tbs hp
    have g3 := g2.trans gn
    refine ⟨v, p, [.ty "tuple", .ty "list"], .type x.ty, [.type "tuple", .type "list"], b1 || b2, rfl, upd_same, .cons (.ty _) (.cons (.ty _) .nil), (hv.up (g.trans g3)).ty, ?_, q _ _ g3 rfl⟩
    refine kitAny_cons (kit_ty e1) (fun hb => ?_) fun hb => by rw [hb]; rfl
    rw [hb, Bool.false_or]
    exact kitAny_cons (kit_ty e2) (fun hb2 => by rw [hb2]; rfl) fun hb2 => hb2⟩
theorem ev_lenA (h : EvV T K ta δ H v) (hv : AVRep K H x v) (hi : (∃ ds, x = .d (.tup ds)) ∨ ∃ ds, x = .l ds) : EvD T K (tCB (rLenS K) (tCons ta tNil)) δ H (.int x.items.length) := fun σ H1 g s Q q =>
  h σ H1 g s _ fun H2 g2 => by
    rcases hi with ⟨ds, rfl⟩ | ⟨ds, rfl⟩
    · obtain ⟨a, xs, e, hs, rs⟩ := hv.up (g.trans g2)
      exact ⟨a, xs, by rw [e], .inr hs, by rw [rs.len]; exact q _ H2 g2 rfl⟩
    · obtain ⟨a, xs, e, hs, rs⟩ := hv.up (g.trans g2)
      exact ⟨a, xs, by rw [e], .inl (.inl (.inl hs)), by rw [rs.len]; exact q _ H2 g2 rfl⟩
/-- an item of a list or of a tuple -/
def rIxA (K : PySem.W.Frag) : R2 := fun x y H Q => rIxL K x y H Q ∨ rIxT K x y H Q
theorem ixAny {X : Cx} (hK : X.K = K := by rfl) : IxR X (rIxA K) := fun value slice pins s σ H x y v u Q I rx ry h hs => h.elim (fun h => ixLst hK value slice pins s σ H x y v u Q I rx ry h hs) fun h => ixTup hK value slice pins s σ H x y v u Q I rx ry h hs
theorem ev_ixA {i : Int} {d : D} (h : EvV T K ta δ H v) (hv : AVRep K H x v) (hi : (∃ ds, x = .d (.tup ds)) ∨ ∃ ds, x = .l ds) (hb : EvD T K tb δ H (.int i)) (e : atI x.items i = some d) : EvD T K (tOp (rIxA K) ta tb) δ H d := fun σ H1 g s Q q =>
  h σ H1 g s _ fun H2 g2 => hb σ H2 (g.trans g2) (s.up g2) _ fun w H3 g3 ew => by
    rcases hi with ⟨ds, rfl⟩ | ⟨ds, rfl⟩
    · obtain ⟨a, xs, ea, hs, rs⟩ := hv.up ((g.trans g2).trans g3)
      obtain ⟨y, hy, ry⟩ := atI_rep rs e
      exact .inr ⟨a, xs, i, y, ea, ew, hs, hy, q y H3 (g2.trans g3) ry⟩
    · obtain ⟨a, xs, ea, hs, rs⟩ := hv.up ((g.trans g2).trans g3)
      obtain ⟨y, hy, ry⟩ := atI_rep rs e
      exact .inl ⟨a, xs, i, y, ea, ew, .inl (.inl hs), hy, q y H3 (g2.trans g3) ry⟩
/-- two new empty lists -/
theorem ev_eqNil (ha : EvL T K ta δ H []) (hb : EvL T K tb δ H []) : EvD T K (tOp (rEqD K) ta tb) δ H (.bl true) := fun σ H1 g s Q q =>
  ha σ H1 g s _ fun a xs H2 na g2 ea ra => hb σ H2 (g.trans g2) (s.up g2) _ fun b ys H3 nb g3 eb rb => by
    cases (show xs = [] from ra); cases (show ys = [] from rb)
    exact ⟨.list [], .list [], .lst (.inl (.inl (g3.lst ea (by simp)))) .nil, .lst (.inl (.inl eb)) .nil, by decide, by decide, q _ H3 (g2.trans g3) rfl⟩
def spAlike (T : Tb) (K : PySem.W.Frag) (lv : Nat) : Sp := fun vs H Q _ => ∃ (x : AV) (u v : V), vs = [u, v] ∧ AVRep K H x u ∧ AVRep K H x v ∧ ((∃ d, x = .d d ∧ d.fit lv) ∨ ∃ ds, x = .l ds ∧ ds.length ≤ 1000 ∧ D.fits (lv - 1) ds ∧ 0 < lv) ∧ Tbs T H ∧ ∀ H', Gr T [] H H' → Q (.bl true) H'
theorem ev_alike {E : XK} {lv : Nat} {t : TA} {d : D} (h : EvA T K t δ H [d, d]) (hd : d.fit lv) : EvD T K (tCall (spAlike T K lv) [] E t) δ H (.bl true) := fun σ H1 g s Q q =>
  h σ H1 g s _ fun vs H2 g2 r => by
    obtain ⟨u, r1, e1, h1, v, r2, e2, h2, e3⟩ := r
    cases (show r2 = [] from e3)
    subst e2; subst e1
    exact ⟨.d d, u, v, rfl, h1, h2, .inl ⟨d, rfl, hd⟩, g2.tbs, fun H3 g3 => q _ H3 (g2.trans g3) rfl⟩
end
theorem ev_isN {T : Tb} {K : PySem.W.Frag} {δ : List (Option SD)} {H : Hp} {ta : TE} {x : D} (h : EvD T K ta δ H x) (hx : ∀ H v, Rep K H x v → v ≠ .non) : EvD T K (tOp (fun x y H Q => y = .non ∧ Q (.bl (decide (x = .non))) H) ta (tC .non)) δ H (.bl false) := fun σ H1 g s Q q =>
  h σ H1 g s _ fun v H2 g2 r => ⟨rfl, by rw [decide_eq_false (hx H2 v r)]; exact q _ H2 g2 rfl⟩
theorem hu64 {A : Around} {k : Nat} (hr : Room k A) : A.units + 64 < cLine := by have := hr.un; omega
theorem kb_tuple_tuple : kitB "tuple" "tuple" = some true := by decide +kernel
theorem kb_tuple_list : kitB "tuple" "list" = some false := by decide +kernel
theorem kb_list_tuple : kitB "list" "tuple" = some false := by decide +kernel
theorem kb_list_list : kitB "list" "list" = some true := by decide +kernel
theorem kb_int_tuple : kitB "int" "tuple" = some false := by decide +kernel
theorem kb_int_list : kitB "int" "list" = some false := by decide +kernel
theorem kb_int_int : kitB "int" "int" = some true := by decide +kernel
theorem kb_int_bool : kitB "int" "bool" = some false := by decide +kernel
theorem kb_int_str : kitB "int" "str" = some false := by decide +kernel
theorem kb_str_tuple : kitB "str" "tuple" = some false := by decide +kernel
theorem kb_str_list : kitB "str" "list" = some false := by decide +kernel
theorem kb_str_str : kitB "str" "str" = some true := by decide +kernel
theorem kb_non_tuple : kitB "NoneType" "tuple" = some false := by decide +kernel
theorem kb_non_list : kitB "NoneType" "list" = some false := by decide +kernel
theorem kb_non_str : kitB "NoneType" "str" = some false := by decide +kernel
theorem madeD_none (f : Nat → D) (n : Nat) : madeD (fun _ => false) f n = [] := by
  unfold madeD
  simp
section
variable {P : Program} {w : World} {K : PySem.W.Frag} {mg : Str → Option Value} {base : Heap} {T : Tb} {f : Addr} {fd : FuncData}
theorem ok_alike (B : Bl mg) (A : At K mg "_law_alike" s__law_alike ["_law_found", "_law_due_here"] f fd) : ∀ lv : Nat, Ok P w K mg base lv "_law_alike" ["_law_found", "_law_due_here"] (spAlike T K lv) := by
  intro lv
  induction lv with
  | zero =>
    refine A.none fun vs H Q E ⟨x, _, _, _, _, _, h, _⟩ => ?_
    rcases h with ⟨d, _, hd⟩ | ⟨_, _, _, _, h⟩
    · cases d with
      | int i => exact absurd (show 0 < 0 from hd) (by decide)
      | str z => exact absurd (show 0 < 0 from hd) (by decide)
      | tup ds => exact absurd hd.2.2 (by decide)
      | non => exact absurd (show 0 < 0 from hd) (by decide)
      | bl b => exact hd
    · omega
  | succ lv G__law_alike =>
  refine A.ok (A.F.ok (k := lv) sc__law_alike (fun vs H Q E ⟨_, _, _, e, _⟩ => by rw [e]; rfl) fun cdv A outer s H vs Q E hr h => ⟨_, (pss_cons (ps_if (pt_val (pe_callB call_isiT (by rfl) B.isinstance (by decide +kernel) (pa_cons (pv 1) (pa_cons (pe_tup (pa_cons (pe_bltn (v := .ty "tuple") (by rfl) B.tuple (by decide +kernel) rfl) (pa_cons (pe_bltn (v := .ty "list") (by rfl) B.list (by decide +kernel) rfl) pa_nil))) pa_nil)))) (pss_cons (ps_if (PW.pt (pw_or (pt_not (pt_val (pe_callB call_isiT (by rfl) B.isinstance (by decide +kernel) (pa_cons (pv 0) (pa_cons (pe_tup (pa_cons (pe_bltn (v := .ty "tuple") (by rfl) B.tuple (by decide +kernel) rfl) (pa_cons (pe_bltn (v := .ty "list") (by rfl) B.list (by decide +kernel) rfl) pa_nil))) pa_nil))))) (pw_or1 (pt_cmpR op_ne (pe_callB call_isi (by rfl) B.isinstance (by decide +kernel) (pa_cons (pv 0) (pa_cons (pe_bltn (v := .ty "list") (by rfl) B.list (by decide +kernel) rfl) pa_nil))) (pe_callB call_isi (by rfl) B.isinstance (by decide +kernel) (pa_cons (pv 1) (pa_cons (pe_bltn (v := .ty "list") (by rfl) B.list (by decide +kernel) rfl) pa_nil))) (nomark _))))) (pss_one (ps_ret pe_bl)) pss_nil)
    (pss_cons (ps_if (pt_cmpR op_ne (pe_callB cr_len (by rfl) B.len (by decide +kernel) (pa_cons (pv 0) pa_nil)) (pe_callB cr_len (by rfl) B.len (by decide +kernel) (pa_cons (pv 1) pa_nil)) (nomark _)) (pss_one (ps_ret pe_bl)) pss_nil)
    (pss_one (ps_ret (pe_cmpR (op_eqD (hu64 hr)) (pe_lc (own := [("_law_k", 2)]) rfl sc__law_alike.nd (pi_range1 (by rfl) B.range (pa_cons (pe_callB cr_len (by rfl) B.len (by decide +kernel) (pa_cons (pv 1) pa_nil)) pa_nil)) (blkOk_by (N := ["_law_found", "_law_due_here", "_law_k"]) (sc := defScope s__law_alike) (by decide +kernel)) (fun _ _ _ _ _ => (pg_name (i := 2) sc__law_alike.nd rfl (Or.inl rfl))) (fun _ _ _ _ _ => (pts_one (pt_not (pt_val (pe_own G__law_alike hr (Nat.le_refl _) (by rfl) (pa_cons (pe_ix ixAny (pv 0) (pv 2) (fun _ _ => rfl)) (pa_cons (pe_ix ixAny (pv 1) (pv 2) (fun _ _ => rfl)) pa_nil))))))) (fun _ _ _ _ _ => (pv 2))) (pe_lst pa_nil) (nomark _)))))) pss_nil)
    (pss_cons (ps_if (PW.pt (pw_or (pt_cmpR op_isN (pv 1) pe_non (nomark _)) (pw_or1 (pt_val (pe_callB call_isi (by rfl) B.isinstance (by decide +kernel) (pa_cons (pv 1) (pa_cons (pe_bltn (v := .ty "str") (by rfl) B.str (by decide +kernel) rfl) pa_nil))))))) (pss_one (ps_ret (pe_and (pe_cmpR op_eq (pv 0) (pv 1) (nomark _)) (pe_one (pe_cmpR op_eq (pe_callB call_isi (by rfl) B.isinstance (by decide +kernel) (pa_cons (pv 0) (pa_cons (pe_bltn (v := .ty "str") (by rfl) B.str (by decide +kernel) rfl) pa_nil))) (pe_callB call_isi (by rfl) B.isinstance (by decide +kernel) (pa_cons (pv 1) (pa_cons (pe_bltn (v := .ty "str") (by rfl) B.str (by decide +kernel) rfl) pa_nil))) (nomark _)))))) pss_nil)
    (pss_one (ps_ret (pe_and (pe_callB call_isi (by rfl) B.isinstance (by decide +kernel) (pa_cons (pv 0) (pa_cons (pe_bltn (v := .ty "int") (by rfl) B.int (by decide +kernel) rfl) pa_nil))) (pe_and (pe_cmpR op_eq (pe_callB call_isi (by rfl) B.isinstance (by decide +kernel) (pa_cons (pv 0) (pa_cons (pe_bltn (v := .ty "bool") (by rfl) B.bool (by decide +kernel) rfl) pa_nil))) (pe_callB call_isi (by rfl) B.isinstance (by decide +kernel) (pa_cons (pv 1) (pa_cons (pe_bltn (v := .ty "bool") (by rfl) B.bool (by decide +kernel) rfl) pa_nil))) (nomark _)) (pe_one (pe_cmpR op_eq (pv 0) (pv 1) (nomark _))))))))), ?_⟩)
  obtain ⟨x, u, v, rfl, ru, rv, hx, hT, q⟩ := h
  dsimp only [Cx.nox, Cx.wish, cxOf]
  suffices hR : Run K _ _ [some (.v u), some (.v v), none] H from
    hR _ ⟨_, _, rfl, rfl, _, _, rfl, rfl, _, _, rfl, trivial, rfl⟩
  have cls : (∃ b1 b2, ((∃ ds, x = .d (.tup ds)) ∨ ∃ ds, x = .l ds) ∧ x.items.length ≤ 1000 ∧ D.fits lv x.items ∧ kitB x.ty "tuple" = some b1 ∧ kitB x.ty "list" = some b2 ∧ (b1 || b2) = true) ∨ (∃ i, x = .d (.int i)) ∨ (∃ z, x = .d (.str z)) ∨ x = .d .non := by
    rcases hx with ⟨d, rfl, hd⟩ | ⟨ds, rfl, hlen, hfit, _⟩
    · cases d with
      | non => exact .inr (.inr (.inr rfl))
      | bl b => exact hd.elim
      | tup ds => exact .inl ⟨true, false, .inl ⟨ds, rfl⟩, hd.1, hd.2.1, kb_tuple_tuple, kb_tuple_list, rfl⟩
      | int i => exact .inr (.inl ⟨i, rfl⟩)
      | str z => exact .inr (.inr (.inl ⟨z, rfl⟩))
    · exact .inl ⟨false, true, .inr ⟨ds, rfl⟩, hlen, hfit, kb_list_tuple, kb_list_list, rfl⟩
  clear hx
  rcases cls with ⟨b1, b2, hi, hlen, hfit, k1, k2, kb⟩ | ⟨i, rfl⟩ | ⟨z, rfl⟩ | rfl
  · -- a tuple or a list
    refine run_ifS hT (et_B (ev_isTL (ev_raw rfl) rv k1 k2)) (fun _ H1 g1 => ?_) fun e => by rw [kb] at e; cases e
    have ru1 := ru.up g1
    have rv1 := rv.up g1
    refine run_when g1.tbs ((et_or (a := false) ((et_not (et_B (ev_isTL (ev_raw rfl) ru1 k1 k2))).is (by rw [kb]; rfl)) fun _ => (et_test (ev_neB (ev_isA (ev_raw rfl) ru1 k2) (ev_isA (ev_raw rfl) rv1 k2))).is (c := false) (by simp)).is rfl) (fun e => nomatch e) fun _ H2 g2 => ?_
    have ru2 := ru1.up g2
    have rv2 := rv1.up g2
    refine run_when g2.tbs ((et_test (ev_neI (ev_lenA (ev_raw rfl) ru2 hi) (ev_lenA (ev_raw rfl) rv2 hi))).is (c := false) (by simp)) (fun e => nomatch e) fun _ H3 g3 => ?_
    have ru3 := ru2.up g3
    have rv3 := rv2.up g3
    refine run_last (run_ret g3.tbs (ev_eqNil ((ev_lc (fun _ => false) (fun _ => .non) (ei_range (ea_cons (ev_lenA (ev_raw rfl) rv3 hi) ea_nil) (by omega) (by omega)) (by simp; omega) fun i e H4 he g4 => ?_).is (madeD_none _ _)) (ev_lst ea_nil (by decide))) fun v' H4 g4 r => by
      cases (show v' = .bl true from r)
      exact q H4 (((g1.trans g2).trans g3).trans g4))
    rw [List.getElem?_map] at he
    have hlt : i < x.items.length := by
      cases hr : (List.range (x.items.length : Int).toNat)[i]? with
      | none => rw [hr] at he; cases he
      | some j => have := (List.getElem?_eq_some_iff.mp hr).1; rw [List.length_range] at this; omega
    rw [List.getElem?_range (by omega)] at he
    cases he
    have hat : atI x.items ((i : Nat) : Int) = some x.items[i] := atI_nat (List.getElem?_eq_getElem hlt)
    refine ⟨_, _, eg_name, by decide, (et_not (et_B (ev_alike (d := x.items[i]) (ea_cons (ev_ixA (ev_raw rfl) (ru3.up g4) hi (ev_var rfl) hat) (ea_cons (ev_ixA (ev_raw rfl) (rv3.up g4) hi (ev_var rfl) hat) ea_nil)) (D.fits_get hfit (List.getElem?_eq_getElem hlt))))).is rfl, fun e => nomatch e⟩
  · have eu : EvD T K (tVar 0) [some (.v u), some (.v v), none] H (.int i) := by cases (show u = .int i from ru); exact ev_ofV (ev_raw rfl)
    have ev : EvD T K (tVar 1) [some (.v u), some (.v v), none] H (.int i) := by cases (show v = .int i from rv); exact ev_ofV (ev_raw rfl)
    refine run_when hT (et_B (ev_isTL (ev_raw rfl) rv kb_int_tuple kb_int_list)) (fun e => nomatch e) fun _ H1 g1 => ?_
    refine run_when g1.tbs ((et_or (a := false) (et_test (ev_isN (ev.up g1) fun H v e => by cases (show v = .int i from e); simp)) fun _ => et_B (ev_isA (ev_raw rfl) (rv.up g1) kb_int_str)).is rfl) (fun e => nomatch e) fun _ H2 g2 => ?_
    · have ru2 := (ru.up g1).up g2
      have rv2 := (rv.up g1).up g2
      refine run_last (run_ret g2.tbs (ev_andV (ev_isA (ev_raw rfl) ru2 kb_int_int) fun _ => ev_andV (ev_eqB (ev_isA (ev_raw rfl) ru2 kb_int_bool) (ev_isA (ev_raw rfl) rv2 kb_int_bool)) fun _ => ev_eqI (eu.up (g1.trans g2)) (ev.up (g1.trans g2))) fun v' H4 g4 r => ?_)
      cases (show v' = .bl _ from r)
      have := q H4 ((g1.trans g2).trans g4)
      simpa using this
  · have eu : EvD T K (tVar 0) [some (.v u), some (.v v), none] H (.str z) := by cases (show u = .str z from ru); exact ev_ofS (ev_raw rfl)
    have ev : EvD T K (tVar 1) [some (.v u), some (.v v), none] H (.str z) := by cases (show v = .str z from rv); exact ev_ofS (ev_raw rfl)
    refine run_when hT (et_B (ev_isTL (ev_raw rfl) rv kb_str_tuple kb_str_list)) (fun e => nomatch e) fun _ H1 g1 => ?_
    refine run_when g1.tbs ((et_or (a := false) (et_test (ev_isN (ev.up g1) fun H v e => by cases (show v = .str z from e); simp)) fun _ => et_B (ev_isA (ev_raw rfl) (rv.up g1) kb_str_str)).is rfl) (fun _ H2 g2 => ?_) fun e => nomatch e
    · have ru2 := (ru.up g1).up g2
      have rv2 := (rv.up g1).up g2
      refine run_ret g2.tbs (ev_andV (ev_eqS (eu.up (g1.trans g2)) (ev.up (g1.trans g2))) fun _ => ev_eqB (ev_isA (ev_raw rfl) ru2 kb_str_str) (ev_isA (ev_raw rfl) rv2 kb_str_str)) fun v' H4 g4 r => ?_
      cases (show v' = .bl _ from r)
      have := q H4 ((g1.trans g2).trans g4)
      simpa using this
  · cases (show u = .non from ru); cases (show v = .non from rv)
    have eu : EvD T K (tVar 0) [some (.v .non), some (.v .non), none] H .non := fun σ H1 g s Q q => ⟨.non, s.raw rfl, q _ H1 g.self rfl⟩
    have ev : EvD T K (tVar 1) [some (.v .non), some (.v .non), none] H .non := fun σ H1 g s Q q => ⟨.non, s.raw rfl, q _ H1 g.self rfl⟩
    refine run_when hT (et_B (ev_isTL (ev_raw rfl) rv kb_non_tuple kb_non_list)) (fun e => nomatch e) fun _ H1 g1 => ?_
    have e0 : EvT T K (tTest (tOp (fun x y H Q => y = .non ∧ Q (.bl (decide (x = .non))) H) (tVar 1) (tC .non))) [some (.v .non), some (.v .non), none] H1 true := et_test fun σ H2 g s Q q => ev σ H2 (g1.trans g) s _ fun v H3 g3 r => ⟨rfl, by
      cases (show v = .non from r)
      exact q _ H3 g3 rfl⟩
    refine run_when g1.tbs ((et_or (b := false) e0 fun e => nomatch e).is rfl) (fun _ H2 g2 => ?_) fun e => nomatch e
    have g12 := g1.trans g2
    have e1 : EvD T K (tOp rEq (tVar 0) (tVar 1)) [some (.v .non), some (.v .non), none] H2 (.bl true) := ev_op (eu.up g12) (ev.up g12) fun v w H1 g1 e1 e2 Q q => by
      cases (show v = .non from e1); cases (show w = .non from e2)
      exact ⟨rfl, by have := q (.bl true) H1 g1.self rfl; simpa using this⟩
    refine run_ret g2.tbs (ev_andV e1 fun _ => ev_eqB (ev_isA (ev_raw rfl) (ru.up g12) kb_non_str) (ev_isA (ev_raw rfl) (rv.up g12) kb_non_str)) fun v' H4 g4 r => ?_
    cases (show v' = .bl _ from r)
    have := q H4 (g12.trans g4)
    simpa using this
end
end Pd
set_option maxHeartbeats 8000000
namespace Pd
open PySem PySem.Spec PyProof.Rows L2 TL
theorem atI_neg1 {α : Type} {l : List α} {x : α} (h : l.getLast? = some x) : atI l (-1) = some x := by
  obtain ⟨ys, rfl⟩ := List.getLast?_eq_some_iff.mp h
  unfold atI ixN
  rw [if_neg (by decide), List.length_append, List.length_singleton]
  rw [if_pos (show -((ys.length + 1 : Nat) : Int) ≤ -1 by omega), show (-1 + ((ys.length + 1 : Nat) : Int)).toNat = ys.length by omega]
  simp
section
variable {P : Program} {w : World} {K : PySem.W.Frag} {mg : Str → Option Value} {base : Heap} {T : Tb} {f : Addr} {fd : FuncData}
theorem ok_taken (B : Bl mg) (A : At K mg "_law_taken" s__law_taken ["_law_rows_here", "_law_at"] f fd) (G__law_two : Ok P w K mg base 1 "_law_two" ["_law_words", "_law_head"] (spTwo T K)) : ∀ lv : Nat, Ok P w K mg base (lv + 1) "_law_taken" ["_law_rows_here", "_law_at"] (spTaken T K lv) := by
  intro lv
  induction lv with
  | zero => exact A.none fun vs H Q E ⟨_, _, _, _, _, _, _, _, _, _⟩ => by omega
  | succ lv G__law_taken =>
  have hk1 : 1 ≤ lv + 1 := by omega
  refine A.ok (A.F.ok (k := lv + 1) sc__law_taken (fun vs H Q E ⟨_, _, _, e, _⟩ => by rw [e]; rfl) fun cdv A' outer s H vs Q E hr h => ⟨_, (pss_cons (ps_if (pt_cmpR op_ge (pv 1) (pe_callB cr_len (by rfl) B.len (by decide +kernel) (pa_cons (pv 0) pa_nil)) (nomark _)) (pss_one (ps_ret (pe_tup (pa_cons pe_non (pa_cons (pe_callB cr_len (by rfl) B.len (by decide +kernel) (pa_cons (pv 0) pa_nil)) pa_nil))))) pss_nil)
    (pss_cons (ps_set (i := 2) sc__law_taken.nd rfl (Or.inl rfl) (pe_split (pe_ix ix_list (pv 0) (pv 1) (fun _ _ => rfl)) pe_str))
    (pss_cons (ps_if (pt_cmpR op_eq (pe_ix ix_list (pv 2) pe_int (fun _ _ => rfl)) pe_str (nomark _)) (pss_cons (ps_setLc (i := 3) (own := [("_law_sign", 10)]) rfl sc__law_taken.nd rfl rfl (sw_true rfl rfl rfl (by decide +kernel)) (pi_str (pe_ix ix_list (pv 2) (pe_un un_neg pe_int) (fun _ _ => rfl))) (blkOk_by (N := ["_law_rows_here", "_law_at", "_law_words", "_law_signs", "_law_good", "_law_head", "_law_doors", "_law_k", "_law_pair", "_law_inner", "_law_sign"]) (sc := defScope s__law_taken) (by decide +kernel)) (fun _ _ _ _ _ => (pg_name (i := 10) sc__law_taken.nd rfl (Or.inl rfl))) (fun _ _ _ _ _ => (pts_one (pt_not (pt_chain op_le_str op_le_str pe_str (pv 10) pe_str)))) (fun _ _ _ _ _ => (pv 10)))
    (pss_cons (ps_set (i := 4) sc__law_taken.nd rfl (Or.inl rfl) (pe_and (pe_cmpR op_eq (pe_callB cr_len (by rfl) B.len (by decide +kernel) (pa_cons (pv 2) pa_nil)) pe_int (nomark _)) (pe_and (pe_chain op_le op_le pe_int (pe_callB cr_lenS (by rfl) B.len (by decide +kernel) (pa_cons (pe_ix ix_list (pv 2) pe_int (fun _ _ => rfl)) pa_nil)) pe_int) (pe_one (pe_cmpR (op_eqD (hu64 hr)) (pv 3) (pe_lst pa_nil) (nomark _))))))
    (pss_one (ps_ret (pe_ifExp (pt_val (pv 4)) (pe_tup (pa_cons (pe_ix ix_list (pv 2) pe_int (fun _ _ => rfl)) (pa_cons (pe_op op_add (pv 1) pe_int) pa_nil))) (pe_tup (pa_cons pe_non (pa_cons (pv 1) pa_nil)))))))) pss_nil)
    (pss_cons (ps_set (i := 5) sc__law_taken.nd rfl (Or.inl rfl) (pe_own G__law_two hr hk1 (by rfl) (pa_cons (pv 2) (pa_cons pe_str pa_nil))))
    (pss_cons (ps_if (pt_cmpR op_isN (pv 5) pe_non (nomark _)) (pss_one (ps_ret (pe_tup (pa_cons pe_non (pa_cons (pv 1) pa_nil))))) pss_nil)
    (pss_cons (ps_par (i := 6) (j := 1) rfl sc__law_taken.nd rfl rfl (by decide) rfl rfl (pa_cons (pe_lst pa_nil) (pa_cons (pe_op op_add (pv 1) pe_int) pa_nil)) (by rfl))
    (pss_cons (ps_for PassesOwn.never rfl (pi_range1 (by rfl) B.range (pa_cons (pe_ix ix_tup (pv 5) pe_int (fun _ _ => rfl)) pa_nil)) (pg_name (i := 7) sc__law_taken.nd rfl (Or.inl rfl)) (pss_cons (ps_set (i := 8) sc__law_taken.nd rfl (Or.inl rfl) (pe_ifExp (pt_cmpR op_ge (pv 1) (pe_callB cr_len (by rfl) B.len (by decide +kernel) (pa_cons (pv 0) pa_nil)) (nomark _)) pe_non (pe_own G__law_two hr hk1 (by rfl) (pa_cons (pe_split (pe_ix ix_list (pv 0) (pv 1) (fun _ _ => rfl)) pe_str) (pa_cons pe_str pa_nil)))))
    (pss_cons (ps_if (pt_cmpR op_isN (pv 8) pe_non (nomark _)) (pss_one (ps_ret (pe_tup (pa_cons pe_non (pa_cons (pv 1) pa_nil))))) pss_nil)
    (pss_cons (ps_asg (pe_own G__law_taken hr (Nat.le_refl _) (by rfl) (pa_cons (pv 0) (pa_cons (pe_op op_add (pv 1) pe_int) pa_nil))) (pg_tup (n := 2) rfl (pgs_cons (pg_name (i := 9) sc__law_taken.nd rfl (Or.inl rfl)) (pgs_cons (pg_name (i := 1) sc__law_taken.nd rfl (Or.inl rfl)) pgs_nil))))
    (pss_cons (ps_if (pt_cmpR op_isN (pv 9) pe_non (nomark _)) (pss_one (ps_ret (pe_tup (pa_cons pe_non (pa_cons (pv 1) pa_nil))))) pss_nil)
    (pss_one (ps_expr (pe_bm PySem.F.plainAttrs_list PySem.F.slot_list_append PySem.F.type_list_append mt_append (pv 6) (pa_cons (pe_tup (pa_cons (pe_ix ix_tup (pv 8) pe_int (fun _ _ => rfl)) (pa_cons (pe_ix ix_tup (pv 8) pe_int (fun _ _ => rfl)) (pa_cons (pv 9) pa_nil)))) pa_nil)))))))))
    (pss_one (ps_ret (pe_tup (pa_cons (pe_tup (pa_cons (pe_ix ix_tup (pv 5) pe_int (fun _ _ => rfl)) (pa_cons (pe_callTy cr_tup (by rfl) B.tuple (by decide +kernel) (pa_cons (pv 6) pa_nil)) pa_nil))) (pa_cons (pv 1) pa_nil)))))))))))), ?_⟩)
  obtain ⟨l, x, n, rfl, hl, hx, hasc, hn, hlv, hT, q⟩ := h
  dsimp only [Cx.nox, Cx.wish, cxOf]
  suffices hR : Run K _ _ [some (.v (.ref l)), some (.d (.int (n : Nat))), none, none, none, none, none, none, none, none, none] H from
    hR _ ⟨_, _, rfl, rfl, _, _, rfl, rfl, _, _, rfl, trivial, _, _, rfl, trivial, _, _, rfl, trivial, _, _, rfl, trivial, _, _, rfl, trivial, _, _, rfl, trivial, _, _, rfl, trivial, _, _, rfl, trivial, _, _, rfl, trivial, rfl⟩
  have hWR : (wordsOf x).length = (Txt.split x "\n").length := by unfold wordsOf; rw [List.length_map]
  have wl1 := (wordsOf_len x).1
  refine run_when hT (et_test (ev_B0 (ev_var rfl) (ev_lenL (ev_raw rfl) hl))) (fun e H1 g1 => ?_) fun e H1 g1 => ?_
  · have hn2 : n = (wordsOf x).length := by
      simp only [decide_eq_true_eq, List.length_map] at e
      omega
    refine run_ret g1.tbs (ev_tup (ea_cons ev_non (ea_cons ((ev_lenL (ev_raw rfl) (g1.lst hl (by simp))).is (x := .int ((n + 0 : Nat) : Int)) (by rw [List.length_map]; congr 2; omega)) ea_nil)) (by simp)) fun v H2 g2 r => q _ v H2 (.inr ⟨0, ?_, rfl⟩) (g1.trans g2) r
    rw [List.drop_of_length_le (by omega)]
    exact Stuck.now (st := []) (.inl rfl)
  · have hn2 : n < (wordsOf x).length := by
      simp only [decide_eq_false_iff_not, List.length_map] at e
      omega
    obtain ⟨ws, hw⟩ : ∃ ws, (wordsOf x)[n]? = some ws := ⟨_, List.getElem?_eq_getElem hn2⟩
    obtain ⟨row, hrow, ews, _, wne, rl, wwl, wwn⟩ := wordsOf_get hw
    have hdr := drop_at hw
    have hl1 := g1.lst hl (by simp)
    refine run_asgL g1.tbs (el_split (ev_ixW (w := row) (ev_raw rfl) (ev_var rfl) hl1 (atI_nat (j := n) hrow)) ev_str (by decide +kernel) (by omega)) fun p xp H2 np g2 ep rp => ?_
    rw [← ews] at rp
    have := Reps.strs rp
    subst this
    have stop : canStand ws "room" = false → ∀ v H', Gr T [] H H' → Rep K H' (.tup [.non, .int ((n + 0 : Nat) : Int)]) v → Q v H' := fun hc v H' g r => by
      refine q _ v H' (.inr ⟨0, ?_, rfl⟩) g r
      rw [hdr]
      exact Stuck.now (st := []) (.inr ⟨ws, rfl, hc⟩)
    obtain ⟨w0, r, rfl⟩ : ∃ w0 r, ws = w0 :: r := by cases ws with
      | nil => exact absurd rfl wne
      | cons a b => exact ⟨a, b, rfl⟩
    refine run_when g2.tbs (et_test (ev_eqS (ev_ixW (w := w0) (ev_raw rfl) ev_int ep (atI_nat (j := 0) rfl)) ev_str)) (fun e0 H3 g3 => ?_) fun e0 H3 g3 => ?_
    · -- a way out
      have e0' : w0 = "out" := by simpa using e0
      have ep3 := g3.lst ep (by simp)
      obtain ⟨z, hz⟩ : ∃ z, (w0 :: r).getLast? = some z := ⟨_, List.getLast?_eq_getLast (by simp)⟩
      have hzm : z ∈ w0 :: r := List.mem_of_getLast? hz
      have hzl : z.length ≤ 400 := Nat.le_trans (wwl z hzm) hx
      have zl : z.length = z.cps.toList.length := by rw [Array.length_toList]; rfl
      refine run_asgL g3.tbs (ev_lc (fun k => (fun c : Nat => !(decide (97 ≤ c) && decide (c ≤ 122))) (z.cps.toList.getD k 0)) (fun k => .str ⟨#[z.cps.toList.getD k 0]⟩) (ei_str (ev_ixW (w := z) (ev_raw rfl) ((ev_neg ev_int).is rfl) ep3 (atI_neg1 hz))) (by unfold signsD; rw [List.length_map]; omega) fun k e H4 he g4 => ?_) fun lg xs H4 nlg g4 elg rlg => ?_
      · unfold signsD at he
        rw [List.getElem?_map] at he
        obtain ⟨c, hc, ec⟩ := Option.map_eq_some_iff.mp he
        subst ec
        have hcg : z.cps.toList.getD k 0 = c := by rw [List.getD_eq_getElem?_getD, hc]; rfl
        rw [hcg]
        refine ⟨_, _, eg_name, by simp, ?_, fun _ => ev_var rfl⟩
        refine (et_not (et_test (ev_chainS ev_str (ev_var rfl) ev_str))).is ?_
        rw [s_a, s_z, leS_lo, leS_lo]
      · rw [show (signsD z).length = z.cps.toList.length by unfold signsD; rw [List.length_map]] at rlg
        have ep4 := g4.lst ep3 (by simp)
        have hcan : D.cans 60 (madeD (fun i => (fun c : Nat => !(decide (97 ≤ c) && decide (c ≤ 122))) (z.cps.toList.getD i 0)) (fun k => .str ⟨#[z.cps.toList.getD k 0]⟩) z.cps.toList.length) := D.cans_all fun d hd => by
          unfold madeD at hd
          obtain ⟨i, hi, rfl⟩ := List.mem_map.mp hd
          have hi2 := List.mem_range.mp (List.mem_filter.mp hi).1
          have := hasc _ (wordsOf_signs hw hzm (show z.cps.toList[i] ∈ tl z from List.getElem_mem hi2))
          show PyData.strOk ⟨#[z.cps.toList.getD i 0]⟩ = true
          rw [List.getD_eq_getElem?_getD, List.getElem?_eq_getElem hi2, Option.getD_some]
          simp only [PyData.strOk]
          simp
          rw [Array.getElem_toList] at this
          omega
        refine run_asg (d := .bl (decide (r.length = 1) && decide (okName (r.headD "")))) g4.tbs (ev_andV ((ev_eqI (ev_lenL (ev_raw rfl) ep4) ev_int).is (x := .bl (decide (r.length = 1))) (by congr 1; exact decide_eq_decide.mpr (by rw [List.length_map, List.length_cons]; omega))) fun hlen => ?_) fun H5 g5 => ?_
        · obtain ⟨nm, rfl⟩ : ∃ nm, r = [nm] := by
            match r, (of_decide_eq_true hlen : r.length = 1) with
            | [nm], _ => exact ⟨nm, rfl⟩
          have : z = nm := by simpa using hz.symm
          subst this
          refine (ev_andV (ev_chain ev_int (ev_lenS (ev_ixW (w := z) (ev_raw rfl) ev_int ep4 (atI_nat (j := 1) rfl)) (by omega)) ev_int) fun _ => ev_eqLNx (ev_raw rfl) elg rlg (ev_lst ea_nil (by simp)) hcan (by decide)).is ?_
          rw [letters]
          show D.bl _ = D.bl (decide (okName z))
          rw [okName_letters]
          congr 3
          · exact decide_eq_decide.mpr (by omega)
          · exact decide_eq_decide.mpr (by omega)
        · have g05 : Gr T [] H H5 := (((g1.trans g2).trans g3).trans g4).trans g5
          have ep5 := g5.lst ep4 (by simp)
          cases hb : (decide (r.length = 1) && decide (okName (r.headD ""))) with
          | true =>
            rw [Bool.and_eq_true, decide_eq_true_eq, decide_eq_true_eq] at hb
            obtain ⟨nm, rfl⟩ : ∃ nm, r = [nm] := by
              match r, hb.1 with
              | [nm], _ => exact ⟨nm, rfl⟩
            refine run_ret (d := .tup [.str nm, .int ((n + 1 : Nat) : Int)]) g5.tbs (ev_if (b := true) (et_B (ev_var rfl)) (fun _ => ev_tup (ea_cons (ev_ixW (w := nm) (ev_raw rfl) ev_int ep5 (atI_nat (j := 1) rfl)) (ea_cons ((ev_I0 (ev_var rfl) ev_int).is (by simp)) ea_nil)) (by simp)) fun e => nomatch e) fun v H6 g6 rr => q _ v H6 (.inl ⟨.out nm, hb.2, ⟨_, by rw [hdr, e0']; rfl⟩, rfl⟩) (g05.trans g6) rr
          | false =>
            refine run_ret (d := .tup [.non, .int ((n + 0 : Nat) : Int)]) g5.tbs (ev_if (b := false) (et_B (ev_var rfl)) (fun e => nomatch e) fun _ => ev_tup (ea_cons ev_non (ea_cons (ev_var rfl) ea_nil)) (by simp)) fun v H6 g6 rr => stop ?_ v H6 (g05.trans g6) rr
            rw [canStand_cons, if_pos e0', decide_eq_true rfl, Bool.true_and]
            exact hb
    · have e0' : w0 ≠ "out" := by simpa using e0
      have ep3 := g3.lst ep (by simp)
      have wwl' : ∀ y ∈ w0 :: r, y.length ≤ 10000 := fun y hy => by have := wwl y hy; omega
      rcases two_all (w0 :: r) (x := "room") (.inl rfl) with ⟨a, b, fa, fb, ew⟩ | hno
      · refine run_asg (d := .tup [.int a, .int b]) g3.tbs (ev_two (ev_raw rfl) ev_str ep3 (by simp) wwl' (by omega) (.inl ⟨a, b, fa, fb, ew, rfl⟩)) fun H4 g4 => ?_
        refine run_when g4.tbs (et_test (ev_isNd (ev_var rfl) (by simp))) (fun e => nomatch e) fun _ H5 g5 => ?_
        refine run_parLD g5.tbs (ev_lst ea_nil (by simp)) ((ev_I0 (ev_var rfl) ev_int).is (x := .int ((n + 1 + 0 : Nat) : Int)) (by simp)) fun dl xs0 H6 ndl g6 edl rdl => ?_
        cases (show xs0 = [] from rdl)
        rw [ew] at hdr
        have g05 : Gr T [] H H5 := (((g1.trans g2).trans g3).trans g4).trans g5
        have g06 := g05.trans g6
        have ndl0 : H dl = none := g05.dom dl ndl
        have nl : l ≠ dl := fun z => by subst z; rw [hl] at ndl0; cases ndl0
        have hl6 := g06.lst hl (by simp)
        have back : ∀ {Hx : Hp}, Gr T [dl] H6 Hx → Gr T [] H Hx := fun g => (Gr.refl hT).drop (g06.any.trans g) ndl0
        refine run_forS (S := [dl]) g6.tbs (ei_range (ea_cons (ev_ixT (d := .int b) (ev_var rfl) ev_int (atI_nat (j := 1) rfl)) ea_nil) (by obtain ⟨_, _⟩ := fb; omega) (by obtain ⟨_, _⟩ := fb; omega))
          (fun i δ Hx => ∃ (pre : Doors) (a2 a3 a4 a7 a8 a9 a10 : Option SD) (ds : List V), δ = [some (.v (.ref l)), some (.d (.int ((n + 1 + pre.words.length : Nat) : Int))), a2, a3, a4, some (.d (.tup [.int a, .int b])), some (.v (.ref dl)), a7, a8, a9, a10] ∧ pre.figs ∧ pre.len = i ∧ i ≤ b.toNat ∧ (wordsOf x).drop (n + 1) = pre.words ++ (wordsOf x).drop (n + 1 + pre.words.length) ∧ n + 1 + pre.words.length ≤ (wordsOf x).length ∧ Hx dl = some (.lst ds) ∧ Reps K Hx pre.toDs ds)
          (fun Hx gx => ⟨.nil, _, _, _, _, _, _, _, [], rfl, trivial, rfl, Nat.zero_le _, by simp [Doors.words], by simp only [Doors.words, List.length_nil]; omega, gx.lst edl (by simp), rfl⟩)
          (fun i δ Ha Hb g ⟨pre, a2, a3, a4, a7, a8, a9, a10, ds, b1, b2, b3, b4, b5, b6, b7, b8⟩ => ⟨pre, a2, a3, a4, a7, a8, a9, a10, ds, b1, b2, b3, b4, b5, b6, g.lst b7 (by simp), b8.up g⟩)
          (fun i d0 δi Ha N hdi ga ⟨pre, a2, a3, a4, a7, a8, a9, a10, ds, b1, b2, b3, b4, b5, b6, b7, b8⟩ hN => ?_) fun δe Ha ga ⟨pre, a2, a3, a4, a7, a8, a9, a10, ds, b1, b2, b3, b4, b5, b6, b7, b8⟩ => ?_
        · subst b1
          have hib : i < b.toNat := by
            have := (List.getElem?_eq_some_iff.mp hdi).1
            simpa using this
          refine ⟨_, _, eg_name, ?_⟩
          have hla := ga.lst hl6 (by simpa using nl)
          have drp : (wordsOf x).drop n = ((["room", num a, num b] : List Str) :: pre.words) ++ (wordsOf x).drop (n + 1 + pre.words.length) := by rw [hdr, b5]; rfl
          have halt : ∀ k, Stuck [("door" : Str)] ((wordsOf x).drop (n + 1 + pre.words.length)) k → ∀ v H', Gr T [] H H' → Rep K H' (.tup [.non, .int ((n + 1 + pre.words.length + k : Nat) : Int)]) v → Q v H' := fun k hk v H' g rr => by
            refine q _ v H' (.inr ⟨1 + pre.words.length + k, ?_, ?_⟩) g rr
            · rw [drp]; exact taken_door fa fb b2 (by omega) hk
            · congr 4; omega
          -- the door's row
          by_cases hend : n + 1 + pre.words.length < (wordsOf x).length
          · obtain ⟨ws2, hw2⟩ : ∃ ws, (wordsOf x)[n + 1 + pre.words.length]? = some ws := ⟨_, List.getElem?_eq_getElem hend⟩
            obtain ⟨row2, hrow2, ews2, _, wne2, rl2, wwl2, wwn2⟩ := wordsOf_get hw2
            have hdr2 := drop_at hw2
            have wwl2' : ∀ y ∈ ws2, y.length ≤ 10000 := fun y hy => by have := wwl2 y hy; omega
            rcases two_all ws2 (x := "door") (.inr rfl) with ⟨nn, ss, fn, fs, ew2⟩ | hno
            · refine run_asg (d := .tup [.int nn, .int ss]) ga.tbs (ev_if (b := false) ((et_test (ev_B0 (ev_var rfl) (ev_lenL (ev_raw rfl) hla))).is (by rw [List.length_map]; exact decide_eq_false (by omega))) (fun e => nomatch e) fun _ => ev_twoN (ws := ws2) (by rw [ews2]; exact el_split (ev_ixW (w := row2) (ev_raw rfl) (ev_var rfl) hla (atI_nat (j := n + 1 + pre.words.length) hrow2)) ev_str (by decide +kernel) (by omega)) ev_str wne2 wwl2' (by omega) (.inl ⟨nn, ss, fn, fs, ew2, rfl⟩)) fun Hb gb => ?_
              refine run_when gb.tbs (et_test (ev_isNd (ev_var rfl) (by simp))) (fun e => nomatch e) fun _ Hc gc => ?_
              have hlc := (gb.trans gc).lst hla (by simp)
              refine run_asgP gc.tbs (ev_taken (n := n + 1 + pre.words.length + 1) (ev_raw rfl) ((ev_I0 (ev_var rfl) ev_int).is (by simp)) hlc hx hasc (by omega) (by omega)) fun d Hd hd gd => ?_
              have gad := (gb.trans gc).trans gd
              have gal : Gr T [] H Hd := back (ga.trans gad.any)
              rcases hd with ⟨h, hf, ⟨rest, hrest⟩, rfl⟩ | ⟨k, hk, rfl⟩
              · refine ⟨_, _, eg_tup rfl (eg_cons eg_name (eg_cons eg_name eg_nil)), ?_⟩
                refine run_when gd.tbs (et_test (ev_isNd (ev_var rfl) (by cases h <;> simp [House.toD]))) (fun e => nomatch e) fun _ He ge => ?_
                have gae := gad.trans ge
                have b7e := gae.lst b7 (by simp)
                have dl_len : ds.length = pre.len := by rw [b8.len, Doors.toDs_len]
                refine run_last (run_appD ge.tbs (ev_raw rfl) (ev_tup (ea_cons (ev_ixT (d := .int nn) (ev_var rfl) ev_int (atI_nat (j := 0) rfl)) (ea_cons (ev_ixT (d := .int ss) (ev_var rfl) ev_int (atI_nat (j := 1) rfl)) (ea_cons (ev_var rfl) ea_nil))) (by simp)) b7e (by obtain ⟨_, _⟩ := fb; omega) fun v Hf gf ef rf => run_next fun σ sl => ?_)
                have gp : Gr T [dl] Hf (upd Hf dl (.lst (ds ++ [v]))) := (Gr.refl gf.tbs).put ef (.inl (by simp))
                obtain ⟨m1, m2⟩ := drop_more (by omega) hrest
                have ewl : (pre.app (.cons nn ss h .nil)).words.length = pre.words.length + (1 + h.words.length) := by
                  rw [Doors.words_app]; simp only [Doors.words, List.length_append, List.length_cons, List.length_nil]; omega
                refine hN σ _ _ ((gae.trans gf).any.trans gp) ⟨pre.app (.cons nn ss h .nil), a2, a3, a4, some (.d d0), some (.d (.tup [.int nn, .int ss])), some (.d h.toD), a10, ds ++ [v], by rw [show n + 1 + (pre.app (.cons nn ss h .nil)).words.length = n + 1 + pre.words.length + 1 + h.words.length by omega]; rfl, Doors.figs_app _ _ b2 ⟨fn, fs, hf, trivial⟩, by rw [Doors.len_app]; simp only [Doors.len]; omega, by omega, ?_, by omega, upd_same, ?_⟩ sl
                · rw [b5, hdr2, hrest, ewl, Doors.words_app, m1, ew2]
                  simp only [Doors.words, List.append_assoc, List.cons_append, List.append_nil]
                  congr 4; omega
                · rw [Doors.toDs_app]
                  exact ((b8.up (gae.trans gf)).app (ds := pre.toDs) (es := [.tup [.int nn, .int ss, h.toD]]) ⟨v, [], rfl, rf, rfl⟩).up gp
              · refine ⟨_, _, eg_tup rfl (eg_cons eg_name (eg_cons eg_name eg_nil)), ?_⟩
                refine run_when gd.tbs (et_test (ev_isN0 (ev_var rfl))) (fun _ He ge => ?_) fun e => nomatch e
                refine run_ret ge.tbs (ev_tup (ea_cons ev_non (ea_cons (ev_var rfl) ea_nil)) (by simp)) fun v Hf gf rf => halt (1 + k) ?_ v Hf ((gal.trans ge).trans gf) (by rw [show n + 1 + pre.words.length + (1 + k) = n + 1 + pre.words.length + 1 + k by omega]; exact rf)
                rw [hdr2, ew2]
                exact Stuck.after (U := [(["door", num nn, num ss] : List Str)]) ⟨[], "door", ["room"], rfl, .door nn ss fn fs, rfl⟩ hk
            · refine run_asg (d := .non) ga.tbs (ev_if (b := false) ((et_test (ev_B0 (ev_var rfl) (ev_lenL (ev_raw rfl) hla))).is (by rw [List.length_map]; exact decide_eq_false (by omega))) (fun e => nomatch e) fun _ => ev_twoN (ws := ws2) (by rw [ews2]; exact el_split (ev_ixW (w := row2) (ev_raw rfl) (ev_var rfl) hla (atI_nat (j := n + 1 + pre.words.length) hrow2)) ev_str (by decide +kernel) (by omega)) ev_str wne2 wwl2' (by omega) (.inr ⟨hno, rfl⟩)) fun Hb gb => ?_
              refine run_when gb.tbs (et_test (ev_isN0 (ev_var rfl))) (fun _ Hc gc => ?_) fun e => nomatch e
              refine run_ret gc.tbs (ev_tup (ea_cons ev_non (ea_cons (ev_var rfl) ea_nil)) (by simp)) fun v Hd gd rd => halt 0 ?_ v Hd (back (ga.trans ((gb.trans gc).trans gd).any)) rd
              rw [hdr2]
              exact Stuck.now (st := []) (.inr ⟨ws2, rfl, isTwo_door hno⟩)
          · refine run_asg (d := .non) ga.tbs (ev_if (b := true) ((et_test (ev_B0 (ev_var rfl) (ev_lenL (ev_raw rfl) hla))).is (by rw [List.length_map]; exact decide_eq_true (by omega))) (fun _ => ev_non) fun e => nomatch e) fun Hb gb => ?_
            refine run_when gb.tbs (et_test (ev_isN0 (ev_var rfl))) (fun _ Hc gc => ?_) fun e => nomatch e
            refine run_ret gc.tbs (ev_tup (ea_cons ev_non (ea_cons (ev_var rfl) ea_nil)) (by simp)) fun v Hd gd rd => halt 0 ?_ v Hd (back (ga.trans ((gb.trans gc).trans gd).any)) rd
            rw [List.drop_of_length_le (by omega)]
            exact Stuck.now (st := []) (.inl rfl)
        · subst b1
          have e3 : pre.len = b.toNat := by simpa using b3
          refine run_ret ga.tbs (ev_tup (ea_cons (ev_tup (ea_cons (ev_ixT (d := .int a) (ev_var rfl) ev_int (atI_nat (j := 0) rfl)) (ea_cons (ev_tupL (ev_raw rfl) b7 b8) ea_nil)) (by simp)) (ea_cons (ev_var rfl) ea_nil)) (by simp)) fun v Hb gb rb => q _ v Hb (.inl ⟨.room a pre, ⟨fa, by obtain ⟨_, _⟩ := fb; omega, b2⟩, ⟨(wordsOf x).drop (n + 1 + pre.words.length), ?_⟩, ?_⟩) (back (ga.trans gb.any)) rb
          · rw [hdr, b5, House.words, e3, Int.toNat_of_nonneg fb.1]; rfl
          · simp only [House.words, List.length_cons, House.toD]
            congr 4; omega
      · refine run_asg (d := .non) g3.tbs (ev_two (ev_raw rfl) ev_str ep3 (by simp) wwl' (by omega) (.inr ⟨hno, rfl⟩)) fun H4 g4 => ?_
        refine run_when g4.tbs (et_test (ev_isN0 (ev_var rfl))) (fun _ H5 g5 => ?_) fun e => nomatch e
        exact run_ret (d := .tup [.non, .int ((n + 0 : Nat) : Int)]) g5.tbs (ev_tup (ea_cons ev_non (ea_cons (ev_var rfl) ea_nil)) (by simp)) fun v H6 g6 rr => stop (by rw [isTwo_can e0']; exact hno) v H6 (((((g1.trans g2).trans g3).trans g4).trans g5).trans g6) rr
end
end Pd
namespace Pd
open PySem PySem.Spec PyProof.Rows L2 TL
theorem okName.strOk {n : Str} (h : okName n) : PyData.strOk n = true := by
  unfold PyData.strOk
  rw [← Array.all_toList, List.all_eq_true]
  intro c hc
  have := h.2.2 c hc
  exact decide_eq_true (by omega)
mutual
theorem House.canF : ∀ (h : House) (k : Nat), h.figs → 3 * h.deep ≤ k → h.toD.can k
  | .out n, k, h, _ => okName.strOk h
  | .room hand ds, k, ⟨_, _, h⟩, hk => by
    simp only [House.deep] at hk
    exact ⟨by omega, trivial, ⟨by omega, Doors.canF ds (k - 1 - 1) h (by omega)⟩, trivial⟩
theorem Doors.canF : ∀ (ds : Doors) (k : Nat), ds.figs → 3 * ds.deep + 1 ≤ k → D.cans k ds.toDs
  | .nil, _, _, _ => trivial
  | .cons n s h r, k, ⟨_, _, h5, h6⟩, hk => by
    simp only [Doors.deep] at hk
    exact ⟨⟨by omega, trivial, trivial, House.canF h (k - 1) h5 (by omega), trivial⟩, Doors.canF r k h6 (by omega)⟩
end
theorem Doors.get_figs : ∀ (ds : Doors) (i : Nat) {n s : Int} {h : House}, ds.figs → ds.get? i = some (n, s, h) → fig n ∧ fig s ∧ h.figs
  | .nil, _, _, _, _, _, e => by simp [Doors.get?] at e
  | .cons n s h r, 0, _, _, _, ⟨a, b, c, d⟩, e => by cases e; exact ⟨a, b, c⟩
  | .cons n s h r, i + 1, _, _, _, ⟨a, b, c, d⟩, e => Doors.get_figs r i d e
theorem none_madeD {b : D → Bool} {L : List D} : (madeD (fun i => !b (L.getD i .non)) (fun i => L.getD i .non) L.length).isEmpty = L.all b := by
  unfold madeD
  rw [List.isEmpty_map]
  cases e : L.all b with
  | true =>
    rw [List.all_eq_true] at e
    rw [List.isEmpty_iff, List.filter_eq_nil_iff]
    intro i hi
    rw [List.mem_range] at hi
    have := e L[i] (List.getElem_mem hi)
    simp only [List.getD_eq_getElem?_getD, List.getElem?_eq_getElem hi, Option.getD_some, Bool.not_eq_true]
    rw [this]; rfl
  | false =>
    rw [List.all_eq_false] at e
    obtain ⟨c, hc, hp⟩ := e
    obtain ⟨i, hi, e⟩ := List.mem_iff_getElem.mp hc
    have : i ∈ (List.range L.length).filter (fun i => !b (L.getD i .non)) := by
      rw [List.mem_filter]
      refine ⟨List.mem_range.mpr hi, ?_⟩
      simp only [List.getD_eq_getElem?_getD, List.getElem?_eq_getElem hi, Option.getD_some]
      rw [e]; simpa using hp
    cases q : (List.range L.length).filter (fun i => !b (L.getD i .non)) with
    | nil => rw [q] at this; cases this
    | cons _ _ => rfl
theorem madeD_mem {p : Nat → Bool} {L : List D} {d : D} (h : d ∈ madeD p (fun i => L.getD i .non) L.length) : d ∈ L := by
  unfold madeD at h
  obtain ⟨i, hi, rfl⟩ := List.mem_map.mp h
  have := List.mem_range.mp (List.mem_filter.mp hi).1
  simp only [List.getD_eq_getElem?_getD, List.getElem?_eq_getElem this, Option.getD_some]
  exact List.getElem_mem this
theorem D.cans_mem {k : Nat} : ∀ {ds : List D}, D.cans k ds → ∀ d ∈ ds, d.can k
  | d :: ds, ⟨h1, h2⟩, x, hx => by
    rcases List.mem_cons.mp hx with rfl | hx
    · exact h1
    · exact D.cans_mem h2 x hx
section
variable {P : Program} {w : World} {K : PySem.W.Frag} {mg : Str → Option Value} {base : Heap} {T : Tb} {f : Addr} {fd : FuncData}
def badD : Option (List Int) → D
  | none => .non
  | some q => pathD q
def RLBad (lv : Nat) (ds : List D) (d : D) : Prop := ∃ (h : House) (p : List Int), ds = [h.toD, pathD p] ∧ h.figs ∧ h.deep < lv ∧ h.deep ≤ 20 ∧ p.length + h.deep ≤ 1000 ∧ d = badD (h.bad p)
theorem ok_lbad (B : Bl mg) (a : At K mg "_law_bad" s__law_bad ["_law_room_here", "_law_path"] f fd) : ∀ lv : Nat, Ok P w K mg base lv "_law_bad" ["_law_room_here", "_law_path"] (spR T K (RLBad lv)) := by
  intro lv
  induction lv with
  | zero => exact a.none fun vs H Q E ⟨_, _, ⟨_, _, _, _, h, _⟩, _⟩ => absurd h (Nat.not_lt_zero _)
  | succ lv G__law_bad =>
  refine okR a sc__law_bad (fun ds d ⟨_, _, e, _⟩ => by rw [e]; rfl) fun cdv A outer s H E ds d Q hr hR hT q => ⟨_, (pss_cons (ps_if (pt_val (pe_callB call_isi (by rfl) B.isinstance (by decide +kernel) (pa_cons (pv 0) (pa_cons (pe_bltn (v := .ty "str") (by rfl) B.str (by decide +kernel) rfl) pa_nil)))) (pss_one (ps_ret pe_non)) pss_nil)
    (pss_cons (ps_asg (pv 0) (pg_tup (n := 2) rfl (pgs_cons (pg_name (i := 2) sc__law_bad.nd rfl (Or.inl rfl)) (pgs_cons (pg_name (i := 3) sc__law_bad.nd rfl (Or.inl rfl)) pgs_nil))))
    (pss_cons (ps_setLc (i := 4) (own := [("_law_door_here", 7)]) rfl sc__law_bad.nd rfl rfl (sw_true rfl rfl rfl (by decide +kernel)) (pi_tup (pv 3)) (blkOk_by (N := ["_law_room_here", "_law_path", "_law_hand", "_law_doors", "_law_wrong", "_law_k", "_law_found", "_law_door_here"]) (sc := defScope s__law_bad) (by decide +kernel)) (fun _ _ _ _ _ => (pg_name (i := 7) sc__law_bad.nd rfl (Or.inl rfl))) (fun _ _ _ _ _ => (pts_one (PW.pt (pw_or (pt_not (pt_chain op_le op_le pe_int (pe_ix ixTup (pv 7) pe_int (fun _ _ => rfl)) pe_int)) (pw_or1 (pt_not (pt_chain op_le op_le pe_int (pe_ix ixTup (pv 7) pe_int (fun _ _ => rfl)) (pe_ix ixTup (pv 7) pe_int (fun _ _ => rfl))))))))) (fun _ _ _ _ _ => (pv 7)))
    (pss_cons (ps_if (PW.pt (pw_or (pt_cmpR (op_neD (hu64 hr)) (pv 4) (pe_lst pa_nil) (nomark _)) (pw_or (pt_not (pt_chain op_le op_le pe_int (pe_callB cr_len (by rfl) B.len (by decide +kernel) (pa_cons (pv 3) pa_nil)) pe_int)) (pw_or1 (pt_not (pt_chain op_le op_lt pe_int (pv 2) (pe_callB cr_len (by rfl) B.len (by decide +kernel) (pa_cons (pv 3) pa_nil)))))))) (pss_one (ps_ret (pv 1))) pss_nil)
    (pss_cons (ps_for PassesOwn.never rfl (pi_range1 (by rfl) B.range (pa_cons (pe_callB cr_len (by rfl) B.len (by decide +kernel) (pa_cons (pv 3) pa_nil)) pa_nil)) (pg_name (i := 5) sc__law_bad.nd rfl (Or.inl rfl)) (pss_cons (ps_set (i := 6) sc__law_bad.nd rfl (Or.inl rfl) (pe_own G__law_bad hr (Nat.le_refl _) (by rfl) (pa_cons (pe_ix ix_tup (pe_ix ix_tup (pv 3) (pv 5) (fun _ _ => rfl)) pe_int (fun _ _ => rfl)) (pa_cons (pe_op op_catA (pv 1) (pe_tup (pa_cons (pv 5) pa_nil))) pa_nil))))
    (pss_one (ps_if (pt_cmpR op_notN (pv 6) pe_non (nomark _)) (pss_one (ps_ret (pv 6))) pss_nil))))
    (pss_one (ps_ret pe_non))))))), ?_⟩
  obtain ⟨h, p, rfl, hf, hd, hd2, hp, rfl⟩ := hR
  cases h with
  | out nm =>
    refine run_when hT (et_B (ev_isStr (ev_var rfl))) (fun _ H1 g1 => ?_) fun e => nomatch e
    refine run_ret g1.tbs ev_non fun v H2 g2 r => q v H2 (g1.trans g2) ?_
    have : (House.out nm).bad p = none := by simp only [House.bad]; rw [if_pos (show okName nm from hf)]
    rw [this]; exact r
  | room hand ds =>
    obtain ⟨f1, f2, f3⟩ := hf
    have hdd : ds.deep < lv := by simp only [House.deep] at hd; omega
    have hdd2 : ds.deep ≤ 19 := by simp only [House.deep] at hd2; omega
    have hbad := House.bad_is (.room hand ds) p
    refine run_when hT (et_B (ev_isStr (ev_var rfl))) (fun e => nomatch e) fun _ H1 g1 => ?_
    refine run_asgG g1.tbs (ev_var rfl) (fun H1 g1 => eg_tup rfl (eg_cons eg_name (eg_cons eg_name eg_nil))) fun H2 g2 => ?_
    refine run_asgL g2.tbs (ev_lc (fun i => !bdDoor (ds.toDs.getD i .non)) (fun i => ds.toDs.getD i .non) (ei_tup (ev_var rfl)) (by rw [Doors.toDs_len]; omega) fun i e H3 he g3 => ?_) fun lw xs H3 nlw g3 elw rlw => ?_
    · have hg : ds.toDs.getD i .non = e := by rw [List.getD_eq_getElem?_getD, he]; rfl
      rw [hg]
      rw [Doors.get_toDs] at he
      cases hgd : ds.get? i with
      | none => rw [hgd] at he; cases he
      | some tr =>
        obtain ⟨n, s', hh⟩ := tr
        rw [hgd] at he; cases he
        refine ⟨_, _, eg_name, by simp, ?_, fun _ => ev_var rfl⟩
        refine (et_or (et_not (et_test (ev_chain ev_int (ev_ixT (d := .int n) (ev_var rfl) ev_int (atI_nat (j := 0) rfl)) ev_int))) fun _ => et_not (et_test (ev_chain ev_int (ev_ixT (d := .int s') (ev_var rfl) ev_int (atI_nat (j := 1) rfl)) (ev_ixT (d := .int n) (ev_var rfl) ev_int (atI_nat (j := 0) rfl))))).is ?_
        show _ = !doorOk n s'
        unfold doorOk
        exact (Bool.not_and _ _).symm
    · have hemp : (madeD (fun i => !bdDoor (ds.toDs.getD i .non)) (fun i => ds.toDs.getD i .non) ds.toDs.length).isEmpty = ds.canB := by rw [none_madeD, Doors.canB_all]
      have hcans : D.cans 60 (madeD (fun i => !bdDoor (ds.toDs.getD i .non)) (fun i => ds.toDs.getD i .non) ds.toDs.length) := D.cans_all fun d hd => D.cans_mem (Doors.canF ds 60 f3 (by omega)) d (madeD_mem hd)
      have hb : ((!(madeD (fun i => !bdDoor (ds.toDs.getD i .non)) (fun i => ds.toDs.getD i .non) ds.toDs.length).isEmpty) || (!(decide ((1 : Int) ≤ (ds.toDs.length : Int)) && decide ((ds.toDs.length : Int) ≤ 4)) || !(decide ((0 : Int) ≤ hand) && decide (hand < (ds.toDs.length : Int))))) = !(House.room hand ds).canB := by
        rw [hemp, Doors.toDs_len]
        simp only [House.canB]
        have e1 : decide ((1 : Int) ≤ (ds.len : Int)) = decide (1 ≤ ds.len) := decide_eq_decide.mpr (by omega)
        have e2 : decide ((ds.len : Int) ≤ 4) = decide (ds.len ≤ 4) := decide_eq_decide.mpr (by omega)
        rw [e1, e2]
        cases ds.canB <;> cases decide (1 ≤ ds.len) <;> cases decide (ds.len ≤ 4) <;> cases decide ((0 : Int) ≤ hand) <;> cases decide (hand < (ds.len : Int)) <;> rfl
      refine run_when g3.tbs ((et_or (et_test (ev_neL0 (ev_raw rfl) elw rlw (ev_lst ea_nil (by simp)) hcans (by decide))) fun _ => et_or (et_not (et_test (ev_chain ev_int (ev_lenT (ev_var rfl)) ev_int))) fun _ => et_not (et_test (ev_chain ev_int (ev_var rfl) (ev_lenT (ev_var rfl))))).is hb) (fun e H4 g4 => ?_) fun e H4 g4 => ?_
      · refine run_ret g4.tbs (ev_var rfl) fun v H5 g5 r => q v H5 ((((g1.trans g2).trans g3).trans g4).trans g5) ?_
        rw [hbad, if_neg (by simpa using e)]; exact r
      · have hcb : (House.room hand ds).canB = true := by simpa using e
        rw [hbad, if_pos hcb] at q
        have eh : firsts ((House.room hand ds).hind p) = ds.bad p 0 := by rw [Doors.bad_is]; rfl
        rw [eh] at q
        refine run_for (S := []) g4.tbs (ei_range (ea_cons (ev_lenT (ev_var rfl)) ea_nil) (by omega) (by rw [Doors.toDs_len]; omega)) (fun _ => [some (.d (House.room hand ds).toD), some (.d (pathD p)), some (.d (.int hand)), some (.d (.tup ds.toDs)), some (.v (.ref lw)), none, none, none])
          (fun i _ => ds.bad p 0 = (ds.skip i).bad p i) (.same _ (.same _ (.same _ (.same _ (.same _ (.drop _ (.drop _ (.drop _ .nil)))))))) (fun _ _ => by rw [Doors.skip_zero]) (fun _ _ _ _ h => h)
          (fun i d H5 N hdi g5 hI hN => ?_) fun H5 g5 hI => ?_
        · have hi : i < ds.len := by
            have := (List.getElem?_eq_some_iff.mp hdi).1
            simpa [Doors.toDs_len] using this
          have hdi' : d = .int (i : Nat) := by
            rw [List.getElem?_map, List.getElem?_range (by rw [Doors.toDs_len]; simpa using hi)] at hdi
            exact (Option.some.inj hdi).symm
          subst hdi'
          obtain ⟨n, s', hh, hg⟩ := ds.get_some i hi
          have hskip := Doors.skip_get ds i hg
          have hdeep := Doors.get_deep ds i hg
          obtain ⟨_, _, hhf⟩ := Doors.get_figs ds i f3 hg
          have htd : ds.toDs[i]? = some (.tup [.int n, .int s', hh.toD]) := by rw [Doors.get_toDs, hg]; rfl
          refine ⟨_, _, eg_name, ?_⟩
          refine run_asg (d := badD (hh.bad (p ++ [(i : Int)]))) g5.tbs (ev_call (ea_cons (ev_ixT (d := hh.toD) (ev_ixT (d := .tup [.int n, .int s', hh.toD]) (ev_var rfl) (ev_var rfl) (atI_nat (j := i) htd)) ev_int (atI_nat (j := 2) rfl)) (ea_cons ((ev_catT (ev_var rfl) (ev_tup (ea_cons (ev_var rfl) ea_nil) (by simp)) (by simp; omega)).is (x := pathD (p ++ [(i : Int)])) (by unfold pathD; simp)) ea_nil)) ⟨hh, p ++ [(i : Int)], rfl, hhf, by omega, by omega, by simp only [House.deep, List.length_append, List.length_cons, List.length_nil] at *; omega, rfl⟩) fun H6 g6 => ?_
          cases hb : hh.bad (p ++ [(i : Int)]) with
          | some q' =>
            have e0 : ds.bad p 0 = some q' := by rw [hI, hskip]; simp only [Doors.bad, hb]
            rw [e0] at q
            refine run_last (run_when g6.tbs (et_test (ev_notNd (d := badD (some q')) (ev_var rfl) (by simp [badD, pathD]))) (fun _ H7 g7 => ?_) fun e => nomatch e)
            exact run_ret (d := badD (some q')) g7.tbs (ev_var rfl) fun v H8 g8 r => q v H8 (((((((g1.trans g2).trans g3).trans g4).trans g5).trans g6).trans g7).trans g8) r
          | none =>
            refine run_last (run_when g6.tbs (et_test (ev_notN0 (ev_var rfl))) (fun e => nomatch e) fun _ H7 g7 => run_next fun σ sl => ?_)
            exact hN σ _ (g6.trans g7) (by rw [hI, hskip]; simp only [Doors.bad, hb]) (Slots.less (.same _ (.same _ (.same _ (.same _ (.same _ (.drop _ (.drop _ (.drop _ .nil)))))))) sl)
        · rw [List.length_map, List.length_range, Doors.toDs_len] at hI
          rw [show ((ds.len : Nat) : Int).toNat = ds.len by omega, Doors.skip_len] at hI
          rw [hI] at q
          exact run_ret g5.tbs ev_non fun v H6 g6 r => q v H6 (((((g1.trans g2).trans g3).trans g4).trans g5).trans g6) r
end
end Pd
namespace Pd
open PySem PySem.Spec PyProof.Rows L2 TL
/-! ### what a text should be told as -/
theorem tl_cut5 (z : Str) : tl (cutS z none (some 5)) = (tl z).take 5 := by
  show (((z.cps.toList.drop (HT.sIx z.length 0 none)).take (HT.sIx z.length z.length (some ((5 : Nat) : Int)) - HT.sIx z.length 0 none)).toArray).toList = z.cps.toList.take 5
  rw [HT.sIx_none, HT.sIx_nat, List.drop_zero, Nat.sub_zero]
  show z.cps.toList.take (min 5 z.cps.size) = _
  rw [← Array.length_toList]
  by_cases h : 5 ≤ z.cps.toList.length
  · rw [Nat.min_eq_left h]
  · rw [Nat.min_eq_right (by omega), List.take_of_length_le (Nat.le_refl _), List.take_of_length_le (by omega)]
def doorRow (r : Str) : Bool := decide (cutS r none (some 5) = "door ")
theorem doorRow_of {r : Str} {a : List Nat} (h : (tl r).take 5 = a) (ne : a ≠ [100, 111, 111, 114, 32]) : doorRow r = false := by
  refine decide_eq_false fun e => ne ?_
  have := congrArg tl e
  rw [tl_cut5, tl_door_, h] at this
  exact this
theorem doorRow_door (a b : Str) : doorRow (rowT ["door", a, b]) = true := by
  refine decide_eq_true (ext_tl ?_)
  rw [tl_cut5, tl_row3, tl_door, tl_door_]; rfl
theorem doorRow_room (a b : Str) : doorRow (rowT ["room", a, b]) = false := by
  refine doorRow_of (a := [114, 111, 111, 109, 32]) ?_ (by decide)
  rw [tl_row3, tl_room]; rfl
theorem doorRow_out (n : Str) : doorRow (rowT ["out", n]) = false := by
  refine doorRow_of (r := rowT ["out", n]) rfl ?_
  rw [tl_row2, tl_out]
  intro z
  have := congrArg (fun l : List Nat => l[0]?) z
  simp at this
mutual
theorem House.doorRows : ∀ h : House, ((h.words.map rowT).filter doorRow).length = h.many
  | .out n => by simp [House.words, House.many, doorRow_out]
  | .room hand ds => by
    have := Doors.doorRows ds
    simp only [House.words, House.many, List.map_cons, List.filter_cons, doorRow_room, Bool.false_eq_true, if_false]
    exact this
theorem Doors.doorRows : ∀ ds : Doors, ((ds.words.map rowT).filter doorRow).length = ds.many
  | .nil => rfl
  | .cons n s h r => by
    have a := House.doorRows h
    have b := Doors.doorRows r
    simp only [Doors.words, Doors.many, List.map_cons, List.map_append, List.filter_cons, List.filter_append, doorRow_door, if_true, List.length_cons, List.length_append]
    omega
end
theorem rows_eq (x : Str) : Txt.split x "\n" = (wordsOf x).map rowT := by
  unfold wordsOf
  rw [List.map_map]
  have : (rowT ∘ fun r => Txt.split r " ") = id := funext fun r => (split_back r " " tl_sp sp_ok).1
  rw [this, List.map_id]
theorem madeD_count {b : Str → Bool} {L : List Str} {g : Nat → D} : (madeD (fun i => b (L.getD i "")) g L.length).length = (L.filter b).length := by
  unfold madeD
  rw [List.length_map]
  have e : L = (List.range L.length).map (fun i => L.getD i "") := by
    refine List.ext_getElem (by simp) fun i h1 h2 => ?_
    simp [List.getD_eq_getElem?_getD, h1]
  have : (L.filter b).length = (((List.range L.length).map (fun i => L.getD i "")).filter b).length := by rw [← e]
  rw [this, List.filter_map, List.length_map]
  rfl
def houseD (h : House) : D := match h.bad [] with
  | some q => .tup [.str "house", pathD q]
  | none => if h.many ≤ 12 then .tup [.str "told", h.toD] else .tup [.str "house", pathD []]
def textD (k : Nat) : D := .tup [.str "text", .int (k : Nat)]
open Classical in
def DueD (x : Str) (d : D) : Prop := (∃ (h : House) (r : List (List Str)), h.figs ∧ wordsOf x = h.words ++ r ∧ d = if r = [] then houseD h else textD h.words.length) ∨ ∃ k, Stuck [("room" : Str)] (wordsOf x) k ∧ d = textD k
section
variable {P : Program} {w : World} {K : PySem.W.Frag} {mg : Str → Option Value} {base : Heap} {T : Tb} {f : Addr} {fd : FuncData}
variable {S : List Addr} {δ : List (Option SD)} {H : Hp} {te ta tb tc : TE}
theorem ev_slS {tl_ th : TO} {z : Str} {lo hi : Option Int} (ha : EvD T K ta δ H (.str z)) (hz : z.length ≤ 100000) (hl : EvO T K tl_ δ H lo) (hh : EvO T K th δ H hi) : EvD T K (tSl rSlS ta tl_ th) δ H (.str (cutS z lo hi)) := fun σ H1 g s Q q =>
  ha σ H1 g s _ fun v H2 g2 r => hl σ H2 (g.trans g2) (s.up g2) _ fun H3 g3 => hh σ H3 ((g.trans g2).trans g3) ((s.up g2).up g3) _ fun H4 g4 => ⟨z, r, sz hz, q _ H4 ((g2.trans g3).trans g4) rfl⟩
def RDue (ds : List D) (d : D) : Prop := ∃ x : Str, ds = [.str x] ∧ x.length ≤ 400 ∧ (∀ c ∈ tl x, c < 256) ∧ (wordsOf x).length ≤ 38 ∧ DueD x d
theorem ok_due (B : Bl mg) (a : At K mg "_law_due" s__law_due ["_law_text"] f fd) (G__law_taken : Ok P w K mg base 21 "_law_taken" ["_law_rows_here", "_law_at"] (spTaken T K 20)) (G__law_bad : Ok P w K mg base 21 "_law_bad" ["_law_room_here", "_law_path"] (spR T K (RLBad 21))) : Ok P w K mg base 22 "_law_due" ["_law_text"] (spR T K RDue) := by
  refine okR a sc__law_due (fun ds d ⟨_, e, _⟩ => by rw [e]; rfl) fun cdv A outer s H E ds d Q hr hR hT q => ⟨_, (pss_cons (ps_set (i := 1) sc__law_due.nd rfl (Or.inl rfl) (pe_split (pv 0) pe_str))
    (pss_cons (ps_asg (pe_own G__law_taken hr (by decide) (by rfl) (pa_cons (pv 1) (pa_cons pe_int pa_nil))) (pg_tup (n := 2) rfl (pgs_cons (pg_name (i := 2) sc__law_due.nd rfl (Or.inl rfl)) (pgs_cons (pg_name (i := 3) sc__law_due.nd rfl (Or.inl rfl)) pgs_nil))))
    (pss_cons (ps_if (PW.pt (pw_or (pt_cmpR op_isN (pv 2) pe_non (nomark _)) (pw_or1 (pt_cmpR op_lt (pv 3) (pe_callB cr_len (by rfl) B.len (by decide +kernel) (pa_cons (pv 1) pa_nil)) (nomark _))))) (pss_one (ps_ret (pe_tup (pa_cons pe_str (pa_cons (pv 3) pa_nil))))) pss_nil)
    (pss_cons (ps_set (i := 4) sc__law_due.nd rfl (Or.inl rfl) (pe_own G__law_bad hr (by decide) (by rfl) (pa_cons (pv 2) (pa_cons (pe_tup pa_nil) pa_nil))))
    (pss_cons (ps_if (pt_cmpR op_notN (pv 4) pe_non (nomark _)) (pss_one (ps_ret (pe_tup (pa_cons pe_str (pa_cons (pv 4) pa_nil))))) pss_nil)
    (pss_cons (ps_set (i := 5) sc__law_due.nd rfl (Or.inl rfl) (pe_callB cr_len (by rfl) B.len (by decide +kernel) (pa_cons (pe_lc (own := [("_law_row", 6)]) rfl sc__law_due.nd (pi_list (pv 1)) (blkOk_by (N := ["_law_text", "_law_rows_here", "_law_house_here", "_law_at", "_law_bad_here", "_law_many", "_law_row"]) (sc := defScope s__law_due) (by decide +kernel)) (fun _ _ _ _ _ => (pg_name (i := 6) sc__law_due.nd rfl (Or.inl rfl))) (fun _ _ _ _ _ => (pts_one (pt_cmpR op_eq (pe_slice sl_str (pv 6) po_none (po_some pe_int)) pe_str (nomark _)))) (fun _ _ _ _ _ => (pv 6))) pa_nil)))
    (pss_one (ps_ret (pe_ifExp (pt_cmpR op_gt (pv 5) pe_int (nomark _)) (pe_tup (pa_cons pe_str (pa_cons (pe_tup pa_nil) pa_nil))) (pe_tup (pa_cons pe_str (pa_cons (pv 2) pa_nil)))))))))))), ?_⟩
  obtain ⟨x, rfl, hx, hc, h38, hd⟩ := hR
  have h0 : (wordsOf x).drop 0 = wordsOf x := List.drop_zero
  have hWR : (wordsOf x).length = (Txt.split x "\n").length := by unfold wordsOf; rw [List.length_map]
  refine run_asgL hT (el_split (ev_var rfl) ev_str (by decide +kernel) (by omega)) fun l xs H1 nl g1 el rl => ?_
  have := Reps.strs rl
  subst this
  refine run_asgP g1.tbs (ev_taken (n := 0) (ev_raw rfl) ev_int el hx hc (Nat.zero_le _) (by omega)) fun d' H2 ht g2 => ?_
  have el2 := g2.lst el (by simp)
  rcases ht with ⟨h, hf, ⟨r, hr'⟩, rfl⟩ | ⟨k, hk, rfl⟩
  · rw [h0] at hr'
    refine ⟨_, _, eg_tup rfl (eg_cons eg_name (eg_cons eg_name eg_nil)), ?_⟩
    have hnn : h.toD ≠ .non := by cases h <;> simp [House.toD]
    have hd' : d = if r = [] then houseD h else textD h.words.length := by
      rcases hd with ⟨h2, r2, hf2, e2, e3⟩ | ⟨k, hk, _⟩
      · rw [hr'] at e2
        obtain ⟨rfl, rfl⟩ := House.words_inj h h2 hf hf2 _ _ e2
        exact e3
      · rw [hr'] at hk; exact absurd (Stuck.none hf hk) id
    subst hd'
    have hle : h.words.length + r.length = (wordsOf x).length := by rw [hr', List.length_append]
    by_cases hrn : r = []
    · subst hrn
      rw [if_pos rfl] at q
      rw [List.append_nil] at hr'
      have hdp := House.deep_words h
      rw [← hr'] at hdp
      refine run_when g2.tbs (b := false) ((et_or (et_test (ev_isNd (d := h.toD) (ev_var rfl) hnn)) fun _ => et_test (ev_B0 (ev_var rfl) (ev_lenL (ev_raw rfl) el2))).is (by
        rw [Bool.false_or, List.length_map]; refine decide_eq_false ?_; simp only [List.length_nil] at hle; omega)) (fun e => nomatch e) fun _ H3 g3 => ?_
      refine run_asg (d := badD (h.bad [])) g3.tbs (ev_call (ea_cons (ev_var rfl) (ea_cons (ev_tup ea_nil (by simp)) ea_nil)) ⟨h, [], rfl, hf, by omega, by omega, by simp only [List.length_nil]; omega, rfl⟩) fun H4 g4 => ?_
      have g04 := ((g1.trans g2).trans g3).trans g4
      cases hb : h.bad [] with
      | some p =>
        refine run_when g4.tbs (et_test (ev_notNd (d := badD (some p)) (ev_var rfl) (by simp [badD, pathD]))) (fun _ H5 g5 => ?_) fun e => nomatch e
        refine run_ret g5.tbs (ev_tup (ea_cons ev_str (ea_cons (ev_var (d := pathD p) rfl) ea_nil)) (by simp)) fun v H6 g6 rr => q v H6 ((g04.trans g5).trans g6) ?_
        unfold houseD; rw [hb]; exact rr
      | none =>
        refine run_when g4.tbs (et_test (ev_notN0 (ev_var rfl))) (fun e => nomatch e) fun _ H5 g5 => ?_
        have el5 := ((g3.trans g4).trans g5).lst el2 (by simp)
        refine run_asg (d := .int ((h.many : Nat) : Int)) g5.tbs ((ev_lenN (ev_lc (fun i => doorRow ((Txt.split x "\n").getD i "")) (fun i => .str ((Txt.split x "\n").getD i "")) (ei_listD (ds := (Txt.split x "\n").map D.str) (ev_raw (δ := [some (.d (.str x)), some (.v (.ref l)), some (.d h.toD), some (.d (.int ((0 + h.words.length : Nat) : Int))), some (.d .non), none, none]) rfl) el5 (Reps.ofStrs _)) (by rw [List.length_map]; omega) (vs := [6]) fun i e H6 he g6 => by
          rw [List.getElem?_map] at he
          obtain ⟨z, hz, ez⟩ := Option.map_eq_some_iff.mp he
          subst ez
          have hzg : (Txt.split x "\n").getD i "" = z := by rw [List.getD_eq_getElem?_getD, hz]; rfl
          have hzl := (split_back x "\n" tl_nl nl_ok).2.2.1 z (List.mem_of_getElem? hz)
          rw [hzg]
          exact ⟨_, _, eg_name, by simp, et_test (ev_eqS (ev_slS (lo := none) (hi := some 5) (ev_var rfl) (by omega) eo_none (eo_some ev_int)) ev_str), fun _ => ev_var rfl⟩)).is (by
            rw [List.length_map, madeD_count, rows_eq, hr', House.doorRows])) fun H6 g6 => ?_
        have eb : decide (((h.many : Nat) : Int) > 12) = decide (12 < h.many) := decide_eq_decide.mpr (by omega)
        by_cases h12 : h.many ≤ 12
        · refine run_ret (d := .tup [.str "told", h.toD]) g6.tbs (ev_if (b := false) ((et_test (ev_B0 (ev_var rfl) ev_int)).is (decide_eq_false (by omega))) (fun e => nomatch e) fun _ => ev_tup (ea_cons ev_str (ea_cons (ev_var rfl) ea_nil)) (by simp)) fun v H7 g7 rr => q v H7 (((g04.trans g5).trans g6).trans g7) ?_
          unfold houseD; rw [hb]; simp only [if_pos h12]; exact rr
        · refine run_ret (d := .tup [.str "house", pathD []]) g6.tbs (ev_if (b := true) ((et_test (ev_B0 (ev_var rfl) ev_int)).is (decide_eq_true (by omega))) (fun _ => ev_tup (ea_cons ev_str (ea_cons (ev_tup ea_nil (by simp)) ea_nil)) (by simp)) fun e => nomatch e) fun v H7 g7 rr => q v H7 (((g04.trans g5).trans g6).trans g7) ?_
          unfold houseD; rw [hb]; simp only [if_neg h12]; exact rr
    · rw [if_neg hrn] at q
      have hr1 : 1 ≤ r.length := by cases r with
        | nil => exact absurd rfl hrn
        | cons a b => simp
      refine run_when g2.tbs (b := true) ((et_or (et_test (ev_isNd (d := h.toD) (ev_var rfl) hnn)) fun _ => et_test (ev_B0 (ev_var rfl) (ev_lenL (ev_raw rfl) el2))).is (by
        rw [Bool.false_or, List.length_map]; refine decide_eq_true ?_; omega)) (fun _ H3 g3 => ?_) fun e => nomatch e
      refine run_ret g3.tbs (ev_tup (ea_cons ev_str (ea_cons (ev_var rfl) ea_nil)) (by simp)) fun v H4 g4 rr => q v H4 (((g1.trans g2).trans g3).trans g4) ?_
      rw [Nat.zero_add] at rr; exact rr
  · rw [h0] at hk
    refine ⟨_, _, eg_tup rfl (eg_cons eg_name (eg_cons eg_name eg_nil)), ?_⟩
    have hd' : d = textD k := by
      rcases hd with ⟨h2, r2, hf2, e2, _⟩ | ⟨k2, hk2, e3⟩
      · rw [e2] at hk; exact absurd (Stuck.none hf2 hk) id
      · rw [e3, hk2.det hk]
    subst hd'
    refine run_when g2.tbs (b := true) ((et_or (a := true) (b := true) (et_test (ev_isN0 (ev_var rfl))) fun e => nomatch e)) (fun _ H3 g3 => ?_) fun e => nomatch e
    refine run_ret g3.tbs (ev_tup (ea_cons ev_str (ea_cons (ev_var rfl) ea_nil)) (by simp)) fun v H4 g4 rr => q v H4 (((g1.trans g2).trans g3).trans g4) ?_
    rw [Nat.zero_add] at rr; exact rr
end
end Pd
set_option maxHeartbeats 2000000
namespace Pd
open PySem PySem.Spec PyProof.Rows L2
/-! ### lambdas that are kept: their words, where they stand -/
structure LamD where
  params : Arguments
  body : Expr
  scope : Scope
  dv : Option Int
def lamFd (cells : List (Str × Addr)) (q : Str) (d : LamD) (c' : Addr) (pm ctv dV : Value) : FuncData :=
  { name := lamName, qualname := q, params := d.params, body := .expr d.body, scope := d.scope, globals := mainGlobals, closure := cloFrom cells d.scope.names [], defaults := dV, kwdefaults := .none, doc := .none, pyModule := pm, annotations := none, code := .ref c', closureTuple := ctv, builtins := builtinsNs }
def LamO (cells : List (Str × Addr)) (q : Str) (d : LamD) (f c' : Addr) (dV : Value) : HO := .ext fun h => ∃ (od : Option Addr) (sl : Array (Option Value)) (pm ctv : Value), h.get? f = some (⟨.type "function", od, .func (lamFd cells q d c' pm ctv dV), sl⟩ : Obj)
structure LamAt (cells : List (Str × Addr)) (q : Str) (d : LamD) (f : Addr) (H : Hp) : Prop where
  ex : ∃ (c' : Addr) (dV : Value), H f = some (LamO cells q d f c' dV) ∧ H c' = some (LamX.CodeO c' q) ∧ ((d.dv = none ∧ dV = .none) ∨ ∃ i t, d.dv = some i ∧ dV = .ref t ∧ H t = some (.tup [.int i]))
theorem LamAt.up {cells : List (Str × Addr)} {q : Str} {d : LamD} {f : Addr} {T : Tb} {S : List Addr} {H H' : Hp} (a : LamAt cells q d f H) (g : Gr T S H H') (hS : ∀ l ∈ S, ∃ xs, H l = some (.lst xs)) : LamAt cells q d f H' := by
  obtain ⟨c', dV, h1, h2, h3⟩ := a.ex
  have off : ∀ b (φ : Heap → Prop), H b = some (.ext φ) → b ∉ S := fun b φ e z => by
    obtain ⟨xs, e2⟩ := hS b z
    rw [e] at e2; cases e2
  refine ⟨c', dV, g.keep _ _ (off f _ h1) h1 (fun ps z => by unfold LamO at z; cases z), g.keep _ _ (off c' _ h2) h2 (fun ps z => LamX.codeO_ne ps z), ?_⟩
  rcases h3 with h | ⟨i, t, e1, e2, e3⟩
  · exact .inl h
  · exact .inr ⟨i, t, e1, e2, g.fast _ _ e3 trivial⟩
section
variable {M : Model} {A : Around} {E : Value → Shared → Prop} {s : Shared} {name qual : Str} {params : Arguments} {body : Expr} {scope : Scope} {env : Env} {c P : Addr} {ps : Array Value} {pos : Pos} {ln : Nat} {mg : Str → Option Value} {c0 : Str × Addr} {cr : List (Str × Addr)} {Q : Value → Shared → Prop} {dV : Value}
def anyFd (name qual : Str) (params : Arguments) (body : Expr) (scope : Scope) (clos : List (Str × Addr)) (pm : Value) (cd ctv dV : Value) : FuncData :=
  { name := name, qualname := qual, params := params, body := .expr body, scope := scope, globals := mainGlobals, closure := clos, defaults := dV, kwdefaults := .none, doc := .none, pyModule := pm, annotations := none, code := cd, closureTuple := ctv, builtins := builtinsNs }
/-- a function with captured names is made: its code object is new -/
theorem tail_new (hcl : closureFor scope env = pure (c0 :: cr)) (hge : env.globals = mainGlobals) (hg : s.heap.Ns mainGlobals mg) (hcode : env.code = .ref c) (C : PySem.W.CodeHd s.heap c P) (hP : s.heap.get? P = some { cls := .none, data := .fields ps }) (ht : TriplesOk ps.toList)
    (hn : codeAmong pos ps.toList = none) (hgP : mainGlobals ≠ P) (hb : s.heap.BuiltinsAt mg P)
    (h : ∀ (c' : Addr) (ctv : Value) (h' : Heap) (tk : Nat), Heap.ExtBut P s.heap h' → s.heap.objs.size ≤ c' → c' < h'.objs.size → h'.CodeRec (.ref c') qual → h'.get? P = some { cls := .none, data := .fields (ps ++ #[rawInt pos.line, rawInt pos.col, .ref c']) } →
      Q (.ref h'.objs.size) { s with heap := h'.push { cls := .type "function", data := .func (anyFd name qual params body scope (c0 :: cr) ((mg "__name__").getD .none) (.ref c') ctv dV) }, toks := tk }) :
    wpAny M A (makeTail name qual params (.expr body) scope env dV .none none pos ln) Q E s := by
  obtain ⟨bm, ob, b1, b2, b3, b4, b5, b6, b7, b8⟩ := hb
  unfold makeTail
  rw [hge, hcl]
  refine wpAny_bind (wpAny_pure ?_)
  rw [if_neg (show ¬ List.isEmpty (c0 :: cr) = true by simp)]
  refine wpAny_bind (wpAny_newTextTuple ?_)
  generalize hh : (s.heap.push _) = h1
  have kp : ∀ b o, s.heap.get? b = some o → h1.get? b = some o := fun b o e => by rw [← hh]; exact Heap.get?_push_of_some _ e
  have sz : s.heap.objs.size ≤ h1.objs.size := by rw [← hh, Heap.size_push]; exact Nat.le_succ _
  have C1 := C.keeps kp
  refine wpAny_bind (wpAny_functionCodeX hcode (C1.code (kp _ _ hP) ht) (C1.tab (kp _ _ hP)) hn fun c' h' tk hx hge' hlt _ hrec htb _ => ?_)
  have hg' := (hg.keeps kp).extBut hx hgP
  refine wpAny_bind (wpAny_builtinsFor hg' b1 b2 (hx _ _ b4 (kp _ _ b5)) b6 b7 b8 (wpAny_bind (wpAny_nsGet hg' (wpAny_bind (wpAny_pure (wpAny_newObj_type ?_ (by size_fits)))))))
  exact h c' _ h' tk (fun b o nb e => hx b o nb (kp b o e)) (Nat.le_trans sz hge') hlt hrec htb.2
/-- .. or stands in the table -/
theorem tail_hit {cv : Value} (hcl : closureFor scope env = pure (c0 :: cr)) (hge : env.globals = mainGlobals) (hg : s.heap.Ns mainGlobals mg) (hcode : env.code = .ref c) (C : PySem.W.CodeHd s.heap c P) (hP : s.heap.get? P = some { cls := .none, data := .fields ps }) (ht : TriplesOk ps.toList)
    (hn : codeAmong pos ps.toList = some cv) (hb : s.heap.BuiltinsAt mg P)
    (h : ∀ (ctv : Value) (h' : Heap) (tk : Nat), (∀ b o, s.heap.get? b = some o → h'.get? b = some o) → s.heap.objs.size ≤ h'.objs.size →
      Q (.ref h'.objs.size) { s with heap := h'.push { cls := .type "function", data := .func (anyFd name qual params body scope (c0 :: cr) ((mg "__name__").getD .none) cv ctv dV) }, toks := tk }) :
    wpAny M A (makeTail name qual params (.expr body) scope env dV .none none pos ln) Q E s := by
  obtain ⟨bm, ob, b1, b2, b3, b4, b5, b6, b7, b8⟩ := hb
  unfold makeTail
  rw [hge, hcl]
  refine wpAny_bind (wpAny_pure ?_)
  rw [if_neg (show ¬ List.isEmpty (c0 :: cr) = true by simp)]
  refine wpAny_bind (wpAny_newTextTuple ?_)
  generalize hh : (s.heap.push _) = h1
  have kp : ∀ b o, s.heap.get? b = some o → h1.get? b = some o := fun b o e => by rw [← hh]; exact Heap.get?_push_of_some _ e
  have sz : s.heap.objs.size ≤ h1.objs.size := by rw [← hh, Heap.size_push]; exact Nat.le_succ _
  refine wpAny_bind (wpAny_functionCode_hit hcode ((C.keeps kp).code (kp _ _ hP) ht) hn ?_)
  have hg' := hg.keeps kp
  refine wpAny_bind (wpAny_builtinsFor hg' b1 b2 (kp _ _ b5) b6 b7 b8 (wpAny_bind (wpAny_nsGet hg' (wpAny_bind (wpAny_pure (wpAny_newObj_type ?_ (by size_fits)))))))
  exact h _ h1 s.toks kp sz
end
section
variable {X : Cx} {pins : List (Addr × Obj)} {σ : L2.St} {H : Hp} {s : Shared} {T : Tb}
/-- the table at P gets a new code object -/
theorem gr_table {q : Str} {c' P : Addr} {pos : Pos} {ps : Array Value} (hT : Tbs T H) (hm : (P, q) ∈ T.l) (hu : ∀ p ∈ T.l, p.1 = P → p.2 = q) (hg : P ∉ T.g) (hP : H P = some (.tbl ps)) (ht : TriplesOk ps.toList)
    (ha : ∀ (pos : Pos) (cv : Value), codeAmong pos ps.toList = some cv → ∃ c, cv = .ref c ∧ H c = some (LamX.CodeO c q)) (nC : H c' = none) : Gr T [] H (upd (upd H P (.tbl (ps ++ #[rawInt pos.line, rawInt pos.col, .ref c']))) c' (LamX.CodeO c' q)) := by
  have hPc : P ≠ c' := fun z => by rw [← z, hP] at nC; cases nC
  have kp : ∀ b o, H b = some o → (∀ qs, o ≠ .tbl qs) → upd (upd H P (.tbl (ps ++ #[rawInt pos.line, rawInt pos.col, .ref c']))) c' (LamX.CodeO c' q) b = some o := fun b o e nt => by
    rw [upd_ne (ne_of_none e nC), upd_ne fun z => by subst z; rw [hP] at e; cases e; exact nt ps rfl]
    exact e
  refine ⟨fun b o _ e nt => kp b o e nt, fun b o e fo => kp b o e fun qs z => by subst z; exact fo, fun b e => ?_, fun R hR => ?_, fun p hp => ?_⟩
  · by_cases z : b = c'
    · subst z; exact nC
    · rw [upd_ne z] at e
      by_cases z2 : b = P
      · subst z2; rw [upd_same] at e; cases e
      · rw [upd_ne z2] at e; exact e
  · obtain ⟨qs, e, r⟩ := hT.1 R hR
    exact ⟨qs, by rw [upd_ne (ne_of_none e nC), upd_ne fun z => hg (by rw [← z]; exact hR)]; exact e, r⟩
  · obtain ⟨qs, e, r, al⟩ := hT.2 p hp
    by_cases z : p.1 = P
    · rw [hu p hp z]
      refine ⟨_, by rw [z, upd_ne hPc, upd_same], by rw [Array.toList_append]; exact PySem.TriplesOk_snoc _ _ _ _ ht, fun p' cv hcv => ?_⟩
      rw [Array.toList_append] at hcv
      rcases LamX.among_app _ ht hcv with y | y
      · obtain ⟨c0, e1, e2⟩ := ha p' cv y
        exact ⟨c0, e1, kp _ _ e2 LamX.codeO_ne⟩
      · exact ⟨c', y, upd_same⟩
    · refine ⟨qs, by rw [upd_ne (ne_of_none e nC), upd_ne z]; exact e, r, fun p' cv hcv => ?_⟩
      obtain ⟨c0, e1, e2⟩ := al p' cv hcv
      exact ⟨c0, e1, kp _ _ e2 LamX.codeO_ne⟩
/-- a function object is laid and kept in mind -/
theorem inv_lam {cells : List (Str × Addr)} {q : Str} {d : LamD} {c' : Addr} {dV pm ctv : Value} {h' : Heap} {tk : Nat} (I : Inv X pins σ H { s with heap := h', toks := tk }) :
    Inv X pins σ (upd H h'.objs.size (LamO cells q d h'.objs.size c' dV)) { s with heap := h'.push { cls := .type "function", data := .func (lamFd cells q d c' pm ctv dV) }, toks := tk } := by
  have hget : (h'.push ({ cls := .type "function", data := .func (lamFd cells q d c' pm ctv dV) } : Obj)).get? h'.objs.size = some ({ cls := .type "function", data := .func (lamFd cells q d c' pm ctv dV) } : Obj) := Heap.get?_push_size _ rfl
  refine Inv.laid (s := { s with heap := h', toks := tk }) (a := h'.objs.size) (t' := tk) I (fun b u e => Heap.get?_push_of_some _ e) (Nat.le_refl _) ⟨⟨_, _, pm, ctv, hget⟩, ⟨_, hget⟩, fun h1 h2 ⟨od, sl, p, c, z⟩ st => ⟨od, sl, p, c, st _ z⟩⟩
/-- the evaluation of a lambda that captures names, with no parameter, or one that has an int as default -/
theorem lam_mkD {c P : Addr} {d : LamD} {pos : Pos} {E : Value → Shared → Prop} {Q : Value → Shared → Prop} {c0 : Str × Addr} {cr : List (Str × Addr)} (I : Inv X pins σ H s) (TB : LamX.TabB X.base X.mg c P) (hcode : X.env.code = .ref c)
    (hm : (P, X.env.qual ++ lamName) ∈ T.l) (hu : ∀ p ∈ T.l, p.1 = P → p.2 = X.env.qual ++ lamName) (hg : P ∉ T.g) (hT : Tbs T H) (hfree : ∀ y ∈ d.scope.names, y.2 = .free → ∃ c, X.env.cells.lookup y.1 = some c) (hclo : cloFrom X.env.cells d.scope.names [] = c0 :: cr)
    (hdef : (d.dv = none ∧ defaultsOf d.params X.env = ([], [])) ∨ ∃ (i : Int) (kk : Nat) (dp : Pos), d.dv = some i ∧ defaultsOf d.params X.env = ([eval (.Constant (.int i) kk dp) X.env], [])) (hkw : d.params.kwonlyargs = [])
    (h : ∀ (f : Addr) (H1 : Hp) (s' : Shared), Inv X pins σ H1 s' → Gr T [] H H1 → H f = none → LamAt X.env.cells (X.env.qual ++ lamName) d f H1 → Q (.ref f) s') :
    wpAny (model X.prog X.w) X.A (eval (.Lambda d.params d.body d.scope pos) X.env) Q E s := by
  have core : ∀ (dV : Value) (H0 : Hp) (s0 : Shared), Inv X pins σ H0 s0 → Gr T [] H H0 → ((d.dv = none ∧ dV = .none) ∨ ∃ i t, d.dv = some i ∧ dV = .ref t ∧ H0 t = some (.tup [.int i])) →
      wpAny (model X.prog X.w) X.A (makeTail lamName (X.env.qual ++ lamName) d.params (.expr d.body) d.scope X.env dV .none none pos pos.line) Q E s0 := by
    intro dV H0 s0 I0 g0 hd
    obtain ⟨ps, hP, ht, ha⟩ := g0.tbs.2 _ hm
    have hP : H0 P = some (.tbl ps) := hP
    have sP : s0.heap.get? P = some { cls := .none, data := .fields ps } := I0.hok P _ hP
    have fin : ∀ (c' : Addr) (pm ctv : Value) (h' : Heap) (tk : Nat) (H1 : Hp), Inv X pins σ H1 { s0 with heap := h', toks := tk } → Gr T [] H0 H1 → H1 c' = some (LamX.CodeO c' (X.env.qual ++ lamName)) →
        Q (.ref h'.objs.size) { s0 with heap := h'.push { cls := .type "function", data := .func (lamFd X.env.cells (X.env.qual ++ lamName) d c' pm ctv dV) }, toks := tk } := by
      intro c' pm ctv h' tk H1 I1 g1 hco
      have nf : H1 h'.objs.size = none := I1.hok.fresh (Nat.le_refl _)
      have gn : Gr T [] H1 (upd H1 h'.objs.size (LamO X.env.cells (X.env.qual ++ lamName) d h'.objs.size c' dV)) := Gr.new g1.tbs nf
      refine h _ _ _ (inv_lam I1) ((g0.trans g1).trans gn) ((g0.trans g1).dom _ nf) ⟨c', dV, upd_same, gn.keep _ _ (by simp) hco (fun ps z => LamX.codeO_ne ps z), ?_⟩
      rcases hd with h | ⟨i, t, e1, e2, e3⟩
      · exact .inl h
      · exact .inr ⟨i, t, e1, e2, (g1.trans gn).fast _ _ e3 trivial⟩
    have hclos : closureFor d.scope X.env = pure (c0 :: cr) := by rw [← hclo]; exact closure_ok hfree
    cases hc : codeAmong pos ps.toList with
    | some cv =>
      obtain ⟨c', rfl, hco⟩ := ha pos cv hc
      refine tail_hit (mg := X.mg) (c := c) (P := P) (ps := ps) hclos I0.ok.glob (I0.mod.glob.keeps I0.bk) hcode (TB.code.keeps I0.bk) sP ht hc (TB.bm.keeps I0.bk) fun ctv h' tk hx hz => ?_
      have := fin c' ((X.mg "__name__").getD .none) ctv h' tk H0 (I0.kept hx) (Gr.refl g0.tbs) hco
      unfold lamFd at this
      rw [hclo] at this
      exact this
    | none =>
      refine tail_new (mg := X.mg) (c := c) (P := P) (ps := ps) hclos I0.ok.glob (I0.mod.glob.keeps I0.bk) hcode (TB.code.keeps I0.bk) sP ht hc TB.gP (TB.bm.keeps I0.bk) fun c' ctv h' tk hx hge hlt hrec htb => ?_
      obtain ⟨c2, oc, vs, t, e2, hoc, hdd, hv⟩ := hrec
      cases e2
      have nC : H0 c' = none := I0.hok.fresh hge
      have J := LamX.inv_table (t' := tk) (more := #[rawInt pos.line, rawInt pos.col, .ref c']) (h' := h') I0 hP hx htb hge ⟨oc, vs, t, hoc, hdd, hv⟩
      have g := gr_table (q := X.env.qual ++ lamName) (c' := c') (pos := pos) g0.tbs hm hu hg hP ht ha nC
      have := fin c' ((X.mg "__name__").getD .none) ctv h' tk _ J g upd_same
      unfold lamFd at this
      rw [hclo] at this
      exact this
  rw [arm_eval_Lambda]
  rcases hdef with ⟨e1, e2⟩ | ⟨i, kk, dp, e1, e2⟩
  · rw [e2]
    refine wpAny_bind (wpAny_pure (wpAny_bind (wpAny_holding (wpAny_pure ?_))))
    rw [makeFunction_eq, hkw]
    refine wpAny_bind (wpAny_pure (wpAny_bind (wpAny_pure (wpAny_bind (wpAny_pure ?_)))))
    exact core .none H s I (Gr.refl hT) (.inl ⟨e1, rfl⟩)
  · rw [e2]
    refine wpAny_bind (wpAny_evalAll_cons (wpAny_Constant_int (wpAny_pure (wpAny_bind (wpAny_holding (wpAny_pure ?_))))))
    rw [makeFunction_eq, hkw]
    refine wpAny_bind (wpAny_newTextTuple (wpAny_bind (wpAny_pure (wpAny_bind (wpAny_pure ?_)))))
    have nt : H s.heap.objs.size = none := I.hok.fresh (Nat.le_refl _)
    have gn : Gr T [] H (upd H s.heap.objs.size (.tup [.int i])) := Gr.new hT nt
    refine core (.ref s.heap.objs.size) _ _ (Inv.laid (s := s) (a := s.heap.objs.size) (o := .tup [.int i]) (t' := s.toks + 1) I (fun b u e => Heap.get?_push_of_some _ e) (Nat.le_refl _) ⟨(by show 1 ≤ sizeLine; decide), [.int i s.toks], .cons ⟨_, rfl⟩ .nil, _, Heap.get?_push_size _ rfl, rfl, _, rfl⟩) gn (.inr ⟨i, _, e1, rfl, upd_same⟩)
end
end Pd
namespace Pd
open PySem PySem.Spec PyProof.Rows L2
/-! ### a list comprehension whose element may use what the def's own frame holds -/
section
variable {X : Cx}
/-- how the element lies to the frame around: entered at s with H -/
structure Around1 (X : Cx) (pins : List (Addr × Obj)) (σ : L2.St) (s : Shared) (H : Hp) (fp : List Addr) : Prop where
  inv : Inv X pins σ H s
  fp : ∀ b ∈ fp, FpOk X pins H b
theorem pe_lcI {elt tg iter : Expr} {ifs : List Expr} {scope : Scope} {own : List (Str × Nat)} {pos : Pos} {wi : TI} {g : TG} {tt : TT} {te : L2.St → TE} (hc : X.calm = true) (hN : X.N.Nodup) (hi : PI X tg iter wi) (ok : BlkOk X.N X.env.scope scope own)
    (hg : ∀ (s : Shared) (H : Hp) (C : Addr) (cl : List (Str × Addr)) (fp : List Addr), PG (X.blk s H scope (compEnvC scope cl C X.env) fp) tg g) (ht : ∀ (s : Shared) (H : Hp) (C : Addr) (cl : List (Str × Addr)) (fp : List Addr), PTs (X.blk s H scope (compEnvC scope cl C X.env) fp) ifs tt)
    (he : ∀ (pins : List (Addr × Obj)) (σ : L2.St) (s : Shared) (H : Hp) (C : Addr) (cl : List (Str × Addr)) (fp : List Addr), Around1 X pins σ s H fp → PE (X.blk s H scope (compEnvC scope cl C X.env) fp) elt (te σ)) (hs : ∀ x, foldedSetIterable iter X.env x = pure x := by intro _; rfl) :
    PE X (.ListComp elt [⟨tg, iter, ifs, 0⟩] scope pos) (fun σ H Q => tLc wi g tt (te σ) (own.map (·.2)) σ H Q) := by
  constructor
  intro pins s σ H Q I h
  rw [eval_ListComp]
  have fr : ∀ y ∈ scope.names, y.2 = .free → ∃ c, X.env.cells.lookup y.1 = some c := fun y hy e => (ok.free y hy e).elim (fun z => I.ok.has _ (.inl z)) fun z => I.ok.has _ (.inr z)
  refine wpAny_comprehension_free (use := none) rfl hs (closure_ok fr) ok.kind (fun y hy e => by rw [ok.uniq y hy, e]) (thn (hi.run pins s σ H _ I h) fun v0 s1 hx => thn hx fun v1 s2 ⟨it, fp, tn, J, H2, e1, I2, Tn, t2, f2, q⟩ => ?_)
  subst e1
  refine wpAny_newObj_type (newEnv_comp ?_) (by show 0 ≤ sizeLine; decide)
  generalize eD : s2.heap.objs.size = D
  have nD : H2 D = none := I2.hok.fresh (Nat.le_of_eq eD)
  obtain ⟨W, ⟨m0, w0⟩, turn⟩ := q D nD
  generalize e3 : ({ s2 with heap := s2.heap.push { cls := .type "list", data := .seq ([] : List Value).toArray } } : Shared) = s3
  have h3 : s3.heap = s2.heap.push { cls := .type "list", data := .seq ([] : List Value).toArray } := by rw [← e3]
  have I3 : Inv X pins σ (upd H2 D (.lst [])) s3 := by
    rw [← e3]
    exact I2.laid (t' := s2.toks) (fun b o e => Heap.get?_push_of_some _ e) (Nat.le_of_eq eD) ⟨Nat.zero_le _, [], 0, .nil, by rw [← eD]; exact Heap.get?_push_size _ rfl⟩
  generalize eH : upd H2 D (.lst []) = H3 at I3 w0
  have f3 : ∀ b ∈ fp, FpOk X pins H3 b ∧ b < s3.heap.objs.size := fun b hb => by
    obtain ⟨o, e, _⟩ := Tn.obj _ _ t2 b hb
    have lt := Heap.lt_size e
    exact ⟨⟨by rw [← eH, upd_ne (by rw [← eD]; exact Nat.ne_of_lt lt)]; exact (f2 b hb).1, (f2 b hb).2⟩, by rw [h3, Heap.size_push]; exact Nat.lt_succ_of_lt lt⟩
  have t3 : tn 0 s3.heap := Tn.keep _ _ _ t2 fun b _ o e => by rw [h3]; exact Heap.get?_push_of_some _ e
  have I4 := block_start I3 ok hN f3
  generalize eC : s3.heap.objs.size = C at I4
  generalize eK : cellsFrom (C + 1) scope.names (cloFrom X.env.cells scope.names []) = K4 at I4
  have pg := hg s3 H3 C K4 fp
  have pt := ht s3 H3 C K4 fp
  have pe := he pins σ s3 H3 C K4 fp ⟨I3, fun b hb => (f3 b hb).1⟩
  show codeAny _ _ (.compStart (.ListComp elt [⟨tg, iter, ifs, 0⟩] scope pos) 0 (.ref it) (.ref D) (compEnvC scope K4 C X.env)) (compPost (model X.prog X.w) X.A X.xe none (EP X pins σ Q) (.ref D) C) { s3 with heap := pushCells (s3.heap.push { cls := .type "dict", data := .dict #[] }) scope.names }
  generalize eE : compEnvC scope K4 C X.env = ce at I4 pg pt pe ⊢
  have lC : ce.locals = C := by rw [← eE]; rfl
  generalize e4 : ({ s3 with heap := pushCells (s3.heap.push { cls := .type "dict", data := .dict #[] }) scope.names } : Shared) = s4 at I4 ⊢
  have t4 : tn 0 s4.heap := Tn.keep _ _ _ t3 fun b _ o e => by rw [← e4]; exact pushCells_keeps _ _ _ _ (Heap.get?_push_of_some _ e)
  have okF : ∀ {σ' : L2.St} {H' : Hp} {s' : Shared}, Inv (X.blk s3 H3 scope ce fp) [] σ' H' s' → (∀ b ∈ fp, H' b = none) → ∀ b ∈ fp, FpOk (X.blk s3 H3 scope ce fp) [] H' b := fun {σ' H' s'} J' n b hb =>
    ⟨n b hb, (J'.ok.exf b hb).1, J'.ok.exfs b hb, .inl hb, (J'.ok.exf b hb).2, fun p hp => nomatch (show p ∈ ([] : List (Addr × Obj)) from hp)⟩
  refine codeAny_compStart_list (?_ : codeAny _ _ _ _ _) (Tn.self X.A 0 _ _ _ t4 ?_)
  all_goals
    refine compLoop_any (fun n s' => ∃ i H', Inv (X.blk s3 H3 scope ce fp) [] (wipe σ (own.map (·.2))) H' s' ∧ tn i s'.heap ∧ (∀ b ∈ fp, H' b = none) ∧ W i n H') (fun n s5 ⟨i, H5, I5, t5, n5, w5⟩ => ?_) m0 ⟨0, H3, I4, t4, fun b hb => (f3 b hb).1.1, w0⟩
    rcases turn i n H5 w5 with ⟨st, qq⟩ | ⟨go, Nx, hNx, step⟩
    · refine thnF (Tn.done (X.blk s3 H3 scope ce fp) rfl rfl rfl hc i [] s5 _ H5 (fun _ _ => False) I5 (okF I5 n5) t5 st) fun r s6 ⟨hr, I6⟩ => ?_
      subst hr
      have I7 : Inv X pins σ H5 s6 := I3.call' (ch := fp) I6.os I6.base I6.hok I6.bare fun b hb => ⟨(f3 b hb).1.2.2.2.1, (f3 b hb).1.2.1, (f3 b hb).1.2.2.2.2.1, (f3 b hb).1.2.2.2.2.2⟩
      have nC : H5 C = none := by have z := I6.free; rw [show (X.blk s3 H3 scope ce fp).env.locals = C from lC] at z; exact z
      obtain ⟨m, hn, _⟩ := I6.loc
      rw [show (X.blk s3 H3 scope ce fp).env.locals = C from lC] at hn
      obtain ⟨k0, k1, k2, k3, k4, k5⟩ := I3.fpOk (Nat.le_of_eq eC) nC
      exact ⟨m, hn, fun h' sb => ⟨.ref D, H5, I7.turned (t' := s6.toks) (fun b o hb e => (sb.2 b hb).trans e) k0 k1 k3 k4 k5, rfl, qq⟩⟩
    · refine thnF (Tn.item (X.blk s3 H3 scope ce fp) rfl rfl rfl hc i [] s5 _ H5 (fun _ _ => False) I5 (okF I5 n5) t5 go) fun r s6 ⟨u, hr, h6⟩ => ?_
      subst hr
      refine thnF h6 fun _ s7 ⟨x, H7, I7, r7, y7, t7, n7⟩ => ?_
      refine thnF (pg.run _ s7 _ H7 x u _ (I7.pinned (okF I7 n7) (Tn.obj _ _ t7)) r7 (step x H7 y7)) fun _ s8 ⟨σ8, H8, I8, hw, q8⟩ => ?_
      refine thnF (pt.run _ s8 σ8 H8 _ I8 q8) fun b s9 ⟨H9, I9, q9⟩ => ?_
      have nxt : ∀ {s' : Shared} {H' : Hp}, Inv (X.blk s3 H3 scope ce fp) ([] ++ pinsAt fp s7.heap) σ8 H' s' → Nx H' → ∃ m, m < n ∧ ∃ i H', Inv (X.blk s3 H3 scope ce fp) [] (wipe σ (own.map (·.2))) H' s' ∧ tn i s'.heap ∧ (∀ b ∈ fp, H' b = none) ∧ W i m H' := by
        intro s' H' J' nx
        obtain ⟨m', hm, w'⟩ := hNx H' nx
        have at' : ∀ b ∈ fp, ∀ o, s7.heap.get? b = some o → s'.heap.get? b = some o ∧ H' b = none := fun b hb o e =>
          ⟨(J'.pin (b, o) (List.mem_append_right _ (List.mem_append_right _ (mem_pinsAt hb e)))).1, (J'.pin (b, o) (List.mem_append_right _ (List.mem_append_right _ (mem_pinsAt hb e)))).2.1⟩
        refine ⟨m', hm, i + 1, H', (J'.unpinned (pins := [])).weak (by rw [← hw, wipe_length]) (fun j v e => by rw [← hw] at e; exact (wipe_some e).1), Tn.keep _ _ _ t7 fun b hb o e => (at' b hb o e).1, fun b hb => ?_, w'⟩
        obtain ⟨o, e, _⟩ := Tn.obj _ _ t7 b hb
        exact (at' b hb o e).2
      cases b with
      | false => exact nxt I9 q9
      | true =>
        refine thnF (pe.run _ s9 σ8 H9 _ I9 q9) fun z s10 ⟨yv, H10, I10, r10, acc, a1, a2, a3⟩ => ?_
        exact app_ok (X := X.blk s3 H3 scope ce fp) I10 a1 a2 r10 fun s11 I11 => nxt I11 a3
end
end Pd
namespace Pd
open PySem PySem.Spec PyProof.Rows L2
/-- list.count of a truth value among truth values -/
def rCntB (K : PySem.W.Frag) : V → List V → Hp → VK → Prop := fun x xs H Q => ∃ (p : Addr) (bs : List Bool) (b : Bool), x = .ref p ∧ xs = [.bl b] ∧ SqL K H p (bs.map V.bl) ∧ Q (.int (bs.count b : Nat)) H
def eqb (b : Bool) (v : Value) : Bool := match v with
  | .bool c => c == b
  | _ => false
theorem bools_of : ∀ {bs : List Bool} {us : List Value}, Vals (bs.map V.bl) us → us = bs.map Value.bool
  | [], _, .nil => rfl
  | b :: bs, _, .cons r t => by
    rw [bools_of (bs := bs) t, show _ = Value.bool b from r]
    rfl
theorem countP_bools (b : Bool) : ∀ bs : List Bool, (bs.map Value.bool).countP (eqb b) = bs.count b
  | [] => rfl
  | c :: bs => by
    rw [List.map_cons, List.countP_cons, List.count_cons, countP_bools b bs]
    rfl
theorem mt_countB {X : Cx} : MtR X "list.count" (rCntB X.K) := by
  intro pins s σ H x xs v us Q I rx rxs h
  obtain ⟨p, bs, b, rfl, rfl, hs, q⟩ := h
  cases rx
  obtain ⟨u, rfl, ru⟩ := rxs.one
  cases (show u = Value.bool b from ru)
  obtain ⟨its, rv, ⟨⟨cls, dd, data, sl⟩, n, ho, hc, hdn, hd⟩, _⟩ := I.list hs
  simp only at hc hd
  subst hc hd
  have e := bools_of rv
  subst e
  refine call_meets PySem.F.slot_list_count ⟨_, ho, rfl⟩ PySem.F.entry_list_count (PySem.F.args_list_count_2 _ _) (SeqAt.list_countAt p (bs.map Value.bool).toArray n dd sl (.bool b) (eqb b)) ⟨ho, fun y hy => ?_, ?_⟩
  · obtain ⟨c, _, rfl⟩ := List.mem_map.mp (show y ∈ bs.map Value.bool by simpa using hy)
    exact SeqAt.EqAt.bool_bool c b
  · refine ⟨.int (bs.count b : Nat), H, I.tok _, ⟨s.toks, ?_⟩, q⟩
    show Value.int _ s.toks = _
    rw [countP_bools b bs]
end Pd
set_option maxHeartbeats 4000000
namespace Pd
open PySem PySem.Spec PyProof.Rows L2
/-! ### which refusal it is, and its value -/
structure KCs (K : PySem.W.Frag) (mg : Str → Option Value) (C : Ek → Addr) : Prop where
  g : ∀ k : Ek, mg k.cls = some (.ref (C k))
  de : ∃ a, mg "DoorError" = some (.ref a) ∧ ∀ k, PySem.W.exmOne K (.ref (C k)) (.ref a) = some true
  ki : ∀ k j, PySem.W.kitOne K (.ref (C k)) (.ref (C j)) = some (decide (k = j))
  ve : ∀ k, PySem.W.kitOne K (.ref (C k)) (.type "ValueError") = some true
  e : ∀ k, ExcC K (C k)
  f : ∀ k n, n ∈ ([("path" : Str), "name", "number", "row"]) → PySem.W.findIn K (.ref (C k)) n = some none
/-- isinstance(e, c), e the error that the suite holds -/
def rIsV (K : PySem.W.Frag) (D : Addr) (d : Option Addr) (a : Addr) : List V → Hp → VK → Prop := fun xs H Q => ∃ (c : V) (cv : Value) (b : Bool), xs = [.ref a, c] ∧ (∀ u, RelV c u → u = cv) ∧ PySem.W.kitOne K (.ref D) cv = some b ∧ (∀ dd, d = some dd → ∃ fs, H dd = some (.xd fs)) ∧ Q (.bl b) H
theorem call_isV {X : Cx} {a D : Addr} {d : Option Addr} {oe : Obj} {pn : List (Addr × Obj)} (C : ExcC X.K D) (hz : Zc (.ref D) d oe) (hf : ∃ vs, oe.data = .fields vs) : CallR (X.suite a ((a, oe) :: pn)) (.builtin "isinstance") (rIsV X.K D d a) := by
  intro pins s σ H xs us Q I r h
  obtain ⟨c, cv, b, rfl, hcv, ek, hdd, q⟩ := h
  obtain ⟨u1, u2, rfl, r1, r2⟩ : ∃ u1 u2, us = [u1, u2] ∧ RelV (V.ref a) u1 ∧ RelV c u2 := by
    cases r with
    | cons x1 r => cases r with
      | cons x2 r => cases r; exact ⟨_, _, rfl, x1, x2⟩
  cases (show u1 = Value.ref a from r1)
  cases hcv u2 r2
  have hget := (I.pin (a, oe) (List.mem_append.mpr (.inl List.mem_cons_self))).1
  obtain ⟨vs, hv⟩ := hf
  have nc : PySem.W.notCls oe = true := by unfold PySem.W.notCls; rw [hv] <;> rfl
  obtain ⟨od, J⟩ : ∃ od, PySem.W.InstAt s.heap a oe D od := by
    cases d with
    | none => exact ⟨none, hget, hz.1, nc, by rw [hz.2]; trivial⟩
    | some dd =>
      obtain ⟨fs, e2⟩ := hdd dd rfl
      have hx : ObjOk X.prog X.w H s.heap dd (.xd fs) := I.hok dd _ e2
      obtain ⟨mA, hns, _⟩ := hx
      obtain ⟨od, ho, _⟩ := lookIn_ns hns
      exact ⟨some od, hget, hz.1, nc, by rw [hz.2]; exact ho⟩
  have hcl : (PySem.W.clsIn X.K D).isSome = true := by
    obtain ⟨cd, e1, _⟩ := PySem.W.any_some C.hd
    rw [e1]; rfl
  exact PySem.W.kia_one (PySem.W.kitx_exc (od := od) hcl C.hg C.hk C.hs C.ha C.hn C.ht C.hm) I.kIn J ek (fun z => nomatch z) fun tk => ⟨.bl b, H, I.kept (t' := tk) fun _ _ z => z, rfl, q⟩
def kindD (k : Ek) (val : D) : D := match k with
  | .house => .tup [.str "house", val]
  | .door => .tup [.str "door", val]
  | .name => .tup [.str "name", val]
  | .deed => .tup [.str "deed", val]
  | .text => .tup [.str "text", val]
  | .count => .tup [.str "count", .int 0]
section
variable {T : Tb} {K : PySem.W.Frag} {δ : List (Option SD)} {H : Hp} {ta te tl : TE} {u : TS} {B : Ends} {a l c Dc : Addr} {b : Bool} {xs : List V} {bs cs : List Bool} {d : Option Addr} {k : Ek} {val : D}
/-- the error's dict stands -/
def XdAt (d : Option Addr) (H : Hp) : Prop := ∀ dd, d = some dd → ∃ fs, H dd = some (.xd fs)
theorem XdAt.up {H' : Hp} (h : XdAt d H) (g : Gr T [] H H') : XdAt d H' := fun dd e => by
  obtain ⟨fs, e2⟩ := h dd e
  exact ⟨fs, g.keep _ _ (by simp) e2 (fun ps z => by cases z)⟩
theorem Raised.xd (h : Raised K k val d H) : XdAt d H := fun dd e => by
  unfold Raised at h
  by_cases c : k = .count
  · rw [if_pos c] at h; rw [h] at e; cases e
  · rw [if_neg c] at h
    obtain ⟨dx, v, e1, e2, _⟩ := h
    rw [e1] at e; cases e
    exact ⟨_, e2⟩
theorem ev_isVc (hd : XdAt d H) (h : EvV T K ta δ H (.ref a)) (k : PySem.W.kitOne K (.ref Dc) (.ref c) = some b) : EvD T K (tCB (rIsV K Dc d a) (tCons ta (tCons (tC (.ref c)) tNil))) δ H (.bl b) := fun σ H1 g s Q q =>
  h σ H1 g s _ fun H2 g2 => ⟨.ref c, .ref c, b, rfl, fun _ r => r, k, hd.up (g.trans g2), q _ H2 g2 rfl⟩
theorem ev_isVt {n : String} (hd : XdAt d H) (h : EvV T K ta δ H (.ref a)) (k : PySem.W.kitOne K (.ref Dc) (.type n) = some b) : EvD T K (tCB (rIsV K Dc d a) (tCons ta (tCons (tC (.ty n)) tNil))) δ H (.bl b) := fun σ H1 g s Q q =>
  h σ H1 g s _ fun H2 g2 => ⟨.ty n, .type n, b, rfl, fun _ r => r, k, hd.up (g.trans g2), q _ H2 g2 rfl⟩
theorem ev_xf {Ca : Addr} {f : Str} (hr : Raised K k val d H) (hk : k ≠ .count) (hf : k.fld = f) (h : EvV T K te δ H (.ref a)) : EvD T K (tXf a (.ref Ca) d Ca f te) δ H val := fun σ H1 g s Q q =>
  h σ H1 g s _ fun H2 g2 => by
    unfold Raised at hr
    rw [if_neg hk] at hr
    obtain ⟨dx, v, e1, e2, e3⟩ := hr
    have e4 := (g.trans g2).keep _ _ (by simp) e2 (fun ps z => by cases z)
    exact ⟨rfl, rfl, dx, _, v, e1, e4, by rw [hf]; simp [List.lookup], q v H2 g2 (e3.up (g.trans g2))⟩
theorem boolsV : ∀ {bs : List Bool} {xs : List V}, Reps K H (bs.map D.bl) xs → xs = bs.map V.bl
  | [], _, h => h
  | b :: bs, _, ⟨x, r, e, h1, h2⟩ => by rw [e, show x = V.bl b from h1, boolsV (bs := bs) h2]; rfl
/-- a.extend([..]) -/
theorem run_extB (hT : Tbs T H) (ho : EvV T K ta δ H (.ref l)) (hb : EvL T K tl δ H (cs.map D.bl)) (e : H l = some (.lst xs)) (hz : xs.length + cs.length ≤ 50000)
    (k : ∀ H1, Gr T [] H H1 → H1 l = some (.lst xs) → Run K u B δ (upd H1 l (.lst (xs ++ cs.map V.bl)))) : Run K (tSeq (tDrop (tBM K "list" rExtend ta (tCons tl tNil))) u) B δ H := fun σ s =>
  ho σ H (Gr.refl hT) s _ fun H1 g1 => ⟨.inl ⟨rfl, _, .inl (.inl (g1.lst e (by simp)))⟩, hb σ H1 g1 (s.up g1) _ fun p zs H2 np g2 ep rp => by
    have ez := boolsV rp
    subst ez
    have g := g1.trans g2
    have el := g.lst e (by simp)
    have gp : Gr T [l] H2 (upd H2 l (.lst (xs ++ cs.map V.bl))) := (Gr.refl g.tbs).put el (.inl (by simp))
    exact ⟨l, p, xs, cs.map V.bl, rfl, rfl, el, ep, by rw [List.length_map]; exact Nat.le_trans hz (by decide), k H2 g el σ ((s.up g).up gp)⟩⟩
theorem ev_cntB (ho : EvV T K ta δ H (.ref l)) (e : H l = some (.lst (bs.map V.bl))) : EvD T K (tBM K "list" (rCntB K) ta (tCons (tC (.bl b)) tNil)) δ H (.int (bs.count b : Nat)) := fun σ H1 g s Q q =>
  ho σ H1 g s _ fun H2 g2 => ⟨.inl ⟨rfl, _, .inl (.inl ((g.trans g2).lst e (by simp)))⟩, l, bs, b, rfl, rfl, .inl (.inl ((g.trans g2).lst e (by simp))), q _ H2 g2 rfl⟩
theorem ev_ixBl {tb : TE} {i : Int} (ha : EvV T K ta δ H (.ref l)) (hb : EvD T K tb δ H (.int i)) (e : H l = some (.lst (bs.map V.bl))) (h : atI bs i = some b) : EvD T K (tOp (rIxL K) ta tb) δ H (.bl b) := fun σ H1 g s Q q => ev_ixV ha hb e (by
    unfold atI at h ⊢
    rw [List.length_map]
    cases z : ixN bs.length i with
    | none => rw [z] at h; cases h
    | some n =>
      rw [z] at h
      show (bs.map V.bl)[n]? = _
      rw [List.getElem?_map, (show bs[n]? = some b from h)]; rfl) σ H1 g s Q fun H2 g2 => q _ H2 g2 rfl
end
section
variable {X : Cx} {K : PySem.W.Frag}
theorem isVK {a D : Addr} {d : Option Addr} {oe : Obj} {pn : List (Addr × Obj)} (C : ExcC K D) (hz : Zc (.ref D) d oe) (hf : ∃ vs, oe.data = .fields vs) (hK : X.K = K := by rfl) : CallR (X.suite a ((a, oe) :: pn)) (.builtin "isinstance") (rIsV K D d a) := by
  subst hK
  exact call_isV C hz hf
theorem cntK (hK : X.K = K := by rfl) : MtR X "list.count" (rCntB K) := hK ▸ mt_countB
theorem bmKV {o e : Expr} {es : List Expr} {to : TE} {t : TA} {name : Str} {apos cpos : Pos} {T id : String} {r : V → List V → Hp → VK → Prop} (pa : PlainAttrs T) (slot : Slot T name id) (hty : typeOf (.builtin id) = pure (.type "method_descriptor")) (hm : MtR X id r) (ho : PE X o to) (ha : PA X (e :: es) t)
    (hbase : attributeBase o name X.env (eval o X.env) = eval o X.env := by rfl)
    (hfew : ((backTo cpos (starEach (e :: es) X.env)).all (fun x => !x.1) && (backToKw cpos (keywordEach [] X.env)).all (fun x => x.1.isSome) && decide ((e :: es).length + ([] : List Keyword).length + (if ([] : List Keyword).isEmpty then 0 else 1) < 30)) = true := by rfl)
    (hline : (apos.endLine == cpos.line) = true := by rfl) (hs : starEach (e :: es) X.env = (false, eval e X.env) :: starEach es X.env := by rfl) (hplain : (backTo cpos (starEach es X.env)).any (·.1) = false := by rfl) (hK : X.K = K := by rfl) :
    PE X (.Call (.Attribute o name apos) (e :: es) [] cpos) (tBM K T r to t) := hK ▸ pe_bm pa slot hty hm ho ha hbase hfew hline hs hplain
theorem pe_xfK {a C : Addr} {oe : Obj} {d : Option Addr} {pn : List (Addr × Obj)} {e : Expr} {te : TE} {pos : Pos} {n : Str} (T : ExcC K C) (hno : PySem.W.findIn K (.ref C) n = some none) (hz : Zc (.ref C) d oe) (hf : ∃ vs, oe.data = .fields vs) (he : PE (X.suite a ((a, oe) :: pn)) e te)
    (hb : attributeBase e n X.env (eval e X.env) = eval e X.env := by rfl) (hK : X.K = K := by rfl) : PE (X.suite a ((a, oe) :: pn)) (.Attribute e n pos) (tXf a (.ref C) d C n te) := by
  subst hK
  exact pe_xf ⟨T.hg, T.hk, T.hs, T.hd⟩ hno hz hf he hb
end
/-- the suite's statements -/
def kindSuiteV : List Stmt := match defBody s__law_kind with
  | (.Try _ (.ExceptHandler _ _ sts _ :: _) _ _ _) :: _ => sts
  | _ => []
def ksL (k : Ek) : List Bool := [decide (k = .house), decide (k = .door), decide (k = .name), decide (k = .deed), decide (k = .text), decide (k = .count)]
theorem kindV_suite {X : Cx} {T : Tb} {g : Addr} {C : Ek → Addr} {s : Shared} {H : Hp} (cdg : Value) (B : Bl X.mg) (KK : KCs X.K X.mg C) (k : Ek) : ∃ t : Addr → Option Addr → TS,
    (∀ (a : Addr) (d : Option Addr) (oe : Obj) (pn : List (Addr × Obj)), Zc (.ref (C k)) d oe → (∃ vs, oe.data = .fields vs) → PSs ((inCx X ["_law_call", "e", "_law_kinds"] "_law_kind" (defScope s__law_kind) g cdg s H).suite a ((a, oe) :: pn)) kindSuiteV (t a d)) ∧
    ∀ (a : Addr) (d : Option Addr) (val : D) (De : Ends) (H : Hp), Tbs T H → Raised X.K k val d H → (∀ v H', Gr T [] H H' → Rep X.K H' (kindD k val) v → De.rt v H') → Run X.K (t a d) De [none, some (.v (.ref a)), none] H := by
  refine ⟨fun a d => _, fun a d oe pn hz hf => pss_cons (ps_set (i := 2) sc__law_kind.nd rfl (Or.inl rfl) (pe_lst (pa_cons (pe_callB (isVK (K := X.K) (KK.e k) hz hf) (by rfl) B.isinstance (by decide +kernel) (pa_cons (pv 1) (pa_cons (pe_glob (v := .ref (C .house)) (by rfl) (KK.g .house) rfl) pa_nil)))
      (pa_cons (pe_callB (isVK (K := X.K) (KK.e k) hz hf) (by rfl) B.isinstance (by decide +kernel) (pa_cons (pv 1) (pa_cons (pe_glob (v := .ref (C .door)) (by rfl) (KK.g .door) rfl) pa_nil))) (pa_cons (pe_callB (isVK (K := X.K) (KK.e k) hz hf) (by rfl) B.isinstance (by decide +kernel) (pa_cons (pv 1) (pa_cons (pe_glob (v := .ref (C .name)) (by rfl) (KK.g .name) rfl) pa_nil)))
      (pa_cons (pe_callB (isVK (K := X.K) (KK.e k) hz hf) (by rfl) B.isinstance (by decide +kernel) (pa_cons (pv 1) (pa_cons (pe_glob (v := .ref (C .deed)) (by rfl) (KK.g .deed) rfl) pa_nil))) pa_nil))))))
    (pss_cons (ps_expr (bmKV (K := X.K) PySem.F.plainAttrs_list PySem.F.slot_list_extend PySem.F.type_list_extend mt_extend (pv 2) (pa_cons (pe_lst (pa_cons (pe_callB (isVK (K := X.K) (KK.e k) hz hf) (by rfl) B.isinstance (by decide +kernel) (pa_cons (pv 1) (pa_cons (pe_glob (v := .ref (C .text)) (by rfl) (KK.g .text) rfl) pa_nil)))
      (pa_cons (pe_callB (isVK (K := X.K) (KK.e k) hz hf) (by rfl) B.isinstance (by decide +kernel) (pa_cons (pv 1) (pa_cons (pe_glob (v := .ref (C .count)) (by rfl) (KK.g .count) rfl) pa_nil))) pa_nil))) pa_nil)))
    (pss_cons (ps_if (PW.pt (pw_or (pt_cmpR op_ne (bmKV (K := X.K) PySem.F.plainAttrs_list PySem.F.slot_list_count PySem.F.type_list_count (cntK (K := X.K)) (pv 2) (pa_cons pe_bl pa_nil)) pe_int (nomark _)) (pw_or1 (pt_not (pt_val (pe_callB (isVK (K := X.K) (KK.e k) hz hf) (by rfl) B.isinstance (by decide +kernel) (pa_cons (pv 1) (pa_cons (pe_bltn (v := .ty "ValueError") (by rfl) B.ValueError (by decide +kernel) rfl) pa_nil)))))))) pss_never pss_nil)
    (pss_cons (ps_if (PW.pt (pw_or (pt_val (pe_ix (ixLst (K := X.K)) (pv 2) pe_int (fun _ _ => rfl))) (pw_or1 (pt_val (pe_ix (ixLst (K := X.K)) (pv 2) pe_int (fun _ _ => rfl)))))) (pss_one (ps_ret (pe_tup (pa_cons (pe_ifExp (pt_val (pe_ix (ixLst (K := X.K)) (pv 2) pe_int (fun _ _ => rfl))) pe_str pe_str) (pa_cons (pe_xfK (K := X.K) (KK.e k) (KK.f k _ (by simp)) hz hf (pv 1)) pa_nil))))) pss_nil)
    (pss_cons (ps_if (PW.pt (pw_or (pt_val (pe_ix (ixLst (K := X.K)) (pv 2) pe_int (fun _ _ => rfl))) (pw_or1 (pt_val (pe_ix (ixLst (K := X.K)) (pv 2) pe_int (fun _ _ => rfl)))))) (pss_one (ps_ret (pe_ifExp (pt_val (pe_ix (ixLst (K := X.K)) (pv 2) pe_int (fun _ _ => rfl))) (pe_tup (pa_cons pe_str (pa_cons (pe_xfK (K := X.K) (KK.e k) (KK.f k _ (by simp)) hz hf (pv 1)) pa_nil))) (pe_tup (pa_cons pe_str (pa_cons (pe_xfK (K := X.K) (KK.e k) (KK.f k _ (by simp)) hz hf (pv 1)) pa_nil)))))) pss_nil)
    (pss_one (ps_ret (pe_ifExp (pt_val (pe_ix (ixLst (K := X.K)) (pv 2) pe_int (fun _ _ => rfl))) (pe_tup (pa_cons pe_str (pa_cons (pe_xfK (K := X.K) (KK.e k) (KK.f k _ (by simp)) hz hf (pv 1)) pa_nil))) (pe_tup (pa_cons pe_str (pa_cons pe_int pa_nil)))))))))), ?_⟩
  intro a d val De H hT hr q
  have ki := fun j => KK.ki k j
  refine run_asgL hT (ev_lst (ds := [.bl (decide (k = .house)), .bl (decide (k = .door)), .bl (decide (k = .name)), .bl (decide (k = .deed))]) (ea_cons (ev_isVc hr.xd (ev_raw rfl) (ki _)) (ea_cons (ev_isVc hr.xd (ev_raw rfl) (ki _)) (ea_cons (ev_isVc hr.xd (ev_raw rfl) (ki _)) (ea_cons (ev_isVc hr.xd (ev_raw rfl) (ki _)) ea_nil)))) (by simp)) fun l xs H1 nl g1 el rl => ?_
  have ex := boolsV (bs := [decide (k = .house), decide (k = .door), decide (k = .name), decide (k = .deed)]) rl
  subst ex
  have hr1 := hr.up g1
  refine run_extB (cs := [decide (k = .text), decide (k = .count)]) g1.tbs (ev_raw rfl) (ev_lst (ea_cons (ev_isVc hr1.xd (ev_raw rfl) (ki _)) (ea_cons (ev_isVc hr1.xd (ev_raw rfl) (ki _)) ea_nil)) (by simp)) el (by simp) fun H2 g2 e2 => ?_
  have gp : Gr T [l] H2 (upd H2 l (.lst ([decide (k = .house), decide (k = .door), decide (k = .name), decide (k = .deed)].map V.bl ++ [decide (k = .text), decide (k = .count)].map V.bl))) := (Gr.refl g2.tbs).put e2 (.inl (by simp))
  have e3 : (upd H2 l (.lst ([decide (k = .house), decide (k = .door), decide (k = .name), decide (k = .deed)].map V.bl ++ [decide (k = .text), decide (k = .count)].map V.bl))) l = some (.lst ((ksL k).map V.bl)) := upd_same
  generalize upd H2 l (.lst ([decide (k = .house), decide (k = .door), decide (k = .name), decide (k = .deed)].map V.bl ++ [decide (k = .text), decide (k = .count)].map V.bl)) = H3 at gp e3 ⊢
  have g03 : Gr T [] H H3 := g1.drop (S := []) (g2.any.trans gp) nl
  have hr3 := hr.up g03
  refine run_when g03.tbs ((et_or (a := false) ((et_test (ev_neI (ev_cntB (ev_raw rfl) e3) ev_int)).is (by cases k <;> decide)) fun _ => (et_not (et_B (ev_isVt hr3.xd (ev_raw rfl) (KK.ve k)))).is (c := false) rfl).is rfl) (fun e => nomatch e) fun _ H4 g4 => ?_
  have e4 := g4.lst e3 (by simp)
  have hr4 := hr3.up g4
  have g04 := g03.trans g4
  clear e3 hr3 hr1 rl el gp e2
  have t0 : atI (ksL k) 0 = some (decide (k = .house)) := atI_nat (j := 0) rfl
  have t1 : atI (ksL k) 1 = some (decide (k = .door)) := atI_nat (j := 1) rfl
  have t2 : atI (ksL k) 2 = some (decide (k = .name)) := atI_nat (j := 2) rfl
  have t3 : atI (ksL k) 3 = some (decide (k = .deed)) := atI_nat (j := 3) rfl
  have t4 : atI (ksL k) 4 = some (decide (k = .text)) := atI_nat (j := 4) rfl
  refine run_when g04.tbs (et_or (et_B (ev_ixBl (ev_raw rfl) ev_int e4 t0)) fun _ => et_B (ev_ixBl (ev_raw rfl) ev_int e4 t1)) (fun hb H5 g5 => ?_) fun hb H5 g5 => ?_
  · have e5 := g5.lst e4 (by simp)
    have hr5 := hr4.up g5
    have hk : k = .house ∨ k = .door := by simpa using hb
    refine run_last (run_ret g5.tbs (d := kindD k val) ?_ fun v H6 g6 r => q v H6 ((g04.trans g5).trans g6) r)
    rcases hk with rfl | rfl
    · exact ev_tup (ea_cons (ev_if (b := true) (et_B ((ev_ixBl (ev_raw rfl) ev_int e5 t0))) (fun _ => ev_str) fun e => nomatch e) (ea_cons (ev_xf hr5 (by decide) rfl (ev_raw rfl)) ea_nil)) (by simp)
    · exact ev_tup (ea_cons (ev_if (b := false) (et_B ((ev_ixBl (ev_raw rfl) ev_int e5 t0))) (fun e => nomatch e) fun _ => ev_str) (ea_cons (ev_xf hr5 (by decide) rfl (ev_raw rfl)) ea_nil)) (by simp)
  have n1 : k ≠ .house ∧ k ≠ .door := by simpa using hb
  have e5 := g5.lst e4 (by simp)
  have hr5 := hr4.up g5
  refine run_when g5.tbs (et_or (et_B (ev_ixBl (ev_raw rfl) ev_int e5 t2)) fun _ => et_B (ev_ixBl (ev_raw rfl) ev_int e5 t3)) (fun hb H6 g6 => ?_) fun hb H6 g6 => ?_
  · have e6 := g6.lst e5 (by simp)
    have hr6 := hr5.up g6
    have hk : k = .name ∨ k = .deed := by simpa using hb
    refine run_last (run_ret g6.tbs (d := kindD k val) ?_ fun v H7 g7 r => q v H7 (((g04.trans g5).trans g6).trans g7) r)
    rcases hk with rfl | rfl
    · exact ev_if (b := true) (et_B (ev_ixBl (ev_raw rfl) ev_int e6 t2)) (fun _ => ev_tup (ea_cons ev_str (ea_cons (ev_xf hr6 (by decide) rfl (ev_raw rfl)) ea_nil)) (by simp)) fun e => nomatch e
    · exact ev_if (b := false) (et_B (ev_ixBl (ev_raw rfl) ev_int e6 t2)) (fun e => nomatch e) fun _ => ev_tup (ea_cons ev_str (ea_cons (ev_xf hr6 (by decide) rfl (ev_raw rfl)) ea_nil)) (by simp)
  have n2 : k ≠ .name ∧ k ≠ .deed := by simpa using hb
  have e6 := g6.lst e5 (by simp)
  have hr6 := hr5.up g6
  refine run_last (run_ret g6.tbs (d := kindD k val) ?_ fun v H7 g7 r => q v H7 (((g04.trans g5).trans g6).trans g7) r)
  have hk : k = .text ∨ k = .count := by cases k <;> simp_all
  rcases hk with rfl | rfl
  · exact ev_if (b := true) (et_B (ev_ixBl (ev_raw rfl) ev_int e6 t4)) (fun _ => ev_tup (ea_cons ev_str (ea_cons (ev_xf hr6 (by decide) rfl (ev_raw rfl)) ea_nil)) (by simp)) fun e => nomatch e
  · exact ev_if (b := false) (et_B (ev_ixBl (ev_raw rfl) ev_int e6 t4)) (fun e => nomatch e) fun _ => ev_tup (ea_cons ev_str (ea_cons ev_int ea_nil)) (by simp)
end Pd
namespace Pd
open PySem PySem.Spec PyProof.Rows L2
/-! ### a call that is handed to `_law_kind` as a lambda -/
def noD : D := .tup [.str "", .int 0]
/-- behind a call that went through -/
def kQ (T : Tb) (K : PySem.W.Frag) (Q : VK) : VK := fun _ H' => Tbs T H' ∧ ∀ v H'', Gr T [] H' H'' → Rep K H'' noD v → Q v H''
/-- behind one that refused -/
def kE (T : Tb) (K : PySem.W.Frag) (C : Ek → Addr) (Q : VK) : XK := fun cls d H' => ∃ k val, cls = .ref (C k) ∧ Raised K k val d H' ∧ Tbs T H' ∧ ∀ v H'', Gr T [] H' H'' → Rep K H'' (kindD k val) v → Q v H''
/-- whatever is to come, if it is at least that -/
def ForAll (T : Tb) (K : PySem.W.Frag) (C : Ek → Addr) (Q : VK) (go : VK → XK → Prop) : Prop := ∀ (Q' : VK) (E' : XK), (∀ v H', kQ T K Q v H' → Q' v H') → (∀ cls d H', kE T K C Q cls d H' → E' cls d H') → go Q' E'
section
variable {P : Program} {w : World} {K : PySem.W.Frag} {mg : Str → Option Value} {base : Heap} {N ps fr : List Str} {cells : List (Str × Addr)} {q : Str} {d : LamD} {f : Addr} {k : Nat} {A : Around} {outer : List Env} {s : Shared} {H : Hp} {ws : List (Option V)} {Q : VK} {E : XK} {tb : TE} {CX : CXT}
def lamNFv (cells : List (Str × Addr)) (q : Str) (d : LamD) (c' : Addr) : NdefX.NF := ⟨lamName, q, d.params, [], d.scope, cloFrom cells d.scope.names [], c'⟩
theorem lamV_at {cells : List (Str × Addr)} {q : Str} {d : LamD} {c' : Addr} {dV : Value} (hok : HOk P w H s.heap) (e : H f = some (LamO cells q d f c' dV)) : ∃ (od : Option Addr) (sl : Array (Option Value)) (pm ctv : Value), s.heap.get? f = some (⟨.type "function", od, .func (lamFd cells q d c' pm ctv dV), sl⟩ : Obj) := by
  obtain ⟨z, _, _⟩ := hok f _ e
  exact z
/-- what its arguments are, when nothing is handed in -/
structure BindV (q : Str) (d : LamD) (ps : List Str) (vs : List V) : Prop where
  no : d.dv = none → ps = [] ∧ vs = [] ∧ ∀ (cells : List (Str × Addr)) (c' : Addr) (pm ctv : Value), bindArgs (lamFd cells q d c' pm ctv .none) ⟨[], []⟩ = pure []
  yes : ∀ i, d.dv = some i → ∃ p, ps = [p] ∧ vs = [.int i] ∧ ∀ (cells : List (Str × Addr)) (c' t : Addr) (pm ctv u : Value), ∃ kk, bindArgs (lamFd cells q d c' pm ctv (.ref t)) ⟨[], []⟩ = seqItems? (lamFd cells q d c' pm ctv (.ref t)).defaults >>= kk ∧ kk (some #[u]) = pure [(p, u)]
theorem bindV_no (e : d.dv = none) (h : ∀ (cells : List (Str × Addr)) (c' : Addr) (pm ctv : Value), bindArgs (lamFd cells q d c' pm ctv .none) ⟨[], []⟩ = pure []) : BindV q d [] [] := ⟨fun _ => ⟨rfl, rfl, h⟩, fun i z => by rw [e] at z; cases z⟩
theorem bindV_yes {p : Str} {i : Int} (e : d.dv = some i) (h : ∀ (cells : List (Str × Addr)) (c' t : Addr) (pm ctv u : Value), ∃ kk, bindArgs (lamFd cells q d c' pm ctv (.ref t)) ⟨[], []⟩ = seqItems? (lamFd cells q d c' pm ctv (.ref t)).defaults >>= kk ∧ kk (some #[u]) = pure [(p, u)]) : BindV q d [p] [.int i] :=
  ⟨fun z => (by rw [e] at z; cases z), fun j z => (by rw [e] at z; cases z; exact ⟨p, rfl, rfl, h⟩)⟩
theorem lamV_call {vs : List V} (S : NdefX.NScope N ps fr d.scope) (hr : Room (k + 1) A) (e0 : Env0 P w K mg base A outer s H) (hf : LamAt cells q d f H) (b : BindV q d ps vs) (C : NdefX.CellsAt (cloFrom cells d.scope.names []) fr ws s.heap H)
    (hbody : ∀ c', Room k (A.deeper (NdefX.envF (lamNFv cells q d c') f s.heap.objs.size)) → PE (NdefX.ncx CX P w K mg base N (lamNFv cells q d c') f A outer s H E) d.body tb) (hq : tb (NdefX.startF N vs ws) H Q) : codeAny (model P w) A (.call (.ref f) ⟨[], []⟩) (CR CX outer P w H s Q E) s := by
  obtain ⟨c', dV, h1, h2, h3⟩ := hf.ex
  have lim : s.heap.NoLimit := e0.mod.nolimit.keeps fun b o e => (e0.bs b o e).1
  obtain ⟨od, sl, pm, ctv, ho⟩ := lamV_at e0.hok h1
  have bind : ∃ us, BindsTo s (lamFd cells q d c' pm ctv dV) ⟨[], []⟩ (ps.zip us) ∧ Vals vs us ∧ vs.length = ps.length := by
    rcases h3 with ⟨e1, e2⟩ | ⟨i, t, e1, e2, e3⟩
    · obtain ⟨rfl, rfl, hb⟩ := b.no e1
      subst e2
      exact ⟨[], .of_eq (hb cells c' pm ctv), .nil, rfl⟩
    · obtain ⟨p, rfl, rfl, hb⟩ := b.yes i e1
      subst e2
      obtain ⟨_, its, rv, o, g1, g2, n, g3⟩ := (show ObjOk P w H s.heap t (.tup [.int i]) from e0.hok t _ e3)
      cases rv with
      | cons r1 rn =>
        rename_i u us
        cases rn
        obtain ⟨kk, k1, k2⟩ := hb cells c' t pm ctv u
        exact ⟨[u], BindsTo.of_defaults rfl g1 g3 k1 k2, .cons r1 .nil, rfl⟩
  obtain ⟨us, hb, rv, hl⟩ := bind
  refine PySem.W.kla_callFunE hr.depth ho rfl S.co S.gen rfl (NdefX.codeO_at e0.hok h2) (hb _ _ _ _ ?_)
  refine wpAny_newFunctionEnv S.nocell (fun y hy => S.par y.1 (List.of_mem_zip hy).1) (fun h₁ hns hsb => ⟨lim.fresh _ hsb, ?_⟩) S.kind
  have kp : ∀ b o, s.heap.get? b = some o → h₁.get? b = some o := fun b o e => hsb.extBut b o (Nat.ne_of_lt (Heap.lt_size e)) (Heap.get?_push_of_some _ e)
  have I : Inv (NdefX.ncx CX P w K mg base N (lamNFv cells q d c') f A outer s H E) [] (NdefX.startF N vs ws) H { s with heap := h₁, toks := s.toks + (ps.zip us).length } := NdefX.inv_startN S hr.hd e0 hl rv C hns kp
  refine PySem.W.kla_codeExpr (wpAny_mono ((hbody c' (hr.deeper _)).run [] _ _ H Q I hq) (fun v s' hv => ?_) fun e s' he => he)
  obtain ⟨w', H', J, rw', q'⟩ := hv
  exact ⟨w', H', J.os, J.bare, J.base, J.hok, rw', q'⟩
end
abbrev kN : List Str := ["_law_call", "e", "_law_kinds"]
theorem kindV_gives {X : Cx} {T : Tb} {f g : Addr} {C : Ek → Addr} {s : Shared} {H : Hp} {Q : VK} {tact : WX → TE} {go : VK → XK → Prop} (cdg : Value) (B : Bl X.mg) (KK : KCs X.K X.mg C)
    (act : ∀ (W : WX) (pn : List (Addr × Obj)) (xe : Value → Shared → Prop) (p1 p2 : Pos), Takes ((inCx X kN "_law_kind" (defScope s__law_kind) g cdg s H).tr pn xe) W → PE ((inCx X kN "_law_kind" (defScope s__law_kind) g cdg s H).tr pn xe) (.Call (.Name "_law_call" p1) [] [] p2) (tact W))
    (hact : ∀ (W : WX) (Q' : VK), go Q' (WE W (L2.start kN [V.ref f])) → tact W (L2.start kN [V.ref f]) H Q') (hgo : ForAll T X.K C Q go) :
    ∃ t, PSs (inCx X kN "_law_kind" (defScope s__law_kind) g cdg s H) (defBody s__law_kind) t ∧ t { nx := fun _ H' => Q .non H', rt := Q } (L2.start kN [V.ref f]) H := by
  obtain ⟨cDE, mDE, kDE⟩ := KK.de
  let ts : Ek → Addr → Option Addr → TS := fun k => (kindV_suite (X := X) (T := T) (g := g) (s := s) (H := H) cdg B KK k).choose
  have hts := fun k => (kindV_suite (X := X) (T := T) (g := g) (s := s) (H := H) cdg B KK k).choose_spec
  refine ⟨_, pss_cons (ps_try_as (i := 1) (c := .ref cDE) (tb := fun W => tDrop (tact W)) (ts := fun a cls d D σ H => ∃ k, cls = .ref (C k) ∧ ts k a d D σ H) (Wout := fun _ _ _ _ => False) rfl rfl sc__law_kind.nd rfl rfl ⟨rfl, by decide, .inl mDE⟩ LamX.takes0
      (fun W pn xe tk _ => pss_one (ps_expr (act W pn xe _ _ tk)))
      (fun a oe cls d pn hz hf => ⟨fun pins s' σ' H' D' I' ⟨k, e1, h⟩ => ?_⟩)) (pss_one (ps_ret (pe_tup (pa_cons pe_str (pa_cons pe_int pa_nil))))), ?_⟩
  · subst e1
    exact ((hts k).1 a d oe pn hz hf).run pins s' σ' H' D' I' h
  · refine hact _ _ (hgo _ _ (fun v H' ⟨hT, hq⟩ => ?_) (fun cls d H' ⟨k, val, e1, hr, hT, hq⟩ => ⟨true, ?_, fun _ a na => ⟨k, e1, ?_⟩, fun e => nomatch e⟩))
    · have hret : Run X.K (tRet (tTup (tCons (tC (.str "")) (tCons (tC (.int 0)) tNil)))) { nx := fun _ H' => Q .non H', rt := Q } [none, none, none] H' := run_ret (T := T) hT (d := noD) (ev_tup (ea_cons ev_str (ea_cons ev_int ea_nil)) (by simp)) fun v2 H2 g2 r2 => hq v2 H2 g2 r2
      exact hret (L2.start kN [V.ref f]) ⟨some (V.ref f), [none, none], rfl, trivial, none, [none], rfl, trivial, none, [], rfl, trivial, rfl⟩
    · rw [e1]; exact kDE k
    · have hr2 : ∀ (De : Ends) (σ : L2.St), De.rt = Q → Slots X.K H' [none, some (.v (.ref a)), none] σ → ts k a d De σ H' := fun De σ hD hs => (hts k).2 a d val De H' hT hr (fun v H2 g2 r => by rw [hD]; exact hq v H2 g2 r) σ hs
      exact hr2 _ _ rfl ⟨some (.ref f), [some (.ref a), none], rfl, trivial, some (.ref a), [none], rfl, rfl, none, [], rfl, trivial, rfl⟩
/-- captured cells stay, what is tracked may grow, but for some -/
theorem cells_unV {cl : List (Str × Addr)} {fr : List Str} {ws : List (Option V)} {fs ex : List Addr} {s s1 : Shared} {H HZ : Hp} (C : NdefX.CellsAt cl fr ws s.heap H) (un : Un fs ex H HZ s.heap s1.heap) (hx : ∀ y c, cl.lookup y = some c → c ∉ ex) : NdefX.CellsAt cl fr ws s1.heap HZ := by
  have kp : ∀ y c v, cl.lookup y = some c → s.heap.IsCell c v → s1.heap.IsCell c v := fun y c v e ⟨o, ho, hd⟩ => by
    obtain ⟨sl, e2⟩ := un.any ho (C.all y c e).1 (hx y c e)
    exact ⟨_, e2, hd⟩
  refine ⟨C.len, fun y c e => ?_, C.inj, fun i y e => ?_⟩
  · obtain ⟨n, v, z⟩ := C.all y c e
    refine ⟨?_, v, kp y c v e z⟩
    obtain ⟨o, ho, _⟩ := z
    exact un.free c o ho n (hx y c e)
  · obtain ⟨c, hc, hv⟩ := C.has i y e
    refine ⟨c, hc, fun v ev => ?_⟩
    obtain ⟨u, r, z⟩ := hv v ev
    exact ⟨u, r, kp y c _ hc z⟩
structure LamWfV (X : Cx) (fr : List Str) (d : LamD) : Prop where
  free : ∀ y ∈ d.scope.names, y.2 = .free → X.env.scope.names.lookup y.1 = some .cell ∨ X.env.scope.names.lookup y.1 = some .free
  fr : ∀ y ∈ fr, (y, NameKind.free) ∈ d.scope.names
theorem wfV {X : Cx} {fr : List Str} {d : LamD} {sc : Scope} (e : X.env.scope = sc) (h : NdefX.ndefB sc d.scope fr = true) : LamWfV X fr d := by
  subst e
  exact ⟨NdefX.ndef_free h, NdefX.ndef_fr h⟩
/-- the lambda is asked, in the frame of `_law_kind` -/
def tActV (f : Addr) (cells : List (Str × Addr)) (q : Str) (d : LamD) (N : List Str) (vs : List V) (ws : List (Option V)) (tb : XK → TE) (W : WX) : TE := fun σ H Q => σ[0]? = some (some (.ref f)) ∧ LamAt cells q d f H ∧ tb (WE W σ) (NdefX.startF N vs ws) H Q
/-- what a lambda's body says, wherever it is called -/
def BodyOk (P : Program) (w : World) (K : PySem.W.Frag) (mg : Str → Option Value) (base : Heap) (cells : List (Str × Addr)) (q : Str) (d : LamD) (N : List Str) (k : Nat) (tb : XK → TE) : Prop :=
  ∀ (f c' : Addr) (A : Around) (outer : List Env) (s : Shared) (H : Hp) (E : XK), Room k (A.deeper (NdefX.envF (lamNFv cells q d c') f s.heap.objs.size)) → PE (NdefX.ncx (L2.CX P w) P w K mg base N (lamNFv cells q d c') f A outer s H E) d.body (tb E)
section
variable {X : Cx} {T : Tb} {pins : List (Addr × Obj)} {σ : L2.St} {H2 : Hp} {s2 : Shared} {Q : VK} {C : Ek → Addr} {g f : Addr} {fd : FuncData} {k : Nat} {N ps fr : List Str} {vs : List V} {ws : List (Option V)} {d : LamD} {tb : XK → TE}
theorem kind_core {cells : List (Str × Addr)} {q : Str} (I2 : Inv X pins σ H2 s2) (Ak : At X.K X.mg "_law_kind" s__law_kind ["_law_call"] g fd) (B : Bl X.mg) (KK : KCs X.K X.mg C) (hr : Room (k + 2) X.A)
    (ha : LamAt cells q d f H2) (C0 : NdefX.CellsAt (cloFrom cells d.scope.names []) fr ws s2.heap H2) (S : NdefX.NScope N ps fr d.scope) (b : BindV q d ps vs)
    (hbody : BodyOk X.prog X.w X.K X.mg X.base cells q d N k tb) (hgo : ForAll T X.K C Q fun Q' E' => tb E' (NdefX.startF N vs ws) H2 Q') :
    codeAny (model X.prog X.w) X.A (.call (.ref g) ⟨[.ref f], []⟩) (CR CX0 X.stack X.prog X.w H2 s2 Q E0) s2 := by
  obtain ⟨oc, od, kV, doc, pm, an, cdv, ct, osl, efd, lk, hcd⟩ := Ak.F.ex
  have hb := Ak.b s2 [.ref f] I2.kIn rfl
  subst efd
  refine LamX.run_ofS (k := k + 1) (N := kN) (ps := ["_law_call"]) (us := [.ref f]) (vs := [.ref f]) lk hcd sc__law_kind hr I2.env0 hb (.cons rfl .nil) rfl fun hr' => ?_
  have act : ∀ (W : WX) (pn : List (Addr × Obj)) (xe : Value → Shared → Prop) (p1 p2 : Pos), Takes ((inCx X kN "_law_kind" (defScope s__law_kind) g cdv s2 H2).tr pn xe) W →
      PE ((inCx X kN "_law_kind" (defScope s__law_kind) g cdv s2 H2).tr pn xe) (.Call (.Name "_law_call" p1) [] [] p2) (tActV f cells q d N vs ws tb W) := by
    intro W pn xe q1 q2 tk
    refine ⟨fun pinsZ sZ σZ HZ QZ IZ ⟨z1, z2, z3⟩ => ?_⟩
    refine wpAny_Call_Name_kw (thn ((pe_var (X := (inCx X kN "_law_kind" (defScope s__law_kind) g cdv s2 H2).tr pn xe) (pos := q1) (i := 0) rfl (Or.inl rfl)).run pinsZ sZ σZ HZ (fun v H1 => v = .ref f ∧ H1 = HZ) IZ ⟨.ref f, z1, rfl, rfl⟩) fun u s3 ⟨v, H3, I3, r3, y1, y2⟩ => ?_)
    subst y1; subst y2
    cases (show u = Value.ref f from r3)
    obtain ⟨c', dV, k1, k2, k3⟩ := z2.ex
    obtain ⟨od2, sl2, pm2, ctv2, ho2⟩ := lamV_at (P := X.prog) (w := X.w) I3.hok k1
    refine PySem.W.callWith_F0 ⟨_, _, _, _, ho2⟩ ?_
    have un : Un (frs X.stack) [] H2 H3 s2.heap s3.heap := I3.base
    have cZ := cells_un (s := s2) (s1 := s3) C0 un
    refine wpAny_call (codeAny_mono (lamV_call (CX := L2.CX X.prog X.w) (E := WE W σZ) (Q := QZ) (tb := tb (WE W σZ)) S hr' I3.env0 z2 b cZ (fun c' hr2 => hbody f c' _ _ s3 H3 (WE W σZ) hr2) z3) fun r s' hq => ?_)
    cases r with
    | error e => exact passAt tk σZ pinsZ H3 s3 e s' I3 hq
    | ok fl =>
      cases fl with
      | ret u => exact I3.after hq
      | next => exact False.elim hq
      | brk => exact False.elim hq
      | cont => exact False.elim hq
  obtain ⟨t, ht, hq⟩ := kindV_gives (X := X) (T := T) (f := f) (g := g) (C := C) (s := s2) (H := H2) (Q := Q) (go := fun Q' E' => tb E' (NdefX.startF N vs ws) H2 Q') cdv B KK act (fun W Q' hq => ⟨rfl, ha, hq⟩) hgo
  exact ⟨t, ht.nox, hq⟩
end
/-- `_law_kind(lambda: ..)` -/
def tKindL (T : Tb) (K : PySem.W.Frag) (C : Ek → Addr) (N : List Str) (vs : List V) (js : List Nat) (tb : XK → TE) : TE := fun σ H Q => Tbs T H ∧ ∀ H1, Gr T [] H H1 → ForAll T K C Q fun Q' E' => tb E' (NdefX.startF N vs (js.map (NdefX.slotAt σ))) H1 Q'
theorem pe_kindL {X : Cx} {T : Tb} {C : Ek → Addr} {c P g : Addr} {fd : FuncData} {k : Nat} {N ps fr : List Str} {vs : List V} {js : List Nat} {tb : XK → TE} {params : Arguments} {body : Expr} {scope : Scope} {lpos p1 pos : Pos} {y0 : Str} {yr : List Str} (dv : Option Int)
    (Ak : At X.K X.mg "_law_kind" s__law_kind ["_law_call"] g fd) (B : Bl X.mg) (KK : KCs X.K X.mg C) (hr : Room (k + 2) X.A) (hgl : Gl X "_law_kind") (TB : LamX.TabB X.base X.mg c P) (hcode : X.env.code = .ref c)
    (hm : (P, X.env.qual ++ lamName) ∈ T.l) (hu : ∀ p ∈ T.l, p.1 = P → p.2 = X.env.qual ++ lamName) (hg : P ∉ T.g) (hf0 : fr = y0 :: yr) (hwf : LamWfV X fr ⟨params, body, scope, dv⟩) (S : NdefX.NScope N ps fr scope) (b : BindV (X.env.qual ++ lamName) ⟨params, body, scope, dv⟩ ps vs) (hjs : js.map (fun j => X.N[j]?) = fr.map some)
    (hbody : BodyOk X.prog X.w X.K X.mg X.base X.env.cells (X.env.qual ++ lamName) ⟨params, body, scope, dv⟩ N k tb)
    (hdef : (dv = none ∧ defaultsOf params X.env = ([], [])) ∨ ∃ (i : Int) (kk : Nat) (dp : Pos), dv = some i ∧ defaultsOf params X.env = ([eval (.Constant (.int i) kk dp) X.env], [])) (hkw : params.kwonlyargs = [])
    (he1 : starEach [.Lambda params body scope lpos] X.env = [(false, eval (.Lambda params body scope lpos) X.env)] := by rfl) :
    PE X (.Call (.Name "_law_kind" p1) [.Lambda params body scope lpos] [] pos) (tKindL T X.K C N vs js tb) := by
  refine ⟨fun pins s σ H Q I ⟨hT, h⟩ => ?_⟩
  have hfree : ∀ y ∈ scope.names, y.2 = .free → ∃ c, X.env.cells.lookup y.1 = some c := fun y hy e => (hwf.free y hy e).elim (fun z => I.ok.has _ (.inl z)) fun z => I.ok.has _ (.inr z)
  obtain ⟨c0, cr, hclo⟩ : ∃ c0 cr, cloFrom X.env.cells scope.names [] = c0 :: cr := by
    have hy : (y0, NameKind.free) ∈ scope.names := hwf.fr y0 (by rw [hf0]; exact List.mem_cons_self)
    have := cloFrom_has (cells := X.env.cells) (acc := []) hy
    cases e : cloFrom X.env.cells scope.names [] with
    | nil => rw [e] at this; cases this
    | cons a b => exact ⟨a, b, rfl⟩
  refine wpAny_Call_Name_kw (ld_glob I hgl Ak.m ?_ (by decide))
  refine PySem.W.callWith_K (h₀ := X.base) I.ok.mod.kin Ak.F.kp ?_ he1 (by rfl)
  rw [he1]
  show wpAny _ _ (spliced ((false, eval (.Lambda params body scope lpos) X.env) :: backTo pos (starEach [] X.env))) _ _ s
  refine Calls.spliced_cons (lam_mkD (d := ⟨params, body, scope, dv⟩) I TB hcode hm hu hg hT hfree hclo hdef hkw fun f H1 s1 I1 g1 nf ha => Calls.spliced_nil ⟨I1.kIn, ?_⟩)
  have C0 := NdefX.cells_of I1 (NdefX.Caps.made I1.ok hwf.free hwf.fr hjs)
  refine wpAny_call (codeAny_mono (kind_core (T := T) (C := C) (Q := Q) I1 Ak B KK hr ha C0 S b hbody (h H1 g1)) fun r s4 hq => ?_)
  cases r with
  | error e => exact (show False from hq).elim
  | ok fl =>
    cases fl with
    | ret u => exact I1.after hq
    | next => exact False.elim hq
    | brk => exact False.elim hq
    | cont => exact False.elim hq
end Pd
namespace Pd
open PySem PySem.Spec PyProof.Rows L2
/-! ### the slots that a lambda starts with -/
def pickD (δ : List (Option SD)) (j : Nat) : Option SD := match δ[j]? with
  | some s => s
  | none => none
theorem Slots.cat {K : PySem.W.Frag} {H : Hp} : ∀ {δ δ' : List (Option SD)} {σ σ' : L2.St}, Slots K H δ σ → Slots K H δ' σ' → Slots K H (δ ++ δ') (σ ++ σ')
  | [], _, _, _, h, h' => by cases (show _ = [] from h); exact h'
  | s :: δ, _, _, _, ⟨o, r, e, h1, h2⟩, h' => by subst e; exact ⟨o, _, rfl, h1, Slots.cat h2 h'⟩
theorem Slots.pick {K : PySem.W.Frag} {H : Hp} {δ : List (Option SD)} {σ : L2.St} (s : Slots K H δ σ) : ∀ js : List Nat, Slots K H (js.map (pickD δ)) (js.map (NdefX.slotAt σ))
  | [] => rfl
  | j :: js => by
    refine ⟨NdefX.slotAt σ j, _, rfl, ?_, Slots.pick s js⟩
    unfold pickD
    cases e : δ[j]? with
    | none => trivial
    | some d =>
      obtain ⟨o, h1, h2⟩ := s.get e
      unfold NdefX.slotAt
      rw [h1]; exact h2
theorem Slots.vals {K : PySem.W.Frag} {H : Hp} : ∀ vs : List V, Slots K H (vs.map fun v => some (.v v)) (vs.map some)
  | [] => rfl
  | v :: vs => ⟨some v, _, rfl, rfl, Slots.vals vs⟩
theorem Slots.lam {K : PySem.W.Frag} {H : Hp} {δ : List (Option SD)} {σ : L2.St} {N : List Str} {vs : List V} {js : List Nat} (s : Slots K H δ σ) (hn : N.length = vs.length + js.length) : Slots K H (vs.map (fun v => some (.v v)) ++ js.map (pickD δ)) (NdefX.startF N vs (js.map (NdefX.slotAt σ))) := by
  unfold NdefX.startF
  rw [List.length_map, show N.length - vs.length - js.length = 0 by omega, List.replicate_zero, List.append_nil]
  exact (Slots.vals vs).cat (s.pick js)
/-! ### lambdas that are kept in a list, all with the same end -/
/-- what is known of a lambda by its words -/
structure LamSt (X : Cx) (d : LamD) (N ps fr : List Str) (vs : List V) (js : List Nat) (k : Nat) (tb : XK → TE) : Prop where
  wf : LamWfV X fr d
  S : NdefX.NScope N ps fr d.scope
  b : BindV (X.env.qual ++ lamName) d ps vs
  js : js.map (fun j => X.N[j]?) = fr.map some
  body : BodyOk X.prog X.w X.K X.mg X.base X.env.cells (X.env.qual ++ lamName) d N k tb
/-- what it comes to, where the slots are so -/
def LSem (T : Tb) (K : PySem.W.Frag) (C : Ek → Addr) (δ : List (Option SD)) (res : D) (N : List Str) (vs : List V) (js : List Nat) (tb : XK → TE) : Prop :=
  ∀ σ H1, Tbs T H1 → Slots K H1 δ σ → ∀ Q : VK, (∀ v H', Gr T [] H1 H' → Rep K H' res v → Q v H') → ForAll T K C Q fun Q' E' => tb E' (NdefX.startF N vs (js.map (NdefX.slotAt σ))) H1 Q'
def WorkV (X : Cx) (T : Tb) (C : Ek → Addr) (δ : List (Option SD)) (k : Nat) (res : D) (f : Addr) (H : Hp) : Prop := ∃ (d : LamD) (N ps fr : List Str) (vs : List V) (js : List Nat) (tb : XK → TE), LamAt X.env.cells (X.env.qual ++ lamName) d f H ∧ LamSt X d N ps fr vs js k tb ∧ LSem T X.K C δ res N vs js tb
def tLamV (X : Cx) (T : Tb) (d : LamD) (N ps fr : List Str) (vs : List V) (js : List Nat) (k : Nat) (tb : XK → TE) : TE := fun _ H Q => Tbs T H ∧ ∀ f H1, Gr T [] H H1 → H f = none → LamAt X.env.cells (X.env.qual ++ lamName) d f H1 → LamSt X d N ps fr vs js k tb → Q (.ref f) H1
theorem pe_lamV {X : Cx} {T : Tb} {c P : Addr} {fr N ps : List Str} {vs : List V} {js : List Nat} {k : Nat} {tb : XK → TE} {params : Arguments} {body : Expr} {scope : Scope} {pos : Pos} (dv : Option Int) {y0 : Str} {yr : List Str} (TB : LamX.TabB X.base X.mg c P) (hcode : X.env.code = .ref c) (hm : (P, X.env.qual ++ lamName) ∈ T.l) (hu : ∀ p ∈ T.l, p.1 = P → p.2 = X.env.qual ++ lamName) (hg : P ∉ T.g)
    (hfr : fr = y0 :: yr) (L : LamSt X ⟨params, body, scope, dv⟩ N ps fr vs js k tb)
    (hdef : (dv = none ∧ defaultsOf params X.env = ([], [])) ∨ ∃ (i : Int) (kk : Nat) (dp : Pos), dv = some i ∧ defaultsOf params X.env = ([eval (.Constant (.int i) kk dp) X.env], [])) (hkw : params.kwonlyargs = []) : PE X (.Lambda params body scope pos) (tLamV X T ⟨params, body, scope, dv⟩ N ps fr vs js k tb) := by
  refine ⟨fun pins s σ H Q I ⟨hT, h⟩ => ?_⟩
  have hfree : ∀ y ∈ scope.names, y.2 = .free → ∃ c, X.env.cells.lookup y.1 = some c := fun y hy e => (L.wf.free y hy e).elim (fun z => I.ok.has _ (.inl z)) fun z => I.ok.has _ (.inr z)
  obtain ⟨c0, cr, hclo⟩ : ∃ c0 cr, cloFrom X.env.cells scope.names [] = c0 :: cr := by
    have hy : (y0, NameKind.free) ∈ scope.names := L.wf.fr y0 (by rw [hfr]; exact List.mem_cons_self)
    have := cloFrom_has (cells := X.env.cells) (acc := []) hy
    cases e : cloFrom X.env.cells scope.names [] with
    | nil => rw [e] at this; cases this
    | cons a b => exact ⟨a, b, rfl⟩
  exact lam_mkD (d := ⟨params, body, scope, dv⟩) I TB hcode hm hu hg hT hfree hclo hdef hkw fun f H1 s' I1 g1 nf ha => ⟨.ref f, H1, I1, rfl, h f H1 g1 nf ha L⟩
section
variable {X : Cx} {T : Tb} {C : Ek → Addr} {δ δw : List (Option SD)} {k : Nat} {res : D} {H H' : Hp}
theorem WorkV.up {f : Addr} {S : List Addr} (b : WorkV X T C δw k res f H) (g : Gr T S H H') (hS : ∀ l ∈ S, ∃ xs, H l = some (.lst xs)) : WorkV X T C δw k res f H' := by
  obtain ⟨d, N, ps, fr, vs, js, tb, h1, h2⟩ := b
  exact ⟨d, N, ps, fr, vs, js, tb, h1.up g hS, h2⟩
def WorksV (X : Cx) (T : Tb) (C : Ek → Addr) (δw : List (Option SD)) (k : Nat) (res : D) (H : Hp) (vs : List V) : Prop := ∀ v ∈ vs, ∃ f, v = .ref f ∧ WorkV X T C δw k res f H
theorem WorksV.up {vs : List V} {S : List Addr} (b : WorksV X T C δw k res H vs) (g : Gr T S H H') (hS : ∀ l ∈ S, ∃ xs, H l = some (.lst xs)) : WorksV X T C δw k res H' vs := fun v hv => by
  obtain ⟨f, e, h⟩ := b v hv
  exact ⟨f, e, h.up g hS⟩
def EvW (X : Cx) (T : Tb) (C : Ek → Addr) (δw : List (Option SD)) (k : Nat) (res : D) (ta : TA) (δ : List (Option SD)) (H : Hp) (n : Nat) : Prop := ∀ σ H1, Gr T [] H H1 → Slots X.K H1 δ σ → ∀ Q : List V → Hp → Prop, (∀ vs H2, Gr T [] H1 H2 → WorksV X T C δw k res H2 vs → vs.length = n → Q vs H2) → ta σ H1 Q
theorem ew_nil : EvW X T C δw k res tNil δ H 0 := fun σ H1 g s Q q => q [] H1 g.self (fun v hv => nomatch hv) rfl
theorem ew_cons {ta : TA} {n : Nat} {d : LamD} {N ps fr : List Str} {vs : List V} {js : List Nat} {tb : XK → TE} (hs : LSem T X.K C δw res N vs js tb) (h : EvW X T C δw k res ta δ H n) : EvW X T C δw k res (tCons (tLamV X T d N ps fr vs js k tb) ta) δ H (n + 1) := fun σ H1 g s Q q =>
  ⟨g.tbs, fun f H2 g2 nf ha L => h σ H2 (g.trans g2) (s.up g2) _ fun ws H3 g3 hw hl => q _ H3 (g2.trans g3) (fun v hv => by
    rcases List.mem_cons.mp hv with rfl | hv
    · exact ⟨f, rfl, d, N, ps, fr, vs, js, tb, ha.up g3 (fun l hl => nomatch hl), L, hs⟩
    · exact hw v hv) (by rw [List.length_cons, hl])⟩
variable {B : Ends} {u : TS} {l : Addr} {xs : List V} {ta : TA} {tl : TE} {n m : Nat}
theorem run_worksV (hT : Tbs T H) (h : EvW X T C δw k res ta δ H m) (hm : m ≤ 1000) (kk : ∀ l xs H1, H l = none → Gr T [] H H1 → H1 l = some (.lst xs) → WorksV X T C δw k res H1 xs → xs.length = m → Run X.K u B (δ.set n (some (.v (.ref l)))) H1) : Run X.K (tSeq (tAsg (tLst ta) (gName n)) u) B δ H := fun σ s =>
  h σ H (Gr.refl hT) s _ fun vs H2 g2 hw hl => ⟨sz (by omega), fun p hp => by
    have gn : Gr T [] H2 (upd H2 p (.lst vs)) := Gr.new g2.tbs hp
    exact kk p vs _ (g2.dom p hp) (g2.trans gn) upd_same (hw.up gn (fun l hl => nomatch hl)) hl _ ((s.up (g2.trans gn)).set n (show SlotOk X.K _ (some (.v (.ref p))) (some (.ref p)) from rfl))⟩
theorem run_worksVCat (hT : Tbs T H) (hl : EvV T X.K tl δ H (.ref l)) (e : H l = some (.lst xs)) (hx : WorksV X T C δw k res H xs) (h : EvW X T C δw k res ta δ H m) (hm : m ≤ 1000) (hz : xs.length ≤ 1000) (kk : ∀ l xs' H1, H l = none → Gr T [] H H1 → H1 l = some (.lst xs') → WorksV X T C δw k res H1 xs' → xs'.length = xs.length + m → Run X.K u B (δ.set n (some (.v (.ref l)))) H1) :
    Run X.K (tSeq (tAsg (tOp rCat tl (tLst ta)) (gName n)) u) B δ H := fun σ s =>
  hl σ H (Gr.refl hT) s _ fun H1 g1 => h σ H1 g1 (s.up g1) _ fun vs H2 g2 hw hlen => ⟨sz (by omega), fun p hp => by
    have gn : Gr T [] H2 (upd H2 p (.lst vs)) := Gr.new g2.tbs hp
    have g := (g1.trans g2).trans gn
    refine ⟨l, p, xs, vs, rfl, rfl, g.lst e (by simp), upd_same, sz (by omega), fun r hr => ?_⟩
    have gm : Gr T [] _ (upd (upd H2 p (.lst vs)) r (.lst (xs ++ vs))) := Gr.new gn.tbs hr
    refine kk r (xs ++ vs) _ (g.dom r hr) (g.trans gm) upd_same (fun v hv => ?_) (by rw [List.length_append, hlen]) _ ((s.up (g.trans gm)).set n (show SlotOk X.K _ (some (.v (.ref r))) (some (.ref r)) from rfl))
    rcases List.mem_append.mp hv with hv | hv
    · exact hx.up (g.trans gm) (fun l hl => nomatch hl) v hv
    · exact hw.up (gn.trans gm) (fun l hl => nomatch hl) v hv⟩
theorem run_worksVApp {d : LamD} {N ps fr : List Str} {vs : List V} {js : List Nat} {tb : XK → TE} (hT : Tbs T H) (hl : EvV T X.K tl δ H (.ref l)) (e : H l = some (.lst xs)) (hx : WorksV X T C δw k res H xs) (hz : xs.length ≤ 1000) (hs : LSem T X.K C δw res N vs js tb) (kk : ∀ v H1, Gr T [l] H H1 → H1 l = some (.lst (xs ++ [v])) → WorksV X T C δw k res H1 (xs ++ [v]) → Run X.K u B δ H1) :
    Run X.K (tSeq (tDrop (tBM X.K "list" rAppend tl (tCons (tLamV X T d N ps fr vs js k tb) tNil))) u) B δ H := fun σ s =>
  hl σ H (Gr.refl hT) s _ fun H1 g1 => ⟨.inl ⟨rfl, xs, .inl (.inl (g1.lst e (by simp)))⟩, g1.tbs, fun f H2 g2 nf ha L => by
    have g := g1.trans g2
    have el := g.lst e (by simp)
    have gp : Gr T [l] H2 (upd H2 l (.lst (xs ++ [.ref f]))) := (Gr.refl g.tbs).put el (.inl (by simp))
    have hS : ∀ x ∈ [l], ∃ ys, H2 x = some (.lst ys) := fun x hx => ⟨xs, by rw [List.mem_singleton.mp hx]; exact el⟩
    refine ⟨l, xs, .ref f, rfl, rfl, el, Nat.lt_of_le_of_lt hz (by decide), kk (.ref f) _ (g.any.trans gp) upd_same (fun v hv => ?_) σ ((s.up g).up gp)⟩
    rcases List.mem_append.mp hv with hv | hv
    · exact (hx.up g (fun l hl => nomatch hl)).up gp hS v hv
    · rw [List.mem_singleton.mp hv]
      exact ⟨f, rfl, d, N, ps, fr, vs, js, tb, ha.up gp hS, L, hs⟩⟩
/-- a lambda that calls a def of data that refuses -/
theorem sem_err {R : List D → Out → Prop} {N : List Str} {vs : List V} {js : List Nat} {ta : TA} {ds : List D} {kd : Ek} {val : D} (hn : N.length = vs.length + js.length) (he : ∀ H, EvA T X.K ta (vs.map (fun v => some (.v v)) ++ js.map (pickD δw)) H ds) (hR : R ds (.err kd val)) (hres : kindD kd val = res) :
    LSem T X.K C δw res N vs js (fun E => tCall (spO T X.K C R) [] E ta) := fun σ H1 hT s Q q Q' E' hQ hE =>
  he H1 _ H1 (Gr.refl hT) (s.lam hn) _ fun xs H2 g2 r => ⟨ds, _, hR, by rw [List.append_nil]; exact r, g2.tbs, fun d H3 g3 hr => hE _ _ _ ⟨kd, val, rfl, hr, g3.tbs, fun v H4 g4 r4 => q v H4 ((g2.trans g3).trans g4) (by rw [← hres]; exact r4)⟩⟩
end
/-! ### `_law_kind` of each of them -/
def tKindC (X : Cx) (T : Tb) (C : Ek → Addr) (k : Nat) (i : Nat) (σ0 : L2.St) : TE := fun σ H Q => ∃ (f : Addr) (δ : List (Option SD)) (res : D), σ[i]? = some (some (.ref f)) ∧ WorkV X T C δ k res f H ∧ Slots X.K H δ σ0 ∧ Tbs T H ∧ ∀ v H', Gr T [] H H' → Rep X.K H' res v → Q v H'
theorem pe_kindC {X : Cx} {T : Tb} {pins : List (Addr × Obj)} {σ0 : L2.St} {s0 : Shared} {H0 : Hp} {fp : List Addr} {scope : Scope} {C0 g : Addr} {C : Ek → Addr} {cl : List (Str × Addr)} {fd : FuncData} {i k : Nat} {p1 p2 pos : Pos}
    (Ar : Around1 X pins σ0 s0 H0 fp) (B : Bl X.mg) (KK : KCs X.K X.mg C) (Ak : At X.K X.mg "_law_kind" s__law_kind ["_law_call"] g fd) (hr : Room (k + 2) X.A) (hg : Gl (X.blk s0 H0 scope (compEnvC scope cl C0 X.env) fp) "_law_kind") (hN : X.N[i]? = some "_law_call") (hv : Vis (compEnvC scope cl C0 X.env).scope "_law_call")
    (he : starEach [.Name "_law_call" p2] (compEnvC scope cl C0 X.env) = (false, eval (.Name "_law_call" p2) (compEnvC scope cl C0 X.env)) :: starEach [] (compEnvC scope cl C0 X.env) := by rfl) :
    PE (X.blk s0 H0 scope (compEnvC scope cl C0 X.env) fp) (.Call (.Name "_law_kind" p1) [.Name "_law_call" p2] [] pos) (tKindC X T C k i σ0) := by
  refine ⟨fun pn1 s σ H Q I ⟨f, δ, res, hs, ⟨d, N, ps, fr, vs, js, tb, ha, L, hsem⟩, hsl, hT, q⟩ => ?_⟩
  refine wpAny_Call_Name_kw (ld_glob I hg Ak.m ?_)
  refine PySem.W.callWith_K (h₀ := X.base) I.ok.mod.kin Ak.F.kp (thn ((pa_cons (pe_var (X := X.blk s0 H0 scope (compEnvC scope cl C0 X.env) fp) (pos := p2) (i := i) hN hv) pa_nil he).run pos pn1 s σ H (fun vs H1 => vs = [.ref f] ∧ H1 = H) I ⟨.ref f, hs, rfl, rfl⟩) fun us s2 ⟨vs2, H2, I2, r, e1, e2⟩ => ⟨I2.kIn, ?_⟩) he rfl
  subst e1; subst e2
  obtain ⟨u, rfl, ru⟩ := vals1 r
  cases (show u = Value.ref f from ru)
  have C1 : NdefX.CellsAt (cloFrom X.env.cells d.scope.names []) fr (js.map (NdefX.slotAt σ0)) s2.heap H2 := by
    have cp := NdefX.Caps.made Ar.inv.ok L.wf.free L.wf.fr L.js
    have c0 := NdefX.cells_of Ar.inv cp
    refine cells_unV (s := s0) (s1 := s2) c0 I2.base fun y c e hm => ?_
    exact (Ar.fp c hm).2.2.2.2.1 y c (cp.sub y c e) rfl
  refine wpAny_call (codeAny_mono (kind_core (X := X.blk s0 H0 scope (compEnvC scope cl C0 X.env) fp) (T := T) (C := C) (Q := Q) (tb := tb) I2 Ak B KK hr ha C1 L.S L.b L.body (hsem σ0 H2 hT hsl Q q)) fun r s4 hq => ?_)
  cases r with
  | error e => exact (show False from hq).elim
  | ok fl =>
    cases fl with
    | ret u => exact I2.after hq
    | next => exact False.elim hq
    | brk => exact False.elim hq
    | cont => exact False.elim hq
section
variable {X : Cx} {T : Tb} {C : Ek → Addr} {δ δw : List (Option SD)} {k i : Nat} {res : D} {H : Hp} {l : Addr} {xs : List V} {tl : TE}
/-- a comprehension over a list that stands at l, its element told of the slots ahead -/
theorem ev_lcNV {K : PySem.W.Frag} {te : L2.St → TE} {refs : List V} {ds : List D} {n : Nat} (hl : EvV T K tl δ H (.ref l)) (e : H l = some (.lst refs)) (hz : refs.length ≤ 50000) (hlen : ds.length = refs.length)
    (hs : ∀ (σ0 : L2.St) (H0 : Hp), Slots K H0 δ σ0 → Gr T [] H H0 → ∀ (i : Nat) (c : V) (y : D) (H1 : Hp), refs[i]? = some c → ds[i]? = some y → Gr T [] H0 H1 → ∀ Q : VK, (∀ v H2, Gr T [] H1 H2 → Rep K H2 y v → Q v H2) → te σ0 ((L2.wipe σ0 [n]).set n (some c)) H1 Q) :
    EvL T K (fun σ H Q => tLc (iList K tl) (gName n) tYes (te σ) [n] σ H Q) δ H ds := fun σ H1 g1 s Q q =>
  hl σ H1 g1 s _ fun H2 g2 => by
    have e2 := (g1.trans g2).lst e (by simp)
    refine ⟨l, rfl, ⟨refs, .inl (.inl e2)⟩, fun Dl hD => ?_⟩
    have W : Walk (Itl K l) refs.length (fun H' => Gr T [] H2 H') (fun i Ha x Hb => Ha = Hb ∧ refs[i]? = some x) := (walk_list (K := K) (a := l) (xs := refs)).mono (fun H' g => .inl (.inl (Gr.lst g e2 (by simp)))) fun i Ha x Hb hi g q => ⟨q.1.symm, q.2⟩
    refine lc_it W (fun i H' => Gr T [] H2 H' ∧ ∃ acc, H' Dl = some (.lst acc) ∧ Reps K H' (ds.take i) acc) ⟨Gr.new g2.tbs hD, [], upd_same, by rw [List.take_zero]; exact rfl⟩ (fun i H' _ pv => pv.1) (fun i x Ha Hb hlt pv y => ?_) (fun H' pv => ?_)
    · obtain ⟨p1, acc, p2, p3⟩ := pv
      obtain ⟨rfl, hx⟩ := y
      have hlt' : i < ds.length := by rw [hlen]; exact (List.getElem?_eq_some_iff.mp hx).1
      refine ⟨(Off.wipe (js := [n]) ⟨by simp, fun j hj => List.getElem?_set_ne (by simpa using fun z => hj (by simp [z]))⟩ (fun j hj => hj)), ?_⟩
      show te σ _ Ha _
      refine hs σ H1 s g1 i x ds[i] Ha hx (List.getElem?_eq_getElem hlt') (g2.trans p1) _ fun v H4 g4 r4 => ?_
      have eD := g4.lst p2 (by simp)
      have gu : Gr T [Dl] H4 (upd H4 Dl (.lst (acc ++ [v]))) := (Gr.refl g4.tbs).put eD (.inl (by simp))
      refine ⟨acc, eD, ?_, (p1.trans g4).put eD (.inr hD), acc ++ [v], upd_same, ?_⟩
      · have l1 := p3.len
        rw [List.length_take] at l1
        exact Nat.lt_of_le_of_lt (by omega : acc.length ≤ 50000) (by decide)
      · rw [List.take_succ, List.getElem?_eq_getElem hlt']
        exact ((p3.up g4).app (es := [ds[i]]) ⟨v, [], rfl, r4, rfl⟩).up gu
    · obtain ⟨p1, acc, p2, p3⟩ := pv
      rw [← hlen, List.take_length] at p3
      exact q Dl acc H' (g2.dom Dl hD) (g2.trans p1) p2 p3
/-- all kept lambdas end alike -/
theorem ev_kindsV (hl : EvV T X.K tl δ H (.ref l)) (e : H l = some (.lst xs)) (hx : WorksV X T C δw k res H xs) (hz : xs.length ≤ 1000) (hL : Less δ δw) (hi : i < δ.length) : EvL T X.K (fun σ H Q => tLc (iList X.K tl) (gName i) tYes (tKindC X T C k i σ) [i] σ H Q) δ H (List.replicate xs.length res) :=
  ev_lcNV hl e (by omega) (by simp) fun σ0 H0 s0 g0 j c y H1 hc hy g1 Q q => by
    obtain ⟨f, rfl, hw⟩ := hx c (List.mem_of_getElem? hc)
    have hy' : y = res := by
      rw [List.getElem?_replicate] at hy
      split at hy
      · exact (Option.some.inj hy).symm
      · cases hy
    subst hy'
    have sl : σ0.length = δ.length := by
      have : ∀ {δ : List (Option SD)} {σ : L2.St}, Slots X.K H0 δ σ → σ.length = δ.length := fun {δ} => by
        induction δ with
        | nil => intro σ h; cases (show _ = [] from h); rfl
        | cons a δ ih => intro σ ⟨o, r, e, _, h⟩; rw [e, List.length_cons, List.length_cons, ih h]
      exact this s0
    refine ⟨f, δw, y, ?_, hw.up (g0.trans g1) (fun l hl => nomatch hl), (Slots.less hL s0).up g1, g1.tbs, q⟩
    rw [List.getElem?_set_self (by rw [L2.wipe_length, sl]; exact hi)]
/-- two new lists of data -/
theorem ev_neLLV {K : PySem.W.Frag} {ta tb : TE} {ds es : List D} {b : Bool} (ha : EvL T K ta δ H ds) (hb : EvL T K tb δ H es) (s1 : SeqAt.shaped (.list (D.pys ds)) = true) (s2 : SeqAt.shaped (.list (D.pys es)) = true) (hbb : (!PyData.eqv (.list (D.pys ds)) (.list (D.pys es))) = b) : EvD T K (tOp (rNeD K) ta tb) δ H (.bl b) := fun σ H1 g s Q q =>
  ha σ H1 g s _ fun a xs H2 na g2 ea ra => hb σ H2 (g.trans g2) (s.up g2) _ fun c ys H3 nc g3 ec rc =>
    ⟨_, _, .lst (.inl (.inl (g3.lst ea (by simp)))) (reps_dp ds xs (ra.up g3)), .lst (.inl (.inl ec)) (reps_dp es ys rc), s1, s2, by rw [hbb]; exact q _ H3 (g2.trans g3) rfl⟩
theorem reps_flatV {K : PySem.W.Frag} {ds : List D} : ∀ {xs : List V} (n : Nat), Reps K H ds xs → Reps K H (List.replicate n ds).flatten (List.replicate n xs).flatten
  | _, 0, _ => by simp [Reps]
  | xs, n + 1, h => by
    rw [List.replicate_succ, List.replicate_succ, List.flatten_cons, List.flatten_cons]
    exact h.app (reps_flatV n h)
/-- a new list, so many times -/
theorem ev_repLV {K : PySem.W.Frag} {ta tb : TE} {ds : List D} {k : Int} (ha : EvL T K ta δ H ds) (hb : EvD T K tb δ H (.int k)) (k0 : 0 ≤ k) (k1 : k ≤ 100) (hz : ds.length ≤ 100) : EvL T K (tOp rRep ta tb) δ H (List.replicate k.toNat ds).flatten := fun σ H1 g s Q q =>
  ha σ H1 g s _ fun a xs H2 na g2 ea ra => hb σ H2 (g.trans g2) (s.up g2) _ fun w H3 g3 ew => by
    have hx : xs.length ≤ 100 := by rw [ra.len]; exact hz
    have hk : k.toNat ≤ 100 := by omega
    refine ⟨a, k, xs, rfl, ew, g3.lst ea (by simp), by omega, by omega, sz (Nat.le_trans (Nat.mul_le_mul hx hk) (by decide)), fun p hp => ?_⟩
    have gn : Gr T [] H3 (upd H3 p (.lst (List.replicate k.toNat xs).flatten)) := Gr.new g3.tbs hp
    exact q p _ _ (g2.dom p (g3.dom p hp)) ((g2.trans g3).trans gn) upd_same (reps_flatV _ ((ra.up g3).up gn))
/-- `_law_kind(lambda: f(..))`, f refuses -/
theorem ev_kindErr {R : List D → Out → Prop} {N : List Str} {vs : List V} {js : List Nat} {ta : TA} {ds : List D} {kd : Ek} {val : D} (hn : N.length = vs.length + js.length) (he : ∀ H, EvA T X.K ta (vs.map (fun v => some (.v v)) ++ js.map (pickD δ)) H ds) (hR : R ds (.err kd val)) :
    EvD T X.K (tKindL T X.K C N vs js fun E => tCall (spO T X.K C R) [] E ta) δ H (kindD kd val) := fun σ H1 g s Q q =>
  ⟨g.tbs, fun H2 g2 => sem_err (X := X) (δw := δ) hn he hR rfl σ H2 g2.tbs (s.up g2) Q fun v H3 g3 r => q v H3 (g2.trans g3) r⟩
end
end Pd
namespace Pd
open PySem PySem.Spec PyProof.Rows L2 TL
/-! ### reading a text, by `_law_kind` -/
/-- what a text's reading ends with -/
def ReadD (x : Str) (o : Out) : Prop := (∃ h : House, h.figs ∧ wordsOf x = h.words ∧ o = match checkO h with | .ret _ => .ret h.toD | e => e) ∨ ∃ k : Nat, Halts (wordsOf x) k ∧ o = .err .text (.int (k : Nat))
/-- as the law tells it -/
def toldO : Out → D
  | .ret d => .tup [.str "told", d]
  | .err k val => kindD k val
/-- every text ends so or so, and the law's due is the same -/
theorem read_due (x : Str) : ∃ o, ReadD x o ∧ DueD x (toldO o) := by
  rcases took _ (wordsOf x) (Nat.le_refl _) with ⟨h, hf, r, hr⟩ | ⟨k, hk⟩
  · by_cases hrn : r = []
    · subst hrn
      refine ⟨_, .inl ⟨h, hf, by rw [hr, List.append_nil], rfl⟩, .inl ⟨h, [], hf, hr, ?_⟩⟩
      rw [if_pos rfl]
      unfold checkO houseD
      cases h.bad [] with
      | some p => rfl
      | none =>
        by_cases h12 : h.many ≤ 12
        · simp only [if_pos h12]; rfl
        · simp only [if_neg h12]; rfl
    · refine ⟨_, .inr ⟨h.words.length, ⟨by rw [hr, List.length_append]; omega, .inr ⟨?_, ?_⟩⟩, rfl⟩, .inl ⟨h, r, hf, hr, ?_⟩⟩
      · rw [hr, List.take_left' rfl]; exact House.goesF h hf []
      · rw [hr, List.length_append]
        cases r with
        | nil => exact absurd rfl hrn
        | cons a b => simp
      · rw [if_neg hrn]; rfl
  · exact ⟨_, .inr ⟨k, hk.halts, rfl⟩, .inr ⟨k, hk, rfl⟩⟩
section
variable {X : Cx} {T : Tb} {C : Ek → Addr} {δ : List (Option SD)} {H : Hp} {l : Addr} {x : Str} {u : TS} {B : Ends} {n : Nat} {N : List Str} {js : List Nat} {o : Out}
/-- kind = `_law_kind(lambda: found.append(read(one)))` -/
theorem run_kindRead (hT : Tbs T H) (hn : N.length = js.length) (e0 : (js.map (pickD δ))[0]? = some (some (.d (.str x)))) (e1 : (js.map (pickD δ))[1]? = some (some (.v (.ref l)))) (hl : H l = some (.lst [])) (hx : x.length ≤ 400) (hw : (wordsOf x).length ≤ 70) (ho : ReadD x o)
    (k1 : ∀ d v H1, o = .ret d → Gr T [l] H H1 → H1 l = some (.lst [v]) → Rep X.K H1 d v → Run X.K u B (δ.set n (some (.d noD))) H1)
    (k2 : ∀ kd val H1, o = .err kd val → Gr T [] H H1 → Run X.K u B (δ.set n (some (.d (kindD kd val)))) H1) :
    Run X.K (tSeq (tAsg (tKindL T X.K C N [] js fun E => tBM X.K "list" rAppend (tVar 1) (tCons (tCall (spReadE T X.K C) [] E (tCons (tVar 0) tNil)) tNil)) (gName n)) u) B δ H := fun σ s =>
  ⟨hT, fun H1 g1 Q' E' hQ hE => by
    have sl := (s.up g1).lam (vs := []) (js := js) (N := N) (by simpa using hn)
    refine (ev_raw (v := .ref l) (T := T) (K := X.K) (δ := ([] : List V).map (fun v => some (SD.v v)) ++ js.map (pickD δ)) (H := H1) (by simpa using e1)) _ H1 (Gr.refl g1.tbs) sl _ fun H2 g2 => ⟨Or.inl ⟨rfl, [], Or.inl (Or.inl ((g1.trans g2).lst hl (by simp)))⟩, ?_⟩
    refine (ev_var (T := T) (K := X.K) (δ := ([] : List V).map (fun v => some (SD.v v)) ++ js.map (pickD δ)) (H := H1) (d := .str x) (by simpa using e0)) _ H2 g2 (sl.up g2) _ fun w H3 g3 ew => ?_
    have g13 := (g1.trans g2).trans g3
    have okk : ∀ d v H4, o = .ret d → Gr T [] H3 H4 → Rep X.K H4 d v → Q' .non (upd H4 l (.lst ([] ++ [v]))) := fun d v H4 eo g4 r => by
      have hl4 := (g13.trans g4).lst hl (by simp)
      have gp : Gr T [l] H4 (upd H4 l (.lst ([] ++ [v]))) := (Gr.refl g4.tbs).put hl4 (.inl (by simp))
      refine hQ _ _ ⟨gp.tbs, fun v2 H5 g5 r5 => ?_⟩
      have gg := ((g13.trans g4).any.trans gp).trans g5.any
      exact k1 d v H5 eo gg (g5.lst upd_same (by simp)) ((r.up gp).up g5) _ ((s.up gg).set n (show SlotOk X.K H5 (some (.d noD)) (some v2) from r5))
    have bad : ∀ kd val dd H4, o = .err kd val → Gr T [] H3 H4 → Raised X.K kd val dd H4 → E' (.ref (C kd)) dd H4 := fun kd val dd H4 eo g4 r => by
      refine hE _ _ _ ⟨kd, val, rfl, r, g4.tbs, fun v2 H5 g5 r5 => ?_⟩
      have gg := (g13.trans g4).trans g5
      exact k2 kd val H5 eo gg _ ((s.up gg).set n (show SlotOk X.K H5 (some (.d (kindD kd val))) (some v2) from r5))
    have app : ∀ d v H4, o = .ret d → Gr T [] H3 H4 → Rep X.K H4 d v → rAppend (.ref l) [v] H4 Q' := fun d v H4 eo g4 r => ⟨l, [], v, rfl, rfl, (g13.trans g4).lst hl (by simp), by decide, okk d v H4 eo g4 r⟩
    refine ⟨x, by rw [(show w = .str x from ew)]; rfl, hx, hw, g3.tbs, ?_⟩
    rcases ho with ⟨h, hf, hwh, eo⟩ | ⟨k, hk, eo⟩
    · refine .inl ⟨h, hf, hwh, ?_⟩
      cases ec : checkO h with
      | ret d =>
        rw [ec] at eo
        exact fun v H4 g4 r => app _ v H4 eo g4 r
      | err kd val =>
        rw [ec] at eo
        exact fun dd H4 g4 r => bad kd val dd H4 eo g4 r
    · exact .inr ⟨k, hk, fun dd H4 g4 r => bad _ _ dd H4 eo g4 r⟩⟩
end
end Pd
namespace Pd
open PySem PySem.Spec PyProof.Rows L2 TL
/-! ### what the law tells: small enough to be compared -/
mutual
theorem House.fitF : ∀ (h : House) (k : Nat), h.figs → 3 * h.deep + 1 ≤ k → h.toD.fit k
  | .out n, k, _, hk => by show 0 < k; omega
  | .room hand ds, k, ⟨_, h2, h3⟩, hk => by
    have hk' : 3 * (ds.deep + 1) + 1 ≤ k := hk
    refine ⟨by simp, ⟨by show 0 < k - 1; omega, ⟨by rw [Doors.toDs_len]; omega, Doors.fitF ds (k - 1 - 1) h3 (by omega), by omega⟩, trivial⟩, by omega⟩
theorem Doors.fitF : ∀ (ds : Doors) (k : Nat), ds.figs → 3 * ds.deep + 2 ≤ k → D.fits k ds.toDs
  | .nil, _, _, _ => trivial
  | .cons n s h r, k, ⟨_, _, h5, h6⟩, hk => by
    simp only [Doors.deep] at hk
    refine ⟨⟨by simp, ⟨by show 0 < k - 1; omega, by show 0 < k - 1; omega, House.fitF h (k - 1) h5 (by omega), trivial⟩, by omega⟩, Doors.fitF r k h6 (by omega)⟩
end
mutual
theorem House.bad_len : ∀ (h : House) (p q : List Int), h.bad p = some q → q.length ≤ p.length + h.deep
  | .out n, p, q, e => by
    simp only [House.bad] at e
    by_cases c : okName n
    · rw [if_pos c] at e; cases e
    · rw [if_neg c] at e; cases e; omega
  | .room hand ds, p, q, e => by
    simp only [House.bad] at e
    simp only [House.deep]
    by_cases c : (House.room hand ds).canB = true
    · rw [if_pos c] at e
      have := Doors.bad_len ds p 0 q e
      omega
    · rw [if_neg c] at e; cases e; omega
theorem Doors.bad_len : ∀ (ds : Doors) (p : List Int) (k : Nat) (q : List Int), ds.bad p k = some q → q.length ≤ p.length + 1 + ds.deep
  | .nil, _, _, _, e => by simp [Doors.bad] at e
  | .cons n s h r, p, k, q, e => by
    simp only [Doors.bad] at e
    simp only [Doors.deep]
    cases hb : h.bad (p ++ [(k : Int)]) with
    | some q' =>
      rw [hb] at e; cases e
      have := House.bad_len h _ _ hb
      simp only [List.length_append, List.length_cons, List.length_nil] at this
      omega
    | none =>
      rw [hb] at e
      have := Doors.bad_len r p (k + 1) q e
      omega
end
theorem fits_ints {k : Nat} (hk : 0 < k) : ∀ p : List Int, D.fits k (p.map D.int)
  | [] => trivial
  | i :: p => ⟨hk, fits_ints hk p⟩
theorem kindD_fit {k : Ek} {val : D} (h : val.fit 59) : (kindD k val).fit 60 := by
  have z : 0 < 59 := by decide
  have o : 0 < 60 := by decide
  cases k
  · exact ⟨by simp, ⟨z, h, trivial⟩, o⟩
  · exact ⟨by simp, ⟨z, h, trivial⟩, o⟩
  · exact ⟨by simp, ⟨z, h, trivial⟩, o⟩
  · exact ⟨by simp, ⟨z, h, trivial⟩, o⟩
  · exact ⟨by simp, ⟨z, h, trivial⟩, o⟩
  · exact ⟨by simp, ⟨z, z, trivial⟩, o⟩
theorem pathD_fit {p : List Int} {k : Nat} (h : p.length ≤ 1000) (hk : 1 < k) : (pathD p).fit k := ⟨by rw [List.length_map]; exact h, fits_ints (by omega) p, by omega⟩
/-- what a text's reading ends with is small -/
theorem ReadD.fit {x : Str} {o : Out} (h : ReadD x o) (hw : (wordsOf x).length ≤ 38) : (toldO o).fit 60 := by
  rcases h with ⟨h, hf, e, eo⟩ | ⟨k, _, eo⟩
  · have hd := House.deep_words h
    rw [← e] at hd
    subst eo
    unfold checkO
    cases hb : h.bad [] with
    | some p =>
      have := House.bad_len h _ _ hb
      simp only [List.length_nil] at this
      exact kindD_fit (k := .house) (pathD_fit (by omega) (by decide))
    | none =>
      by_cases h12 : h.many ≤ 12
      · simp only [if_pos h12]
        exact ⟨by simp, ⟨show 0 < 59 by decide, House.fitF h 59 hf (by omega), trivial⟩, show 0 < 60 by decide⟩
      · simp only [if_neg h12]
        exact kindD_fit (k := .house) (pathD_fit (by simp) (by decide))
  · subst eo
    exact kindD_fit (k := .text) (show 0 < 59 by decide)
/-- what a refusal is told as can be compared with what is told of none -/
theorem ReadD.kind {x : Str} {kd : Ek} {val : D} (h : ReadD x (.err kd val)) : (kindD kd val).can 64 ∧ (kindD kd val).nb ∧ kindD kd val ≠ noD := by
  have cp : ∀ p : List Int, (pathD p).can 63 := fun p => ⟨by decide, D.cans_all fun d hd => by obtain ⟨i, _, rfl⟩ := List.mem_map.mp hd; trivial⟩
  have house : ∀ p : List Int, (kindD .house (pathD p)).can 64 ∧ (kindD .house (pathD p)).nb ∧ kindD .house (pathD p) ≠ noD := fun p => ⟨⟨by decide, (show PyData.strOk "house" = true by decide +kernel), cp p, trivial⟩, ⟨trivial, D.nbs_ints p, trivial⟩, by simp [kindD, noD, pathD]⟩
  rcases h with ⟨h, hf, e, eo⟩ | ⟨k, _, eo⟩
  · unfold checkO at eo
    cases hb : h.bad [] with
    | some p =>
      rw [hb] at eo
      cases eo
      exact house p
    | none =>
      rw [hb] at eo
      by_cases h12 : h.many ≤ 12
      · simp only [if_pos h12] at eo; cases eo
      · simp only [if_neg h12] at eo; cases eo; exact house []
  · cases eo
    exact ⟨⟨by decide, (show PyData.strOk "text" = true by decide +kernel), trivial, trivial⟩, ⟨trivial, trivial, trivial⟩, fun z => by
      have := congrArg (fun d : D => match d with | .tup (.str s :: _) => s | _ => "") z
      exact absurd (show ("text" : Str) = "" from this) (by decide +kernel)⟩
section
variable {T : Tb} {K : PySem.W.Frag} {δ : List (Option SD)} {H : Hp} {ta tb : TE}
theorem noD_can : noD.can 64 := ⟨by decide, (show PyData.strOk "" = true by decide +kernel), trivial, trivial⟩
theorem et_isNo {d : D} {c : Bool} (ha : EvD T K ta δ H d) (h1 : d.can 64) (h2 : d.nb) (hc : c = true ↔ d = noD) : EvT T K (tTest (tOp (rEqD K) ta (tTup (tCons (tC (.str "")) (tCons (tC (.int 0)) tNil))))) δ H c :=
  et_test (ev_eqD (k := 64) ha (ev_tup (ds := [.str "", .int 0]) (ea_cons ev_str (ea_cons ev_int ea_nil)) (by simp)) h1 noD_can (Nat.le_refl _) h2 ⟨trivial, trivial, trivial⟩ hc)
end
end Pd
set_option maxHeartbeats 2000000
namespace Pd
open PySem PySem.Spec PyProof.Rows L2
mutual
theorem House.fit : ∀ (h : House) (k : Nat), h.ok → 3 * h.deep + 1 ≤ k → h.toD.fit k
  | .out n, k, _, hk => by show 0 < k; omega
  | .room hand ds, k, ⟨_, _, h2, h3⟩, hk => by
    have hk' : 3 * (ds.deep + 1) + 1 ≤ k := hk
    refine ⟨by simp, ⟨by show 0 < k - 1; omega, ⟨by rw [Doors.toDs_len]; omega, Doors.fit ds (k - 1 - 1) h3 (by omega), by omega⟩, trivial⟩, by omega⟩
theorem Doors.fit : ∀ (ds : Doors) (k : Nat), ds.ok → 3 * ds.deep + 2 ≤ k → D.fits k ds.toDs
  | .nil, _, _, _ => trivial
  | .cons n s h r, k, ⟨_, _, _, _, h5, h6⟩, hk => by
    have a : h.deep ≤ (Doors.cons n s h r).deep := Nat.le_max_left _ _
    have b : r.deep ≤ (Doors.cons n s h r).deep := Nat.le_max_right _ _
    refine ⟨⟨by simp, ⟨by show 0 < k - 1; omega, by show 0 < k - 1; omega, House.fit h (k - 1) h5 (by omega), trivial⟩, by omega⟩, Doors.fit r k h6 (by omega)⟩
end
mutual
theorem House.told_len : ∀ h : House, h.step.1.1.length ≤ h.deep
  | .out _ => Nat.le_refl _
  | .room hand ds => Nat.succ_le_succ (Doors.told_len ds hand.toNat)
theorem Doors.told_len : ∀ (ds : Doors) (i : Nat), (ds.step i).1.1.length ≤ ds.deep
  | .nil, _ => Nat.le_refl _
  | .cons n s h r, 0 => by
    unfold Doors.step
    split
    · exact Nat.zero_le _
    · exact Nat.le_trans (House.told_len h) (Nat.le_max_left _ _)
  | .cons n s h r, i + 1 => Nat.le_trans (Doors.told_len r i) (Nat.le_max_right _ _)
end
theorem toldD_fit {t : Told} {k : Nat} (hl : t.1.length ≤ 900) (hk : 3 ≤ k) : (toldD [] t).fit k := by
  obtain ⟨r, nm⟩ := t
  have hp : (D.tup ([] ++ r.map D.int)).fit (k - 1) := by
    refine ⟨by simpa using Nat.le_trans hl (by decide), D.fits_all fun d hd => ?_, by omega⟩
    obtain ⟨i, _, rfl⟩ := List.mem_map.mp (show d ∈ r.map D.int by simpa using hd)
    show 0 < k - 1 - 1
    omega
  cases nm with
  | none => exact ⟨by simp, ⟨by show 0 < k - 1; omega, hp, trivial⟩, by omega⟩
  | some n => exact ⟨by simp, ⟨by show 0 < k - 1; omega, hp, by show 0 < k - 1; omega, trivial⟩, by omega⟩
theorem Slots.long {K : PySem.W.Frag} {H : Hp} : ∀ {δ : List (Option SD)} {σ : L2.St}, Slots K H δ σ → σ.length = δ.length
  | [], _, h => by cases (show _ = [] from h); rfl
  | _ :: _, _, ⟨_, _, e, _, h⟩ => by rw [e, List.length_cons, List.length_cons, Slots.long h]
theorem fatesD_get {h : House} {n i : Nat} (hi : i < n) : (fatesD h n)[i]? = some (toldD [] (House.iter i h).step.1) := by
  unfold fatesD
  rw [List.getElem?_map, List.getElem?_range hi]; rfl
theorem iter_fit {h : House} (ok : h.ok) (hd : h.deep < 13) (n : Nat) : (House.iter n h).toD.fit 60 ∧ (toldD [] (House.iter n h).step.1).fit 59 := by
  have e := House.iter_deep n h
  have o := House.iter_ok n h ok
  refine ⟨House.fit _ 60 o (by omega), toldD_fit ?_ (by decide)⟩
  have := House.told_len (House.iter n h)
  omega
theorem fates_fit {h : House} (ok : h.ok) (hd : h.deep < 13) (n : Nat) : D.fits 59 (fatesD h n) := D.fits_all fun d hx => by
  obtain ⟨i, _, rfl⟩ := List.mem_map.mp hx
  exact (iter_fit ok hd i).2
section
variable {T : Tb} {K : PySem.W.Frag} {δ : List (Option SD)} {H : Hp} {a b : Addr} {E : XK} {S : List Addr} {ta tv tn tl tm : TE} {u : TS} {B : Ends}
/-- due.append(step(node)) -/
theorem run_step {c : Addr} {xs : List V} {t : LH} (hT : Tbs T H) (hl : EvV T K tl δ H (.ref c)) (e : H c = some (.lst xs)) (hz : xs.length < 50000) (hn : EvV T K tn δ H t.val) (hC : CAt H t.cells) (nd : (fps t.cells).Nodup) (ok : t.house.ok) (hd : t.house.deep < 100) (nc : c ∉ fps t.cells)
    (k : ∀ (t' : LH) (v : V) (H1 : Hp), t'.house = t.house.step.2 → t'.val = t.val → fps t'.cells = fps t.cells → CAt H1 t'.cells → Gr T (c :: fps t.cells) H H1 → H1 c = some (.lst (xs ++ [v])) → Rep K H1 (toldD [] t.house.step.1) v → Run K u B δ H1) :
    Run K (tSeq (tDrop (tBM K "list" rAppend tl (tCons (tCall (spStep T K) [] E (tCons tn tNil)) tNil))) u) B δ H := fun σ s =>
  hl σ H (Gr.refl hT) s _ fun H1 g1 => ⟨.inl ⟨rfl, xs, .inl (.inl (g1.lst e (by simp)))⟩, hn σ H1 g1 (s.up g1) _ fun H2 g2 => ⟨t, rfl, hC.up (g1.trans g2) (fun x _ z => nomatch z), nd, ok, hd, g2.tbs, fun t' v H3 e1 e2 e3 hC' g3 r => by
    have g12 := g1.trans g2
    have el : H3 c = some (.lst xs) := g3.lst (g12.lst e (by simp)) nc
    have g : Gr T (c :: fps t.cells) H H3 := g12.any.trans (g3.mono fun x hx => List.mem_cons_of_mem _ hx)
    have gp : Gr T [c] H3 (upd H3 c (.lst (xs ++ [v]))) := (Gr.refl g.tbs).put el (.inl (by simp))
    have gg : Gr T (c :: fps t.cells) H (upd H3 c (.lst (xs ++ [v]))) := g.put el (.inl (by simp))
    refine ⟨c, xs, v, rfl, rfl, el, Nat.lt_trans hz (by decide), k t' v _ e1 e2 e3 (hC'.up gp fun x hx z => ?_) gg upd_same (r.up gp) σ (s.up gg)⟩
    rw [e3] at hx
    rw [List.mem_singleton.mp z] at hx
    exact nc hx⟩⟩
/-- a new list, and one that stands at c: alike -/
theorem ev_alikeLL {lv : Nat} {c : Addr} {xs : List V} {ds : List D} (ha : EvL T K ta δ H ds) (hb : EvV T K tl δ H (.ref c)) (e : H c = some (.lst xs)) (r : Reps K H ds xs) (hlen : ds.length ≤ 1000) (hf : D.fits (lv - 1) ds) (h0 : 0 < lv) : EvD T K (tCall (spAlike T K lv) [] E (tCons ta (tCons tl tNil))) δ H (.bl true) := fun σ H1 g s Q q =>
  ha σ H1 g s _ fun p ys H2 np g2 ep rp => hb σ H2 (g.trans g2) (s.up g2) _ fun H3 g3 => ⟨.l ds, .ref p, .ref c, rfl, ⟨p, ys, rfl, g3.lst ep (by simp), rp.up g3⟩, ⟨c, xs, rfl, ((g.trans g2).trans g3).lst e (by simp), ((r.up g).up g2).up g3⟩, .inr ⟨ds, rfl, hlen, hf, h0⟩, g3.tbs, fun H4 g4 => q _ H4 ((g2.trans g3).trans g4) rfl⟩
end
end Pd
set_option maxHeartbeats 4000000
namespace Pd
open PySem PySem.Spec PyProof.Rows L2
section
variable {T : Tb} {S : List Addr} {J : Hp → Prop} {K : PySem.W.Frag} {δ : List (Option SD)} {H : Hp} {ta tb tc : TE} {t u : TS} {B : Ends} {ds : List D} {xs : List V} {l : Addr} {x y z : D} {p p2 : D → Prop}
/-- an item of a list that stands at l, by a draw -/
theorem ex_ixRaw (hJ : Stays T J) (ha : ∀ H1, Gr T S H H1 → EvV T K ta δ H1 (.ref l)) (e : H l = some (.lst xs)) (nl : l ∉ S) (r : Reps K H ds xs) (hb : EvX T K S J tb δ H p2) (hr : ∀ y, p2 y → ∃ i d, y = .int i ∧ atI ds i = some d ∧ p d) : EvX T K S J (tOp (rIxL K) ta tb) δ H p := fun σ H1 g j s Q q =>
  ha H1 g σ H1 g.self s _ fun H2 g2 => hb σ H2 (g.trans g2.any) (hJ H1 H2 g2 j) (s.up g2) _ fun d v H3 pd g3 j3 rr => by
    obtain ⟨i, d', rfl, hat, pd'⟩ := hr d pd
    have gg := (g.trans g2.any).trans g3
    obtain ⟨x, hx, rx⟩ := atI_rep (r.up gg) hat
    exact ⟨l, xs, i, x, rfl, rr, .inl (.inl (gg.lst e nl)), hx, q d' x H3 pd' (g2.any.trans g3) j3 rx⟩
theorem run_par3D {i j m : Nat} (hT : Tbs T H) (ha : EvD T K ta δ H x) (hb : EvD T K tb δ H y) (hc : EvD T K tc δ H z) (k : ∀ H1, Gr T [] H H1 → Run K u B (((δ.set i (some (.d x))).set j (some (.d y))).set m (some (.d z))) H1) :
    Run K (tSeq (tPar3 i j m (tCons ta (tCons tb (tCons tc tNil)))) u) B δ H := fun σ s =>
  ha σ H (Gr.refl hT) s _ fun v1 H1 g1 r1 => hb σ H1 g1 (s.up g1) _ fun v2 H2 g2 r2 => hc σ H2 (g1.trans g2) ((s.up g1).up g2) _ fun v3 H3 g3 r3 => by
    have g := (g1.trans g2).trans g3
    exact ⟨v1, v2, v3, rfl, k H3 g _ ((((s.up g).set i (show SlotOk K H3 (some (.d x)) (some v1) from (r1.up g2).up g3)).set j (show SlotOk K H3 (some (.d y)) (some v2) from r2.up g3)).set m (show SlotOk K H3 (some (.d z)) (some v3) from r3))⟩
theorem ev_intB {b : Bool} (h : EvD T K ta δ H (.bl b)) : EvD T K (tCB (fun xs H Q => (∃ i, xs = [V.int i] ∧ Q (.int i) H) ∨ ∃ k, xs = [V.bl k] ∧ Q (.int (if k then 1 else 0)) H) (tCons ta tNil)) δ H (.int (if b then 1 else 0)) := fun σ H1 g s Q q =>
  h σ H1 g s _ fun v H2 g2 r => .inr ⟨b, by rw [show v = .bl b from r], q _ H2 g2 rfl⟩
theorem ev_p18 : EvD T K (tOp (rI CPow fun i j => .int (i ^ j.toNat)) (tC (.int 10)) (tC (.int 18))) δ H (.int 1000000000000000000) := ev_I (i := 10) (j := 18) ev_int ev_int ⟨by decide, by decide, by decide⟩
theorem ev_p15 : EvD T K (tOp (rI CPow fun i j => .int (i ^ j.toNat)) (tC (.int 10)) (tC (.int 15))) δ H (.int 1000000000000000) := ev_I (i := 10) (j := 15) ev_int ev_int ⟨by decide, by decide, by decide⟩
end
theorem strOk_push : PyData.strOk "push" = true := by decide +kernel
theorem strOk_out : PyData.strOk "out" = true := by decide +kernel
theorem ints_can (k : Nat) (q : List Int) : D.cans k (q.map D.int) := D.cans_all fun d hd => by
  obtain ⟨i, _, rfl⟩ := List.mem_map.mp hd
  trivial
theorem told_can {t : Told} (h : ∀ nm, t.2 = some nm → okName nm) : (toldD [] t).can 3 := by
  obtain ⟨r, nm⟩ := t
  cases nm with
  | none => exact ⟨by decide, strOk_push, ⟨by decide, by simpa using ints_can _ r⟩, trivial⟩
  | some n => exact ⟨by decide, strOk_out, ⟨by decide, by simpa using ints_can _ r⟩, (h n rfl).can, trivial⟩
section
variable {P : Program} {w : World} {K : PySem.W.Frag} {mg : Str → Option Value} {base : Heap} {T : Tb} {f : Addr} {fd : FuncData}
def spPush (T : Tb) (K : PySem.W.Frag) : Sp := fun vs H Q _ => ∃ (a b l : Addr) (h : House) (vh : V) (number far L : Int) (xs : List V), vs = [.ref a, vh, .int number, .int far, .ref l] ∧ HS a b H ∧ Rep K H h.toD vh ∧ h.ok ∧ h.many ≤ 12 ∧ 1 ≤ number ∧ number ≤ 1000000000000000 ∧ 0 ≤ far ∧ far ≤ 1000000000000000000 ∧ IsL h far L ∧
  H l = some (.lst xs) ∧ Reps K H (fatesD (behindW h far L) 30) xs ∧ l ≠ a ∧ l ≠ b ∧ Tbs T H ∧ ∀ H', Gr T [a, b] H H' → HS a b H' → Q (.bl true) H'
end
end Pd
namespace Pd
open PySem PySem.Spec PyProof.Rows L2
/-! ### a bound of walkers -/
theorem turns_le {hand len k l : Int} (h0 : 0 ≤ hand) (h1 : hand < len) (h4 : len ≤ 4) (k0 : 0 ≤ k) (k1 : k < len) (l0 : 0 ≤ l) : turns hand len k l ≤ l := by
  unfold turns
  rw [fmod4 (by omega), fdiv4 (by omega)]
  have : len = 1 ∨ len = 2 ∨ len = 3 ∨ len = 4 := by omega
  rcases this with rfl | rfl | rfl | rfl <;> omega
mutual
theorem House.W_top : ∀ (h : House) (l : Int), h.ok → 0 ≤ l → h.W l ≤ l * (1 + 100 * h.many)
  | .out _, l, _, _ => by simp [House.W, House.many]
  | .room hand ds, l, ⟨h0, h1, h2, h3⟩, l0 => by
    simp only [House.W, House.many]
    have := Doors.W_top ds hand ds.len 0 l h3 h0 h1 (by omega) (by omega) (by omega) l0
    rw [Int.mul_add]
    omega
theorem Doors.W_top : ∀ (ds : Doors) (hand len k l : Int), ds.ok → 0 ≤ hand → hand < len → len ≤ 4 → 0 ≤ k → k + ds.len ≤ len → 0 ≤ l → ds.W hand len k l ≤ l * (100 * ds.many)
  | .nil, _, _, _, l, _, _, _, _, _, _, l0 => by simp [Doors.W, Doors.many]
  | .cons n s h r, hand, len, k, l, ⟨o1, o2, o3, _, h5, h6⟩, a, b, c, d, e, l0 => by
    simp only [Doors.len] at e
    have t0 := turns_nonneg a b c d (by omega) l0
    have t1 := turns_le a b c d (by omega) l0
    have i1 := House.W_top h (turns hand len k l) h5 t0
    have i2 := Doors.W_top r hand len (k + 1) l h6 a b c (by omega) (by omega) l0
    simp only [Doors.W, Doors.many]
    have m1 : turns hand len k l * n ≤ turns hand len k l * 99 := Int.mul_le_mul_of_nonneg_left o2 t0
    have m2 : turns hand len k l * (1 + 100 * h.many) ≤ l * (1 + 100 * h.many) := Int.mul_le_mul_of_nonneg_right t1 (by omega)
    have e1 : l * (100 * ((1 + h.many + r.many : Nat) : Int)) = 99 * l + l * (1 + 100 * h.many) + l * (100 * r.many) := by
      rw [show (100 * ((1 + h.many + r.many : Nat) : Int)) = 99 + (1 + 100 * h.many) + 100 * r.many by omega, Int.mul_add, Int.mul_add, Int.mul_comm l 99]
    rw [e1]
    have p : 0 ≤ l * (1 + 100 * (h.many : Int)) := Int.mul_nonneg l0 (by omega)
    split <;> omega
end
section
variable {T : Tb} {S : List Addr} {J : Hp → Prop} {K : PySem.W.Frag} {δ : List (Option SD)} {H : Hp} {E : XK} {ta tb tc te t1 t2 : TE} {u : TS} {B : Ends} {a b : Addr}
theorem ev_p12 : EvD T K (tOp (rI CPow fun i j => .int (i ^ j.toNat)) (tC (.int 10)) (tC (.int 12))) δ H (.int 1000000000000) := ev_I (i := 10) (j := 12) ev_int ev_int ⟨by decide, by decide, by decide⟩
theorem ev_p6 : EvD T K (tOp (rI CPow fun i j => .int (i ^ j.toNat)) (tC (.int 10)) (tC (.int 6))) δ H (.int 1000000) := ev_I (i := 10) (j := 6) ev_int ev_int ⟨by decide, by decide, by decide⟩
/-- a, b = x, y, both drawn -/
theorem runx_par {i j : Nat} {ta : TA} {p : List D → Prop} (hT : Tbs T H) (hj : J H) (h : ExA T K S J ta δ H p) (hp : ∀ ds, p ds → ∃ x y, ds = [x, y]) (k : ∀ x y H1, p [x, y] → Gr T S H H1 → J H1 → Run K u B ((δ.set i (some (.d x))).set j (some (.d y))) H1) : Run K (tSeq (tPar i j ta) u) B δ H := fun σ s =>
  h σ H (Gr.refl hT) hj s _ fun ds vs H1 pd g1 j1 r => by
    obtain ⟨x, y, rfl⟩ := hp ds pd
    obtain ⟨v, r1, rfl, h1, w, r2, rfl, h2, h3⟩ := r
    cases (show r2 = [] from h3)
    exact ⟨v, w, rfl, k x y H1 pd g1 j1 _ (((s.up g1).set i (show SlotOk K H1 (some (.d x)) (some v) from h1)).set j (show SlotOk K H1 (some (.d y)) (some w) from h2))⟩
/-- one of two -/
theorem ex_pick2 {x y : Int} (hS : ∀ H1 l, HS a b H1 → l ∈ [a, b] → H1 l ≠ none) (h1 : ∀ H1, Gr T [a, b] H H1 → EvD T K t1 δ H1 (.int x)) (h2 : ∀ H1, Gr T [a, b] H H1 → EvD T K t2 δ H1 (.int y)) (hv : ∀ H1, Gr T [a, b] H H1 → EvV T K ta δ H1 (.ref a)) :
    EvX T K [a, b] (HS a b) (tOp (rIxL K) (tLst (tCons t1 (tCons t2 tNil))) (tCall (spNext T) [] E (tCons ta (tCons (tC (.int 2)) tNil)))) δ H (fun d => ∃ n : Int, d = .int n ∧ (n = x ∨ n = y)) :=
  ex_ixL (ex_lst (pa := fun ds => ds = [.int x, .int y]) HS.stays (fun σ H1 g j s Q q => (xa_cons (ex_pure HS.stays h1) (xa_cons (ex_pure HS.stays h2) xa_nil)) σ H1 g j s Q fun ds vs H2 h2 => q ds vs H2 (by obtain ⟨_, _, rfl, rfl, _, _, rfl, rfl, rfl⟩ := h2; rfl)) (by rintro ds rfl; simp))
    (ex_nextC (by simp) (by simp) HS.stays (fun _ h => h) (fun _ _ _ _ h => h) hv (fun _ _ => ev_int) (by decide) (by decide)) (by
      rintro ds z rfl ⟨r, rfl, r0, r1⟩
      have : r = 0 ∨ r = 1 := by omega
      rcases this with rfl | rfl
      · exact ⟨0, .int x, rfl, at0, x, rfl, .inl rfl⟩
      · exact ⟨1, .int y, rfl, at1, y, rfl, .inr rfl⟩) hS
/-- a draw below one of two -/
theorem ex_nextP {x y : Int} (hS : ∀ H1 l, HS a b H1 → l ∈ [a, b] → H1 l ≠ none) (h1 : ∀ H1, Gr T [a, b] H H1 → EvD T K t1 δ H1 (.int x)) (h2 : ∀ H1, Gr T [a, b] H H1 → EvD T K t2 δ H1 (.int y)) (hv : ∀ H1, Gr T [a, b] H H1 → EvV T K ta δ H1 (.ref a)) (x0 : 0 < x) (x1 : x ≤ y) (y1 : y ≤ 10 ^ 20) :
    EvX T K [a, b] (HS a b) (tCall (spNext T) [] E (tCons ta (tCons (tOp (rIxL K) (tLst (tCons t1 (tCons t2 tNil))) (tCall (spNext T) [] E (tCons ta (tCons (tC (.int 2)) tNil)))) tNil))) δ H (fun d => ∃ r : Int, d = .int r ∧ 0 ≤ r ∧ r < y) :=
  (ex_next (pn := fun n => n ≤ y) (by simp) (by simp) HS.stays (fun _ h => h) (fun _ _ _ _ h => h) hv (ex_pick2 hS h1 h2 hv) (by rintro d ⟨n, rfl, rfl | rfl⟩ <;> exact ⟨_, rfl, by omega, by omega, by omega⟩)).imp (by rintro d ⟨r, n, rfl, r0, r1, hn⟩; exact ⟨r, rfl, r0, by omega⟩)
/-- a house of few -/
theorem ex_houseP {x y : Int} (hS : ∀ H1 l, HS a b H1 → l ∈ [a, b] → H1 l ≠ none) (h1 : ∀ H1, Gr T [a, b] H H1 → EvD T K t1 δ H1 (.int x)) (h2 : ∀ H1, Gr T [a, b] H H1 → EvD T K t2 δ H1 (.int y)) (hv : ∀ H1, Gr T [a, b] H H1 → EvV T K ta δ H1 (.ref a)) (x0 : 1 ≤ x) (x1 : x ≤ 99) (y0 : 1 ≤ y) (y1 : y ≤ 99) :
    EvX T K [a, b] (HS a b) (tCall (spHouse T K) [] E (tCons ta (tCons (tOp (rIxL K) (tLst (tCons t1 (tCons t2 tNil))) (tCall (spNext T) [] E (tCons ta (tCons (tC (.int 2)) tNil)))) tNil))) δ H (fun d => ∃ h : House, d = h.toD ∧ h.ok ∧ h.many ≤ 12) :=
  ex_house (few := fun n => n = x ∨ n = y) ((xs_v HS.stays hv (xs_d (ex_pick2 hS h1 h2 hv) xs_nil)).imp (by rintro ss ⟨_, rfl, _, _, rfl, ⟨n, rfl, hn⟩, rfl⟩; exact ⟨n, rfl, hn⟩)) (by rintro n (rfl | rfl) <;> omega)
/-- two new lists of the same -/
theorem ev_neNN {k : Nat} {ds : List D} (ha : EvL T K ta δ H ds) (hb : EvL T K tb δ H ds) (hd : D.cans k ds) (hk : k ≤ 63) : EvD T K (tOp (rNeD K) ta tb) δ H (.bl false) := fun σ H1 g s Q q =>
  ha σ H1 g s _ fun p xs H2 np g2 ep rp => hb σ H2 (g.trans g2) (s.up g2) _ fun c ys H3 nc g3 ec rc => by
    refine ⟨_, _, .lst (.inl (.inl (g3.lst ep (by simp)))) (reps_dp ds xs (rp.up g3)), .lst (.inl (.inl ec)) (reps_dp ds ys rc), D.cans_shaped hd hk, D.cans_shaped hd hk, ?_⟩
    have e2 : PyData.eqv (.list (D.pys ds)) (.list (D.pys ds)) = true := PySem.SeqAt.eqv_refl _ (D.cans_lay k ds hd).1
    rw [e2]
    exact q _ H3 (g2.trans g3) rfl
theorem Reps.rep {ds : List D} {xs : List V} (h : Reps K H ds xs) : ∀ n : Nat, Reps K H (List.replicate n ds).flatten (List.replicate n xs).flatten
  | 0 => rfl
  | n + 1 => by rw [List.replicate_succ, List.replicate_succ, List.flatten_cons, List.flatten_cons]; exact h.app (Reps.rep h n)
/-- xs * k -/
theorem ev_repL {ds : List D} {k : Nat} (ha : EvL T K ta δ H ds) (hb : EvD T K tb δ H (.int k)) (hk : k ≤ 1000) (hl : ds.length ≤ 10) : EvL T K (tOp rRep ta tb) δ H (List.replicate k ds).flatten := fun σ H1 g s Q q =>
  ha σ H1 g s _ fun p xs H2 np g2 ep rp => hb σ H2 (g.trans g2) (s.up g2) _ fun w H3 g3 e => by
    have l := rp.len
    refine ⟨p, k, xs, rfl, e, g3.lst ep (by simp), by omega, by omega, sz ?_, fun c hc => ?_⟩
    · rw [Int.toNat_natCast]
      exact Nat.le_trans (Nat.mul_le_mul (show xs.length ≤ 10 by omega) hk) (by decide)
    · have gn : Gr T [] H3 (upd H3 c (.lst (List.replicate (k : Int).toNat xs).flatten)) := Gr.new g3.tbs hc
      refine q c _ _ (g2.dom c (g3.dom c hc)) ((g2.trans g3).trans gn) upd_same ?_
      rw [Int.toNat_natCast]
      exact ((rp.up g3).rep k).up gn
end
end Pd
namespace Pd
open PySem PySem.Spec PyProof.Rows L2 TL
/-! ### rules for the law: lists and texts put together while it draws -/
section
variable {T : Tb} {S : List Addr} {J : Hp → Prop} {K : PySem.W.Frag} {δ : List (Option SD)} {H : Hp} {ta tb te tl_ : TE} {u : TS} {B : Ends} {l : Addr}
theorem xl_pure {ds : List D} (hJ : Stays T J) (h : ∀ H1, Gr T S H H1 → EvL T K te δ H1 ds) : ExL T K S J te δ H (fun z => z = ds) := fun σ H1 g j s Q q =>
  h H1 g σ H1 g.self s Q fun p xs H2 np g2 e r => q ds p xs H2 rfl np g2.any (hJ H1 H2 g2 j) e r
theorem xl_imp {pa pb : List D → Prop} (h : ExL T K S J te δ H pa) (hp : ∀ ds, pa ds → pb ds) : ExL T K S J te δ H pb := fun σ H1 g j s Q q => h σ H1 g j s Q fun ds l xs H2 pd => q ds l xs H2 (hp ds pd)
/-- two new lists, one behind the other -/
theorem xl_cat {pa pb : List D → Prop} (hJ : Stays T J) (hS : ∀ H1 l, J H1 → l ∈ S → H1 l ≠ none) (ha : ExL T K S J ta δ H pa) (hb : ExL T K S J tb δ H pb) (hz : ∀ x y, pa x → pb y → x.length + y.length ≤ 10000) :
    ExL T K S J (tOp rCat ta tb) δ H (fun ds => ∃ x y, pa x ∧ pb y ∧ ds = x ++ y) := fun σ H1 g j s Q q =>
  ha σ H1 g j s _ fun x l xs H2 px nl g2 j2 el rx => hb σ H2 (g.trans g2) j2 (s.up g2) _ fun y p ys H3 py np g3 j3 ep ry => by
    have nS : l ∉ S := fun z => hS H1 l j z nl
    have rx' := rx.up g3
    refine ⟨l, p, xs, ys, rfl, rfl, g3.lst el nS, ep, sz (by have := hz x y px py; rw [rx'.len, ry.len]; omega), fun b hb' => ?_⟩
    have gn : Gr T [] H3 (upd H3 b (.lst (xs ++ ys))) := Gr.new g3.tbs hb'
    exact q (x ++ y) b _ _ ⟨x, y, px, py, rfl⟩ (g2.dom b (g3.dom b hb')) ((g2.trans g3).trans gn.any) (hJ _ _ gn j3) upd_same ((rx'.app ry).up gn)
/-- some.append(a new list) -/
theorem runx_appL {pa : List D → Prop} {xs : List V} (hT : Tbs T H) (hj : J H) (hl : ∀ H1, EvV T K tl_ δ H1 (.ref l)) (e : H l = some (.lst xs)) (hz : xs.length < 50000) (nl : l ∉ S) (hJ : Stays T J) (h : ExL T K S J te δ H pa)
    (k : ∀ ds p ys H1, pa ds → H p = none → Gr T S H H1 → J H1 → H1 l = some (.lst xs) → H1 p = some (.lst ys) → Reps K H1 ds ys → Run K u B δ (upd H1 l (.lst (xs ++ [.ref p])))) :
    Run K (tSeq (tDrop (tBM K "list" rAppend tl_ (tCons te tNil))) u) B δ H := fun σ s =>
  hl H σ H (Gr.refl hT) s _ fun H1 g1 => ⟨Or.inl ⟨rfl, xs, Or.inl (Or.inl (g1.lst e (by simp)))⟩, h σ H1 g1.any (hJ _ _ g1 hj) (s.up g1) _ fun ds p ys H2 pd np g2 j2 ep rp => by
    have el1 := g1.lst e (by simp)
    have el2 := g2.lst el1 nl
    have gp : Gr T [l] H2 (upd H2 l (.lst (xs ++ [.ref p]))) := (Gr.refl g2.tbs).put el2 (.inl (by simp))
    exact ⟨l, xs, .ref p, rfl, rfl, el2, Nat.lt_trans hz (by decide), k ds p ys H2 pd (g1.dom p np) (g1.any.trans g2) j2 el2 ep rp σ (((s.up g1).up g2).up gp)⟩⟩
/-- texts one behind the other -/
theorem os_addS {x y : Str} (hz : x.length + y.length ≤ 100000) : OpSem T K (fun x y H Q => ∃ i j : Str, x = .str i ∧ y = .str j ∧ i.length + j.length ≤ sizeLine ∧ Q (.str (i ++ j)) H) (.str x) (.str y) (.str (x ++ y)) := fun v w H1 hT e1 e2 Q q =>
  ⟨x, y, e1, e2, sz hz, q _ H1 (Gr.refl hT) rfl⟩
/-- a sign of a text, at a place that is drawn -/
theorem os_ixS {z : Str} {i : Int} {c : Nat} (hz : z.length ≤ 100000) (h : atI z.cps.toList i = some c) : OpSem T K rIxS (.str z) (.int i) (.str ⟨#[c]⟩) := fun v w H1 hT e1 e2 Q q => ⟨z, i, c, e1, e2, sz hz, h, q _ H1 (Gr.refl hT) rfl⟩
/-- a piece of a text from a place that is drawn on -/
theorem ex_slS {z : Str} {p : D → Prop} (hJ : Stays T J) (ha : ∀ H1, Gr T S H H1 → EvD T K ta δ H1 (.str z)) (hz : z.length ≤ 100000) (hb : EvX T K S J tb δ H p) (hp : ∀ d, p d → ∃ i : Int, d = .int i) :
    EvX T K S J (tSl rSlS ta (tPart tb) tNoPart) δ H (fun d => ∃ i : Int, p (.int i) ∧ d = .str (cutS z (some i) none)) := fun σ H1 g j s Q q =>
  ha H1 g σ H1 g.self s _ fun v H2 g2 r => hb σ H2 (g.trans g2.any) (hJ _ _ g2 j) (s.up g2) _ fun d w H3 pd g3 j3 rw' => by
    obtain ⟨i, rfl⟩ := hp d pd
    exact ⟨i, rw', ⟨z, r, sz hz, q _ _ H3 ⟨i, pd, rfl⟩ (g2.any.trans g3) j3 rfl⟩⟩
/-- '\n'.join(a list of texts that stands) -/
theorem ev_joinAt {a : Str} {ws : List Str} {to : TE} (ho : EvD T K to δ H (.str a)) (he : EvV T K te δ H (.ref l)) (e : H l = some (.lst (ws.map V.str))) (hz : (ws.map (·.length)).sum + ws.length * a.length ≤ 100000) :
    EvD T K (tM1 (fun x xs H Q => ∃ a p, ∃ ys : List Str, x = .str a ∧ xs = [.ref p] ∧ (SqL K H p (ys.map V.str) ∨ SqT K H p (ys.map V.str)) ∧ (ys.map (·.length)).sum + ys.length * a.length ≤ 16777216 ∧ Q (.str (Txt.join a ys)) H) to te) δ H (.str (Txt.join a ws)) := fun σ H1 g s Q q =>
  ho σ H1 g s _ fun v H2 g2 ev => ⟨⟨a, ev⟩, he σ H2 (g.trans g2) (s.up g2) _ fun H3 g3 => ⟨a, l, ws, ev, rfl, .inl (.inl (.inl (((g.trans g2).trans g3).lst e (by simp)))), Nat.le_trans hz (by decide), q _ H3 (g2.trans g3) rfl⟩⟩
end
end Pd
namespace Pd
open PySem PySem.Spec PyProof.Rows L2 TL
/-! ### how big the law's texts are -/
theorem spl_count (s : Nat) : ∀ (xs acc : List Nat), (spl [s] 0 acc xs).length = xs.count s + 1
  | [], acc => by rw [spl_nil]; simp
  | c :: r, acc => by
    by_cases h : c = s
    · rw [spl_hit (by rw [pre1, decide_eq_true h])]
      show (acc :: spl [s] 0 [] r).length = _
      rw [List.length_cons, spl_count s r [], h, List.count_cons_self]
    · rw [spl_miss (by rw [pre1, decide_eq_false h]), spl_count s r (acc ++ [c]), List.count_cons_of_ne h]
theorem wordsOf_count (x : Str) : (wordsOf x).length = (tl x).count 10 + 1 := by
  unfold wordsOf
  rw [List.length_map]
  have e := split_spl x "\n" (by rw [tl_nl]; simp) (kind_ok nl_ok)
  rw [tl_nl] at e
  have := spl_count 10 (tl x) []
  rw [← e, List.length_map] at this
  exact this
/-- a text that the law may read -/
def Fine (x : Str) : Prop := x.length ≤ 400 ∧ (∀ c ∈ tl x, c < 256) ∧ (wordsOf x).length ≤ 38
theorem fine_of {x : Str} (h1 : (tl x).length ≤ 400) (h2 : ∀ c ∈ tl x, c < 256) (h3 : (tl x).count 10 ≤ 37) : Fine x := ⟨by rw [len_tl]; exact h1, h2, by rw [wordsOf_count]; omega⟩
/-- rows that the law puts together -/
def Row (w : Str) : Prop := w.length ≤ 11 ∧ ∀ c ∈ tl w, c < 256 ∧ c ≠ 10
theorem joinL_count {ls : List (List Nat)} (h : ∀ l ∈ ls, ∀ c ∈ l, c ≠ 10) : (joinL [10] ls).count 10 ≤ ls.length := by
  match ls, h with
  | [], _ => simp [joinL]
  | [q], h => 
    show q.count 10 ≤ 1
    rw [List.count_eq_zero.mpr fun z => h q (by simp) 10 z rfl]; omega
  | q :: q2 :: ls, h =>
    have ih := joinL_count (ls := q2 :: ls) fun l hl => h l (List.mem_cons_of_mem _ hl)
    show (q ++ ([10] ++ joinL [10] (q2 :: ls))).count 10 ≤ _
    rw [List.count_append, List.count_append, List.count_eq_zero.mpr fun z => h q (by simp) 10 z rfl]
    simp only [List.length_cons, List.count_cons_self, List.count_nil] at ih ⊢
    omega
theorem joinL_mem {S : List Nat} {P : Nat → Prop} (hS : ∀ c ∈ S, P c) {ls : List (List Nat)} (h : ∀ l ∈ ls, ∀ c ∈ l, P c) : ∀ c ∈ joinL S ls, P c := by
  match ls, h with
  | [], _ => intro c hc; cases hc
  | [q], h => exact fun c hc => h q (by simp) c hc
  | q :: q2 :: ls, h =>
    intro c hc
    rcases List.mem_append.mp (show c ∈ q ++ (S ++ joinL S (q2 :: ls)) from hc) with hc | hc
    · exact h q (by simp) c hc
    · rcases List.mem_append.mp hc with hc | hc
      · exact hS c hc
      · exact joinL_mem hS (fun l hl => h l (List.mem_cons_of_mem _ hl)) c hc
theorem sum_row : ∀ {ws : List Str}, (∀ w ∈ ws, Row w) → (ws.map (·.length)).sum ≤ 11 * ws.length
  | [], _ => by simp
  | w :: ws, h => by
    have a := (h w (by simp)).1
    have b := sum_row fun w hw => h w (List.mem_cons_of_mem _ hw)
    simp only [List.map_cons, List.sum_cons, List.length_cons]
    omega
theorem join_rows {ws : List Str} (h : ∀ w ∈ ws, Row w) (hn : ws.length ≤ 28) : (tl (Txt.join "\n" ws)).length ≤ 336 ∧ (∀ c ∈ tl (Txt.join "\n" ws), c < 256) ∧ (tl (Txt.join "\n" ws)).count 10 ≤ 28 := by
  rw [join_eq, tl_join, tl_nl]
  refine ⟨?_, ?_, ?_⟩
  · have a := joinL_len [10] (ws.map tl)
    have b := sum_row h
    have e : ((ws.map tl).map (·.length)).sum = (ws.map (·.length)).sum := by
      rw [List.map_map]
      congr 1
    rw [e] at a
    simp only [List.length_cons, List.length_nil, List.length_map] at a
    omega
  · refine joinL_mem (by simp) fun l hl c hc => ?_
    obtain ⟨w, hw, rfl⟩ := List.mem_map.mp hl
    exact ((h w hw).2 c hc).1
  · have := joinL_count (ls := ws.map tl) fun l hl c hc => by
      obtain ⟨w, hw, rfl⟩ := List.mem_map.mp hl
      exact ((h w hw).2 c hc).2
    rw [List.length_map] at this
    omega
theorem tl_cut_lo (z : Str) (n : Nat) : tl (cutS z none (some (n : Int))) = (tl z).take n := by
  show (((z.cps.toList.drop (HT.sIx z.length 0 none)).take (HT.sIx z.length z.length (some (n : Int)) - HT.sIx z.length 0 none)).toArray).toList = z.cps.toList.take n
  rw [HT.sIx_none, HT.sIx_nat, List.drop_zero, Nat.sub_zero]
  show z.cps.toList.take (min n z.cps.size) = _
  rw [← Array.length_toList]
  by_cases h : n ≤ z.cps.toList.length
  · rw [Nat.min_eq_left h]
  · rw [Nat.min_eq_right (by omega), List.take_of_length_le (Nat.le_refl _), List.take_of_length_le (by omega)]
theorem tl_cut_hi (z : Str) (n : Nat) : tl (cutS z (some (n : Int)) none) = (tl z).drop n := by
  show (((z.cps.toList.drop (HT.sIx z.length 0 (some (n : Int)))).take (HT.sIx z.length z.length none - HT.sIx z.length 0 (some (n : Int)))).toArray).toList = z.cps.toList.drop n
  rw [HT.sIx_none, HT.sIx_nat]
  show (z.cps.toList.drop (min n z.cps.size)).take (z.cps.size - min n z.cps.size) = _
  rw [← Array.length_toList]
  by_cases h : n ≤ z.cps.toList.length
  · rw [Nat.min_eq_left h, List.take_of_length_le (by rw [List.length_drop]; omega)]
  · rw [Nat.min_eq_right (by omega), List.drop_of_length_le (Nat.le_refl _), List.drop_of_length_le (by omega), List.take_nil]
/-- the text, bent at a sign, and with a row's end -/
theorem bent_fine {ws : List Str} (h : ∀ w ∈ ws, Row w) (hn : ws.length ≤ 28) {n m : Nat} (hm : n ≤ m) {c : Nat} (hc : c < 256) : Fine (Txt.join "\n" ws) ∧ Fine (cutS (Txt.join "\n" ws) none (some (n : Int)) ++ ⟨#[c]⟩ ++ cutS (Txt.join "\n" ws) (some (m : Int)) none) ∧ Fine (Txt.join "\n" ws ++ "\n") := by
  obtain ⟨a, b, d⟩ := join_rows h hn
  generalize Txt.join "\n" ws = z at a b d
  refine ⟨fine_of (by omega) b (by omega), fine_of ?_ ?_ ?_, fine_of ?_ ?_ ?_⟩
  · rw [tl_append, tl_append, tl_cut_lo, tl_cut_hi, List.length_append, List.length_append, List.length_take, List.length_drop]
    show min n (tl z).length + 1 + _ ≤ 400
    omega
  · rw [tl_append, tl_append, tl_cut_lo, tl_cut_hi]
    intro x hx
    rcases List.mem_append.mp hx with hx | hx
    · rcases List.mem_append.mp hx with hx | hx
      · exact b x (List.mem_of_mem_take hx)
      · rcases List.mem_singleton.mp (show x ∈ [c] from hx) with rfl
        exact hc
    · exact b x (List.mem_of_mem_drop hx)
  · rw [tl_append, tl_append, tl_cut_lo, tl_cut_hi, List.count_append, List.count_append]
    have e1 : ((tl z).take n).count 10 + ((tl z).drop n).count 10 = (tl z).count 10 := by rw [← List.count_append, List.take_append_drop]
    have e2 : ((tl z).drop m).count 10 ≤ ((tl z).drop n).count 10 := by
      have : (tl z).drop m = ((tl z).drop n).drop (m - n) := by rw [List.drop_drop]; congr 1; omega
      rw [this]
      exact (List.drop_sublist _ _).count_le 10
    have e3 : (tl (⟨#[c]⟩ : Str)).count 10 ≤ 1 := List.count_le_length
    omega
  · rw [tl_append, tl_nl, List.length_append]
    show _ + 1 ≤ 400
    omega
  · rw [tl_append, tl_nl]
    intro x hx
    rcases List.mem_append.mp hx with hx | hx
    · exact b x hx
    · rcases List.mem_singleton.mp hx with rfl
      decide
  · rw [tl_append, tl_nl, List.count_append]
    have : ([10] : List Nat).count 10 ≤ 1 := List.count_le_length
    omega
theorem RowOk.row {w : List Str} (h : RowOk w) (hc : ∀ c ∈ tl (rowT w), c < 256) : Row (rowT w) := by
  obtain ⟨_, _, h3, h4⟩ := h.signs
  exact ⟨by omega, fun c hc' => ⟨hc c hc', fun z => h3 (z ▸ hc')⟩⟩
end Pd
namespace Pd
open PySem PySem.Spec PyProof.Rows L2 TL
section
variable {T : Tb} {S : List Addr} {J : Hp → Prop} {K : PySem.W.Frag} {δ : List (Option SD)} {H : Hp} {ta tb tc td te tl_ : TE} {u : TS} {B : Ends} {l : Addr} {E : XK}
/-- a call that hands back a new list, its arguments drawn -/
theorem xl_call {R : List D → List D → Prop} {tr : TA} {pa pe : List D → Prop} (hJ : Stays T J) (ha : ExA T K S J tr δ H pa) (hR : ∀ ds, pa ds → ∃ es, R ds es ∧ pe es) : ExL T K S J (tCall (spRL T K R) [] E tr) δ H pe := fun σ H1 g j s Q q =>
  ha σ H1 g j s _ fun ds vs H2 pd g2 j2 r => by
    obtain ⟨es, hr, pes⟩ := hR ds pd
    exact ⟨ds, es, hr, by rw [List.append_nil]; exact r, g2.tbs, fun p xs H3 np g3 e rr => q es p xs H3 pes (g2.dom p np) (g2.trans g3.any) (hJ _ _ g3 j2) e rr⟩
/-- a text out of a list that stands, at a place that is drawn -/
theorem ex_ixW {ws : List Str} {p pr : D → Prop} (hJ : Stays T J) (ha : ∀ H1, Gr T S H H1 → EvV T K ta δ H1 (.ref l)) (e : H l = some (.lst (ws.map V.str))) (nl : l ∉ S) (hb : EvX T K S J tb δ H p) (hp : ∀ d, p d → ∃ (i : Int) (w : Str), d = .int i ∧ atI ws i = some w ∧ pr (.str w)) :
    EvX T K S J (tOp (rIxL K) ta tb) δ H pr := fun σ H1 g j s Q q =>
  ha H1 g σ H1 g.self s _ fun H2 g2 => hb σ H2 (g.trans g2.any) (hJ _ _ g2 j) (s.up g2) _ fun d v H3 pd g3 j3 r => by
    obtain ⟨i, w, rfl, hw, pw⟩ := hp d pd
    have gg := (g.trans g2.any).trans g3
    have hv : atI (ws.map V.str) i = some (V.str w) := by
      unfold atI at hw ⊢
      rw [List.length_map]
      cases e : ixN ws.length i with
      | none => rw [e] at hw; cases hw
      | some n =>
        rw [e] at hw
        show (ws.map V.str)[n]? = _
        rw [List.getElem?_map, show ws[n]? = some w from hw]; rfl
    exact ⟨l, ws.map V.str, i, .str w, rfl, r, .inl (.inl (gg.lst e nl)), hv, q _ _ H3 pw (g2.any.trans g3) j3 rfl⟩
/-- str of a drawn number -/
theorem ex_strI {p : D → Prop} (hJ : Stays T J) (h : EvX T K S J te δ H p) (hp : ∀ d, p d → ∃ i, d = .int i ∧ fig i) : EvX T K S J (tCB (fun xs H Q => ∃ i : Int, xs = [.int i] ∧ i.natAbs.log2 < 1920 ∧ Q (.str (toString i)) H) (tCons te tNil)) δ H (fun d => ∃ i, d = .str (num i) ∧ fig i) := fun σ H1 g j s Q q =>
  h σ H1 g j s _ fun d v H2 pd g2 j2 r => by
    obtain ⟨i, rfl, hf⟩ := hp d pd
    cases (show v = .int i from r)
    exact ⟨i, rfl, hf.log, q _ _ H2 ⟨i, rfl, hf⟩ g2 j2 rfl⟩
/-- a list of four lists: two new ones, one that stands, a new one -/
theorem run_asgSome {n : Nat} {x y z : List D} {xl : List V} (hT : Tbs T H) (ha : EvL T K ta δ H x) (hb : EvL T K tb δ H y) (hc : EvV T K tc δ H (.ref l)) (hd : EvL T K td δ H z) (el : H l = some (.lst xl))
    (k : ∀ p p1 p2 p3 a b c H1, H p = none → H p1 = none → H p2 = none → H p3 = none → Gr T [] H H1 → H1 p = some (.lst [.ref p1, .ref p2, .ref l, .ref p3]) → H1 p1 = some (.lst a) → H1 p2 = some (.lst b) → H1 p3 = some (.lst c) → Reps K H1 x a → Reps K H1 y b → Reps K H1 z c → Run K u B (δ.set n (some (.v (.ref p)))) H1) :
    Run K (tSeq (tAsg (tLst (tCons ta (tCons tb (tCons tc (tCons td tNil))))) (gName n)) u) B δ H := fun σ s =>
  ha σ H (Gr.refl hT) s _ fun p1 a H1 n1 g1 e1 r1 => hb σ H1 g1 (s.up g1) _ fun p2 b H2 n2 g2 e2 r2 => hc σ H2 (g1.trans g2) ((s.up g1).up g2) _ fun H3 g3 => hd σ H3 ((g1.trans g2).trans g3) (((s.up g1).up g2).up g3) _ fun p3 c H4 n3 g4 e3 r3 => by
    have g14 := ((g1.trans g2).trans g3).trans g4
    refine ⟨sz (by simp), fun p np => ?_⟩
    have gn : Gr T [] H4 (upd H4 p (.lst [.ref p1, .ref p2, .ref l, .ref p3])) := Gr.new g4.tbs np
    refine k p p1 p2 p3 a b c _ (g14.dom p np) n1 (g1.dom p2 n2) (((g1.trans g2).trans g3).dom p3 n3) (g14.trans gn) upd_same ((((g2.trans g3).trans g4).trans gn).lst e1 (by simp)) (((g3.trans g4).trans gn).lst e2 (by simp)) (gn.lst e3 (by simp)) (r1.up (((g2.trans g3).trans g4).trans gn)) (r2.up ((g3.trans g4).trans gn)) (r3.up gn) _ ((s.up (g14.trans gn)).set n (show SlotOk K _ (some (.v (.ref p))) (some (.ref p)) from rfl))
end
end Pd
namespace Pd
open PySem PySem.Spec PyProof.Rows L2 TL
/-! ### the rows that the law puts together -/
def odd1 : List Str := ["", "out", "out abcdefg", "out A", "out a b", "out ", "room 0", "room 0 1", "room 0 0", "room 1 1", "room 0 5"]
def odd2 : List Str := ["room 00 1", "room 0 01", "door 1", "door 0 0", "door 1 2", "door 3 3", "door 99 0", "door 100 0", "out b"]
def odd3 : List Str := ["Out a", "door 1 1 1", "room  0 1", "door 05 1", "room 0 2", "door x 1"]
def rowB (w : Str) : Bool := decide (w.length ≤ 11) && w.cps.toList.all fun c => decide (c < 256) && decide (c ≠ 10)
theorem rowB_row {w : Str} (h : rowB w = true) : Row w := by
  unfold rowB at h
  simp only [Bool.and_eq_true, decide_eq_true_eq, List.all_eq_true] at h
  exact ⟨h.1, fun c hc => h.2 c hc⟩
theorem odd_all : ((odd1 ++ odd2 ++ odd3).all rowB && decide ((odd1 ++ odd2 ++ odd3).length = 26)) = true := by decide +kernel
theorem odd_rows : ∀ w ∈ odd1 ++ odd2 ++ odd3, Row w := by
  have := odd_all
  rw [Bool.and_eq_true, List.all_eq_true] at this
  exact fun w hw => rowB_row (this.1 w hw)
theorem odd_len : (odd1 ++ odd2 ++ odd3).length = 26 := by
  have := odd_all
  rw [Bool.and_eq_true, decide_eq_true_eq] at this
  exact this.2
theorem RowOk.low {w : List Str} (h : RowOk w) : ∀ c ∈ tl (rowT w), c < 256 := by
  have hn : ∀ {i : Int}, fig i → ∀ c ∈ tl (num i), c < 256 := fun hf c hc => by have := hf.figs c hc; omega
  have h1 : ∀ c ∈ tl "out", c < 256 := by rw [tl_out]; decide
  have h2 : ∀ c ∈ tl "room", c < 256 := by rw [tl_room]; decide
  have h3 : ∀ c ∈ tl "door", c < 256 := by rw [tl_door]; decide
  rw [tl_rowT]
  refine joinL_mem (by decide) fun l hl => ?_
  obtain ⟨z, hz, rfl⟩ := List.mem_map.mp hl
  cases h with
  | out n o =>
    simp only [List.mem_cons, List.not_mem_nil, or_false] at hz
    rcases hz with rfl | rfl
    · exact h1
    · intro c hc
      have := o.2.2 c hc
      omega
  | room a b fa fb =>
    simp only [List.mem_cons, List.not_mem_nil, or_false] at hz
    rcases hz with rfl | rfl | rfl
    · exact h2
    · exact hn fa
    · exact hn fb
  | door a b fa fb =>
    simp only [List.mem_cons, List.not_mem_nil, or_false] at hz
    rcases hz with rfl | rfl | rfl
    · exact h3
    · exact hn fa
    · exact hn fb
theorem House.rows_row {h : House} (o : h.ok) : ∀ w ∈ h.words.map rowT, Row w := fun w hw => by
  obtain ⟨ws, hws, rfl⟩ := List.mem_map.mp hw
  have := House.words_ok h o ws hws
  exact this.row this.low
theorem row_cut {R : List Str} (h : ∀ w ∈ R, Row w) (n m : Nat) : ∀ w ∈ R.take n ++ R.drop m, Row w := fun w hw => by
  rcases List.mem_append.mp hw with hw | hw
  · exact h w (List.mem_of_mem_take hw)
  · exact h w (List.mem_of_mem_drop hw)
theorem row_put {R X : List Str} (h : ∀ w ∈ R, Row w) (hx : ∀ w ∈ X, Row w) (n m : Nat) : ∀ w ∈ R.take n ++ X ++ R.drop m, Row w := fun w hw => by
  rcases List.mem_append.mp hw with hw | hw
  · rcases List.mem_append.mp hw with hw | hw
    · exact h w (List.mem_of_mem_take hw)
    · exact hx w hw
  · exact h w (List.mem_of_mem_drop hw)
theorem cut_take (ds : List D) (n : Nat) : cutD ds none (some (n : Int)) = ds.take n := by
  unfold cutD
  rw [HT.sIx_none, HT.sIx_nat, List.drop_zero, Nat.sub_zero]
  by_cases h : n ≤ ds.length
  · rw [Nat.min_eq_left h]
  · rw [Nat.min_eq_right (by omega), List.take_of_length_le (Nat.le_refl _), List.take_of_length_le (by omega)]
theorem row_extra : rowB "room 0 1" = true ∧ ((List.range 4).all fun s => rowB ("door 2 " ++ num (s : Nat))) = true := by decide +kernel
theorem row_door2 {s : Int} (h0 : 0 ≤ s) (h1 : s < 4) : Row ("door 2 " ++ num s) := by
  have := row_extra.2
  rw [List.all_eq_true] at this
  have e := rowB_row (this s.toNat (List.mem_range.mpr (by omega)))
  rw [Int.toNat_of_nonneg h0] at e
  exact e
/-- the seven lists of rows -/
def somes (R : List Str) (n : Nat) (o1 o2 e : Str) : List (List Str) := [R.take n ++ R.drop (n + 1), R.take (n + 1) ++ R.drop n, R, R.reverse, R.take n ++ [o1] ++ R.drop (n + 1), R.take n ++ [o2] ++ R.drop n, R.take n ++ [("room 0 1" : Str), e] ++ R.drop n]
theorem somes_ok {R : List Str} {n : Nat} {o1 o2 e : Str} (h : ∀ w ∈ R, Row w) (hl : R.length ≤ 25) (h1 : Row o1) (h2 : Row o2) (h3 : Row e) : ∀ W ∈ somes R n o1 o2 e, (∀ w ∈ W, Row w) ∧ W.length ≤ 28 := by
  intro W hW
  simp only [somes, List.mem_cons, List.not_mem_nil, or_false] at hW
  have l1 : ∀ m, (R.take m).length ≤ m := fun m => by rw [List.length_take]; omega
  rcases hW with rfl | rfl | rfl | rfl | rfl | rfl | rfl
  · exact ⟨row_cut h _ _, by simp only [List.length_append, List.length_take, List.length_drop]; omega⟩
  · exact ⟨row_cut h _ _, by simp only [List.length_append, List.length_take, List.length_drop]; omega⟩
  · exact ⟨h, by omega⟩
  · exact ⟨fun w hw => h w (List.mem_reverse.mp hw), by rw [List.length_reverse]; omega⟩
  · exact ⟨row_put h (fun w hw => by rw [List.mem_singleton.mp hw]; exact h1) _ _, by simp only [List.length_append, List.length_take, List.length_drop, List.length_cons, List.length_nil]; omega⟩
  · exact ⟨row_put h (fun w hw => by rw [List.mem_singleton.mp hw]; exact h2) _ _, by simp only [List.length_append, List.length_take, List.length_drop, List.length_cons, List.length_nil]; omega⟩
  · refine ⟨row_put h (fun w hw => ?_) _ _, by simp only [List.length_append, List.length_take, List.length_drop, List.length_cons, List.length_nil]; omega⟩
    simp only [List.mem_cons, List.not_mem_nil, or_false] at hw
    rcases hw with rfl | rfl
    · exact rowB_row row_extra.1
    · exact h3
end Pd
namespace Pd
open PySem PySem.Spec PyProof.Rows L2 TL
section
variable {T : Tb} {K : PySem.W.Frag} {δ : List (Option SD)} {H : Hp} {te tl_ : TE} {u : TS} {B : Ends} {a b so : Addr}
/-- some.append(rows that it puts together while it draws) -/
theorem run_appRow {Ws : List (List Str)} {xs : List V} {pr : List Str → Prop} (hT : Tbs T H) (hs : HS a b H) (eso : H so = some (.lst xs)) (nsS : so ∉ [a, b]) (hW : WR [so, a, b] H Ws xs) (hz : xs.length < 50000) (hl : ∀ H1, EvV T K tl_ δ H1 (.ref so))
    (h : ExL T K [a, b] (HS a b) te δ H (fun ds => ∃ W, pr W ∧ ds = W.map D.str))
    (k : ∀ W p H1, pr W → HS a b H1 → Gr T [so, a, b] H H1 → H1 so = some (.lst (xs ++ [.ref p])) → WR [so, a, b] H1 (Ws ++ [W]) (xs ++ [.ref p]) → Run K u B δ H1) :
    Run K (tSeq (tDrop (tBM K "list" rAppend tl_ (tCons te tNil))) u) B δ H := by
  refine runx_appL (S := [a, b]) (J := HS a b) hT hs hl eso hz nsS HS.stays h fun ds p ys H1 hd np g1 hs1 eso1 ep rp => ?_
  obtain ⟨W, hp, rfl⟩ := hd
  have := Reps.strs rp
  subst this
  obtain ⟨pa, pb⟩ := hs.there np
  have ps : p ≠ so := fun z => by subst z; rw [eso] at np; cases np
  have gp : Gr T [so] H1 (upd H1 so (.lst (xs ++ [.ref p]))) := (Gr.refl g1.tbs).put eso1 (.inl (by simp))
  have sa : a ≠ so := fun z => nsS (by simp [z])
  have sb : b ≠ so := fun z => nsS (by simp [z])
  have gg : Gr T [so, a, b] H (upd H1 so (.lst (xs ++ [.ref p]))) := (g1.mono fun x hx => List.mem_cons_of_mem _ hx).trans (gp.mono fun x hx => by rw [List.mem_singleton.mp hx]; simp)
  exact k W p _ hp (HS.off gp (by simp [sa]) (by simp [sb]) hs1) gg upd_same (WR.snoc (by simp [ps, pa, pb]) (gp.lst ep (by simp [ps])) (hW.up gg))
end
end Pd
set_option maxHeartbeats 16000000
namespace Pd
open PySem PySem.Spec PyProof.Rows L2 TL
section
variable {P : Program} {w : World} {K : PySem.W.Frag} {mg : Str → Option Value} {base : Heap} {T : Tb} {f : Addr} {fd : FuncData}
theorem runx_asgL12 {S : List Addr} {δ : List (Option SD)} {H : Hp} {te : TE} {u : TS} {B : Ends} {J : Hp → Prop} {n : Nat} {p : List D → Prop} (hT : Tbs T H) (hj : J H) (h : ExL T K S J te δ H p) (k : ∀ ds l xs H1, p ds → H l = none → Gr T S H H1 → J H1 → H1 l = some (.lst xs) → Reps K H1 ds xs → Run K u B (δ.set n (some (.v (.ref l)))) H1) : Run K (tSeq (tAsg te (gName n)) u) B δ H := fun σ s =>
  h σ H (Gr.refl hT) hj s _ fun ds l xs H1 pd nl g j e r => k ds l xs H1 pd nl g j e r _ ((s.up g).set n (show SlotOk K H1 (some (.v (.ref l))) (some (.ref l)) from rfl))
theorem door2_all : ((List.range 100).all fun s => rowB ("door 2 " ++ num (s : Nat))) = true ∧ ("door 2 " : Str).length = 7 := by decide +kernel
theorem row_door99 {s : Int} (h : fig s) : Row ("door 2 " ++ num s) := by
  have := door2_all.1
  rw [List.all_eq_true] at this
  obtain ⟨h0, h1⟩ := h
  have e := rowB_row (this s.toNat (List.mem_range.mpr (by omega)))
  rw [Int.toNat_of_nonneg h0] at e
  exact e
theorem signs6 : ("a0 9-\n" : Str).cps.toList.length = 6 ∧ (("a0 9-\n" : Str).cps.toList.all fun c => decide (c < 256)) = true := by decide +kernel
/-- the law holds of every script -/
def spLaw (T : Tb) (K : PySem.W.Frag) : Sp := fun vs H Q _ => ∃ (a : Addr) (ns : List Int), vs = [.ref a] ∧ SqL K H a (ns.map V.int) ∧ ns.length ≤ 63 ∧ Tbs T H ∧ ∀ H', Q (.bl true) H'
theorem ok_law {c Pl fk : Addr} {fdk : FuncData} {C : Ek → Addr} (B : Bl mg) (TBl : LamX.TabB base mg c Pl) (hml : (Pl, ("law.<locals>.<lambda>" : Str)) ∈ T.l) (hul : ∀ p ∈ T.l, p.1 = Pl → p.2 = ("law.<locals>.<lambda>" : Str)) (hgl : Pl ∉ T.g) (KK : KCs K mg C)
    (A : AtC K mg "law" s_law ["_law_script"] f fd c) (Ak : At K mg "_law_kind" s__law_kind ["_law_call"] fk fdk)
    (G__law_mix : Ok P w K mg base 1 "_law_mix" ["_law_script", "_law_seed"] (spMix T K)) (G__law_next : Ok P w K mg base 1 "_law_next" ["_law_h", "_law_many"] (spNext T)) (G__law_house : Ok P w K mg base 10 "_law_house" ["_law_h", "_law_few"] (spHouse T K))
    (G__law_rows : Ok P w K mg base 13 "_law_rows" ["_law_room_here"] (spRL T K (RRows 13))) (G__law_alike : Ok P w K mg base 60 "_law_alike" ["_law_found", "_law_due_here"] (spAlike T K 60)) (G__law_due : Ok P w K mg base 22 "_law_due" ["_law_text"] (spR T K RDue))
    (GX_read : OkE P w K mg base 4 "read" ["text"] (spReadE T K C)) :
    FnOk P w K mg base CX0 62 f fd ["_law_script"] (spLaw T K) := by
  refine A.F.ok (k := 61) sc_law (fun vs H Q E ⟨_, _, e, _⟩ => by rw [e]; rfl) fun A' outer s H vs Q E hr h => ⟨_, (pss_cons (ps_set (i := 1) sc_law.nd rfl (Or.inl rfl) (pe_own G__law_mix hr (by decide) (by rfl) (pa_cons (pv 0) (pa_cons pe_int pa_nil))))
    (pss_cons (ps_set (i := 2) sc_law.nd rfl (Or.inl rfl) (pe_lst (pa_cons pe_str (pa_cons pe_str (pa_cons pe_str (pa_cons pe_str (pa_cons pe_str (pa_cons pe_str (pa_cons pe_str (pa_cons pe_str (pa_cons pe_str (pa_cons pe_str (pa_cons pe_str pa_nil)))))))))))))
    (pss_cons (ps_set (i := 2) sc_law.nd rfl (Or.inl rfl) (pe_op op_cat (pv 2) (pe_lst (pa_cons pe_str (pa_cons pe_str (pa_cons pe_str (pa_cons pe_str (pa_cons pe_str (pa_cons pe_str (pa_cons pe_str (pa_cons pe_str (pa_cons pe_str pa_nil))))))))))))
    (pss_cons (ps_set (i := 2) sc_law.nd rfl (Or.inl rfl) (pe_op op_cat (pv 2) (pe_lst (pa_cons pe_str (pa_cons pe_str (pa_cons pe_str (pa_cons pe_str (pa_cons pe_str (pa_cons pe_str pa_nil)))))))))
    (pss_cons (ps_for PassesOwn.never rfl (pi_range1 (by rfl) B.range (pa_cons pe_int pa_nil)) (pg_name (i := 3) sc_law.nd rfl (Or.inl rfl)) (pss_cons (ps_set (i := 4) sc_law.nd rfl (Or.inl rfl) (pe_own G__law_rows hr (by decide) (by rfl) (pa_cons (pe_own G__law_house hr (by decide) (by rfl) (pa_cons (pv 1) (pa_cons pe_int pa_nil))) pa_nil)))
    (pss_cons (ps_par (i := 5) (j := 6) rfl sc_law.nd rfl rfl (by decide) rfl rfl (pa_cons (pe_own G__law_next hr (by decide) (by rfl) (pa_cons (pv 1) (pa_cons (pe_callB cr_len (by rfl) B.len (by decide +kernel) (pa_cons (pv 4) pa_nil)) pa_nil))) (pa_cons (pe_own G__law_next hr (by decide) (by rfl) (pa_cons (pv 1) (pa_cons pe_int pa_nil))) pa_nil)) (by rfl))
    (pss_cons (ps_set (i := 7) sc_law.nd rfl (Or.inl rfl) (pe_lst (pa_cons (pe_op op_cat (pe_slice sl_list (pv 4) po_none (po_some (pv 5))) (pe_slice sl_list (pv 4) (po_some (pe_op op_add (pv 5) pe_int)) po_none)) (pa_cons (pe_op op_cat (pe_slice sl_list (pv 4) po_none (po_some (pe_op op_add (pv 5) pe_int))) (pe_slice sl_list (pv 4) (po_some (pv 5)) po_none)) (pa_cons (pv 4) (pa_cons (pe_revL (pv 4)) pa_nil))))))
    (pss_cons (ps_expr (pe_bm PySem.F.plainAttrs_list PySem.F.slot_list_append PySem.F.type_list_append mt_append (pv 7) (pa_cons (pe_op op_cat (pe_op op_cat (pe_slice sl_list (pv 4) po_none (po_some (pv 5))) (pe_lst (pa_cons (pe_ix ix_list (pv 2) (pe_own G__law_next hr (by decide) (by rfl) (pa_cons (pv 1) (pa_cons pe_int pa_nil))) (fun _ _ => rfl)) pa_nil))) (pe_slice sl_list (pv 4) (po_some (pe_op op_add (pv 5) pe_int)) po_none)) pa_nil)))
    (pss_cons (ps_expr (pe_bm PySem.F.plainAttrs_list PySem.F.slot_list_append PySem.F.type_list_append mt_append (pv 7) (pa_cons (pe_op op_cat (pe_op op_cat (pe_slice sl_list (pv 4) po_none (po_some (pv 5))) (pe_lst (pa_cons (pe_ix ix_list (pv 2) (pe_own G__law_next hr (by decide) (by rfl) (pa_cons (pv 1) (pa_cons pe_int pa_nil))) (fun _ _ => rfl)) pa_nil))) (pe_slice sl_list (pv 4) (po_some (pv 5)) po_none)) pa_nil)))
    (pss_cons (ps_expr (pe_bm PySem.F.plainAttrs_list PySem.F.slot_list_append PySem.F.type_list_append mt_append (pv 7) (pa_cons (pe_op op_cat (pe_op op_cat (pe_slice sl_list (pv 4) po_none (po_some (pv 5))) (pe_lst (pa_cons pe_str (pa_cons (pe_op op_add_str pe_str (pe_callTy call_str_int (by rfl) B.str (by decide +kernel) (pa_cons (pe_own G__law_next hr (by decide) (by rfl) (pa_cons (pv 1) (pa_cons pe_int pa_nil))) pa_nil))) pa_nil)))) (pe_slice sl_list (pv 4) (po_some (pv 5)) po_none)) pa_nil)))
    (pss_cons (ps_set (i := 8) sc_law.nd rfl (Or.inl rfl) (pe_join pe_str (pe_ix ix_list (pv 7) (pv 6) (fun _ _ => rfl))))
    (pss_cons (ps_set (i := 9) sc_law.nd rfl (Or.inl rfl) (pe_own G__law_next hr (by decide) (by rfl) (pa_cons (pv 1) (pa_cons (pe_op op_add (pe_callB cr_lenS (by rfl) B.len (by decide +kernel) (pa_cons (pv 8) pa_nil)) pe_int) pa_nil))))
    (pss_cons (ps_set (i := 10) sc_law.nd rfl (Or.inl rfl) (pe_op op_add_str (pe_op op_add_str (pe_slice sl_str (pv 8) po_none (po_some (pv 9))) (pe_ix ix_str pe_str (pe_own G__law_next hr (by decide) (by rfl) (pa_cons (pv 1) (pa_cons pe_int pa_nil))) (fun _ _ => rfl))) (pe_slice sl_str (pv 8) (po_some (pe_op op_add (pv 9) (pe_own G__law_next hr (by decide) (by rfl) (pa_cons (pv 1) (pa_cons pe_int pa_nil))))) po_none)))
    (pss_one (ps_for PassesOwn.never rfl (pi_tup (pe_tup (pa_cons (pv 8) (pa_cons (pv 10) (pa_cons (pe_op op_add_str (pv 8) pe_str) pa_nil))))) (pg_name (i := 11) sc_law.nd rfl (Or.inr rfl)) (pss_cons (ps_set (i := 12) sc_law.nd rfl (Or.inr rfl) (pe_lst pa_nil))
    (pss_cons (ps_set (i := 13) sc_law.nd rfl (Or.inl rfl) (pe_kindL (C := C) (T := T) (tb := fun E => tBM K "list" rAppend (tVar 1) (tCons (tCall (spReadE T K C) [] E (tCons (tVar 0) tNil)) tNil)) (fr := ["_law_one", "_law_found"]) (N := ["_law_one", "_law_found"]) (ps := []) (vs := []) (js := [11, 12]) (k := 30) (y0 := "_law_one") (yr := ["_law_found"]) none Ak B KK (hr.mono (by decide)) (by rfl) TBl rfl hml hul hgl rfl (wfV (sc := defScope s_law) rfl (by decide +kernel)) (NdefX.nscope_by (by decide +kernel)) (bindV_no rfl (fun _ _ _ _ => rfl)) rfl (fun f c' A outer s H E hr2 => (pe_bm PySem.F.plainAttrs_list PySem.F.slot_list_append PySem.F.type_list_append mt_append (pv 1) (pa_cons (pe_ownE (E := E) GX_read (takes_of rfl rfl rfl rfl) hr2 (by decide) (by rfl) (pa_cons (pv 0) pa_nil)) pa_nil))) (.inl ⟨rfl, rfl⟩) rfl))
    (pss_cons (ps_set (i := 14) sc_law.nd rfl (Or.inl rfl) (pe_ifExp (pt_cmpR (op_eqD (hu64 hr)) (pv 13) (pe_tup (pa_cons pe_str (pa_cons pe_int pa_nil))) (nomark _)) (pe_tup (pa_cons pe_str (pa_cons (pe_ix ix_list (pv 12) pe_int (fun _ _ => rfl)) pa_nil))) (pv 13)))
    (pss_one (ps_if (pt_not (pt_val (pe_own G__law_alike hr (by decide) (by rfl) (pa_cons (pv 14) (pa_cons (pe_own G__law_due hr (by decide) (by rfl) (pa_cons (pv 11) pa_nil)) pa_nil))))) (pss_one (ps_ret pe_bl)) pss_nil)))))))))))))))))
    (pss_one (ps_ret pe_bl))))))), ?_⟩
  obtain ⟨a0, ns, rfl, hsq, hlen, hT, q⟩ := h
  dsimp only [Cx.nox, Cx.wish, cxOf]
  suffices hR : Run K _ _ [some (.v (.ref a0)), none, none, none, none, none, none, none, none, none, none, none, none, none, none] H from
    hR _ ⟨_, _, rfl, rfl, _, _, rfl, trivial, _, _, rfl, trivial, _, _, rfl, trivial, _, _, rfl, trivial, _, _, rfl, trivial, _, _, rfl, trivial, _, _, rfl, trivial, _, _, rfl, trivial, _, _, rfl, trivial, _, _, rfl, trivial, _, _, rfl, trivial, _, _, rfl, trivial, _, _, rfl, trivial, _, _, rfl, trivial, rfl⟩
  refine run_mix hT (ev_raw rfl) ev_int hsq hlen (by decide) (by decide) fun a b H1 na nb g1 hs1 => ?_
  have st : Stays T (HS a b) := HS.stays
  have hSS : ∀ H1 l, HS a b H1 → l ∈ [a, b] → H1 l ≠ none := fun H1 l h m n => by
    obtain ⟨m1, m2⟩ := h.there n
    rcases (by simpa using m : l = a ∨ l = b) with rfl | rfl
    · exact m1 rfl
    · exact m2 rfl
  have lits : ∀ (ws : List Str) (ta : TA), EvA T K ta [some (.v (.ref a0)), some (.v (.ref a)), none, none, none, none, none, none, none, none, none, none, none, none, none] H1 (ws.map D.str) → True := fun _ _ _ => trivial
  refine run_asgL g1.tbs (ds := odd1.map D.str) (ev_lst (ea_cons ev_str (ea_cons ev_str (ea_cons ev_str (ea_cons ev_str (ea_cons ev_str (ea_cons ev_str (ea_cons ev_str (ea_cons ev_str (ea_cons ev_str (ea_cons ev_str (ea_cons ev_str ea_nil))))))))))) (by decide)) fun l1 x1 H2 nl1 g2 e1 r1 => ?_
  refine run_asgL g2.tbs (ds := odd1.map D.str ++ odd2.map D.str) (el_catV (ev_raw rfl) e1 r1 (ev_lst (ds := odd2.map D.str) (ea_cons ev_str (ea_cons ev_str (ea_cons ev_str (ea_cons ev_str (ea_cons ev_str (ea_cons ev_str (ea_cons ev_str (ea_cons ev_str (ea_cons ev_str ea_nil))))))))) (by decide)) (by decide)) fun l2 x2 H3 nl2 g3 e2 r2 => ?_
  refine run_asgL g3.tbs (ds := (odd1.map D.str ++ odd2.map D.str) ++ odd3.map D.str) (el_catV (ev_raw rfl) e2 r2 (ev_lst (ds := odd3.map D.str) (ea_cons ev_str (ea_cons ev_str (ea_cons ev_str (ea_cons ev_str (ea_cons ev_str (ea_cons ev_str ea_nil)))))) (by decide)) (by decide)) fun lo xo H4 nlo g4 eo ro => ?_
  have ro' : Reps K H4 ((odd1 ++ odd2 ++ odd3).map D.str) xo := by rw [List.map_append, List.map_append]; exact ro
  have := Reps.strs ro'
  subst this
  have hs4 : HS a b H4 := HS.stays _ _ ((g2.trans g3).trans g4) hs1
  obtain ⟨lo1, lo2⟩ := (HS.stays _ _ (g2.trans g3) hs1).there nlo
  have nlS : lo ∉ [a, b] := by simp [lo1, lo2]
  refine run_for (S := [a, b]) g4.tbs (ei_range (ea_cons ev_int ea_nil) (by decide) (by decide)) (fun _ => [some (.v (.ref a0)), some (.v (.ref a)), some (.v (.ref lo)), none, none, none, none, none, none, none, none, none, none, none, none]) (fun _ H => HS a b H ∧ H lo = some (.lst ((odd1 ++ odd2 ++ odd3).map V.str))) (Less.refl _) (fun H2 g2 => ⟨HS.stays _ _ g2 hs4, g2.lst eo (by simp)⟩) (fun i H2 H3 g ⟨hs, e⟩ => ⟨HS.stays _ _ g hs, g.lst e (by simp)⟩) (fun i d Ha N hd0 ga ⟨hsa, eoa⟩ hN => ?_) (fun H2 g2 _ => run_last (run_ret g2.tbs ev_bl fun v H3 g3 r => by cases (show v = .bl true from r); exact q H3))
  refine ⟨_, _, eg_name, ?_⟩
  refine runx_asgL12 (S := [a, b]) (J := HS a b) ga.tbs hsa (xl_call (pe := fun ds => ∃ h : House, h.ok ∧ h.many ≤ 12 ∧ ds = (h.words.map rowT).map D.str) st (xa_cons (ex_house (few := fun n => n = 6) ((xs_v st (fun _ _ => ev_raw rfl) (xs_d (ex_pure st fun _ _ => ev_int) xs_nil)).imp (by rintro ss ⟨_, rfl, _, _, rfl, rfl, rfl⟩; exact ⟨6, rfl, rfl⟩)) (by rintro n rfl; omega)) xa_nil) (by
    rintro ds ⟨d, r, rfl, ⟨h, rfl, hok, h12⟩, rfl⟩
    exact ⟨_, ⟨h, rfl, hok, by have := House.deep_le h hok; omega, h12, rfl⟩, h, hok, h12, rfl⟩)) fun ds lr xr Hb ⟨h, hok, h12, e0⟩ nlr gb hsb er rr => ?_
  subst e0
  have := Reps.strs rr
  subst this
  have hrow := House.rows_row hok
  have hlenR : (h.words.map rowT).length = 1 + 2 * h.many := by rw [List.length_map, House.words_len]
  generalize h.words.map rowT = R at hrow hlenR er rr
  have hlr : 1 ≤ R.length ∧ R.length ≤ 25 := by omega
  obtain ⟨lr1, lr2⟩ := hsa.there nlr
  have nlrS : lr ∉ [a, b] := by simp [lr1, lr2]
  have eob := gb.lst eoa nlS
  refine runx_par (S := [a, b]) (J := HS a b) gb.tbs hsb (p := fun ds => ∃ n m : Nat, ds = [.int (n : Nat), .int (m : Nat)] ∧ n < R.length ∧ m < 7) (fun σ H1 g j s Q q => (xa_cons (ex_next (pn := fun n => n = (R.map V.str).length) (by simp) (by simp) st (fun _ h => h) (fun _ _ _ _ h => h) (fun _ _ => ev_raw rfl) (ex_pure st fun H3 g3 => ev_lenL (ev_raw rfl) (g3.lst er nlrS)) (by rintro d rfl; exact ⟨_, rfl, by rw [List.length_map]; omega, by rw [List.length_map]; omega, rfl⟩)) (xa_cons (ex_nextC (n := 7) (by simp) (by simp) st (fun _ h => h) (fun _ _ _ _ h => h) (fun _ _ => ev_raw rfl) (fun _ _ => ev_int) (by decide) (by decide)) xa_nil)) σ H1 g j s Q fun ds vs H2 hd => q ds vs H2 (by
      obtain ⟨d1, r1, rfl, ⟨i, n, rfl, i0, i1, rfl⟩, d2, r2, rfl, ⟨m, rfl, m0, m1⟩, rfl⟩ := hd
      rw [List.length_map] at i1
      exact ⟨i.toNat, m.toNat, by rw [Int.toNat_of_nonneg i0, Int.toNat_of_nonneg m0], by omega, by omega⟩)) (by rintro ds ⟨n, m, rfl, _⟩; exact ⟨_, _, rfl⟩) fun x y Hc ⟨n, m, exy, hn, hm⟩ gc hsc => ?_
  cases exy
  have erc := gc.lst er nlrS
  have eoc := gc.lst eob nlS
  have cutlo : ∀ {Hx : Hp} {δ : List (Option SD)} {te : TE} (k : Nat), δ[4]? = some (some (.v (.ref lr))) → Hx lr = some (.lst (R.map V.str)) → EvD T K te δ Hx (.int (k : Nat)) → EvL T K (L2.tSl (rSlL K) (tVar 4) tNoPart (tPart te)) δ Hx ((R.take k).map D.str) := fun k e1 e2 e3 => by
    have := el_slice (ev_raw e1) e2 (Reps.ofStrs R) eo_none (eo_some e3)
    rw [cut_take, ← List.map_take] at this
    exact this
  have cuthi : ∀ {Hx : Hp} {δ : List (Option SD)} {te : TE} (k : Nat), δ[4]? = some (some (.v (.ref lr))) → Hx lr = some (.lst (R.map V.str)) → EvD T K te δ Hx (.int (k : Nat)) → EvL T K (L2.tSl (rSlL K) (tVar 4) (tPart te) tNoPart) δ Hx ((R.drop k).map D.str) := fun k e1 e2 e3 => by
    have := el_slice (ev_raw e1) e2 (Reps.ofStrs R) (eo_some e3) eo_none
    rw [cut_rest, ← List.map_drop] at this
    exact this
  have nx : ∀ {Hx : Hp} {δ : List (Option SD)}, δ[5]? = some (some (.d (.int (n : Nat)))) → EvD T K (tOp (rI0 fun i j => .int (i + j)) (tVar 5) (tC (.int 1))) δ Hx (.int ((n + 1 : Nat) : Int)) := fun e => (ev_I0 (ev_var e) ev_int).is (by simp)
  refine run_asgSome (l := lr) (x := (R.take n ++ R.drop (n + 1)).map D.str) (y := (R.take (n + 1) ++ R.drop n).map D.str) (z := R.reverse.map D.str) gc.tbs
    ((el_catL (cutlo n rfl erc (ev_var rfl)) (cuthi (n + 1) rfl erc (nx rfl)) (by simp only [List.length_map, List.length_take, List.length_drop]; omega)).is (by rw [List.map_append]))
    ((el_catL (cutlo (n + 1) rfl erc (nx rfl)) (cuthi n rfl erc (ev_var rfl)) (by simp only [List.length_map, List.length_take, List.length_drop]; omega)).is (by rw [List.map_append]))
    (ev_raw rfl) (el_ofN (ws := R.reverse) (by rw [List.map_reverse]; exact en_rev (ev_raw rfl) erc)) erc fun so p1 p2 p3 xa xb xc Hd nso n1 n2 n3 gd eso ea eb ec ra rb rc => ?_
  have := Reps.strs ra
  subst this
  have := Reps.strs rb
  subst this
  have := Reps.strs rc
  subst this
  have hsd : HS a b Hd := HS.stays _ _ gd hsc
  have noso : ∀ {p : Addr} {W : List Str}, Hd p = some (.lst (W.map V.str)) → p ≠ so := fun {p W} e z => by
    subst z
    rw [eso] at e
    cases W with
    | nil => simp at e
    | cons a b => simp at e
  have nin : ∀ {p : Addr} {W : List Str}, Hc p = none → Hd p = some (.lst (W.map V.str)) → p ∉ [so, a, b] := fun {p W} h e => by
    obtain ⟨z1, z2⟩ := hsc.there h
    simp [noso e, z1, z2]
  have erd := gd.lst erc (by simp)
  have eod := gd.lst eoc (by simp)
  have hW : WR [so, a, b] Hd [R.take n ++ R.drop (n + 1), R.take (n + 1) ++ R.drop n, R, R.reverse] [.ref p1, .ref p2, .ref lr, .ref p3] := ⟨p1, _, rfl, nin n1 ea, ea, p2, _, rfl, nin n2 eb, eb, lr, _, rfl, by simp [noso erd, lr1, lr2], erd, p3, _, rfl, nin n3 ec, ec, rfl⟩
  obtain ⟨so1, so2⟩ := hsc.there nso
  have nsS : so ∉ [a, b] := by simp [so1, so2]
  have nlr3 : lr ∉ [so, a, b] := by simp [noso erd, lr1, lr2]
  have nlo3 : lo ∉ [so, a, b] := by simp [noso eod, lo1, lo2]
  have oddAt : ∀ {r : Int}, 0 ≤ r → r < 26 → ∃ (i : Int) (w : Str), D.int r = .int i ∧ atI (odd1 ++ odd2 ++ odd3) i = some w ∧ ∃ o, Row o ∧ D.str w = .str o := fun {r} r0 r1 => by
    have hlt : r.toNat < (odd1 ++ odd2 ++ odd3).length := by rw [odd_len]; omega
    exact ⟨r, _, rfl, atI_int r0 (List.getElem?_eq_getElem hlt), _, odd_rows _ (List.getElem_mem hlt), rfl⟩
  refine run_appRow (so := so) (pr := fun W => ∃ o, Row o ∧ W = R.take n ++ [o] ++ R.drop (n + 1)) gd.tbs hsd eso nsS hW (by simp) (fun _ => ev_raw rfl)
    (xl_imp (xl_cat st hSS (xl_cat st hSS (xl_pure st fun H3 G3 => cutlo n rfl (G3.lst erd nlrS) (ev_var rfl)) (ex_lst st (xa_cons (ex_ixW (l := lo) (ws := odd1 ++ odd2 ++ odd3) (pr := fun d => ∃ o, Row o ∧ d = .str o) st (fun _ _ => ev_raw rfl) eod nlS (ex_nextC (n := 26) (by simp) (by simp) st (fun _ h => h) (fun _ _ _ _ h => h) (fun _ _ => ev_raw rfl) (fun _ _ => ev_int) (by decide) (by decide)) (by rintro d ⟨r, rfl, r0, r1⟩; exact oddAt r0 r1)) xa_nil) (by rintro ds ⟨_, _, rfl, _, rfl⟩; simp)) (by rintro x y rfl ⟨_, _, rfl, _, rfl⟩; simp only [List.length_map, List.length_take, List.length_cons, List.length_nil]; omega)) (xl_pure st fun H3 G3 => (cuthi (n + 1) rfl (G3.lst erd nlrS) (nx rfl))) (by rintro x y ⟨_, _, rfl, ⟨_, _, rfl, _, rfl⟩, rfl⟩ rfl; simp only [List.length_map, List.length_take, List.length_drop, List.length_append, List.length_cons, List.length_nil]; omega)) (by
      rintro ds ⟨x, y, ⟨x1, y1, rfl, ⟨d, r, rfl, ⟨o, ho, rfl⟩, rfl⟩, rfl⟩, rfl, rfl⟩
      exact ⟨_, ⟨o, ho, rfl⟩, by simp⟩)) fun W5 q5 H5 ⟨o5, ho5, eW5⟩ hs5 g5 eso5 hW5 => ?_
  have er5 := g5.lst erd nlr3
  have eo5 := g5.lst eod nlo3
  refine run_appRow (so := so) (pr := fun W => ∃ o, Row o ∧ W = R.take n ++ [o] ++ R.drop (n)) g5.tbs hs5 eso5 nsS hW5 (by simp) (fun _ => ev_raw rfl)
    (xl_imp (xl_cat st hSS (xl_cat st hSS (xl_pure st fun H3 G3 => cutlo n rfl (G3.lst er5 nlrS) (ev_var rfl)) (ex_lst st (xa_cons (ex_ixW (l := lo) (ws := odd1 ++ odd2 ++ odd3) (pr := fun d => ∃ o, Row o ∧ d = .str o) st (fun _ _ => ev_raw rfl) eo5 nlS (ex_nextC (n := 26) (by simp) (by simp) st (fun _ h => h) (fun _ _ _ _ h => h) (fun _ _ => ev_raw rfl) (fun _ _ => ev_int) (by decide) (by decide)) (by rintro d ⟨r, rfl, r0, r1⟩; exact oddAt r0 r1)) xa_nil) (by rintro ds ⟨_, _, rfl, _, rfl⟩; simp)) (by rintro x y rfl ⟨_, _, rfl, _, rfl⟩; simp only [List.length_map, List.length_take, List.length_cons, List.length_nil]; omega)) (xl_pure st fun H3 G3 => (cuthi n rfl (G3.lst er5 nlrS) (ev_var rfl))) (by rintro x y ⟨_, _, rfl, ⟨_, _, rfl, _, rfl⟩, rfl⟩ rfl; simp only [List.length_map, List.length_take, List.length_drop, List.length_append, List.length_cons, List.length_nil]; omega)) (by
      rintro ds ⟨x, y, ⟨x1, y1, rfl, ⟨d, r, rfl, ⟨o, ho, rfl⟩, rfl⟩, rfl⟩, rfl, rfl⟩
      exact ⟨_, ⟨o, ho, rfl⟩, by simp⟩)) fun W6 q6 H6 ⟨o6, ho6, eW6⟩ hs6 g6 eso6 hW6 => ?_
  have er6 := g6.lst er5 nlr3
  have eo6 := g6.lst eo5 nlo3
  refine run_appRow (so := so) (pr := fun W => ∃ o, Row o ∧ W = R.take n ++ [("room 0 1" : Str), o] ++ R.drop n) g6.tbs hs6 eso6 nsS hW6 (by simp) (fun _ => ev_raw rfl)
    (xl_imp (xl_cat st hSS (xl_cat st hSS (xl_pure st fun H3 G3 => cutlo n rfl (G3.lst er6 nlrS) (ev_var rfl)) (ex_lst st (xa_cons (ex_pure st fun _ _ => ev_str) (xa_cons (ex_op (p := fun d => ∃ o, Row o ∧ d = .str o) st (ex_pure st fun _ _ => ev_str) (ex_strI st (ex_nextC (n := 4) (by simp) (by simp) st (fun _ h => h) (fun _ _ _ _ h => h) (fun _ _ => ev_raw rfl) (fun _ _ => ev_int) (by decide) (by decide)) (by rintro d ⟨r, rfl, r0, r1⟩; exact ⟨r, rfl, r0, by omega⟩)) (by
      rintro x y rfl ⟨i, rfl, hf⟩
      exact ⟨_, ⟨_, row_door99 hf, rfl⟩, os_addS (by have := hf.len.2; rw [door2_all.2]; omega)⟩)) xa_nil)) (by rintro ds ⟨_, _, rfl, _, _, _, rfl, _, rfl⟩; simp)) (by rintro x y rfl ⟨_, _, rfl, _, _, _, rfl, _, rfl⟩; simp only [List.length_map, List.length_take, List.length_cons, List.length_nil]; omega)) (xl_pure st fun H3 G3 => (cuthi n rfl (G3.lst er6 nlrS) (ev_var rfl))) (by rintro x y ⟨_, _, rfl, ⟨_, _, rfl, _, _, _, rfl, _, rfl⟩, rfl⟩ rfl; simp only [List.length_map, List.length_take, List.length_drop, List.length_append, List.length_cons, List.length_nil]; omega)) (by
      rintro ds ⟨x, y, ⟨x1, y1, rfl, ⟨d, r, rfl, rfl, d2, r2, rfl, ⟨o, ho, rfl⟩, rfl⟩, rfl⟩, rfl, rfl⟩
      exact ⟨_, ⟨o, ho, rfl⟩, by simp⟩)) fun W7 q7 H7 ⟨o7, ho7, eW7⟩ hs7 g7 eso7 hW7 => ?_
  have hall := somes_ok (n := n) hrow hlr.2 ho5 ho6 ho7
  have ews : [R.take n ++ R.drop (n + 1), R.take (n + 1) ++ R.drop n, R, R.reverse] ++ [W5] ++ [W6] ++ [W7] = somes R n o5 o6 o7 := by rw [eW5, eW6, eW7]; rfl
  rw [ews] at hW7
  have l7 := hW7.len
  obtain ⟨v7, hv7⟩ : ∃ v, ([.ref p1, .ref p2, .ref lr, .ref p3] ++ [.ref q5] ++ [.ref q6] ++ [.ref q7] : List V)[m]? = some v := ⟨_, List.getElem?_eq_getElem (by simpa using hm)⟩
  obtain ⟨W, pw, hWm, rfl, npw, epw⟩ := hW7.get hv7
  obtain ⟨hWr, hWl⟩ := hall W (List.mem_of_getElem? hWm)
  have hsum := sum_row hWr
  have nl1 : ("\n" : Str).length = 1 := by decide +kernel
  refine run_asg (d := .str (Txt.join "\n" W)) g7.tbs (ev_joinAt (l := pw) ev_str (ev_ixV (ev_raw rfl) (ev_var rfl) eso7 (atI_nat (j := m) hv7)) epw (by rw [nl1]; omega)) fun H8 g8 => ?_
  have hs8 : HS a b H8 := HS.stays _ _ g8 hs7
  have hz8 : (Txt.join "\n" W).length ≤ 336 := by have := (join_rows hWr hWl).1; rw [len_tl]; exact this
  have hbent := @bent_fine W hWr hWl
  generalize Txt.join "\n" W = z at hz8 hbent
  refine runx_asg (S := [a, b]) (J := HS a b) g8.tbs hs8 (p := fun d => ∃ k : Nat, d = .int (k : Nat) ∧ k ≤ z.length) ((ex_next (pn := fun k => k = (z.length : Int) + 1) (by simp) (by simp) st (fun _ h => h) (fun _ _ _ _ h => h) (fun _ _ => ev_raw rfl) (ex_pure st fun _ _ => ev_I0 (ev_lenS (ev_var rfl) (by omega)) ev_int) (by rintro d rfl; exact ⟨_, rfl, by omega, by omega, rfl⟩)).imp (by
    rintro d ⟨r, n', rfl, r0, r1, rfl⟩
    exact ⟨r.toNat, by rw [Int.toNat_of_nonneg r0], by omega⟩)) fun d9 H9 ⟨sp, e9, hsp⟩ g9 hs9 => ?_
  subst e9
  have hcut : ∀ k : Nat, (cutS z none (some (k : Int))).length ≤ 336 ∧ (cutS z (some (k : Int)) none).length ≤ 336 := fun k => by
    rw [len_tl] at hz8
    refine ⟨?_, ?_⟩
    · rw [len_tl, tl_cut_lo, List.length_take]; omega
    · rw [len_tl, tl_cut_hi, List.length_drop]; omega
  have hcut1 : ∀ (k c : Nat), (cutS z none (some (k : Int)) ++ (⟨#[c]⟩ : Str)).length ≤ 337 := fun k c => by
    have := (hcut k).1
    rw [len_tl] at this ⊢
    rw [tl_append, List.length_append]
    show _ + 1 ≤ 337
    omega
  have sign : ∀ {r : Int}, 0 ≤ r → r < 6 → ∃ c, c < 256 ∧ atI ("a0 9-\n" : Str).cps.toList r = some c := fun {r} r0 r1 => by
    have hlt : r.toNat < ("a0 9-\n" : Str).cps.toList.length := by rw [signs6.1]; omega
    have h2 := signs6.2
    rw [List.all_eq_true] at h2
    exact ⟨_, of_decide_eq_true (h2 _ (List.getElem_mem hlt)), atI_int r0 (List.getElem?_eq_getElem hlt)⟩
  refine runx_asg (S := [a, b]) (J := HS a b) g9.tbs hs9 (p := fun d => ∃ w : Str, d = .str w ∧ Fine z ∧ Fine w ∧ Fine (z ++ "\n"))
    (ex_op (p1 := fun d => ∃ c : Nat, c < 256 ∧ d = .str (cutS z none (some (sp : Int)) ++ ⟨#[c]⟩)) (p2 := fun d => ∃ m : Nat, sp ≤ m ∧ d = .str (cutS z (some (m : Int)) none)) st
      (ex_op (p1 := fun d => d = .str (cutS z none (some (sp : Int)))) (p2 := fun d => ∃ c : Nat, c < 256 ∧ d = .str ⟨#[c]⟩) st
        (ex_pure st fun H3 g3 => ev_slS (lo := none) (hi := some (sp : Int)) (ev_var rfl) (by omega) eo_none (eo_some (ev_var rfl)))
        (ex_op (p1 := fun d => d = .str "a0 9-\n") (p2 := fun d => ∃ r : Int, d = .int r ∧ 0 ≤ r ∧ r < 6) st (ex_pure st fun _ _ => ev_str)
          (ex_nextC (n := 6) (by simp) (by simp) st (fun _ h => h) (fun _ _ _ _ h => h) (fun _ _ => ev_raw rfl) (fun _ _ => ev_int) (by decide) (by decide))
          (by rintro x y rfl ⟨r, rfl, r0, r1⟩; obtain ⟨c, hc, hat⟩ := sign r0 r1; exact ⟨_, ⟨c, hc, rfl⟩, os_ixS (by decide +kernel) hat⟩))
        (by rintro x y rfl ⟨c, hc, rfl⟩; exact ⟨_, ⟨c, hc, rfl⟩, os_addS (by have := (hcut sp).1; show _ + 1 ≤ _; omega)⟩))
      ((ex_slS (p := fun d => ∃ m : Nat, sp ≤ m ∧ d = .int (m : Nat)) st (fun _ _ => ev_var rfl) (by omega)
        (ex_op (p1 := fun d => d = .int (sp : Nat)) (p2 := fun d => ∃ r : Int, d = .int r ∧ 0 ≤ r ∧ r < 2) st (ex_pure st fun _ _ => ev_var rfl)
          (ex_nextC (n := 2) (by simp) (by simp) st (fun _ h => h) (fun _ _ _ _ h => h) (fun _ _ => ev_raw rfl) (fun _ _ => ev_int) (by decide) (by decide))
          (by rintro x y rfl ⟨r, rfl, r0, r1⟩; exact ⟨.int ((sp : Int) + r), ⟨sp + r.toNat, by omega, by rw [Int.natCast_add, Int.toNat_of_nonneg r0]⟩, os_I0⟩))
        (by rintro d ⟨m, _, rfl⟩; exact ⟨_, rfl⟩)).imp (by rintro d ⟨i, ⟨m, hm, e⟩, rfl⟩; cases e; exact ⟨m, hm, rfl⟩))
      (by rintro x y ⟨c, hc, rfl⟩ ⟨m, hm, rfl⟩; exact ⟨_, ⟨_, rfl, hbent hm hc⟩, os_addS (by have := hcut1 sp c; have := (hcut m).2; omega)⟩)) fun d10 H10 ⟨w10, e10, f1, f2, f3⟩ g10 hs10 => ?_
  subst e10
  have eo7 := g7.lst eo6 nlo3
  have eo10 := g10.lst (g9.lst (g8.lst eo7 (by simp)) nlS) nlS
  have gso : Gr T [a, b] Hc H7 := Gr.drop gd.any ((g5.trans g6).trans g7) nso
  have gall : Gr T [a, b] Ha H10 := (((gb.trans gc).trans gso).trans g8.any).trans (g9.trans g10)
  refine run_last (run_for (S := []) g10.tbs (ei_tup (ev_tup (ds := [.str z, .str w10, .str (z ++ "\n")]) (ea_cons (ev_var rfl) (ea_cons (ev_var rfl) (ea_cons (ev_addS (ev_var rfl) ev_str (by rw [nl1]; omega)) ea_nil))) (by simp))) (fun _ => [some (.v (.ref a0)), some (.v (.ref a)), some (.v (.ref lo)), none, none, none, none, none, none, none, none, none, none, none, none]) (fun _ _ => True) (.same _ (.same _ (.same _ (.drop _ (.drop _ (.drop _ (.drop _ (.drop _ (.drop _ (.drop _ (.drop _ (.drop _ (.drop _ (.drop _ (.drop _ .nil))))))))))))))) (fun _ _ => trivial) (fun _ _ _ _ _ => trivial) (fun i d' Hi N' hdi gi _ hN' => ?_) (fun He ge _ => run_next fun σ s => hN σ He (gall.trans ge.any) ⟨HS.stays _ _ ge hs10, ge.lst eo10 (by simp)⟩ s))
  obtain ⟨x, rfl, hfx⟩ : ∃ x : Str, d' = .str x ∧ Fine x := by
    have := List.mem_of_getElem? hdi
    simp only [List.mem_cons, List.not_mem_nil, or_false] at this
    rcases this with rfl | rfl | rfl
    · exact ⟨_, rfl, f1⟩
    · exact ⟨_, rfl, f2⟩
    · exact ⟨_, rfl, f3⟩
  refine ⟨_, _, eg_name, ?_⟩
  obtain ⟨o, hro, hdue⟩ := read_due x
  refine run_asgL gi.tbs (ds := []) (ev_lst ea_nil (by decide)) fun l xs Hj nl gj el rl => ?_
  cases (show xs = [] from rl)
  refine run_kindRead (X := (cxOf CX0 P w K mg base [] "law" (defScope s_law) f (.ref c) A' outer s H E).nox) (C := C) gj.tbs rfl rfl rfl el hfx.1 (by have := hfx.2.2; omega) hro (fun d v Hk eo gk ek rk => ?_) (fun kd val Hk eo gk => ?_)
  · subst eo
    refine run_asg (d := toldO (.ret d)) gk.tbs (ev_if (b := true) (et_isNo (d := noD) (ev_var rfl) noD_can ⟨trivial, trivial, trivial⟩ (by simp)) (fun _ => ev_tup (ea_cons ev_str (ea_cons (ev_ixD (ds := [d]) (ev_raw rfl) ev_int ek ⟨v, [], rfl, rk, rfl⟩ at0) ea_nil)) (by simp)) fun e => nomatch e) fun Hm gm => ?_
    refine run_last (run_when gm.tbs ((et_not (et_B (ev_alike (d := toldO (.ret d)) (ea_cons (ev_var rfl) (ea_cons (ev_call (ea_cons (ev_var rfl) ea_nil) ⟨x, rfl, hfx.1, hfx.2.1, hfx.2.2, hdue⟩) ea_nil)) (hro.fit hfx.2.2)))).is rfl) (fun e => nomatch e) fun _ Hn gn => run_next fun σ s => ?_)
    exact hN' σ Hn ((Gr.drop gj gk nl).trans (gm.trans gn)) trivial (Slots.less (.same _ (.same _ (.same _ (.drop _ (.drop _ (.drop _ (.drop _ (.drop _ (.drop _ (.drop _ (.drop _ (.drop _ (.drop _ (.drop _ (.drop _ .nil))))))))))))))) s)
  · subst eo
    obtain ⟨c1, c2, c3⟩ := hro.kind
    refine run_asg (d := toldO (.err kd val)) gk.tbs (ev_if (b := false) (et_isNo (d := kindD kd val) (ev_var rfl) c1 c2 ⟨fun e => (nomatch e), fun e => absurd e c3⟩) (fun e => nomatch e) fun _ => ev_var rfl) fun Hm gm => ?_
    refine run_last (run_when gm.tbs ((et_not (et_B (ev_alike (d := toldO (.err kd val)) (ea_cons (ev_var rfl) (ea_cons (ev_call (ea_cons (ev_var rfl) ea_nil) ⟨x, rfl, hfx.1, hfx.2.1, hfx.2.2, hdue⟩) ea_nil)) (hro.fit hfx.2.2)))).is rfl) (fun e => nomatch e) fun _ Hn gn => run_next fun σ s => ?_)
    exact hN' σ Hn (gj.trans (gk.trans (gm.trans gn))) trivial (Slots.less (.same _ (.same _ (.same _ (.drop _ (.drop _ (.drop _ (.drop _ (.drop _ (.drop _ (.drop _ (.drop _ (.drop _ (.drop _ (.drop _ (.drop _ .nil))))))))))))))) s)
end
end Pd
set_option maxHeartbeats 4000000
namespace Pd
open PySem PySem.Spec PyProof.Rows L2
/-! ### the errors' own makings -/
/-- a def of a class, as it stands -/
structure AtM (K : PySem.W.Frag) (x qual : Str) (st : Stmt) (ps : List Str) (f : Addr) (fd : FuncData) : Prop where
  F : Fun K x qual st f fd
  b : Binds K fd ps []
theorem intsE {K : PySem.W.Frag} {H : Hp} : ∀ {ns : List Int} {xs : List V}, Reps K H (ns.map D.int) xs → xs = ns.map V.int
  | [], _, h => h
  | n :: ns, _, ⟨x, r, e, h1, h2⟩ => by rw [e, show x = V.int n from h1, intsE (ns := ns) h2]; rfl
theorem strAdd (a b : Str) : (a ++ b).length = a.length + b.length := strLen_append a b
theorem fmtA_any {K : PySem.W.Frag} {σ : L2.St} {H : Hp} {v : V} {val : D} {Q : VK} (hv : σ[1]? = some (some v)) (hr : Rep K H val v) (hf : FmtOk val) (q : ∀ m : Str, m.length ≤ 80000 → Q (.str m) H) : tFmtA K (tVar 1) σ H Q := by
  refine ⟨v, hv, ?_⟩
  rcases hf with ⟨i, rfl, hi⟩ | ⟨z, rfl, hz⟩ | ⟨l, rfl, hl, hi⟩
  · cases (show v = .int i from hr)
    exact .inr (.inl ⟨i, rfl, hi, q _ (Nat.le_trans (PyProof.Rows.int_text_len_1921 hi) (by decide))⟩)
  · cases (show v = .str z from hr)
    exact .inl ⟨z, rfl, sz (by omega), q _ (by omega)⟩
  · obtain ⟨a, xs, rfl, hs, rs⟩ := hr
    have e := intsE rs
    subst e
    exact .inr (.inr ⟨a, l, rfl, hs, hl, hi, q⟩)
theorem len_pre {z : Str} {n : Nat} (h : z.length ≤ n) : (Str.empty ++ z).length ≤ n := by
  rw [strAdd]; have : (Str.empty : Str).length = 0 := rfl; omega
section
variable {P : Program} {w : World} {K : PySem.W.Frag} {mg : Str → Option Value} {base : Heap} {C D0 f : Addr} {fd : FuncData}
theorem fnI_house (De : DInit K mg D0) (T : OexC K C) (A : AtM K "__init__" "BadHouse.__init__" s_BadHouse___init__ ["self", "path"] f fd) (hno : PySem.W.findIn K (.ref C) "path" = some none) : FnOk P w K mg base CX0 1 f fd ["self", "path"] (spInit K .house C) := by
  refine A.F.ok (k := 0) sc_BadHouse___init__ (fun vs H Q E ⟨_, _, _, e, _⟩ => by rw [e]; rfl) fun cdv A' outer s H vs Q E hr h => ⟨_, (pss_cons (ps_expr (pe_dinit De (by rfl) (pa_cons (pv 0) (pa_cons (pe_joined (.cons pe_str (.cons (pe_fmtA hr (pv 1)) .nil))) pa_nil)))) (pss_one (ps_ost (pv 0) (pv 1)))), ?_⟩
  obtain ⟨a, v, val, rfl, ha, hr2, hf, q⟩ := h
  dsimp only [Cx.nox, Cx.wish, cxOf]
  refine ⟨.ref a, rfl, ("no house has such a room at " : Str), rfl, sz (Nat.le_trans (len_pre (z := ("no house has such a room at " : Str)) (n := 100) (by decide +kernel)) (by decide)), ?_⟩
  refine fmtA_any rfl hr2 hf fun m hm => ⟨m, rfl, ?_, ?_⟩
  · rw [strAdd]; exact sz (by have := len_pre (z := ("no house has such a room at " : Str)) (n := 100) (by decide +kernel); omega)
  · exact ⟨a, C, [_], rfl, by simp, T, ha, ⟨v, rfl, .ref a, rfl, a, C, rfl, T, hno, .inl ⟨ha, fun dx n1 n2 => q dx n1 n2⟩⟩⟩
theorem fnI_door (De : DInit K mg D0) (T : OexC K C) (A : AtM K "__init__" "NoDoor.__init__" s_NoDoor___init__ ["self", "path"] f fd) (hno : PySem.W.findIn K (.ref C) "path" = some none) : FnOk P w K mg base CX0 1 f fd ["self", "path"] (spInit K .door C) := by
  refine A.F.ok (k := 0) sc_NoDoor___init__ (fun vs H Q E ⟨_, _, _, e, _⟩ => by rw [e]; rfl) fun cdv A' outer s H vs Q E hr h => ⟨_, (pss_cons (ps_expr (pe_dinit De (by rfl) (pa_cons (pv 0) (pa_cons (pe_joined (.cons pe_str (.cons (pe_fmtA hr (pv 1)) .nil))) pa_nil)))) (pss_one (ps_ost (pv 0) (pv 1)))), ?_⟩
  obtain ⟨a, v, val, rfl, ha, hr2, hf, q⟩ := h
  dsimp only [Cx.nox, Cx.wish, cxOf]
  refine ⟨.ref a, rfl, ("nothing of that kind is at " : Str), rfl, sz (Nat.le_trans (len_pre (z := ("nothing of that kind is at " : Str)) (n := 100) (by decide +kernel)) (by decide)), ?_⟩
  refine fmtA_any rfl hr2 hf fun m hm => ⟨m, rfl, ?_, ?_⟩
  · rw [strAdd]; exact sz (by have := len_pre (z := ("nothing of that kind is at " : Str)) (n := 100) (by decide +kernel); omega)
  · exact ⟨a, C, [_], rfl, by simp, T, ha, ⟨v, rfl, .ref a, rfl, a, C, rfl, T, hno, .inl ⟨ha, fun dx n1 n2 => q dx n1 n2⟩⟩⟩
theorem fnI_name (De : DInit K mg D0) (T : OexC K C) (A : AtM K "__init__" "NoName.__init__" s_NoName___init__ ["self", "name"] f fd) (hno : PySem.W.findIn K (.ref C) "name" = some none) : FnOk P w K mg base CX0 1 f fd ["self", "name"] (spInit K .name C) := by
  refine A.F.ok (k := 0) sc_NoName___init__ (fun vs H Q E ⟨_, _, _, e, _⟩ => by rw [e]; rfl) fun cdv A' outer s H vs Q E hr h => ⟨_, (pss_cons (ps_expr (pe_dinit De (by rfl) (pa_cons (pv 0) (pa_cons (pe_joined (.cons pe_str (.cons (pe_fmtA hr (pv 1)) .nil))) pa_nil)))) (pss_one (ps_ost (pv 0) (pv 1)))), ?_⟩
  obtain ⟨a, v, val, rfl, ha, hr2, hf, q⟩ := h
  dsimp only [Cx.nox, Cx.wish, cxOf]
  refine ⟨.ref a, rfl, ("no way out is called " : Str), rfl, sz (Nat.le_trans (len_pre (z := ("no way out is called " : Str)) (n := 100) (by decide +kernel)) (by decide)), ?_⟩
  refine fmtA_any rfl hr2 hf fun m hm => ⟨m, rfl, ?_, ?_⟩
  · rw [strAdd]; exact sz (by have := len_pre (z := ("no way out is called " : Str)) (n := 100) (by decide +kernel); omega)
  · exact ⟨a, C, [_], rfl, by simp, T, ha, ⟨v, rfl, .ref a, rfl, a, C, rfl, T, hno, .inl ⟨ha, fun dx n1 n2 => q dx n1 n2⟩⟩⟩
theorem fnI_deed (De : DInit K mg D0) (T : OexC K C) (A : AtM K "__init__" "BadDeed.__init__" s_BadDeed___init__ ["self", "number"] f fd) (hno : PySem.W.findIn K (.ref C) "number" = some none) : FnOk P w K mg base CX0 1 f fd ["self", "number"] (spInit K .deed C) := by
  refine A.F.ok (k := 0) sc_BadDeed___init__ (fun vs H Q E ⟨_, _, _, e, _⟩ => by rw [e]; rfl) fun cdv A' outer s H vs Q E hr h => ⟨_, (pss_cons (ps_expr (pe_dinit De (by rfl) (pa_cons (pv 0) (pa_cons (pe_joined (.cons pe_str (.cons (pe_fmtA hr (pv 1)) (.cons pe_str .nil)))) pa_nil)))) (pss_one (ps_ost (pv 0) (pv 1)))), ?_⟩
  obtain ⟨a, v, val, rfl, ha, hr2, hf, q⟩ := h
  dsimp only [Cx.nox, Cx.wish, cxOf]
  refine ⟨.ref a, rfl, ("deed " : Str), rfl, sz (Nat.le_trans (len_pre (z := ("deed " : Str)) (n := 100) (by decide +kernel)) (by decide)), ?_⟩
  refine fmtA_any rfl hr2 hf fun m hm => ⟨m, rfl, ?_, ?_⟩
  · rw [strAdd]; exact sz (by have := len_pre (z := ("deed " : Str)) (n := 100) (by decide +kernel); omega)
  · refine ⟨_, rfl, ?_, a, C, [_], rfl, by simp, T, ha, ⟨v, rfl, .ref a, rfl, a, C, rfl, T, hno, .inl ⟨ha, fun dx n1 n2 => q dx n1 n2⟩⟩⟩
    rw [strAdd, strAdd]; exact sz (by have := len_pre (z := ("deed " : Str)) (n := 100) (by decide +kernel); have : (" can't be done" : Str).length ≤ 100 := (by decide +kernel); omega)
theorem fnI_text (De : DInit K mg D0) (T : OexC K C) (A : AtM K "__init__" "BadText.__init__" s_BadText___init__ ["self", "row"] f fd) (hno : PySem.W.findIn K (.ref C) "row" = some none) : FnOk P w K mg base CX0 1 f fd ["self", "row"] (spInit K .text C) := by
  refine A.F.ok (k := 0) sc_BadText___init__ (fun vs H Q E ⟨_, _, _, e, _⟩ => by rw [e]; rfl) fun cdv A' outer s H vs Q E hr h => ⟨_, (pss_cons (ps_expr (pe_dinit De (by rfl) (pa_cons (pv 0) (pa_cons (pe_joined (.cons pe_str (.cons (pe_fmtA hr (pv 1)) (.cons pe_str .nil)))) pa_nil)))) (pss_one (ps_ost (pv 0) (pv 1)))), ?_⟩
  obtain ⟨a, v, val, rfl, ha, hr2, hf, q⟩ := h
  dsimp only [Cx.nox, Cx.wish, cxOf]
  refine ⟨.ref a, rfl, ("row " : Str), rfl, sz (Nat.le_trans (len_pre (z := ("row " : Str)) (n := 100) (by decide +kernel)) (by decide)), ?_⟩
  refine fmtA_any rfl hr2 hf fun m hm => ⟨m, rfl, ?_, ?_⟩
  · rw [strAdd]; exact sz (by have := len_pre (z := ("row " : Str)) (n := 100) (by decide +kernel); omega)
  · refine ⟨_, rfl, ?_, a, C, [_], rfl, by simp, T, ha, ⟨v, rfl, .ref a, rfl, a, C, rfl, T, hno, .inl ⟨ha, fun dx n1 n2 => q dx n1 n2⟩⟩⟩
    rw [strAdd, strAdd]; exact sz (by have := len_pre (z := ("row " : Str)) (n := 100) (by decide +kernel); have : (" can't stand there" : Str).length ≤ 100 := (by decide +kernel); omega)
end
end Pd
namespace Pd
open PySem PySem.Spec PyProof.Rows L2
/-! ### the errors' classes, read off the head -/
theorem eks_all (k : Ek) : k ∈ eks := by cases k <;> simp [eks]
theorem okxs_all {k : Ek} (h : k ≠ .count) : k ∈ okxs := by cases k <;> first | exact absurd rfl h | simp [okxs]
theorem clsB_ok {K : PySem.W.Frag} {C : Addr} (h : clsB K C = true) : ∃ nm q N bs bm sn sub ab col dd k0 k1 k2 k3 k5, K.lookup C = some (excClassObj nm q C N bs bm true sn sub ab col dd k0 k1 k2 k3 k5 "ValueError.__new__") ∧ PySem.HandSPX.refsVE bm = true := by
  unfold clsB at h
  split at h
  case h_2 => cases h
  rename_i dd cd sl ho
  split at h
  case h_2 => cases h
  rename_i C' bm k0 k1 k2 k3 n k5 hm hs
  obtain ⟨nm, bs, mro, ns, qn, hd, sn, sub, ab, col, del⟩ := cd
  obtain ⟨l⟩ := sl
  dsimp only at hm hs h
  simp only [Bool.and_eq_true, beq_iff_eq, Bool.not_eq_true'] at h
  obtain ⟨rfl, rfl, rfl, rfl, hv⟩ := h
  subst hm; subst hs
  exact ⟨nm, qn, ns, bs, bm, sn, sub, ab, col, dd, k0, k1, k2, k3, k5, ho, hv⟩
theorem oexB_ok {K : PySem.W.Frag} {C : Addr} (h : oexB K C = true) : OexC K C := by
  unfold oexB at h
  simp only [Bool.and_eq_true] at h
  obtain ⟨h1, h2, h3, h4, h5⟩ := h
  exact ⟨clsB_ok h1, He.eqO_ok h2, of_decide_eq_true h3, of_decide_eq_true h4, h5⟩
theorem excB_ok {K : PySem.W.Frag} {C : Addr} (h : excB K C = true) : ExcC K C := by
  unfold excB at h
  simp only [Bool.and_eq_true] at h
  obtain ⟨h1, h2, h3, h4, h5, h6, h7, h8⟩ := h
  exact ⟨He.eqO_ok h1, He.eqO_ok h2, of_decide_eq_true h3, h4, He.eqO_ok h5, He.eqO_ok h6, of_decide_eq_true h7, of_decide_eq_true h8⟩
theorem bareB_ok {K : PySem.W.Frag} {mg : Str → Option Value} {D0 : Addr} (g : mg "DoorError" = some (.ref D0)) (h : bareB K D0 = true) : DInit K mg D0 := by
  unfold bareB at h
  simp only [Bool.and_eq_true] at h
  obtain ⟨h1, h2, h3⟩ := h
  refine ⟨g, He.eqO_ok h1, h2, ?_⟩
  split at h3
  case h_2 => cases h3
  rename_i n hn
  rw [hn, of_decide_eq_true h3]
structure KcsOk (K : PySem.W.Frag) (mg : Str → Option Value) : Prop where
  kk : KCs K mg (CK K)
  de : DInit K mg (He.ga K "DoorError")
  ox : ∀ k, k ≠ .count → OexC K (CK K k)
theorem kcsB_ok {K : PySem.W.Frag} {mg : Str → Option Value} (hg : ∀ k : Ek, mg k.cls = some (.ref (CK K k))) (hd : mg "DoorError" = some (.ref (He.ga K "DoorError"))) (h : kcsB K = true) : KcsOk K mg := by
  unfold kcsB at h
  simp only [Bool.and_eq_true, List.all_eq_true] at h
  obtain ⟨h1, h2, h3, h4, h5, h6, h7⟩ := h
  exact ⟨⟨hg, ⟨_, hd, fun k => of_decide_eq_true (h5 k (eks_all k))⟩, fun k j => of_decide_eq_true (h1 k (eks_all k) j (eks_all j)), fun k => of_decide_eq_true (h2 k (eks_all k)), fun k => excB_ok (h3 k (eks_all k)), fun k n hn => He.eqO_ok (h4 k (eks_all k) n hn)⟩,
    bareB_ok hd h6, fun k hk => oexB_ok (h7 k (okxs_all hk))⟩
/-- the errors as a def may raise them -/
structure Ecs (P : Program) (w : World) (K : PySem.W.Frag) (mg : Str → Option Value) (base : Heap) (C : Ek → Addr) : Prop where
  c : BCc K mg (C .count)
  v : ∀ k, k ≠ .count → EC P w K mg base k (C k)
section
variable {P : Program} {w : World} {K : PySem.W.Frag} {mg : Str → Option Value} {base : Heap}
theorem ec_of {k : Ek} {fI : Addr} {fd : FuncData} {ps : List Str} (R : KcsOk K mg) (hk : k ≠ .count) (M : Meth K (CK K k) "__init__" fI) (F : FnOk P w K mg base CX0 1 fI fd ps (spInit K k (CK K k))) (b : Binds K fd ps []) : EC P w K mg base k (CK K k) :=
  ⟨R.kk.g k, R.ox k hk, fI, fd, ps, M.at_, by have := M.fn; unfold PySem.W.isFn at this; exact beq_iff_eq.mp this, F, b⟩
/-- where the makings stand -/
structure Inis (K : PySem.W.Frag) : Prop where
  house : ∃ f fd, AtM K "__init__" "BadHouse.__init__" s_BadHouse___init__ ["self", "path"] f fd ∧ Meth K (CK K .house) "__init__" f
  door : ∃ f fd, AtM K "__init__" "NoDoor.__init__" s_NoDoor___init__ ["self", "path"] f fd ∧ Meth K (CK K .door) "__init__" f
  name : ∃ f fd, AtM K "__init__" "NoName.__init__" s_NoName___init__ ["self", "name"] f fd ∧ Meth K (CK K .name) "__init__" f
  deed : ∃ f fd, AtM K "__init__" "BadDeed.__init__" s_BadDeed___init__ ["self", "number"] f fd ∧ Meth K (CK K .deed) "__init__" f
  text : ∃ f fd, AtM K "__init__" "BadText.__init__" s_BadText___init__ ["self", "row"] f fd ∧ Meth K (CK K .text) "__init__" f
theorem ecs_of (R : KcsOk K mg) (c : BCc K mg (CK K .count)) (I : Inis K) : Ecs P w K mg base (CK K) := by
  refine ⟨c, fun k hk => ?_⟩
  cases k with
  | count => exact absurd rfl hk
  | house => obtain ⟨f, fd, A, M⟩ := I.house; exact ec_of R hk M (fnI_house R.de (R.ox _ hk) A (R.kk.f _ _ (by simp))) A.b
  | door => obtain ⟨f, fd, A, M⟩ := I.door; exact ec_of R hk M (fnI_door R.de (R.ox _ hk) A (R.kk.f _ _ (by simp))) A.b
  | name => obtain ⟨f, fd, A, M⟩ := I.name; exact ec_of R hk M (fnI_name R.de (R.ox _ hk) A (R.kk.f _ _ (by simp))) A.b
  | deed => obtain ⟨f, fd, A, M⟩ := I.deed; exact ec_of R hk M (fnI_deed R.de (R.ox _ hk) A (R.kk.f _ _ (by simp))) A.b
  | text => obtain ⟨f, fd, A, M⟩ := I.text; exact ec_of R hk M (fnI_text R.de (R.ox _ hk) A (R.kk.f _ _ (by simp))) A.b
end
end Pd
set_option maxHeartbeats 2000000
namespace Pd
open PySem PySem.Spec PyProof.Rows L2
/-- the defs as they stand -/
structure Defs (K : PySem.W.Frag) (mg : Str → Option Value) (c1 c2 c3 c4 : Addr) : Prop where
  d_is_way_out : ∃ f fd, At K mg "is_way_out" s_is_way_out ["room"] f fd
  d_is_name : ∃ f fd, AtC K mg "is_name" s_is_name ["text"] f fd c1
  d_is_door : ∃ f fd, At K mg "is_door" s_is_door ["door"] f fd
  d_can_be : ∃ f fd, AtC K mg "can_be" s_can_be ["room"] f fd c2
  d_rooms_behind : ∃ f fd, At K mg "rooms_behind" s_rooms_behind ["room", "path"] f fd
  d_check_house : ∃ f fd, At K mg "check_house" s_check_house ["house"] f fd
  d_is_number : ∃ f fd, AtC K mg "is_number" s_is_number ["word"] f fd c3
  d_can_stand : ∃ f fd, At K mg "can_stand" s_can_stand ["words", "wanted"] f fd
  d_wanted_behind : ∃ f fd, At K mg "wanted_behind" s_wanted_behind ["words"] f fd
  d_words_of_rows : ∃ f fd, At K mg "words_of_rows" s_words_of_rows ["text"] f fd
  d_built : ∃ f fd, At K mg "built" s_built ["told"] f fd
  d_read : ∃ f fd, At K mg "read" s_read ["text"] f fd
  d__law_mix : ∃ f fd, At K mg "_law_mix" s__law_mix ["_law_script", "_law_seed"] f fd
  d__law_next : ∃ f fd, At K mg "_law_next" s__law_next ["_law_h", "_law_many"] f fd
  d__law_alike : ∃ f fd, At K mg "_law_alike" s__law_alike ["_law_found", "_law_due_here"] f fd
  d__law_door : ∃ f fd, At K mg "_law_door" s__law_door ["_law_h", "_law_few"] f fd
  d__law_room : ∃ f fd, At K mg "_law_room" s__law_room ["_law_h", "_law_spare", "_law_deep", "_law_few"] f fd
  d__law_house : ∃ f fd, At K mg "_law_house" s__law_house ["_law_h", "_law_few"] f fd
  d__law_kind : ∃ f fd, At K mg "_law_kind" s__law_kind ["_law_call"] f fd
  d__law_rows : ∃ f fd, At K mg "_law_rows" s__law_rows ["_law_room_here"] f fd
  d__law_two : ∃ f fd, At K mg "_law_two" s__law_two ["_law_words", "_law_head"] f fd
  d__law_taken : ∃ f fd, At K mg "_law_taken" s__law_taken ["_law_rows_here", "_law_at"] f fd
  d__law_bad : ∃ f fd, At K mg "_law_bad" s__law_bad ["_law_room_here", "_law_path"] f fd
  d__law_due : ∃ f fd, At K mg "_law_due" s__law_due ["_law_text"] f fd
  d_law : ∃ f fd, AtC K mg "law" s_law ["_law_script"] f fd c4
theorem asm {P : Program} {w : World} {K : PySem.W.Frag} {mg : Str → Option Value} {base : Heap} {c1 c2 c3 c4 P1 P2 P3 P4 : Addr} (B : Bl mg) (D : Defs K mg c1 c2 c3 c4) (KR : KcsOk K mg) (EE : Ecs P w K mg base (CK K))
    (T1 : LamX.TabB base mg c1 P1) (T2 : LamX.TabB base mg c2 P2) (T3 : LamX.TabB base mg c3 P3) (T4 : LamX.TabB base mg c4 P4) (n1_4 : P1 ≠ P4) (n2_4 : P2 ≠ P4) (n3_4 : P3 ≠ P4) :
    ∃ f fd, AtC K mg "law" s_law ["_law_script"] f fd c4 ∧ FnOk P w K mg base CX0 62 f fd ["_law_script"] (spLaw ⟨[P1, P2, P3], [(P4, "law.<locals>.<lambda>")]⟩ K) := by
  obtain ⟨f_is_way_out, fd_is_way_out, A_is_way_out⟩ := D.d_is_way_out
  obtain ⟨f_is_name, fd_is_name, A_is_name⟩ := D.d_is_name
  obtain ⟨f_is_door, fd_is_door, A_is_door⟩ := D.d_is_door
  obtain ⟨f_can_be, fd_can_be, A_can_be⟩ := D.d_can_be
  obtain ⟨f_rooms_behind, fd_rooms_behind, A_rooms_behind⟩ := D.d_rooms_behind
  obtain ⟨f_check_house, fd_check_house, A_check_house⟩ := D.d_check_house
  obtain ⟨f_is_number, fd_is_number, A_is_number⟩ := D.d_is_number
  obtain ⟨f_can_stand, fd_can_stand, A_can_stand⟩ := D.d_can_stand
  obtain ⟨f_wanted_behind, fd_wanted_behind, A_wanted_behind⟩ := D.d_wanted_behind
  obtain ⟨f_words_of_rows, fd_words_of_rows, A_words_of_rows⟩ := D.d_words_of_rows
  obtain ⟨f_built, fd_built, A_built⟩ := D.d_built
  obtain ⟨f_read, fd_read, A_read⟩ := D.d_read
  obtain ⟨f__law_mix, fd__law_mix, A__law_mix⟩ := D.d__law_mix
  obtain ⟨f__law_next, fd__law_next, A__law_next⟩ := D.d__law_next
  obtain ⟨f__law_alike, fd__law_alike, A__law_alike⟩ := D.d__law_alike
  obtain ⟨f__law_door, fd__law_door, A__law_door⟩ := D.d__law_door
  obtain ⟨f__law_room, fd__law_room, A__law_room⟩ := D.d__law_room
  obtain ⟨f__law_house, fd__law_house, A__law_house⟩ := D.d__law_house
  obtain ⟨f__law_kind, fd__law_kind, A__law_kind⟩ := D.d__law_kind
  obtain ⟨f__law_rows, fd__law_rows, A__law_rows⟩ := D.d__law_rows
  obtain ⟨f__law_two, fd__law_two, A__law_two⟩ := D.d__law_two
  obtain ⟨f__law_taken, fd__law_taken, A__law_taken⟩ := D.d__law_taken
  obtain ⟨f__law_bad, fd__law_bad, A__law_bad⟩ := D.d__law_bad
  obtain ⟨f__law_due, fd__law_due, A__law_due⟩ := D.d__law_due
  obtain ⟨f_law, fd_law, A_law⟩ := D.d_law
  generalize hT : (⟨[P1, P2, P3], [(P4, "law.<locals>.<lambda>")]⟩ : Tb) = T
  have hg1 : P1 ∈ T.g := by rw [← hT]; simp
  have hl1 : ∀ p ∈ T.l, p.1 ≠ P1 := by rw [← hT]; simp; exact fun z => n1_4 z.symm
  have hg2 : P2 ∈ T.g := by rw [← hT]; simp
  have hl2 : ∀ p ∈ T.l, p.1 ≠ P2 := by rw [← hT]; simp; exact fun z => n2_4 z.symm
  have hg3 : P3 ∈ T.g := by rw [← hT]; simp
  have hl3 : ∀ p ∈ T.l, p.1 ≠ P3 := by rw [← hT]; simp; exact fun z => n3_4 z.symm
  have hm4 : (P4, ("law.<locals>.<lambda>" : Str)) ∈ T.l := by rw [← hT]; simp
  have hu4 : ∀ p ∈ T.l, p.1 = P4 → p.2 = ("law.<locals>.<lambda>" : Str) := by
    rw [← hT]
    intro p hp e
    simp at hp
    rw [hp]
  have ng4 : P4 ∉ T.g := by rw [← hT]; simp; exact ⟨fun z => n1_4 z.symm, fun z => n2_4 z.symm, fun z => n3_4 z.symm⟩
  clear hT
  have G_way : Ok P w K mg base 1 "is_way_out" ["room"] (spR T K RWay) := ok_way B A_is_way_out
  have G_isname : Ok P w K mg base 1 "is_name" ["text"] (spR T K RName) := ok_isname B ⟨T1.code, T1.bm, T1.gP⟩ hg1 hl1 A_is_name
  have G_canbe : Ok P w K mg base 2 "can_be" ["room"] (spR T K RCan) := ok_canbe B ⟨T2.code, T2.bm, T2.gP⟩ hg2 hl2 A_can_be A_is_door G_way G_isname
  have G_behind : Ok P w K mg base 2 "rooms_behind" ["room", "path"] (spRL T K RBehind) := ok_behind B A_rooms_behind G_way
  have G_check : Ok P w K mg base 3 "check_house" ["house"] (spR T K RCheck) := ok_check B A_check_house G_canbe G_behind
  have G_next : Ok P w K mg base 1 "_law_next" ["_law_h", "_law_many"] (spNext T) := ok_next B A__law_next
  have G_door : Ok P w K mg base 2 "_law_door" ["_law_h", "_law_few"] (spDoor T K) := ok_door B A__law_door G_next
  have G_room : Ok P w K mg base 9 "_law_room" ["_law_h", "_law_spare", "_law_deep", "_law_few"] (spRoom T K 7) := ok_room B A__law_room G_next G_door 7
  have G_house : Ok P w K mg base 10 "_law_house" ["_law_h", "_law_few"] (spHouse T K) := ok_house B A__law_house G_next G_room
  have KK := KR.kk
  have GG_name := okG_isname (P := P) (w := w) (base := base) (T := T) B ⟨T1.code, T1.bm, T1.gP⟩ hg1 hl1 A_is_name
  have GG_can := okG_canbe (P := P) (w := w) (base := base) (T := T) B ⟨T2.code, T2.bm, T2.gP⟩ hg2 hl2 A_can_be A_is_door G_way GG_name
  have GG_behind := okG_behind (P := P) (w := w) (base := base) (T := T) B A_rooms_behind G_way
  have GX_check := okG_check (P := P) (w := w) (base := base) (T := T) (C := CK K) B (EE.v .house (by decide)) A_check_house GG_can GG_behind
  have G_isnum : Ok P w K mg base 1 "is_number" ["word"] (spR T K RNum) := ok_isnum B ⟨T3.code, T3.bm, T3.gP⟩ hg3 hl3 A_is_number
  have GG_stand := okG_stand (P := P) (w := w) (base := base) (T := T) B A_can_stand GG_name G_isnum
  have GX_words := okE_words (P := P) (w := w) (base := base) (T := T) (C := CK K) B (EE.v .text (by decide)) A_words_of_rows GG_stand (ok_wanted B A_wanted_behind)
  have GX_read := okE_read (P := P) (w := w) (base := base) (T := T) (C := CK K) B A_read (ok_built B A_built) GX_words GX_check
  have G_two := ok_two (P := P) (w := w) (base := base) (T := T) B A__law_two
  have G_due := ok_due (P := P) (w := w) (base := base) (T := T) B A__law_due (ok_taken B A__law_taken G_two 20) (ok_lbad B A__law_bad 21)
  refine ⟨f_law, fd_law, A_law, ok_law (P := P) (w := w) (base := base) (T := T) (C := CK K) (Pl := P4) B T4 hm4 hu4 ng4 KK A_law A__law_kind (ok_mix B A__law_mix) G_next G_house (ok_lrows B A__law_rows 13) (ok_alike B A__law_alike 60) G_due GX_read⟩
end Pd
set_option maxHeartbeats 0
namespace Pd
open PySem PySem.Spec PyProof.Rows L2
section
variable {K : PySem.W.Frag} {h : Heap} {mg : Str → Option Value}
theorem fun_of {x : Str} {st : Stmt} {f : Addr} {fd : FuncData} (F : FunD K x x (defArgs st) (defBody st) (defScope st) [] [] f fd) : Fun K x x st f fd := by
  obtain ⟨oc, od, dV, kV, doc, pm, an, cdv, ct, osl, e, lk, hc, hd, _⟩ := F.ex
  rcases hd with ⟨_, hd⟩ | ⟨hd, _⟩
  · subst hd
    exact ⟨⟨oc, od, kV, doc, pm, an, cdv, ct, osl, e, lk, hc⟩, F.kp⟩
  · exact absurd rfl hd
theorem at_of {x : Str} {st : Stmt} {ps : List Str} (X : K.In h) (G : h.Ns mainGlobals mg) (c : He.SaysD faL fnL K) (hd : dd x st ∈ fnL) (hg : He.Fa.glo x ∈ faL)
    (hb : ∀ (kV doc pm : Value) (an : Option Addr) (cdv ct : Value) (us : List Value), us.length = ps.length → bindArgs (PySem.W.fnOf x x (defArgs st) (defBody st) (defScope st) .none kV doc pm an cdv ct) ⟨us, []⟩ = pure (ps.zip us)) : ∃ f fd, At K mg x st ps f fd := by
  obtain ⟨fd, F⟩ := c.defs hd
  have F2 : Fun K x x st (He.ga K x) fd := fun_of F
  exact ⟨_, fd, F2, F2.binds hb, He.glo_ok X G (c.facts hg)⟩
theorem atC_of {x : Str} {st : Stmt} {ps : List Str} (X : K.In h) (G : h.Ns mainGlobals mg) (c : He.SaysD faL fnL K) (hd : dd x st ∈ fnL) (hg : He.Fa.glo x ∈ faL)
    (hb : ∀ (kV doc pm : Value) (an : Option Addr) (cdv ct : Value) (us : List Value), us.length = ps.length → bindArgs (PySem.W.fnOf x x (defArgs st) (defBody st) (defScope st) .none kV doc pm an cdv ct) ⟨us, []⟩ = pure (ps.zip us)) : ∃ f fd, AtC K mg x st ps f fd (He.cT K (x, none)).1 := by
  obtain ⟨fd, F⟩ := c.defs hd
  have F2 : Fun K x x st (He.ga K x) fd := fun_of F
  have hB := F2.binds hb
  obtain ⟨oc, od, kV, doc, pm, an, cdv, ct, osl, e, lk, hc⟩ := F2.ex
  obtain ⟨cc, rfl⟩ := He.codeIn_ref hc
  have ec : (He.cT K (x, none)).1 = cc := He.codeOf_eq (p := (x, none)) lk (by rw [e])
  rw [ec]
  exact ⟨_, fd, ⟨⟨oc, od, kV, doc, pm, an, ct, osl, e, lk, hc⟩, F2.kp⟩, hB, He.glo_ok X G (c.facts hg)⟩
theorem mem_fn (d : He.DefD) (i : Nat) (h : fnL[i]? = some d) : d ∈ fnL := List.mem_of_getElem? h
theorem mem_fa (d : He.Fa) (i : Nat) (h : faL[i]? = some d) : d ∈ faL := List.mem_of_getElem? h
theorem defs_of (X : K.In h) (G : h.Ns mainGlobals mg) (c : He.SaysD faL fnL K) : Defs K mg (He.cT K ("is_name", none)).1 (He.cT K ("can_be", none)).1 (He.cT K ("is_number", none)).1 (He.cT K ("law", none)).1 where
  d_is_way_out := at_of X G c (mem_fn _ 0 rfl) (mem_fa _ 0 rfl) fun _ _ _ _ _ _ us hl => match us, hl with | [_], _ => rfl
  d_is_name := atC_of X G c (mem_fn _ 1 rfl) (mem_fa _ 1 rfl) fun _ _ _ _ _ _ us hl => match us, hl with | [_], _ => rfl
  d_is_door := at_of X G c (mem_fn _ 2 rfl) (mem_fa _ 2 rfl) fun _ _ _ _ _ _ us hl => match us, hl with | [_], _ => rfl
  d_can_be := atC_of X G c (mem_fn _ 3 rfl) (mem_fa _ 3 rfl) fun _ _ _ _ _ _ us hl => match us, hl with | [_], _ => rfl
  d_rooms_behind := at_of X G c (mem_fn _ 4 rfl) (mem_fa _ 4 rfl) fun _ _ _ _ _ _ us hl => match us, hl with | [_, _], _ => rfl
  d_check_house := at_of X G c (mem_fn _ 5 rfl) (mem_fa _ 5 rfl) fun _ _ _ _ _ _ us hl => match us, hl with | [_], _ => rfl
  d_is_number := atC_of X G c (mem_fn _ 6 rfl) (mem_fa _ 6 rfl) fun _ _ _ _ _ _ us hl => match us, hl with | [_], _ => rfl
  d_can_stand := at_of X G c (mem_fn _ 7 rfl) (mem_fa _ 7 rfl) fun _ _ _ _ _ _ us hl => match us, hl with | [_, _], _ => rfl
  d_wanted_behind := at_of X G c (mem_fn _ 8 rfl) (mem_fa _ 8 rfl) fun _ _ _ _ _ _ us hl => match us, hl with | [_], _ => rfl
  d_words_of_rows := at_of X G c (mem_fn _ 9 rfl) (mem_fa _ 9 rfl) fun _ _ _ _ _ _ us hl => match us, hl with | [_], _ => rfl
  d_built := at_of X G c (mem_fn _ 10 rfl) (mem_fa _ 10 rfl) fun _ _ _ _ _ _ us hl => match us, hl with | [_], _ => rfl
  d_read := at_of X G c (mem_fn _ 11 rfl) (mem_fa _ 11 rfl) fun _ _ _ _ _ _ us hl => match us, hl with | [_], _ => rfl
  d__law_mix := at_of X G c (mem_fn _ 12 rfl) (mem_fa _ 12 rfl) fun _ _ _ _ _ _ us hl => match us, hl with | [_, _], _ => rfl
  d__law_next := at_of X G c (mem_fn _ 13 rfl) (mem_fa _ 13 rfl) fun _ _ _ _ _ _ us hl => match us, hl with | [_, _], _ => rfl
  d__law_alike := at_of X G c (mem_fn _ 14 rfl) (mem_fa _ 14 rfl) fun _ _ _ _ _ _ us hl => match us, hl with | [_, _], _ => rfl
  d__law_door := at_of X G c (mem_fn _ 15 rfl) (mem_fa _ 15 rfl) fun _ _ _ _ _ _ us hl => match us, hl with | [_, _], _ => rfl
  d__law_room := at_of X G c (mem_fn _ 16 rfl) (mem_fa _ 16 rfl) fun _ _ _ _ _ _ us hl => match us, hl with | [_, _, _, _], _ => rfl
  d__law_house := at_of X G c (mem_fn _ 17 rfl) (mem_fa _ 17 rfl) fun _ _ _ _ _ _ us hl => match us, hl with | [_, _], _ => rfl
  d__law_kind := at_of X G c (mem_fn _ 18 rfl) (mem_fa _ 18 rfl) fun _ _ _ _ _ _ us hl => match us, hl with | [_], _ => rfl
  d__law_rows := at_of X G c (mem_fn _ 19 rfl) (mem_fa _ 19 rfl) fun _ _ _ _ _ _ us hl => match us, hl with | [_], _ => rfl
  d__law_two := at_of X G c (mem_fn _ 20 rfl) (mem_fa _ 20 rfl) fun _ _ _ _ _ _ us hl => match us, hl with | [_, _], _ => rfl
  d__law_taken := at_of X G c (mem_fn _ 21 rfl) (mem_fa _ 21 rfl) fun _ _ _ _ _ _ us hl => match us, hl with | [_, _], _ => rfl
  d__law_bad := at_of X G c (mem_fn _ 22 rfl) (mem_fa _ 22 rfl) fun _ _ _ _ _ _ us hl => match us, hl with | [_, _], _ => rfl
  d__law_due := at_of X G c (mem_fn _ 23 rfl) (mem_fa _ 23 rfl) fun _ _ _ _ _ _ us hl => match us, hl with | [_], _ => rfl
  d_law := atC_of X G c (mem_fn _ 24 rfl) (mem_fa _ 24 rfl) fun _ _ _ _ _ _ us hl => match us, hl with | [_], _ => rfl
theorem bl_of (X : K.In h) (G : h.Ns mainGlobals mg) (c : He.SaysD faL fnL K) : Bl mg where
  ValueError := He.free_ok X G (c.facts (mem_fa _ 32 rfl))
  all := He.free_ok X G (c.facts (mem_fa _ 33 rfl))
  bool := He.free_ok X G (c.facts (mem_fa _ 34 rfl))
  enumerate := He.free_ok X G (c.facts (mem_fa _ 35 rfl))
  int := He.free_ok X G (c.facts (mem_fa _ 36 rfl))
  isinstance := He.free_ok X G (c.facts (mem_fa _ 37 rfl))
  len := He.free_ok X G (c.facts (mem_fa _ 38 rfl))
  list := He.free_ok X G (c.facts (mem_fa _ 39 rfl))
  max := He.free_ok X G (c.facts (mem_fa _ 40 rfl))
  min := He.free_ok X G (c.facts (mem_fa _ 41 rfl))
  range := He.free_ok X G (c.facts (mem_fa _ 42 rfl))
  str := He.free_ok X G (c.facts (mem_fa _ 43 rfl))
  tuple := He.free_ok X G (c.facts (mem_fa _ 44 rfl))
  LONGEST_NAME := He.int_ok X G (c.facts (mem_fa _ 45 rfl))
  MOST_DOORS_OF_A_ROOM := He.int_ok X G (c.facts (mem_fa _ 46 rfl))
  MOST_DOORS_OF_A_HOUSE := He.int_ok X G (c.facts (mem_fa _ 47 rfl))
  MOST_NEED := He.int_ok X G (c.facts (mem_fa _ 48 rfl))
  MOST_FIGURES := He.int_ok X G (c.facts (mem_fa _ 49 rfl))
  LETTERS := He.str_ok X G (c.facts (mem_fa _ 50 rfl))
  FIGURES := He.str_ok X G (c.facts (mem_fa _ 51 rfl))
theorem funM_of {x q : Str} {st : Stmt} {f : Addr} {fd : FuncData} (F : FunD K x q (defArgs st) (defBody st) (defScope st) [] [] f fd) : Fun K x q st f fd := by
  obtain ⟨oc, od, dV, kV, doc, pm, an, cdv, ct, osl, e, lk, hc, hd, _⟩ := F.ex
  rcases hd with ⟨_, hd⟩ | ⟨hd, _⟩
  · subst hd
    exact ⟨⟨oc, od, kV, doc, pm, an, cdv, ct, osl, e, lk, hc⟩, F.kp⟩
  · exact absurd rfl hd
theorem meth_of {c m q : Str} {st : Stmt} {ps : List Str} (C : He.SaysD faL fnL K) (hd : ddm c m q st ∈ fnL) (hm : He.Fa.meth c m ∈ faL)
    (hb : ∀ (kV doc pm : Value) (an : Option Addr) (cdv ct : Value) (us : List Value), us.length = ps.length → bindArgs (PySem.W.fnOf m q (defArgs st) (defBody st) (defScope st) .none kV doc pm an cdv ct) ⟨us, []⟩ = pure (ps.zip us)) : ∃ f fd, AtM K m q st ps f fd ∧ Meth K (He.ga K c) m f := by
  obtain ⟨fd, F⟩ := C.defs hd
  have F2 : Fun K m q st (He.ma K (He.ga K c) m) fd := funM_of F
  exact ⟨_, fd, ⟨F2, F2.binds hb⟩, He.meth_ok (C.facts hm)⟩
theorem inis_of (c : He.SaysD faL fnL K) : Inis K where
  house := meth_of c (mem_fn _ 25 rfl) (mem_fa _ 53 rfl) fun _ _ _ _ _ _ us hl => match us, hl with | [_, _], _ => rfl
  door := meth_of c (mem_fn _ 27 rfl) (mem_fa _ 55 rfl) fun _ _ _ _ _ _ us hl => match us, hl with | [_, _], _ => rfl
  name := meth_of c (mem_fn _ 26 rfl) (mem_fa _ 54 rfl) fun _ _ _ _ _ _ us hl => match us, hl with | [_, _], _ => rfl
  deed := meth_of c (mem_fn _ 28 rfl) (mem_fa _ 56 rfl) fun _ _ _ _ _ _ us hl => match us, hl with | [_, _], _ => rfl
  text := meth_of c (mem_fn _ 29 rfl) (mem_fa _ 57 rfl) fun _ _ _ _ _ _ us hl => match us, hl with | [_, _], _ => rfl
theorem kcs_of (X : K.In h) (G : h.Ns mainGlobals mg) (c : He.SaysD faL fnL K) (hx : exL K = true) : KcsOk K mg := by
  have hk : kcsB K = true := by
    unfold exL at hx
    try simp only [Bool.and_eq_true] at hx
    exact hx.1
  refine kcsB_ok (fun k => ?_) (He.glo_ok X G (c.facts (mem_fa _ 25 rfl))) hk
  cases k
  · exact He.glo_ok X G (c.facts (mem_fa _ 26 rfl))
  · exact He.glo_ok X G (c.facts (mem_fa _ 29 rfl))
  · exact He.glo_ok X G (c.facts (mem_fa _ 28 rfl))
  · exact He.glo_ok X G (c.facts (mem_fa _ 30 rfl))
  · exact He.glo_ok X G (c.facts (mem_fa _ 31 rfl))
  · exact He.glo_ok X G (c.facts (mem_fa _ 27 rfl))
theorem bcc_of (X : K.In h) (G : h.Ns mainGlobals mg) (c : He.SaysD faL fnL K) : BCc K mg (CK K .count) := by
  obtain ⟨a, b, d, e⟩ := He.exc_ok (x := "BadCount") (c.facts (mem_fa _ 52 rfl))
  exact ⟨He.glo_ok X G (c.facts (mem_fa _ 27 rfl)), a, b, d, e⟩
theorem tbs_of (hx : exL K = true) : exL.tb K 0 3 = true ∧ exL.tb K 1 3 = true ∧ exL.tb K 2 3 = true := by
  unfold exL at hx
  try simp only [Bool.and_eq_true] at hx
  exact hx.2
theorem law_at {w : World} {fa : Addr} (X : K.In h) (G : h.Ns mainGlobals mg) (hfa : mg ("law" : Str) = some (.ref fa)) (c : He.SaysX faL fnL [] tfL exL w h K) :
    LamX.LawAtS PySem.Challenge.rw_pushdoors_k12_texts_of_no_house w K CX0 62 63 "_law_script" mg fa h := by
  have D := defs_of X G c.t.d
  have B := bl_of X G c.t.d
  obtain ⟨t1_4, t2_4, t3_4⟩ := tbs_of c.more
  have KR := kcs_of X G c.t.d c.more
  have ne : ∀ {x y : Addr}, decide (some x ≠ some y) = true → x ≠ y := fun h z => of_decide_eq_true h (by rw [z])
  have hs := fun base (hb : ∀ p ∈ tfL.map (He.cT K), LamX.TabB base mg p.1 p.2) => asm (P := (PySem.Challenge.rw_pushdoors_k12_texts_of_no_house).prog) (w := w) (base := base) B D KR (ecs_of KR (bcc_of X G c.t.d) (inis_of c.t.d))  (hb _ (List.mem_map.mpr ⟨("is_name", none), by simp [tfL], rfl⟩)) (hb _ (List.mem_map.mpr ⟨("can_be", none), by simp [tfL], rfl⟩)) (hb _ (List.mem_map.mpr ⟨("is_number", none), by simp [tfL], rfl⟩)) (hb _ (List.mem_map.mpr ⟨("law", none), by simp [tfL], rfl⟩)) (ne t1_4) (ne t2_4) (ne t3_4)
  obtain ⟨fl, fdl, Al⟩ := D.d_law
  have el : fl = fa := by have := Al.m.symm.trans hfa; cases this; rfl
  subst el
  refine ⟨fdl, tfL.map (He.cT K), spLaw ⟨[(He.cT K ("is_name", none)).2, (He.cT K ("can_be", none)).2, (He.cT K ("is_number", none)).2], [((He.cT K ("law", none)).2, "law.<locals>.<lambda>")]⟩ K, ?_, ?_, ?_, ?_, ?_, ?_⟩
  · intro p hp
    obtain ⟨x, hx, rfl⟩ := List.mem_map.mp hp
    exact c.empty x hx
  · intro p hp
    obtain ⟨x, hx, rfl⟩ := List.mem_map.mp hp
    exact c.out x hx
  · intro p hp
    obtain ⟨x, hx, rfl⟩ := List.mem_map.mp hp
    exact PySem.W.codeHd_of_K X (c.hd x hx)
  · obtain ⟨oc, od, kV, doc, pm, an, ct, osl, e, lk, hc⟩ := Al.F.ex
    subst e
    exact fun s u => .of_eq rfl
  · intro H a ns hl _ hT hS
    have tb : ∀ x : He.Defn, x ∈ tfL → H (He.cT K x).2 = some (.tbl #[]) := fun x hx => hT _ (List.mem_map.mpr ⟨x, hx, rfl⟩)
    refine ⟨a, ns, rfl, hS, hl, ⟨fun P hP => ?_, fun p hp => ?_⟩, fun _ => rfl⟩
    · rcases (by simpa using hP : P = (He.cT K ("is_name", none)).2 ∨ P = (He.cT K ("can_be", none)).2 ∨ P = (He.cT K ("is_number", none)).2) with rfl | rfl | rfl
      · exact ⟨#[], tb _ (by simp [tfL]), trivial⟩
      · exact ⟨#[], tb _ (by simp [tfL]), trivial⟩
      · exact ⟨#[], tb _ (by simp [tfL]), trivial⟩
    · obtain rfl : p = ((He.cT K ("law", none)).2, ("law.<locals>.<lambda>" : Str)) := by simpa using hp
      exact LamX.TabS.nil (tb _ (by simp [tfL]))
  · intro base _ _ hb
    obtain ⟨f2, fd2, A2, G2⟩ := hs base hb
    have e2 : f2 = fl := by have := A2.m.symm.trans Al.m; cases this; rfl
    subst e2
    obtain ⟨oc, od, kV, doc, pm, an, ct, osl, e, lk, hc⟩ := Al.F.ex
    obtain ⟨oc2, od2, kV2, doc2, pm2, an2, ct2, osl2, e2, lk2, hc2⟩ := A2.F.ex
    have e3 : fd2 = fdl := by
      rw [lk] at lk2
      have z := congrArg Obj.data (Option.some.inj lk2)
      injection z with z
      exact z.symm
    rw [← e3]
    exact G2
end
end Pd
open PySem PySem.W PySem.Calls PyProof.Rows
theorem PySem.Challenge.cw_pushdoors_k12_texts_of_no_house_holds : PySem.Challenge.rw_pushdoors_k12_texts_of_no_house.Holds := by
  w_on; o_law
  refine HandSHeadRun.head_any (r := OpenLaw.row PySem.Challenge.rw_pushdoors_k12_texts_of_no_house) (q := view (OpenLaw.row PySem.Challenge.rw_pushdoors_k12_texts_of_no_house).prog [42]) (H := Pd.hk) (ob := Pd.ob) (M := 6000) (loose := Pd.loose) (d := HandSHeadRun.topDef (OpenLaw.row PySem.Challenge.rw_pushdoors_k12_texts_of_no_house).prog 42) (kwd := []) Pd.ob_eq
    (by kernel_rfl) (fun s => by kernel_rfl) Pd.run (by kernel_rfl) (by kernel_rfl) (by kernel_rfl) (by rfl) (by first | assumption | decide +kernel) (by decide +kernel) ⟨rfl, rfl, rfl, rfl, rfl, by decide +kernel⟩ ?hw ?hc
  case hw => w_witness2
  case hc =>
    refine LamX.walk_ofTsE (l := PySem.Challenge.rw_pushdoors_k12_texts_of_no_house) (n := 63) (k := 62) (x := "_law_script") (CX := fun _ => L2.CX0) rfl (by decide) (by kernel_rfl) ⟨rfl, by decide, by decide⟩ ?F (fun _ _ _ _ _ z => z)
    intro w mg fa h Y G hmg0
    obtain ⟨K, KX, c⟩ := Y
    have hmg : mg ("law" : PySem.Str) = some (.ref fa) := by
      have e : (HandSHeadRun.topDef (OpenLaw.row PySem.Challenge.rw_pushdoors_k12_texts_of_no_house).prog 42).name = ("law" : PySem.Str) := by kernel_rfl
      rw [← e]
      exact hmg0
    exact ⟨K, KX, Pd.law_at KX G hmg c⟩
