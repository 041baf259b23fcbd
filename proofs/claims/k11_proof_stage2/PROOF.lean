import PyProof.Rows.All
import Wide.All
import OpenK.AllK
import Wide.FinOn
import HandS.ForMost
import HandS.IsInst
import HandS.TupAny
import HandS.Wide
import HandS.Flow
import HandS.NoneIn
import HandS.Style
import HandS.Walk
import HandS.AnyAll
import HandS.Lambda
import KE.GoesMore
import PyProof.GenCompD
import HandS.Nested
import HandS.Text
import PyProof.DelItemList
import HandS.FStr
import HandS.Iter
import KE.KStateDown
import KE.KNestM
import HandS.Head0
import HandS.Head1
import HandS.Head2
import HandS.HeadEnd
import HandS.HeadHook1
import HandS.HeadHook2
import HandS.HeadHook3
import HandS.HeadHook4
import HandS.EndTab
import HandS.HeadWalk
import PySem.Challenge.RW_pushdoors_k11_houses_written_and_read
set_option Elab.async false
set_option linter.all false
set_option maxRecDepth 100000
set_option maxHeartbeats 2000000
namespace Pd
open PySem L2
/-! ### data, and how they lie in a heap -/
inductive D where
  | non | bl (b : Bool) | int (i : Int) | str (x : Str) | tup (ds : List D)
structure Tb where
  g : List Addr
  l : List (Addr × Str)
def Tbs (T : Tb) (H : Hp) : Prop := (∀ P ∈ T.g, GxR.TabG H P) ∧ LamX.Tabs T.l H
def Fast : HO → Prop
  | .tup _ => True
  | .frz _ _ => True
  | _ => False
structure Gr (T : Tb) (S : List Addr) (H H' : Hp) : Prop where
  keep : ∀ b o, b ∉ S → H b = some o → (∀ ps, o ≠ .tbl ps) → H' b = some o
  fast : ∀ b o, H b = some o → Fast o → H' b = some o
  dom : ∀ b, H' b = none → H b = none
  tbs : Tbs T H'
theorem Gr.refl {T : Tb} {S : List Addr} {H : Hp} (h : Tbs T H) : Gr T S H H := ⟨fun _ _ _ e _ => e, fun _ _ e _ => e, fun _ e => e, h⟩
theorem Gr.trans {T : Tb} {S : List Addr} {H H1 H2 : Hp} (a : Gr T S H H1) (b : Gr T S H1 H2) : Gr T S H H2 :=
  ⟨fun c o n e q => b.keep c o n (a.keep c o n e q) q, fun c o e q => b.fast c o (a.fast c o e q) q, fun c e => a.dom c (b.dom c e), b.tbs⟩
theorem Gr.mono {T : Tb} {S S' : List Addr} {H H' : Hp} (a : Gr T S H H') (h : ∀ x ∈ S, x ∈ S') : Gr T S' H H' :=
  ⟨fun c o n e q => a.keep c o (fun z => n (h c z)) e q, a.fast, a.dom, a.tbs⟩
theorem Gr.any {T : Tb} {S : List Addr} {H H' : Hp} (a : Gr T [] H H') : Gr T S H H' := a.mono fun x h => absurd h (by simp)
theorem Gr.self {T : Tb} {S S' : List Addr} {H H' : Hp} (a : Gr T S H H') : Gr T S' H' H' := Gr.refl a.tbs
theorem Gr.lst {T : Tb} {S : List Addr} {H H' : Hp} {l : Addr} {xs : List V} (a : Gr T S H H') (h : H l = some (.lst xs)) (n : l ∉ S) : H' l = some (.lst xs) := a.keep _ _ n h (fun _ z => nomatch z)
theorem ne_fast {H : Hp} {a b : Addr} {o : HO} {xs : List V} (h : H a = some o) (hf : Fast o) (h' : H b = some (.lst xs)) : a ≠ b := fun e => by
  subst e
  rw [h] at h'
  cases h'
  exact hf
/-- tables stand where no list and nothing new stands -/
theorem Tbs.upd {T : Tb} {H : Hp} {l : Addr} {o : HO} (h : Tbs T H) (hl : H l = none ∨ ∃ xs, H l = some (.lst xs)) : Tbs T (upd H l o) := by
  have ne : ∀ b u, H b = some u → (∀ xs, u ≠ .lst xs) → b ≠ l := fun b u e q z => by
    subst z
    rcases hl with r | ⟨xs, r⟩
    · rw [r] at e; cases e
    · rw [r] at e; cases e; exact q xs rfl
  refine ⟨fun P hP => ?_, fun p hp => ?_⟩
  · obtain ⟨ps, e, t⟩ := h.1 P hP
    exact ⟨ps, by rw [upd_ne (ne P _ e (fun _ z => nomatch z))]; exact e, t⟩
  · obtain ⟨ps, e, t, q⟩ := h.2 p hp
    refine ⟨ps, by rw [upd_ne (ne _ _ e (fun _ z => nomatch z))]; exact e, t, fun pos cv hc => ?_⟩
    obtain ⟨c, e1, e2⟩ := q pos cv hc
    exact ⟨c, e1, by rw [upd_ne (ne c _ e2 (fun xs z => by unfold LamX.CodeO at z; cases z))]; exact e2⟩
theorem Gr.new {T : Tb} {S : List Addr} {H : Hp} {p : Addr} {o : HO} (h : Tbs T H) (hp : H p = none) : Gr T S H (upd H p o) :=
  ⟨fun b u _ e _ => by rw [upd_ne (ne_of_none e hp)]; exact e, fun b u e _ => by rw [upd_ne (ne_of_none e hp)]; exact e,
    fun b e => by
      by_cases z : b = p
      · subst z; exact hp
      · rw [upd_ne z] at e; exact e, h.upd (.inl hp)⟩
/-- a list of one's own is changed -/
theorem Gr.put {T : Tb} {S : List Addr} {H H' : Hp} {l : Addr} {o : HO} {xs : List V} (a : Gr T S H H') (h : H' l = some (.lst xs)) (hl : l ∈ S ∨ H l = none) : Gr T S H (upd H' l o) := by
  refine ⟨fun b u n e q => ?_, fun b u e q => ?_, fun b e => ?_, a.tbs.upd (.inr ⟨xs, h⟩)⟩
  · have nb : b ≠ l := fun z => by
      subst z
      rcases hl with r | r
      · exact n r
      · rw [r] at e; cases e
    rw [upd_ne nb]; exact a.keep b u n e q
  · rw [upd_ne (ne_fast (a.fast b u e q) q h)]; exact a.fast b u e q
  · by_cases z : b = l
    · subst z; rw [upd_same] at e; cases e
    · rw [upd_ne z] at e; exact a.dom b e
theorem Gr.sqT {T : Tb} {S : List Addr} {K : PySem.W.Frag} {H H' : Hp} {a : Addr} {xs : List V} (g : Gr T S H H') (h : SqT K H a xs) : SqT K H' a xs := by
  rcases h with (h | ⟨o, h⟩) | h
  · exact .inl (.inl (g.fast _ _ h trivial))
  · exact .inl (.inr ⟨o, g.fast _ _ h trivial⟩)
  · exact .inr h
mutual
def Rep (K : PySem.W.Frag) (H : Hp) : D → V → Prop
  | .non, v => v = .non
  | .bl b, v => v = .bl b
  | .int i, v => v = .int i
  | .str x, v => v = .str x
  | .tup ds, v => ∃ a xs, v = .ref a ∧ SqT K H a xs ∧ Reps K H ds xs
def Reps (K : PySem.W.Frag) (H : Hp) : List D → List V → Prop
  | [], xs => xs = []
  | d :: ds, xs => ∃ x r, xs = x :: r ∧ Rep K H d x ∧ Reps K H ds r
end
section
variable {T : Tb} {S : List Addr} {K : PySem.W.Frag} {H H' : Hp}
mutual
theorem Rep.gr (g : Gr T S H H') : ∀ (d : D) (v : V), Rep K H d v → Rep K H' d v
  | .non, _, h => h
  | .bl _, _, h => h
  | .int _, _, h => h
  | .str _, _, h => h
  | .tup ds, v, ⟨a, xs, e, hs, hr⟩ => ⟨a, xs, e, g.sqT hs, Reps.gr g ds xs hr⟩
theorem Reps.gr (g : Gr T S H H') : ∀ (ds : List D) (xs : List V), Reps K H ds xs → Reps K H' ds xs
  | [], _, h => h
  | d :: ds, _, ⟨x, r, e, h1, h2⟩ => ⟨x, r, e, Rep.gr g d x h1, Reps.gr g ds r h2⟩
end
theorem Rep.up {d : D} {v : V} (h : Rep K H d v) (g : Gr T S H H') : Rep K H' d v := Rep.gr g d v h
theorem Reps.up {ds : List D} {vs : List V} (h : Reps K H ds vs) (g : Gr T S H H') : Reps K H' ds vs := Reps.gr g ds vs h
theorem Reps.len : ∀ {ds : List D} {xs : List V}, Reps K H ds xs → xs.length = ds.length
  | [], _, h => by cases h; rfl
  | _ :: ds, _, ⟨x, r, e, _, h2⟩ => by subst e; exact congrArg (· + 1) (Reps.len (ds := ds) h2)
theorem Reps.get : ∀ {ds : List D} {xs : List V} {i : Nat} {d : D}, Reps K H ds xs → ds[i]? = some d → ∃ x, xs[i]? = some x ∧ Rep K H d x
  | [], _, _, _, _, e => by simp at e
  | _ :: ds, _, 0, d, ⟨x, r, e, h1, _⟩, q => by subst e; simp at q; subst q; exact ⟨x, rfl, h1⟩
  | _ :: ds, _, i + 1, d, ⟨x, r, e, _, h2⟩, q => by subst e; simpa using Reps.get (i := i) h2 (by simpa using q)
theorem Reps.got : ∀ {ds : List D} {xs : List V} {i : Nat} {x : V}, Reps K H ds xs → xs[i]? = some x → ∃ d, ds[i]? = some d ∧ Rep K H d x
  | [], _, _, _, h, e => by cases h; simp at e
  | d :: ds, _, 0, x, ⟨y, r, e, h1, _⟩, q => by subst e; simp at q; subst q; exact ⟨d, rfl, h1⟩
  | _ :: ds, _, i + 1, x, ⟨y, r, e, _, h2⟩, q => by subst e; simpa using Reps.got (i := i) h2 (by simpa using q)
theorem Reps.app : ∀ {ds es : List D} {xs ys : List V}, Reps K H ds xs → Reps K H es ys → Reps K H (ds ++ es) (xs ++ ys)
  | [], _, _, _, h, h' => by cases h; exact h'
  | _ :: ds, _, _, _, ⟨x, r, e, h1, h2⟩, h' => by subst e; exact ⟨x, _, rfl, h1, Reps.app h2 h'⟩
theorem Reps.take : ∀ {ds : List D} {xs : List V} (n : Nat), Reps K H ds xs → Reps K H (ds.take n) (xs.take n)
  | _, _, 0, _ => by simp [Reps]
  | [], _, n + 1, h => by cases h; simp [Reps]
  | _ :: ds, _, n + 1, ⟨x, r, e, h1, h2⟩ => by subst e; exact ⟨x, _, rfl, h1, Reps.take n h2⟩
theorem Reps.drop : ∀ {ds : List D} {xs : List V} (n : Nat), Reps K H ds xs → Reps K H (ds.drop n) (xs.drop n)
  | _, _, 0, h => h
  | [], _, n + 1, h => by cases h; simp [Reps]
  | _ :: ds, _, n + 1, ⟨x, r, e, h1, h2⟩ => by subst e; exact Reps.drop n h2
theorem Reps.ints : ∀ (ns : List Int), Reps K H (ns.map D.int) (ns.map V.int)
  | [] => rfl
  | n :: ns => ⟨.int n, _, rfl, rfl, Reps.ints ns⟩
theorem Reps.cut {ds : List D} {xs : List V} (lo hi : Option Int) (h : Reps K H ds xs) : Reps K H ((ds.drop (HT.sIx ds.length 0 lo)).take (HT.sIx ds.length ds.length hi - HT.sIx ds.length 0 lo)) (cutV xs lo hi) := by
  unfold cutV
  rw [h.len]
  exact (h.drop _).take _
theorem Reps.rev : ∀ {ds : List D} {xs : List V}, Reps K H ds xs → Reps K H ds.reverse xs.reverse
  | [], _, h => by cases h; rfl
  | d :: ds, _, ⟨x, r, e, h1, h2⟩ => by
    subst e
    rw [List.reverse_cons, List.reverse_cons]
    exact Reps.app (Reps.rev h2) ⟨x, [], rfl, h1, rfl⟩
end
/-! ### slots -/
inductive SD where
  | d (d : D) | v (v : V)
def SlotOk (K : PySem.W.Frag) (H : Hp) : Option SD → Option V → Prop
  | none, _ => True
  | some (.d d), some v => Rep K H d v
  | some (.d _), none => False
  | some (.v w), o => o = some w
def Slots (K : PySem.W.Frag) (H : Hp) : List (Option SD) → St → Prop
  | [], σ => σ = []
  | s :: δ, σ => ∃ o r, σ = o :: r ∧ SlotOk K H s o ∧ Slots K H δ r
section
variable {T : Tb} {S : List Addr} {K : PySem.W.Frag} {H H' : Hp}
theorem SlotOk.up {s : Option SD} {o : Option V} (h : SlotOk K H s o) (g : Gr T S H H') : SlotOk K H' s o := by
  cases s with
  | none => trivial
  | some s => cases s with
    | v w => exact h
    | d d => cases o with
      | none => exact h
      | some v => exact Rep.up h g
theorem Slots.up : ∀ {δ : List (Option SD)} {σ : St}, Slots K H δ σ → Gr T S H H' → Slots K H' δ σ
  | [], _, h, _ => h
  | _ :: δ, _, ⟨o, r, e, h1, h2⟩, g => ⟨o, r, e, h1.up g, Slots.up h2 g⟩
theorem Slots.set : ∀ {δ : List (Option SD)} {σ : St} {s : Option SD} {o : Option V} (i : Nat), Slots K H δ σ → SlotOk K H s o → Slots K H (δ.set i s) (σ.set i o)
  | [], _, _, _, _, h, _ => by cases h; exact rfl
  | _ :: δ, _, _, _, 0, ⟨o, r, e, h1, h2⟩, q => by subst e; exact ⟨_, r, rfl, q, h2⟩
  | _ :: δ, _, _, _, i + 1, ⟨o, r, e, h1, h2⟩, q => by subst e; exact ⟨o, _, rfl, h1, Slots.set i h2 q⟩
theorem Slots.get : ∀ {δ : List (Option SD)} {σ : St} {i : Nat} {s : Option SD}, Slots K H δ σ → δ[i]? = some s → ∃ o, σ[i]? = some o ∧ SlotOk K H s o
  | [], _, _, _, _, e => by simp at e
  | _ :: δ, _, 0, _, ⟨o, r, e, h1, _⟩, q => by subst e; simp at q; subst q; exact ⟨o, rfl, h1⟩
  | _ :: δ, _, i + 1, _, ⟨o, r, e, _, h2⟩, q => by subst e; simpa using Slots.get (i := i) h2 (by simpa using q)
theorem Slots.dat {δ : List (Option SD)} {σ : St} {i : Nat} {d : D} (h : Slots K H δ σ) (e : δ[i]? = some (some (.d d))) : ∃ v, σ[i]? = some (some v) ∧ Rep K H d v := by
  obtain ⟨o, h1, h2⟩ := h.get e
  cases o with
  | none => exact h2.elim
  | some v => exact ⟨v, h1, h2⟩
theorem Slots.raw {δ : List (Option SD)} {σ : St} {i : Nat} {v : V} (h : Slots K H δ σ) (e : δ[i]? = some (some (.v v))) : σ[i]? = some (some v) := by
  obtain ⟨o, h1, h2⟩ := h.get e
  rw [h1, (show o = some v from h2)]
/-- less is known -/
inductive Less : List (Option SD) → List (Option SD) → Prop
  | nil : Less [] []
  | same {δ δ' : List (Option SD)} (s : Option SD) : Less δ δ' → Less (s :: δ) (s :: δ')
  | drop {δ δ' : List (Option SD)} (s : Option SD) : Less δ δ' → Less (s :: δ) (none :: δ')
theorem Slots.less : ∀ {δ δ' : List (Option SD)} {σ : St}, Less δ δ' → Slots K H δ σ → Slots K H δ' σ
  | _, _, _, .nil, h => h
  | _, _, _, .same _ l, ⟨o, r, e, h1, h2⟩ => ⟨o, r, e, h1, Slots.less l h2⟩
  | _, _, _, .drop _ l, ⟨o, r, e, _, h2⟩ => ⟨o, r, e, trivial, Slots.less l h2⟩
theorem Less.refl : ∀ δ : List (Option SD), Less δ δ
  | [] => .nil
  | s :: δ => .same s (Less.refl δ)
theorem Slots.start : ∀ {ds : List D} {vs : List V} (n : Nat), Reps K H ds vs → Slots K H (ds.map (fun d => some (.d d)) ++ List.replicate n none) (vs.map some ++ List.replicate n none)
  | [], _, n, h => by
    cases h
    induction n with
    | zero => rfl
    | succ n ih => exact ⟨none, _, rfl, trivial, ih⟩
  | _ :: ds, _, n, ⟨x, r, e, h1, h2⟩ => by subst e; exact ⟨some x, _, rfl, h1, Slots.start n h2⟩
end
end Pd
namespace Pd
open PySem L2
def ArgOk (K : PySem.W.Frag) (H : Hp) : List SD → List V → Prop
  | [], xs => xs = []
  | s :: ss, xs => ∃ x r, xs = x :: r ∧ SlotOk K H (some s) (some x) ∧ ArgOk K H ss r
section
variable {T : Tb} {S : List Addr} {K : PySem.W.Frag} {H H' : Hp}
theorem ArgOk.up : ∀ {ss : List SD} {xs : List V}, ArgOk K H ss xs → Gr T S H H' → ArgOk K H' ss xs
  | [], _, h, _ => h
  | _ :: ss, _, ⟨x, r, e, h1, h2⟩, g => ⟨x, r, e, h1.up g, ArgOk.up h2 g⟩
theorem ArgOk.dat : ∀ {ds : List D} {xs : List V}, ArgOk K H (ds.map SD.d) xs → Reps K H ds xs
  | [], _, h => h
  | _ :: ds, _, ⟨x, r, e, h1, h2⟩ => ⟨x, r, e, h1, ArgOk.dat h2⟩
theorem tyx_tup {a : Addr} {xs : List V} (h : SqT K H a xs) : TyX K H (.ref a) (.type "tuple") := by
  rcases h with (h | ⟨o, h⟩) | ⟨o, its, n, h, hc, _⟩
  · exact .base (.tup h)
  · exact .fTuple h
  · exact .kTuple h hc
end
section
variable (T : Tb) (K : PySem.W.Frag)
def EvD (te : TE) (δ : List (Option SD)) (H : Hp) (d : D) : Prop := ∀ σ H1, Gr T [] H H1 → Slots K H1 δ σ → ∀ Q : VK, (∀ v H2, Gr T [] H1 H2 → Rep K H2 d v → Q v H2) → te σ H1 Q
def EvV (te : TE) (δ : List (Option SD)) (H : Hp) (v : V) : Prop := ∀ σ H1, Gr T [] H H1 → Slots K H1 δ σ → ∀ Q : VK, (∀ H2, Gr T [] H1 H2 → Q v H2) → te σ H1 Q
/-- a new list -/
def EvL (te : TE) (δ : List (Option SD)) (H : Hp) (ds : List D) : Prop := ∀ σ H1, Gr T [] H H1 → Slots K H1 δ σ → ∀ Q : VK, (∀ p xs H2, H1 p = none → Gr T [] H1 H2 → H2 p = some (.lst xs) → Reps K H2 ds xs → Q (.ref p) H2) → te σ H1 Q
def EvT (tt : TT) (δ : List (Option SD)) (H : Hp) (b : Bool) : Prop := ∀ σ H1, Gr T [] H H1 → Slots K H1 δ σ → ∀ Q : Bool → Hp → Prop, (∀ H2, Gr T [] H1 H2 → Q b H2) → tt σ H1 Q
def EvA (ta : TA) (δ : List (Option SD)) (H : Hp) (ds : List D) : Prop := ∀ σ H1, Gr T [] H H1 → Slots K H1 δ σ → ∀ Q : List V → Hp → Prop, (∀ vs H2, Gr T [] H1 H2 → Reps K H2 ds vs → Q vs H2) → ta σ H1 Q
def EvS (ta : TA) (δ : List (Option SD)) (H : Hp) (ss : List SD) : Prop := ∀ σ H1, Gr T [] H H1 → Slots K H1 δ σ → ∀ Q : List V → Hp → Prop, (∀ vs H2, Gr T [] H1 H2 → ArgOk K H2 ss vs → Q vs H2) → ta σ H1 Q
def EvO (to : TO) (δ : List (Option SD)) (H : Hp) (o : Option Int) : Prop := ∀ σ H1, Gr T [] H H1 → Slots K H1 δ σ → ∀ Q : Option Int → Hp → Prop, (∀ H2, Gr T [] H1 H2 → Q o H2) → to σ H1 Q
end
section
variable {T : Tb} {S : List Addr} {K : PySem.W.Frag} {δ : List (Option SD)} {H H' : Hp} {ta tb tc te : TE} {t u : TT} {x y z d : D} {i j : Int}
theorem EvD.up (h : EvD T K te δ H d) (g : Gr T [] H H') : EvD T K te δ H' d := fun σ H1 a => h σ H1 (g.trans a)
theorem EvV.up {v : V} (h : EvV T K te δ H v) (g : Gr T [] H H') : EvV T K te δ H' v := fun σ H1 a => h σ H1 (g.trans a)
theorem EvT.up {b : Bool} (h : EvT T K t δ H b) (g : Gr T [] H H') : EvT T K t δ H' b := fun σ H1 a => h σ H1 (g.trans a)
theorem EvD.is (h : EvD T K te δ H d) (e : d = x) : EvD T K te δ H x := e ▸ h
theorem EvT.is {b c : Bool} (h : EvT T K t δ H b) (e : b = c) : EvT T K t δ H c := e ▸ h
theorem EvL.is {ds es : List D} (h : EvL T K te δ H ds) (e : ds = es) : EvL T K te δ H es := e ▸ h
theorem ev_var {n : Nat} (h : δ[n]? = some (some (.d d))) : EvD T K (tVar n) δ H d := fun σ H1 g s Q q => by
  obtain ⟨v, e, r⟩ := s.dat h
  exact ⟨v, e, q v H1 g.self r⟩
theorem ev_raw {n : Nat} {v : V} (h : δ[n]? = some (some (.v v))) : EvV T K (tVar n) δ H v := fun σ H1 g s Q q => ⟨v, s.raw h, q H1 g.self⟩
theorem ev_int : EvD T K (tC (.int i)) δ H (.int i) := fun σ H1 g s Q q => q _ H1 g.self rfl
theorem ev_str {s : Str} : EvD T K (tC (.str s)) δ H (.str s) := fun σ H1 g _ Q q => q _ H1 g.self rfl
theorem ev_bl {b : Bool} : EvD T K (tC (.bl b)) δ H (.bl b) := fun σ H1 g _ Q q => q _ H1 g.self rfl
theorem ev_non : EvD T K (tC .non) δ H .non := fun σ H1 g _ Q q => q _ H1 g.self rfl
theorem ev_con {v : V} : EvV T K (tC v) δ H v := fun σ H1 g _ Q q => q H1 g.self
theorem ev_op {r : R2} (ha : EvD T K ta δ H x) (hb : EvD T K tb δ H y)
    (hr : ∀ v w H1, Gr T [] H H1 → Rep K H1 x v → Rep K H1 y w → ∀ Q : VK, (∀ u H2, Gr T [] H1 H2 → Rep K H2 d u → Q u H2) → r v w H1 Q) : EvD T K (tOp r ta tb) δ H d := fun σ H1 g s Q q =>
  ha σ H1 g s _ fun v H2 g2 rv => hb σ H2 (g.trans g2) (s.up g2) _ fun w H3 g3 rw' => hr v w H3 ((g.trans g2).trans g3) (rv.up g3) rw' Q fun u H4 g4 ru => q u H4 ((g2.trans g3).trans g4) ru
theorem ev_I0 {g : Int → Int → Int} (ha : EvD T K ta δ H (.int i)) (hb : EvD T K tb δ H (.int j)) : EvD T K (tOp (rI0 fun i j => .int (g i j)) ta tb) δ H (.int (g i j)) :=
  ev_op ha hb fun v w H1 g1 e1 e2 Q q => ⟨i, j, e1, e2, q _ H1 g1.self rfl⟩
theorem ev_B0 {g : Int → Int → Bool} (ha : EvD T K ta δ H (.int i)) (hb : EvD T K tb δ H (.int j)) : EvD T K (tOp (rI0 fun i j => .bl (g i j)) ta tb) δ H (.bl (g i j)) :=
  ev_op ha hb fun v w H1 g1 e1 e2 Q q => ⟨i, j, e1, e2, q _ H1 g1.self rfl⟩
theorem ev_I {C : Int → Int → Prop} {g : Int → Int → Int} (ha : EvD T K ta δ H (.int i)) (hb : EvD T K tb δ H (.int j)) (hc : C i j) : EvD T K (tOp (rI C fun i j => .int (g i j)) ta tb) δ H (.int (g i j)) :=
  ev_op ha hb fun v w H1 g1 e1 e2 Q q => ⟨i, j, e1, e2, hc, q _ H1 g1.self rfl⟩
theorem ev_neg {g : Int → Int} (ha : EvD T K ta δ H (.int i)) : EvD T K (tUn (rU fun i => .int (g i)) ta) δ H (.int (g i)) := fun σ H1 g1 s Q q =>
  ha σ H1 g1 s _ fun v H2 g2 e => ⟨i, e, q _ H2 g2 rfl⟩
theorem ev_eqI (ha : EvD T K ta δ H (.int i)) (hb : EvD T K tb δ H (.int j)) : EvD T K (tOp rEq ta tb) δ H (.bl (decide (i = j))) :=
  ev_op ha hb fun v w H1 g1 e1 e2 Q q => by
    cases (show v = .int i from e1); cases (show w = .int j from e2)
    exact ⟨rfl, by have := q (.bl (decide (i = j))) H1 g1.self rfl; simpa using this⟩
theorem ev_neI (ha : EvD T K ta δ H (.int i)) (hb : EvD T K tb δ H (.int j)) : EvD T K (tOp rNe ta tb) δ H (.bl (!decide (i = j))) :=
  ev_op ha hb fun v w H1 g1 e1 e2 Q q => by
    cases (show v = .int i from e1); cases (show w = .int j from e2)
    exact ⟨rfl, by have := q (.bl (!decide (i = j))) H1 g1.self rfl; simpa using this⟩
theorem ev_eqS {a b : Str} (ha : EvD T K ta δ H (.str a)) (hb : EvD T K tb δ H (.str b)) : EvD T K (tOp rEq ta tb) δ H (.bl (decide (a = b))) :=
  ev_op ha hb fun v w H1 g1 e1 e2 Q q => by
    cases (show v = .str a from e1); cases (show w = .str b from e2)
    exact ⟨rfl, by have := q (.bl (decide (a = b))) H1 g1.self rfl; simpa using this⟩
theorem ev_neS {a b : Str} (ha : EvD T K ta δ H (.str a)) (hb : EvD T K tb δ H (.str b)) : EvD T K (tOp rNe ta tb) δ H (.bl (!decide (a = b))) :=
  ev_op ha hb fun v w H1 g1 e1 e2 Q q => by
    cases (show v = .str a from e1); cases (show w = .str b from e2)
    exact ⟨rfl, by have := q (.bl (!decide (a = b))) H1 g1.self rfl; simpa using this⟩
theorem ev_eqB {a b : Bool} (ha : EvD T K ta δ H (.bl a)) (hb : EvD T K tb δ H (.bl b)) : EvD T K (tOp rEq ta tb) δ H (.bl (decide (a = b))) :=
  ev_op ha hb fun v w H1 g1 e1 e2 Q q => by
    cases (show v = .bl a from e1); cases (show w = .bl b from e2)
    exact ⟨rfl, by have := q (.bl (decide (a = b))) H1 g1.self rfl; simpa using this⟩
theorem ev_neB {a b : Bool} (ha : EvD T K ta δ H (.bl a)) (hb : EvD T K tb δ H (.bl b)) : EvD T K (tOp rNe ta tb) δ H (.bl (!decide (a = b))) :=
  ev_op ha hb fun v w H1 g1 e1 e2 Q q => by
    cases (show v = .bl a from e1); cases (show w = .bl b from e2)
    exact ⟨rfl, by have := q (.bl (!decide (a = b))) H1 g1.self rfl; simpa using this⟩
/-! tests -/
theorem et_test {b : Bool} (h : EvD T K te δ H (.bl b)) : EvT T K (tTest te) δ H b := fun σ H1 g s Q q => h σ H1 g s _ fun v H2 g2 e => ⟨b, e, q H2 g2⟩
theorem et_B {b : Bool} (h : EvD T K te δ H (.bl b)) : EvT T K (tB te) δ H b := fun σ H1 g s Q q => h σ H1 g s _ fun v H2 g2 e => ⟨b, e, q H2 g2⟩
theorem et_and {a b : Bool} (h1 : EvT T K t δ H a) (h2 : a = true → EvT T K u δ H b) : EvT T K (tAnd t u) δ H (a && b) := fun σ H1 g s Q q => h1 σ H1 g s _ fun H2 g2 => by
  cases a with
  | true => exact (show u σ H2 Q from h2 rfl σ H2 (g.trans g2) (s.up g2) Q fun H3 g3 => q H3 (g2.trans g3))
  | false => exact (show Q false H2 from q H2 g2)
theorem et_or {a b : Bool} (h1 : EvT T K t δ H a) (h2 : a = false → EvT T K u δ H b) : EvT T K (tOr t u) δ H (a || b) := fun σ H1 g s Q q => h1 σ H1 g s _ fun H2 g2 => by
  cases a with
  | true => exact (show Q true H2 from q H2 g2)
  | false => exact (show u σ H2 Q from h2 rfl σ H2 (g.trans g2) (s.up g2) Q fun H3 g3 => q H3 (g2.trans g3))
theorem et_not {a : Bool} (h1 : EvT T K t δ H a) : EvT T K (tNot t) δ H (!a) := fun σ H1 g s Q q => h1 σ H1 g s _ fun H2 g2 => q H2 g2
theorem ev_andV {a b : Bool} (h1 : EvD T K ta δ H (.bl a)) (h2 : a = true → EvD T K tb δ H (.bl b)) : EvD T K (tAndV ta tb) δ H (.bl (a && b)) := fun σ H1 g s Q q => h1 σ H1 g s _ fun v H2 g2 e => ⟨a, e, by
  cases a with
  | true => exact (show tb σ H2 Q from h2 rfl σ H2 (g.trans g2) (s.up g2) Q fun v H3 g3 r => q v H3 (g2.trans g3) r)
  | false => exact (show Q (.bl false) H2 from q _ H2 g2 rfl)⟩
theorem ev_orV {a b : Bool} (h1 : EvD T K ta δ H (.bl a)) (h2 : a = false → EvD T K tb δ H (.bl b)) : EvD T K (tOrV ta tb) δ H (.bl (a || b)) := fun σ H1 g s Q q => h1 σ H1 g s _ fun v H2 g2 e => ⟨a, e, by
  cases a with
  | true => exact (show Q (.bl true) H2 from q _ H2 g2 rfl)
  | false => exact (show tb σ H2 Q from h2 rfl σ H2 (g.trans g2) (s.up g2) Q fun v H3 g3 r => q v H3 (g2.trans g3) r)⟩
theorem ev_notV {a : Bool} (h1 : EvD T K ta δ H (.bl a)) : EvD T K (tNotV ta) δ H (.bl (!a)) := fun σ H1 g s Q q => h1 σ H1 g s _ fun v H2 g2 e => ⟨a, e, q _ H2 g2 rfl⟩
theorem ev_if {b : Bool} (h : EvT T K t δ H b) (h1 : b = true → EvD T K ta δ H d) (h2 : b = false → EvD T K tb δ H d) : EvD T K (tIf t ta tb) δ H d := fun σ H1 g s Q q => h σ H1 g s _ fun H2 g2 => by
  cases b with
  | true => exact (show ta σ H2 Q from h1 rfl σ H2 (g.trans g2) (s.up g2) Q fun v H3 g3 r => q v H3 (g2.trans g3) r)
  | false => exact (show tb σ H2 Q from h2 rfl σ H2 (g.trans g2) (s.up g2) Q fun v H3 g3 r => q v H3 (g2.trans g3) r)
/-- a < b < c -/
theorem ev_chain {f f' : Int → Int → Bool} {k : Int} (ha : EvD T K ta δ H (.int i)) (hb : EvD T K tb δ H (.int j)) (hc : EvD T K tc δ H (.int k)) :
    EvD T K (tChain (rI0 fun i j => .bl (f i j)) (rI0 fun i j => .bl (f' i j)) ta tb tc) δ H (.bl (f i j && f' j k)) := fun σ H1 g s Q q =>
  ha σ H1 g s _ fun v H2 g2 e1 => hb σ H2 (g.trans g2) (s.up g2) _ fun w H3 g3 e2 => ⟨i, j, e1, e2, f i j, rfl, by
    cases hf : f i j with
    | true =>
      show tc σ H3 _
      refine hc σ H3 ((g.trans g2).trans g3) ((s.up g2).up g3) _ fun x H4 g4 e3 => ⟨j, k, e2, e3, ?_⟩
      have := q (.bl (f i j && f' j k)) H4 ((g2.trans g3).trans g4) rfl
      rw [hf] at this; exact this
    | false =>
      show Q (.bl false) H3
      have := q (.bl (f i j && f' j k)) H3 (g2.trans g3) rfl
      rw [hf] at this; exact this⟩
/-! arguments -/
theorem ea_nil : EvA T K tNil δ H [] := fun σ H1 g s Q q => q [] H1 g.self rfl
theorem ea_cons {tr : TA} {ds : List D} (h : EvD T K ta δ H x) (hr : EvA T K tr δ H ds) : EvA T K (tCons ta tr) δ H (x :: ds) := fun σ H1 g s Q q =>
  h σ H1 g s _ fun v H2 g2 r => hr σ H2 (g.trans g2) (s.up g2) _ fun vs H3 g3 rs => q _ H3 (g2.trans g3) ⟨v, vs, rfl, r.up g3, rs⟩
theorem es_nil : EvS T K tNil δ H [] := fun σ H1 g s Q q => q [] H1 g.self rfl
theorem es_d {tr : TA} {ss : List SD} (h : EvD T K ta δ H x) (hr : EvS T K tr δ H ss) : EvS T K (tCons ta tr) δ H (.d x :: ss) := fun σ H1 g s Q q =>
  h σ H1 g s _ fun v H2 g2 r => hr σ H2 (g.trans g2) (s.up g2) _ fun vs H3 g3 rs => q _ H3 (g2.trans g3) ⟨v, vs, rfl, Rep.up r g3, rs⟩
theorem es_v {tr : TA} {ss : List SD} {v : V} (h : EvV T K ta δ H v) (hr : EvS T K tr δ H ss) : EvS T K (tCons ta tr) δ H (.v v :: ss) := fun σ H1 g s Q q =>
  h σ H1 g s _ fun H2 g2 => hr σ H2 (g.trans g2) (s.up g2) _ fun vs H3 g3 rs => q _ H3 (g2.trans g3) ⟨v, vs, rfl, rfl, rs⟩
/-! tuples -/
theorem sz {n : Nat} (h : n ≤ 100000) : n ≤ sizeLine := Nat.le_trans h (by decide)
theorem ev_tup {ta : TA} {ds : List D} (h : EvA T K ta δ H ds) (hl : ds.length ≤ 100000) : EvD T K (tTup ta) δ H (.tup ds) := fun σ H1 g s Q q =>
  h σ H1 g s _ fun vs H2 g2 r => ⟨sz (by rw [r.len]; exact hl), fun p hp => q _ _ (g2.trans (Gr.new g2.tbs hp)) ⟨p, vs, rfl, .inl (.inl upd_same), r.up (Gr.new (S := []) g2.tbs hp)⟩⟩
theorem ev_lst {ta : TA} {ds : List D} (h : EvA T K ta δ H ds) (hl : ds.length ≤ 100000) : EvL T K (tLst ta) δ H ds := fun σ H1 g s Q q =>
  h σ H1 g s _ fun vs H2 g2 r => ⟨sz (by rw [r.len]; exact hl), fun p hp => q p vs _ (g2.dom p hp) (g2.trans (Gr.new g2.tbs hp)) upd_same (r.up (Gr.new (S := []) g2.tbs hp))⟩
theorem atI_rep {ds : List D} {xs : List V} (h : Reps K H ds xs) (e : atI ds i = some d) : ∃ v, atI xs i = some v ∧ Rep K H d v := by
  unfold atI at e ⊢
  rw [h.len]
  cases q : ixN ds.length i with
  | none => rw [q] at e; cases e
  | some n =>
    rw [q] at e
    exact h.get (show ds[n]? = some d from e)
theorem ev_ixT {ds : List D} (ha : EvD T K ta δ H (.tup ds)) (hb : EvD T K tb δ H (.int i)) (h : atI ds i = some d) : EvD T K (tOp (rIxT K) ta tb) δ H d :=
  ev_op ha hb fun v w H1 g1 r1 e2 Q q => by
    obtain ⟨p, xs, e1, hs, rs⟩ := r1
    obtain ⟨x, hx, rx⟩ := atI_rep rs h
    exact ⟨p, xs, i, x, e1, e2, hs, hx, q x H1 g1.self rx⟩
/-- an item of a list that was just made -/
theorem ev_ixL {ds : List D} (ha : EvL T K ta δ H ds) (hb : EvD T K tb δ H (.int i)) (h : atI ds i = some d) : EvD T K (tOp (rIxL K) ta tb) δ H d := fun σ H1 g s Q q =>
  ha σ H1 g s _ fun p xs H2 hp g2 e1 rs => hb σ H2 (g.trans g2) (s.up g2) _ fun w H3 g3 e2 => by
    obtain ⟨x, hx, rx⟩ := atI_rep (rs.up g3) h
    exact ⟨p, xs, i, x, rfl, e2, .inl (.inl (g3.lst e1 (by simp))), hx, q x H3 (g2.trans g3) rx⟩
theorem eo_none : EvO T K tNoPart δ H none := fun σ H1 g s Q q => q H1 g.self
theorem eo_some (h : EvD T K te δ H (.int i)) : EvO T K (tPart te) δ H (some i) := fun σ H1 g s Q q => h σ H1 g s _ fun v H2 g2 e => ⟨i, e, q H2 g2⟩
def cutD (ds : List D) (lo hi : Option Int) : List D := (ds.drop (HT.sIx ds.length 0 lo)).take (HT.sIx ds.length ds.length hi - HT.sIx ds.length 0 lo)
theorem ev_slT {tl th : TO} {ds : List D} {lo hi : Option Int} (ha : EvD T K ta δ H (.tup ds)) (hl : EvO T K tl δ H lo) (hh : EvO T K th δ H hi) : EvD T K (tSl (rSlA K) ta tl th) δ H (.tup (cutD ds lo hi)) := fun σ H1 g s Q q =>
  ha σ H1 g s _ fun v H2 g2 r => hl σ H2 (g.trans g2) (s.up g2) _ fun H3 g3 => hh σ H3 ((g.trans g2).trans g3) ((s.up g2).up g3) _ fun H4 g4 => by
    obtain ⟨p, xs, e, hs, rs⟩ := (r.up g3).up g4
    refine ⟨p, xs, e, hs, fun hw => q _ H4 ((g2.trans g3).trans g4) ⟨p, xs, rfl, hs, ?_⟩, fun _ b hb => q _ _ (((g2.trans g3).trans g4).trans (Gr.new g4.tbs hb)) ⟨b, _, rfl, .inl (.inl upd_same), (rs.cut lo hi).up (Gr.new (S := []) g4.tbs hb)⟩⟩
    have e2 : cutD ds lo hi = ds := by
      unfold cutD
      rw [← rs.len, hw.1, hw.2, List.drop_zero, Nat.sub_zero, rs.len, List.take_length]
    rw [e2]; exact rs
theorem ev_catT {ds es : List D} (ha : EvD T K ta δ H (.tup ds)) (hb : EvD T K tb δ H (.tup es)) (hl : ds.length + es.length ≤ 100000) : EvD T K (tOp (rCatA K) ta tb) δ H (.tup (ds ++ es)) :=
  ev_op ha hb fun v w H1 g1 r1 r2 Q q => by
    obtain ⟨a, xs, e1, h1, s1⟩ := r1
    obtain ⟨b, ys, e2, h2, s2⟩ := r2
    refine ⟨a, b, xs, ys, e1, e2, h1, h2, sz (by rw [s1.len, s2.len]; exact hl), fun z => q _ H1 g1.self ⟨b, ys, rfl, h2, ?_⟩, fun _ z => q _ H1 g1.self ⟨a, xs, rfl, h1, ?_⟩, fun _ _ p hp => q _ _ (Gr.new g1.tbs hp) ⟨p, _, rfl, .inl (.inl upd_same), (s1.app s2).up (Gr.new (S := []) g1.tbs hp)⟩⟩
    · have l := s1.len; rw [z] at l
      have : ds = [] := List.length_eq_zero_iff.mp l.symm
      subst this; exact s2
    · have l := s2.len; rw [z] at l
      have : es = [] := List.length_eq_zero_iff.mp l.symm
      subst this; rw [List.append_nil]; exact s1
/-! built-in calls -/
def rLenS (K : PySem.W.Frag) : List V → Hp → VK → Prop := fun xs H Q => ∃ p ys, xs = [.ref p] ∧ (SqL K H p ys ∨ SqT K H p ys) ∧ Q (.int ys.length) H
theorem ev_lenT {ds : List D} (ha : EvD T K ta δ H (.tup ds)) : EvD T K (tCB (rLenS K) (tCons ta tNil)) δ H (.int ds.length) := fun σ H1 g s Q q =>
  ha σ H1 g s _ fun v H2 g2 r => by
    obtain ⟨p, xs, e, hs, rs⟩ := r
    subst e
    exact ⟨p, xs, rfl, .inr hs, by rw [rs.len]; exact q _ H2 g2 rfl⟩
theorem ev_lenN {ds : List D} (ha : EvL T K ta δ H ds) : EvD T K (tCB (rLenS K) (tCons ta tNil)) δ H (.int ds.length) := fun σ H1 g s Q q =>
  ha σ H1 g s _ fun p xs H2 hp g2 e rs => ⟨p, xs, rfl, .inl (.inl (.inl e)), by rw [rs.len]; exact q _ H2 g2 rfl⟩
/-- of a list that stands at l -/
theorem ev_lenL {l : Addr} {xs : List V} (ha : EvV T K ta δ H (.ref l)) (h : H l = some (.lst xs)) : EvD T K (tCB (rLenS K) (tCons ta tNil)) δ H (.int xs.length) := fun σ H1 g s Q q =>
  ha σ H1 g s _ fun H2 g2 => ⟨l, xs, rfl, .inl (.inl (.inl (g2.lst (g.lst h (by simp)) (by simp)))), q _ H2 g2 rfl⟩
def rLenTx : List V → Hp → VK → Prop := fun xs H Q => ∃ z : Str, xs = [.str z] ∧ z.length ≤ sizeLine ∧ Q (.int z.length) H
theorem ev_lenS {z : Str} (ha : EvD T K ta δ H (.str z)) (hz : z.length ≤ 100000) : EvD T K (tCB rLenTx (tCons ta tNil)) δ H (.int z.length) := fun σ H1 g s Q q =>
  ha σ H1 g s _ fun v H2 g2 e => by
    cases (show v = .str z from e)
    exact ⟨z, rfl, sz hz, q _ H2 g2 rfl⟩
def rMin2 : List V → Hp → VK → Prop := fun xs H Q => ∃ i j, xs = [.int i, .int j] ∧ Q (.int (if j < i then j else i)) H
def rMax2 : List V → Hp → VK → Prop := fun xs H Q => ∃ i j, xs = [.int i, .int j] ∧ Q (.int (if j > i then j else i)) H
theorem ev_min2 {ta tb : TE} (ha : EvD T K ta δ H (.int i)) (hb : EvD T K tb δ H (.int j)) : EvD T K (tCB rMin2 (tCons ta (tCons tb tNil))) δ H (.int (min i j)) := fun σ H1 g s Q q =>
  ha σ H1 g s _ fun v H2 g2 e1 => hb σ H2 (g.trans g2) (s.up g2) _ fun w H3 g3 e2 => by
    cases (show v = .int i from e1); cases (show w = .int j from e2)
    refine ⟨i, j, rfl, ?_⟩
    have e : (if j < i then j else i) = min i j := by omega
    rw [e]; exact q _ H3 (g2.trans g3) rfl
theorem ev_max2 {ta tb : TE} (ha : EvD T K ta δ H (.int i)) (hb : EvD T K tb δ H (.int j)) : EvD T K (tCB rMax2 (tCons ta (tCons tb tNil))) δ H (.int (max i j)) := fun σ H1 g s Q q =>
  ha σ H1 g s _ fun v H2 g2 e1 => hb σ H2 (g.trans g2) (s.up g2) _ fun w H3 g3 e2 => by
    cases (show v = .int i from e1); cases (show w = .int j from e2)
    refine ⟨i, j, rfl, ?_⟩
    have e : (if j > i then j else i) = max i j := by omega
    rw [e]; exact q _ H3 (g2.trans g3) rfl
/-- tuple(of a new list) -/
def rTupOf (K : PySem.W.Frag) : List V → Hp → VK → Prop := fun xs H Q => ∃ p ys, xs = [.ref p] ∧ ((SqL K H p ys ∧ ∀ l, H l = none → Q (.ref l) (upd H l (.tup ys))) ∨ (SqT K H p ys ∧ Q (.ref p) H))
theorem ev_tupN {ds : List D} (ha : EvL T K ta δ H ds) : EvD T K (tCB (rTupOf K) (tCons ta tNil)) δ H (.tup ds) := fun σ H1 g s Q q =>
  ha σ H1 g s _ fun p xs H2 hp g2 e rs => ⟨p, xs, rfl, .inl ⟨.inl (.inl e), fun l hl => q _ _ (g2.trans (Gr.new g2.tbs hl)) ⟨l, xs, rfl, .inl (.inl upd_same), rs.up (Gr.new (S := []) g2.tbs hl)⟩⟩⟩
theorem ev_tupL {l : Addr} {xs : List V} {ds : List D} (ha : EvV T K ta δ H (.ref l)) (h : H l = some (.lst xs)) (hr : Reps K H ds xs) : EvD T K (tCB (rTupOf K) (tCons ta tNil)) δ H (.tup ds) := fun σ H1 g s Q q =>
  ha σ H1 g s _ fun H2 g2 => ⟨l, xs, rfl, .inl ⟨.inl (.inl (g2.lst (g.lst h (by simp)) (by simp))), fun p hp => q _ _ (g2.trans (Gr.new g2.tbs hp)) ⟨p, xs, rfl, .inl (.inl upd_same), ((hr.up g).up g2).up (Gr.new (S := []) g2.tbs hp)⟩⟩⟩
/-- isinstance(x, str) -/
def isStr : D → Bool
  | .str _ => true
  | _ => false
theorem ev_isStr (ha : EvD T K ta δ H d) : EvD T K (tCB (rIsi K) (tCons ta (tCons (tC (.ty "str")) tNil))) δ H (.bl (isStr d)) := fun σ H1 g s Q q =>
  ha σ H1 g s _ fun v H2 g2 r => by
    have fin : ∀ t b, TyX K H2 v (.type t) → kitB t "str" = some b → b = isStr d → rIsi K [v, .ty "str"] H2 Q := fun t b ty e eb => ⟨v, .ty "str", .type t, .type "str", b, rfl, .ty _, ty, kit_ty e, by rw [eb]; exact q _ H2 g2 rfl⟩
    cases d with
    | non => cases (show v = .non from r); exact fin "NoneType" false (.base .non) (by decide +kernel) rfl
    | bl b => cases (show v = .bl b from r); exact fin "bool" false (.base (.bl b)) (by decide +kernel) rfl
    | int i => cases (show v = .int i from r); exact fin "int" false (.base (.int i)) (by decide +kernel) rfl
    | str x => cases (show v = .str x from r); exact fin "str" true (.base (.str x)) (by decide +kernel) rfl
    | tup ds =>
      obtain ⟨a, xs, e, hs, _⟩ := r
      subst e
      exact fin "tuple" false (tyx_tup hs) (by decide +kernel) rfl
/-! calls of one's own defs -/
/-- a def of data: R tells what it hands back of what -/
def spR (T : Tb) (K : PySem.W.Frag) (R : List D → D → Prop) : Sp := fun vs H Q _ => ∃ ds d, R ds d ∧ Reps K H ds vs ∧ Tbs T H ∧ ∀ v H', Gr T [] H H' → Rep K H' d v → Q v H'
theorem ev_call {E : XK} {ta : TA} {R : List D → D → Prop} {ds : List D} (h : EvA T K ta δ H ds) (hR : R ds d) : EvD T K (tCall (spR T K R) [] E ta) δ H d := fun σ H1 g s Q q =>
  h σ H1 g s _ fun vs H2 g2 r => ⟨ds, d, hR, by rw [List.append_nil]; exact r, g2.tbs, fun v H3 g3 rv => q v H3 (g2.trans g3) rv⟩
/-- a def of data that hands back a new list -/
def spRL (T : Tb) (K : PySem.W.Frag) (R : List D → List D → Prop) : Sp := fun vs H Q _ => ∃ ds es, R ds es ∧ Reps K H ds vs ∧ Tbs T H ∧ ∀ p xs H', H p = none → Gr T [] H H' → H' p = some (.lst xs) → Reps K H' es xs → Q (.ref p) H'
theorem ev_callL {E : XK} {ta : TA} {R : List D → List D → Prop} {ds es : List D} (h : EvA T K ta δ H ds) (hR : R ds es) : EvL T K (tCall (spRL T K R) [] E ta) δ H es := fun σ H1 g s Q q =>
  h σ H1 g s _ fun vs H2 g2 r => ⟨ds, es, hR, by rw [List.append_nil]; exact r, g2.tbs, fun p xs H3 n1 g3 e rv => q p xs H3 (g2.dom p n1) (g2.trans g3) e rv⟩
end
end Pd
namespace Pd
open PySem L2
section
variable (T : Tb) (K : PySem.W.Frag)
def Run (t : TS) (B : Ends) (δ : List (Option SD)) (H : Hp) : Prop := ∀ σ, Slots K H δ σ → t B σ H
def Off (js : List Nat) (σ σ' : St) : Prop := σ'.length = σ.length ∧ ∀ i, i ∉ js → σ'[i]? = σ[i]?
def EvG (g : TG) (d : D) (δ : List (Option SD)) (H : Hp) (δ' : List (Option SD)) (js : List Nat) : Prop := ∀ v σ H1, Gr T [] H H1 → Rep K H1 d v → Slots K H1 δ σ → ∀ Q : St → Hp → Prop, (∀ σ', Slots K H1 δ' σ' → Off js σ σ' → Q σ' H1) → g v σ H1 Q
def EvGs (g : TGs) (ds : List D) (δ : List (Option SD)) (H : Hp) (δ' : List (Option SD)) (js : List Nat) : Prop := ∀ vs σ H1, Gr T [] H H1 → Reps K H1 ds vs → Slots K H1 δ σ → ∀ Q : St → Hp → Prop, (∀ σ', Slots K H1 δ' σ' → Off js σ σ' → Q σ' H1) → g vs σ H1 Q
/-- what is walked: these, one after another -/
def EvI (S : List Addr) (wi : TI) (δ : List (Option SD)) (H : Hp) (ds : List D) : Prop := ∀ σ H1, Gr T [] H H1 → Slots K H1 δ σ → ∀ R : It → Hp → Prop,
  (∀ J H2, Gr T [] H1 H2 → Walk J ds.length (fun H' => Gr T S H2 H') (fun i Ha x Hb => Gr T [] Ha Hb ∧ ∃ d, ds[i]? = some d ∧ Rep K Hb d x) → R J H2) → wi σ H1 R
end
section
variable {T : Tb} {S : List Addr} {K : PySem.W.Frag} {δ δ' δ2 : List (Option SD)} {H H' : Hp} {ta tb tc te : TE} {t u w : TS} {tt : TT} {B : Ends} {d : D} {i j : Int} {js js2 : List Nat}
theorem run_asg {n : Nat} (hT : Tbs T H) (h : EvD T K te δ H d) (k : ∀ H1, Gr T [] H H1 → Run K u B (δ.set n (some (.d d))) H1) : Run K (tSeq (tAsg te (gName n)) u) B δ H := fun σ s =>
  h σ H (Gr.refl hT) s _ fun v H1 g r => k H1 g _ ((s.up g).set n (show SlotOk K H1 (some (.d d)) (some v) from r))
theorem run_asgV {n : Nat} {v : V} (hT : Tbs T H) (h : EvV T K te δ H v) (k : ∀ H1, Gr T [] H H1 → Run K u B (δ.set n (some (.v v))) H1) : Run K (tSeq (tAsg te (gName n)) u) B δ H := fun σ s =>
  h σ H (Gr.refl hT) s _ fun H1 g => k H1 g _ ((s.up g).set n (show SlotOk K H1 (some (.v v)) (some v) from rfl))
theorem run_asgL {n : Nat} {ds : List Pd.D} (hT : Tbs T H) (h : EvL T K te δ H ds) (k : ∀ p xs H1, H p = none → Gr T [] H H1 → H1 p = some (.lst xs) → Reps K H1 ds xs → Run K u B (δ.set n (some (.v (.ref p)))) H1) : Run K (tSeq (tAsg te (gName n)) u) B δ H := fun σ s =>
  h σ H (Gr.refl hT) s _ fun p xs H1 n1 g e r => k p xs H1 n1 g e r _ ((s.up g).set n (show SlotOk K H1 (some (.v (.ref p))) (some (.ref p)) from rfl))
theorem run_asgG {g : TG} (hT : Tbs T H) (h : EvD T K te δ H d) (hg : ∀ H1, Gr T [] H H1 → EvG T K g d δ H1 δ' js) (k : ∀ H1, Gr T [] H H1 → Run K u B δ' H1) : Run K (tSeq (tAsg te g) u) B δ H := fun σ s =>
  h σ H (Gr.refl hT) s _ fun v H1 g1 r => hg H1 g1 v σ H1 (Gr.refl g1.tbs) r (s.up g1) _ fun σ' s' _ => k H1 g1 σ' s'
theorem run_drop (hT : Tbs T H) (h : EvD T K te δ H d) (k : ∀ H1, Gr T [] H H1 → Run K u B δ H1) : Run K (tSeq (tDrop te) u) B δ H := fun σ s =>
  h σ H (Gr.refl hT) s _ fun v H1 g r => k H1 g _ (s.up g)
theorem run_ret (hT : Tbs T H) (h : EvD T K te δ H d) (k : ∀ v H1, Gr T [] H H1 → Rep K H1 d v → B.rt v H1) : Run K (tRet te) B δ H := fun σ s => h σ H (Gr.refl hT) s _ k
theorem run_retV {v : V} (hT : Tbs T H) (h : EvV T K te δ H v) (k : ∀ H1, Gr T [] H H1 → B.rt v H1) : Run K (tRet te) B δ H := fun σ s => h σ H (Gr.refl hT) s _ k
theorem run_retL {ds : List Pd.D} (hT : Tbs T H) (h : EvL T K te δ H ds) (k : ∀ p xs H1, H p = none → Gr T [] H H1 → H1 p = some (.lst xs) → Reps K H1 ds xs → B.rt (.ref p) H1) : Run K (tRet te) B δ H := fun σ s => h σ H (Gr.refl hT) s _ k
theorem run_next (k : ∀ σ, Slots K H δ σ → B.nx σ H) : Run K tNext B δ H := k
theorem run_seq (h : Run K t { B with nx := u B } δ H) : Run K (tSeq t u) B δ H := h
/-- the last of a block -/
theorem run_last (h : Run K (tSeq t tNext) B δ H) : Run K t B δ H := h
theorem run_if {b : Bool} (hT : Tbs T H) (h : EvT T K tt δ H b) (h1 : b = true → ∀ H1, Gr T [] H H1 → Run K t B δ H1) (h2 : b = false → ∀ H1, Gr T [] H H1 → Run K u B δ H1) : Run K (tIfS tt t u) B δ H := fun σ s =>
  h σ H (Gr.refl hT) s _ fun H1 g => by
    cases b with
    | true => exact (show t B σ H1 from h1 rfl H1 g σ (s.up g))
    | false => exact (show u B σ H1 from h2 rfl H1 g σ (s.up g))
theorem run_ifS {b : Bool} (hT : Tbs T H) (h : EvT T K tt δ H b) (h1 : b = true → ∀ H1, Gr T [] H H1 → Run K t { B with nx := w B } δ H1) (h2 : b = false → ∀ H1, Gr T [] H H1 → Run K u { B with nx := w B } δ H1) : Run K (tSeq (tIfS tt t u) w) B δ H :=
  run_if (B := { B with nx := w B }) hT h h1 h2
/-- an if without else, whose suite leaves -/
theorem run_when {b : Bool} (hT : Tbs T H) (h : EvT T K tt δ H b) (h1 : b = true → ∀ H1, Gr T [] H H1 → Run K t { B with nx := w B } δ H1) (h2 : b = false → ∀ H1, Gr T [] H H1 → Run K w B δ H1) : Run K (tSeq (tIfS tt t tNext) w) B δ H :=
  run_if (B := { B with nx := w B }) hT h h1 fun e H1 g σ s => h2 e H1 g σ s
theorem run_aug {n : Nat} {f : Int → Int → Int} (hT : Tbs T H) (hx : δ[n]? = some (some (.d (.int i)))) (h : EvD T K te δ H (.int j)) (k : ∀ H1, Gr T [] H H1 → Run K u B (δ.set n (some (.d (.int (f i j))))) H1) : Run K (tSeq (tAug n te (ipI f)) u) B δ H := fun σ s => by
  obtain ⟨v, e, r⟩ := s.dat hx
  cases (show v = .int i from r)
  exact ⟨_, e, h σ H (Gr.refl hT) s _ fun w H1 g r2 => ⟨i, j, rfl, r2, k H1 g _ ((s.up g).set n (show SlotOk K H1 (some (.d (.int (f i j)))) (some (.int (f i j))) from rfl))⟩⟩
/-! targets -/
theorem eg_name {n : Nat} : EvG T K (gName n) d δ H (δ.set n (some (.d d))) [n] := fun v σ H1 g r s Q q => q _ (s.set n (show SlotOk K H1 (some (.d d)) (some v) from r))
  ⟨List.length_set, fun i hi => List.getElem?_set_ne (by simpa using fun z => hi (by simp [z]))⟩
theorem eg_nil : EvGs T K gNil [] δ H δ [] := fun vs σ H1 g r s Q q => ⟨r, q σ s ⟨rfl, fun _ _ => rfl⟩⟩
theorem eg_cons {g : TG} {gs : TGs} {ds : List Pd.D} (h1 : EvG T K g d δ H δ' js) (h2 : EvGs T K gs ds δ' H δ2 js2) : EvGs T K (gCons g gs) (d :: ds) δ H δ2 (js ++ js2) := fun vs σ H1 g1 r s Q q => by
  obtain ⟨x, xs, e, r1, r2⟩ := r
  exact ⟨x, xs, e, h1 x σ H1 g1 r1 s _ fun σ' s' o1 => h2 xs σ' H1 g1 r2 s' Q fun σ2 s2 o2 => q σ2 s2 ⟨o2.1.trans o1.1, fun i hi => (o2.2 i fun z => hi (List.mem_append_right _ z)).trans (o1.2 i fun z => hi (List.mem_append_left _ z))⟩⟩
theorem eg_tup {n : Nat} {gs : TGs} {ds : List Pd.D} (hn : ds.length = n) (h : EvGs T K gs ds δ H δ' js) : EvG T K (gTup K n gs) (.tup ds) δ H δ' js := fun v σ H1 g1 r s Q q => by
  obtain ⟨a, xs, e, hs, rs⟩ := r
  exact ⟨a, xs, e, hs, by rw [rs.len]; exact hn, h xs σ H1 g1 rs s Q q⟩
/-! loops -/
theorem ei_tup {ds : List Pd.D} (h : EvD T K te δ H (.tup ds)) : EvI T K S (iTup K te) δ H ds := fun σ H1 g s R q =>
  h σ H1 g s _ fun v H2 g2 r => by
    obtain ⟨a, xs, e, hs, rs⟩ := r
    refine ⟨a, e, ⟨xs, hs⟩, q _ H2 g2 ?_⟩
    rw [← rs.len]
    refine (walk_tup (K := K) (a := a) (xs := xs)).mono (fun H' g' => g'.sqT hs) fun i Ha x Hb hi g' y => ?_
    obtain ⟨e1, e2⟩ := y
    subst e1
    obtain ⟨d, hd, rd⟩ := rs.got e2
    exact ⟨Gr.refl g'.tbs, d, hd, rd.up g'⟩
theorem ei_range {ta : TA} {n : Int} (h : EvA T K ta δ H [.int n]) (h0 : -(2 ^ 62) ≤ n) (h1 : n < 2 ^ 62) : EvI T K S (iRng1 ta) δ H ((List.range n.toNat).map fun k => .int (k : Nat)) := fun σ H1 g s R q =>
  h σ H1 g s _ fun vs H2 g2 r => by
    obtain ⟨x, r', e, h2, h3⟩ := r
    cases (show x = .int n from h2); cases h3
    refine ⟨n, e, h0, h1, q _ H2 g2 ?_⟩
    rw [List.length_map, List.length_range]
    refine (walk_range (lo := 0) (n := n.toNat)).mono (fun _ _ => trivial) fun i Ha x Hb hi g' y => ?_
    obtain ⟨e1, e2⟩ := y
    subst e1
    refine ⟨Gr.refl g'.tbs, .int (i : Nat), ?_, ?_⟩
    · rw [List.getElem?_map, List.getElem?_range hi]; rfl
    · rw [e2]; show V.int (0 + (i : Int)) = V.int (i : Nat); rw [Int.zero_add]
/-- a for: δs tells the slots ahead of each turn, I what else is known of the heap -/
theorem run_for {wi : TI} {g : TG} {ds : List Pd.D} (hT : Tbs T H) (hi : EvI T K S wi δ H ds) (δs : Nat → List (Option SD)) (I : Nat → Hp → Prop)
    (h0 : Less δ (δs 0)) (hI : ∀ H1, Gr T [] H H1 → I 0 H1) (hIm : ∀ i H1 H2, Gr T [] H1 H2 → I i H1 → I i H2)
    (hs : ∀ i d H1 (N : St → Hp → Prop), ds[i]? = some d → Gr T S H H1 → I i H1 → (∀ σ H2, Gr T S H1 H2 → I (i + 1) H2 → Slots K H2 (δs (i + 1)) σ → N σ H2) → ∃ δ' js, EvG T K g d (δs i) H1 δ' js ∧ Run K t { nx := N, rt := B.rt, bk := u B, ct := N } δ' H1)
    (hd : ∀ H1, Gr T S H H1 → I ds.length H1 → Run K u B (δs ds.length) H1) : Run K (tSeq (tFor wi g t) u) B δ H := fun σ s =>
  hi σ H (Gr.refl hT) s _ fun J H2 g2 W => by
    refine for_it W (fun i σ' H' => Gr T S H2 H' ∧ I i H' ∧ Slots K H' (δs i) σ') ⟨Gr.refl g2.tbs, hI H2 g2, Slots.less h0 (s.up g2)⟩ (fun i σ' H' _ p => p.1) (fun i x σ' Ha Hb hlt p y => ?_) (fun σ' H' p => hd H' (g2.any.trans p.1) p.2.1 σ' p.2.2)
    obtain ⟨p1, p2, p3⟩ := p
    obtain ⟨ga, d, hd, rd⟩ := y
    have gb : Gr T S H Hb := (g2.any.trans p1).trans ga.any
    obtain ⟨δ', js, hg, hr⟩ := hs i d Hb (fun σ' H' => Gr T S H2 H' ∧ I (i + 1) H' ∧ Slots K H' (δs (i + 1)) σ') hd gb (hIm i Ha Hb ga p2) fun σ2 H3 g3 i3 s3 => ⟨(p1.trans ga.any).trans g3, i3, s3⟩
    exact hg x σ' Hb (Gr.refl ga.tbs) rd (p3.up ga) _ fun σ2 s2 _ => hr σ2 s2
/-- a while: W by a number that falls -/
theorem run_while (hT : Tbs T H) (W : Nat → List (Option SD) → Hp → Prop) (hW : ∀ m δ H1 H2, Gr T [] H1 H2 → W m δ H1 → W m δ H2) (m : Nat) (h0 : W m δ H)
    (hs : ∀ m δ H1, Gr T S H H1 → W m δ H1 → ∃ b, EvT T K tt δ H1 b ∧ (b = true → ∀ H2, Gr T [] H1 H2 → ∀ N : St → Hp → Prop, (∀ m' δ' σ H3, m' < m → Gr T S H2 H3 → W m' δ' H3 → Slots K H3 δ' σ → N σ H3) → Run K t { nx := N, rt := B.rt, bk := u B, ct := N } δ H2) ∧
      (b = false → ∀ H2, Gr T [] H1 H2 → Run K u B δ H2)) : Run K (tSeq (tWhile tt t) u) B δ H := fun σ s => by
  refine ⟨fun m σ' H' => Gr T S H H' ∧ ∃ δ', W m δ' H' ∧ Slots K H' δ' σ', ⟨m, Gr.refl hT, δ, h0, s⟩, fun m σ' H' p => ?_⟩
  obtain ⟨g1, δ', w1, s1⟩ := p
  obtain ⟨b, ht, hy, hn⟩ := hs m δ' H' g1 w1
  refine ht σ' H' (Gr.refl g1.tbs) s1 _ fun H2 g2 => ?_
  cases b with
  | true =>
    show ∃ N : St → Hp → Prop, _
    exact ⟨fun σ2 H3 => ∃ m', m' < m ∧ Gr T S H H3 ∧ ∃ δ2, W m' δ2 H3 ∧ Slots K H3 δ2 σ2, fun σ2 H3 ⟨m', l, g3, δ2, w2, s2⟩ => ⟨m', l, g3, δ2, w2, s2⟩,
      hy rfl H2 g2 _ (fun m2 δ2 σ2 H3 l g3 w3 s3 => ⟨m2, l, (g1.trans g2.any).trans g3, δ2, w3, s3⟩) σ' (s1.up g2)⟩
  | false =>
    show u B σ' H2
    exact hn rfl H2 g2 σ' (s1.up g2)
/-! comprehensions -/
def wipeD (δ : List (Option SD)) : List Nat → List (Option SD)
  | [] => δ
  | v :: vs => (wipeD δ vs).set v none
theorem Slots.wipe {σ : St} (s : Slots K H δ σ) : ∀ vs : List Nat, Slots K H (wipeD δ vs) (L2.wipe σ vs)
  | [] => s
  | v :: vs => (Slots.wipe s vs).set v (show SlotOk K H none none from trivial)
theorem wipe_get (σ : St) : ∀ (vs : List Nat) (i : Nat), i ∉ vs → (L2.wipe σ vs)[i]? = σ[i]?
  | [], _, _ => rfl
  | v :: vs, i, h => by
    show ((L2.wipe σ vs).set v none)[i]? = _
    rw [List.getElem?_set_ne (fun z => h (by simp [z])), wipe_get σ vs i fun z => h (List.mem_cons_of_mem _ z)]
theorem wipe_in (σ : St) : ∀ (vs : List Nat) (i : Nat), i ∈ vs → (L2.wipe σ vs)[i]? = if i < σ.length then some none else none
  | v :: vs, i, h => by
    show ((L2.wipe σ vs).set v none)[i]? = _
    by_cases e : v = i
    · subst e
      by_cases hl : v < σ.length
      · rw [List.getElem?_set_self (by rw [L2.wipe_length]; exact hl), if_pos hl]
      · rw [if_neg hl, List.getElem?_eq_none (by rw [List.length_set, L2.wipe_length]; omega)]
    · rw [List.getElem?_set_ne e]
      exact wipe_in σ vs i ((List.mem_cons.mp h).resolve_left fun z => e z.symm)
theorem Off.wipe {σ σ' : St} {vs : List Nat} (o : Off js (L2.wipe σ vs) σ') (h : ∀ j ∈ js, j ∈ vs) : L2.wipe σ' vs = L2.wipe σ vs := by
  refine List.ext_getElem? fun i => ?_
  by_cases hi : i ∈ vs
  · rw [wipe_in σ' vs i hi, wipe_in σ vs i hi, o.1, L2.wipe_length]
  · rw [wipe_get σ' vs i hi, o.2 i fun z => hi (h i z)]
/-- what a comprehension has made by turn i -/
def madeD (p : Nat → Bool) (f : Nat → Pd.D) (i : Nat) : List Pd.D := ((List.range i).filter p).map f
theorem madeD_succ (p : Nat → Bool) (f : Nat → Pd.D) (i : Nat) : madeD p f (i + 1) = madeD p f i ++ (if p i then [f i] else []) := by
  unfold madeD
  rw [List.range_succ, List.filter_append, List.map_append, List.filter_cons, List.filter_nil]
  cases p i <;> rfl
theorem madeD_len (p : Nat → Bool) (f : Nat → Pd.D) (i : Nat) : (madeD p f i).length ≤ i := by
  unfold madeD
  rw [List.length_map]
  exact Nat.le_trans (List.length_filter_le _ _) (by simp)
theorem ev_lc {wi : TI} {g : TG} {es : List Pd.D} {vs : List Nat} (p : Nat → Bool) (f : Nat → Pd.D) (hi : EvI T K [] wi δ H es) (hz : es.length ≤ 50000)
    (hs : ∀ (i : Nat) e H1, es[i]? = some e → Gr T [] H H1 → ∃ δ' js, EvG T K g e (wipeD δ vs) H1 δ' js ∧ (∀ j ∈ js, j ∈ vs) ∧ EvT T K tt δ' H1 (p i) ∧ (p i = true → EvD T K te δ' H1 (f i))) :
    EvL T K (tLc wi g tt te vs) δ H (madeD p f es.length) := fun σ H1 g1 s Q q =>
  hi σ H1 g1 s _ fun J H2 g2 W Dl hD => by
    refine lc_it W (fun i H' => Gr T [] H2 H' ∧ ∃ acc, H' Dl = some (.lst acc) ∧ Reps K H' (madeD p f i) acc) ⟨Gr.new g2.tbs hD, [], upd_same, rfl⟩ (fun i H' _ pv => pv.1) (fun i x Ha Hb hlt pv y => ?_) (fun H' pv => ?_)
    · obtain ⟨p1, acc, p2, p3⟩ := pv
      obtain ⟨ga, d, hd, rd⟩ := y
      obtain ⟨δ', js, hg, hj, ht, he⟩ := hs i d Hb hd ((g1.trans g2).trans (p1.trans ga))
      refine hg x (L2.wipe σ vs) Hb (Gr.refl ga.tbs) rd (((s.up g2).up (p1.trans ga)).wipe vs) _ fun σ2 s2 o2 => ⟨o2.wipe hj, ?_⟩
      refine ht σ2 Hb (Gr.refl ga.tbs) s2 _ fun H3 g3 => ?_
      have eD : ∀ Hx, Gr T [] Hb Hx → Hx Dl = some (.lst acc) := fun Hx gx => gx.lst (ga.lst p2 (by simp)) (by simp)
      cases hp : p i with
      | true =>
        show te σ2 H3 _
        refine he hp σ2 H3 g3 (s2.up g3) _ fun v H4 g4 r4 => ⟨acc, eD H4 (g3.trans g4), ?_, ?_, acc ++ [v], upd_same, ?_⟩
        · have l1 := p3.len
          have l2 := madeD_len p f i
          exact Nat.lt_of_le_of_lt (by omega : acc.length ≤ 50000) (by decide)
        · exact (((p1.trans ga).trans g3).trans g4).put (eD H4 (g3.trans g4)) (.inr hD)
        · have gu : Gr T [Dl] H4 (upd H4 Dl (.lst (acc ++ [v]))) := (Gr.refl g4.tbs).put (eD H4 (g3.trans g4)) (.inl (by simp))
          rw [madeD_succ, hp]
          exact (((p3.up ga).up (g3.trans g4)).app (ds := madeD p f i) (es := [f i]) ⟨v, [], rfl, r4, rfl⟩).up gu
      | false =>
        show Gr T [] H2 H3 ∧ _
        refine ⟨(p1.trans ga).trans g3, acc, eD H3 g3, ?_⟩
        rw [madeD_succ, hp, if_neg (by decide), List.append_nil]
        exact (p3.up ga).up g3
    · obtain ⟨p1, acc, p2, p3⟩ := pv
      exact q Dl acc H' (g2.dom Dl hD) (g2.trans p1) p2 p3
/-- every turn makes one -/
theorem madeD_all (f : Nat → Pd.D) (n : Nat) : madeD (fun _ => true) f n = (List.range n).map f := by
  unfold madeD
  rw [List.filter_eq_self.mpr fun _ _ => rfl]
theorem ev_lcA {wi : TI} {g : TG} {es : List Pd.D} {vs : List Nat} {ds : List Pd.D} (hi : EvI T K [] wi δ H es) (hz : es.length ≤ 50000) (hl : ds.length = es.length)
    (hs : ∀ (i : Nat) e y H1, es[i]? = some e → ds[i]? = some y → Gr T [] H H1 → ∃ δ' js, EvG T K g e (wipeD δ vs) H1 δ' js ∧ (∀ j ∈ js, j ∈ vs) ∧ EvD T K te δ' H1 y) :
    EvL T K (tLc wi g tYes te vs) δ H ds := by
  have key := ev_lc (tt := tYes) (te := te) (vs := vs) (g := g) (fun _ => true) (fun i => ds.getD i .non) hi hz fun i e H1 he g1 => by
    have hlt : i < ds.length := by rw [hl]; exact (List.getElem?_eq_some_iff.mp he).1
    obtain ⟨δ', js, a, b, c⟩ := hs i e ds[i] H1 he (List.getElem?_eq_getElem hlt) g1
    refine ⟨δ', js, a, b, fun σ H2 g2 s Q q => q H2 g2.self, fun _ => ?_⟩
    show EvD T K te δ' H1 (ds.getD i .non)
    rw [List.getD_eq_getElem?_getD, List.getElem?_eq_getElem hlt]; exact c
  refine key.is ?_
  rw [madeD_all, ← hl]
  refine List.ext_getElem? fun i => ?_
  rw [List.getElem?_map]
  by_cases h : i < ds.length
  · rw [List.getElem?_range h, List.getElem?_eq_getElem h]
    simp [List.getD_eq_getElem?_getD, List.getElem?_eq_getElem h]
  · rw [List.getElem?_eq_none (by simpa using h), List.getElem?_eq_none (by simpa using h)]; rfl
end
end Pd
namespace Pd
open PySem PySem.Spec PyProof.Rows L2
/-! ### enumerate over a tuple -/
theorem enumT_new (t : Addr) (its : Array Value) :
    Meets (Builtin.«enumerate.__new__» ⟨[.type "enumerate", .ref t], []⟩) (fun _ R s => s.heap.IsTuple t its ∧
      R (.ok (.ret (.ref (s.heap.push { cls := .type "tuple_iterator", data := .fields #[.ref t, .int 0 0] }).objs.size)))
        { s with heap := (s.heap.push { cls := .type "tuple_iterator", data := .fields #[.ref t, .int 0 0] }).push { cls := .type "enumerate", data := .fields #[.none, .bool false, .ref s.heap.objs.size, rawInt 0, .none, .none] } }) :=
  .of_wp fun prog w A R s ⟨hT, hR⟩ => by
    obtain ⟨hp, gs, dr, tk, os⟩ := s
    have known := sub_enumerate
    have it0 : ∀ {A' : Around} {E : Value → Shared → Prop} {Q : Value → Shared → Prop}, Q (.ref hp.objs.size) ⟨hp.push { cls := .type "tuple_iterator", data := .fields #[.ref t, .int 0 0] }, gs, dr, tk, os⟩ → wpAny (model prog w) A' (pyIter (.ref t)) Q E ⟨hp, gs, dr, tk, os⟩ :=
      fun q => wpAny_pyIter_tuple (s := ⟨hp, gs, dr, tk, os⟩) hT q
    wp_walk using it0
    refine wpAny_stack_any fun _ => wpAny_pure ?_
    split
    · rename_i kc _ _ _ _ _
      cases (kc == Value.type "enumerate") <;> (wp_walk using it0; exact ⟨_, rfl, hR⟩)
    · wp_walk using it0; exact ⟨_, rfl, hR⟩
section
variable {prog : Program} {w : World} {A : Around} {E : Value → Shared → Prop} {s : Shared}
theorem enumT_call {t : Addr} {its : Array Value} {Q : Value → Shared → Prop} (hT : s.heap.IsTuple t its)
    (k : ∀ h', IsEnum h' (s.heap.objs.size + 1) s.heap.objs.size 0 .none → h'.IsTupleIter s.heap.objs.size t 0 → (∀ b o, s.heap.get? b = some o → h'.get? b = some o) → Q (.ref (s.heap.objs.size + 1)) { s with heap := h' }) :
    wpAny (model prog w) A (call (.type "enumerate") [.ref t]) Q E s := by
  refine callType_new F.called_enumerate (by decide) (F.typeCall_enumerate_1 _) (F.newCall_enumerate_1 _) (fun obj => F.args_object_init_2 obj _) F.entry_enumerate_new (enumT_new t its) ⟨hT, ?_⟩
  have z1 : (s.heap.push { cls := .type "tuple_iterator", data := .fields #[.ref t, .int 0 0] }).objs.size = s.heap.objs.size + 1 := Heap.size_push ..
  show _ ∧ _
  rw [z1]
  have he := Heap.get?_push_size (s.heap.push { cls := .type "tuple_iterator", data := .fields #[.ref t, .int 0 0] }) (o := { cls := .type "enumerate", data := .fields #[.none, .bool false, .ref s.heap.objs.size, rawInt 0, .none, .none] }) rfl
  rw [z1] at he
  have hi : (s.heap.push { cls := .type "tuple_iterator", data := .fields #[.ref t, .int 0 0] }).get? s.heap.objs.size = some { cls := .type "tuple_iterator", data := .fields #[.ref t, .int 0 0] } := Heap.get?_push_size _ rfl
  exact ⟨⟨_, he, rfl⟩, k _ he ⟨_, Heap.get?_push_of_some _ hi, rfl, rfl⟩ fun b o e => Heap.get?_push_of_some _ (Heap.get?_push_of_some _ e)⟩
end
/-- the tuple at a, each with its number, in new pairs -/
def IteT (K : PySem.W.Frag) (a : Addr) : It :=
  ⟨fun i H => ∃ (xs : List V) (x : V), SqT K H a xs ∧ xs[i]? = some x, fun i H v H' => ∃ P x, v = .ref P ∧ H P = none ∧ H' = upd H P (.tup [.int (i : Nat), x]) ∧ ∀ xs, SqT K H a xs → xs[i]? = some x,
    fun i H => ∃ xs : List V, SqT K H a xs ∧ xs.length = i⟩
theorem enumT_apart {h : Heap} {e it a : Addr} {i : Nat} {old : Value} {its : Array Value} {n : Int} (he : IsEnum h e it n old) (hit : h.IsTupleIter it a i) (pt : IsTup h a its) : a ≠ e ∧ a ≠ it := by
  obtain ⟨oo, hoo, hcc, _⟩ := pt
  refine ⟨fun z => ?_, fun z => ?_⟩
  · subst z
    rw [he] at hoo; cases hoo; injection hcc with z; exact absurd z (by decide)
  · subst z
    obtain ⟨o1, ho1, hc1, _⟩ := hit
    rw [ho1] at hoo; cases hoo; rw [hc1] at hcc; injection hcc with z; exact absurd z (by decide)
theorem turn_enumT {P : Program} {w : World} {K : PySem.W.Frag} {elts : List Expr} {kk : Nat} {tpos : Pos} (a e it : Addr) :
    Turn P w K (.Tuple elts kk tpos) (IteT K a) [e, it] e (fun i h => (∃ old, IsEnum h e it ((i : Nat) : Int) old) ∧ h.IsTupleIter it a i ∧ e ≠ it) where
  mem := List.mem_cons_self
  obj := fun i h ⟨⟨_, he⟩, ⟨o, ho, _, hd⟩, _⟩ b hb => by
    rcases (by simpa using hb : b = e ∨ b = it) with rfl | rfl
    · exact ⟨_, he, fun v q => nomatch q⟩
    · exact ⟨o, ho, fun v q => by rw [hd] at q; cases q⟩
  keep := fun i h h' ⟨⟨old, he⟩, hi, ne⟩ k => ⟨⟨old, k e (by simp) _ he⟩, hi.at fun o q => k it (by simp) o q, ne⟩
  item := by
    intro X hP hw hK hc i pins s σ H E I hf st hg
    subst hP; subst hw; subst hK
    obtain ⟨⟨old, he⟩, hit, ne⟩ := st
    obtain ⟨xs, x, hq, hx⟩ := hg
    obtain ⟨its, rv, pt, _⟩ := I.tuple hq
    obtain ⟨u, hu, ru⟩ := rv.get hx
    have pt' : s.heap.IsTuple a its.toArray := pt
    have l1 : e < s.heap.objs.size := Heap.lt_size he
    have l2 : it < s.heap.objs.size := by obtain ⟨_, q, _⟩ := hit; exact Heap.lt_size q
    obtain ⟨n1, n2⟩ := enumT_apart he hit pt
    have hlt : i < its.toArray.size := by
      have := (List.getElem?_eq_some_iff.mp hu).1
      simpa using this
    refine wpAny_pyNext_enum_itemD (Draws.tuple (A := X.A.in1) (I.ok.hd hc) it a n2 its.toArray) he ⟨hit, pt'⟩ hlt ne (by simp [ne, n1.symm]) fun y h' tk hy ho hst hT hsz hk => ?_
    have ey : y = u := by
      have h1 : its.toArray[i]? = some u := by simpa using hu
      exact Option.some.inj (hy.symm.trans h1)
    subst ey
    refine ⟨_, rfl, wpAny_letOwnedTupleGo_enum (s := { s with heap := h', toks := tk + 1 }) ho fun h2 he2 sb => ?_⟩
    have hT2 : h2.get? s.heap.objs.size = some { cls := .type "tuple", data := .seq #[.int i tk, y] } := (sb.2 _ (Nat.ne_of_gt l1)).trans hT
    have nw : ObjOk X.prog X.w (upd H s.heap.objs.size (.tup [.int (i : Nat), x])) h2 s.heap.objs.size (.tup [.int (i : Nat), x]) :=
      ⟨(by show 2 ≤ sizeLine; decide), [.int i tk, y], .cons ⟨_, rfl⟩ (.cons ru .nil), ⟨_, hT2, rfl, _, rfl⟩⟩
    have I1 : Inv X pins σ (upd H s.heap.objs.size (.tup [.int (i : Nat), x])) { s with heap := h2, toks := tk + 1 } :=
      I.turnedNew (ch := [e, it]) (fun b ob hb q => (sb.2 b (fun z => hb (by simp [z]))).trans (hk b ob (fun z => hb (by simp [z])) (fun z => hb (by simp [z])) q)) hf (Nat.le_refl _) nw
    refine ⟨.ref s.heap.objs.size, _, I1, rfl, ⟨_, x, rfl, I.hok.fresh (Nat.le_refl _), rfl, fun ys hy' => by rw [I.tuple_inj hy' hq]; exact hx⟩, ⟨⟨y, ?_⟩, hst.1.at fun o q => (sb.2 it ne.symm).trans q, ne⟩, fun b hb => ?_⟩
    · rw [show ((i + 1 : Nat) : Int) = (i : Int) + 1 by omega]; exact he2
    · have lb : b < s.heap.objs.size := by rcases (by simpa using hb : b = e ∨ b = it) with rfl | rfl <;> assumption
      rw [upd_ne (Nat.ne_of_lt lb)]; exact (hf b hb).1
  done := by
    intro X hP hw hK hc i pins s σ H E I hf st hg
    subst hP; subst hw; subst hK
    obtain ⟨⟨old, he⟩, hit, ne⟩ := st
    obtain ⟨xs, hq, hx⟩ := hg
    obtain ⟨its, rv, pt, _⟩ := I.tuple hq
    obtain ⟨n1, n2⟩ := enumT_apart he hit pt
    obtain ⟨f0, f1, f2, f3, f4, f5⟩ := hf it (by simp)
    have ez : its.toArray.size = i := by rw [List.size_toArray, ← rv.length, hx]
    exact wpAny_pyNext_enum_endD (Draws.tuple (A := X.A.in1) (I.ok.hd hc) it a n2 its.toArray) he ⟨by rw [ez]; exact hit, pt⟩ fun h' eb => ⟨rfl, I.turned (t' := s.toks) (fun b o hb q => eb b o hb q) f0 f1 f3 f4 f5⟩
  self := fun A i s Q E ⟨⟨_, he⟩, _⟩ h => wpAny_pyIter_enum he h
def iEnumT (K : PySem.W.Frag) (ta : TA) : TI := fun σ H R => ta σ H fun vs H1 => ∃ a xs, vs = [.ref a] ∧ SqT K H1 a xs ∧ R (IteT K a) H1
theorem pi_enumT {X : Cx} {e : Expr} {ta : TA} {p pos tpos : Pos} {elts : List Expr} {kk : Nat} (hg : Gl X "enumerate") (hm : X.mg "enumerate" = none) (ha : PA X [e] ta) (hs : starEach [e] X.env = [(false, eval e X.env)] := by rfl) :
    PI X (.Tuple elts kk tpos) (.Call (.Name "enumerate" p) [e] [] pos) (iEnumT X.K ta) := by
  refine ⟨fun pins s σ H R I h => Call_ (ld_blt I hg hm boot_enumerate (PyProof.Rows.callWith_type1 (thn (ha.run pos pins s σ H _ I h) fun us s1 ⟨vs, H1, I1, r1, a, xs, ex, hq, q⟩ => ?_) hs rfl))⟩
  subst ex
  obtain ⟨u1, rfl, ru⟩ := vals1 r1
  obtain rfl : u1 = Value.ref a := ru
  obtain ⟨its, rv, pt, _⟩ := I1.tuple hq
  refine enumT_call (its := its.toArray) pt fun h' he hit hk => wpAny_pyIter_enum he ?_
  have I2 : Inv X pins σ H1 { s1 with heap := h' } := I1.kept (t' := s1.toks) hk
  refine ⟨s1.heap.objs.size + 1, [s1.heap.objs.size + 1, s1.heap.objs.size], _, _, H1, rfl, I2, turn_enumT a (s1.heap.objs.size + 1) s1.heap.objs.size, ⟨⟨.none, he⟩, hit, Nat.succ_ne_self _⟩, fun b hb => ?_, q⟩
  have hle : s1.heap.objs.size ≤ b := by rcases (by simpa using hb : b = s1.heap.objs.size + 1 ∨ b = s1.heap.objs.size) with rfl | rfl <;> omega
  exact I1.fpOk hle (I1.hok.fresh hle)
def withNo (ds : List D) (k : Nat) : List D := match ds with
  | [] => []
  | d :: r => .tup [.int (k : Nat), d] :: withNo r (k + 1)
theorem withNo_len : ∀ (ds : List D) (k : Nat), (withNo ds k).length = ds.length
  | [], _ => rfl
  | _ :: r, k => congrArg (· + 1) (withNo_len r (k + 1))
theorem withNo_get : ∀ (ds : List D) (k i : Nat), (withNo ds k)[i]? = ds[i]?.map fun d => .tup [.int ((k + i : Nat) : Int), d]
  | [], _, _ => by simp [withNo]
  | d :: r, k, 0 => rfl
  | _ :: r, k, i + 1 => by
    show (withNo r (k + 1))[i]? = _
    rw [withNo_get r (k + 1) i, List.getElem?_cons_succ, show k + 1 + i = k + (i + 1) by omega]
theorem ei_enumT {T : Tb} {S : List Addr} {K : PySem.W.Frag} {δ : List (Option SD)} {H : Hp} {ta : TA} {ds : List D} (h : EvA T K ta δ H [.tup ds]) : EvI T K S (iEnumT K ta) δ H (withNo ds 0) := fun σ H1 g s R q =>
  h σ H1 g s _ fun vs H2 g2 r => by
    obtain ⟨x, r', e, ⟨a, xs, ex, hs, rs⟩, h3⟩ := r
    cases (show r' = [] from h3); subst ex
    refine ⟨a, xs, e, hs, q _ H2 g2 ?_⟩
    rw [withNo_len, ← rs.len]
    refine ⟨fun i Ha hi g' => ⟨xs, xs[i], g'.sqT hs, by simp [hi]⟩, fun Ha g' => ⟨xs, g'.sqT hs, rfl⟩, fun i Ha x Hb hi g' y => ?_⟩
    obtain ⟨p, z, e1, hp, e2, e3⟩ := y
    subst e1; subst e2
    obtain ⟨d, hd, rd⟩ := rs.got (e3 xs (g'.sqT hs))
    have gn : Gr T [] Ha (upd Ha p (.tup [.int (i : Nat), z])) := Gr.new g'.tbs hp
    refine ⟨gn, .tup [.int (i : Nat), d], by rw [withNo_get, hd, Nat.zero_add]; rfl, p, _, rfl, .inl (.inl upd_same), .int (i : Nat), _, rfl, rfl, z, _, rfl, (rd.up g').up gn, rfl⟩
end Pd
namespace Pd
open PySem PySem.Spec PyProof.Rows L2
/-! ### rules under names -/
section
variable {X : Cx}
theorem cr_len : CallR X (.builtin "len") (rLenS X.K) := call_len_seq
theorem cr_lenS : CallR X (.builtin "len") rLenTx := call_len_str
theorem cr_min (hc : X.calm = true) : CallR X (.builtin "min") rMin2 := call_min2 hc
theorem cr_max (hc : X.calm = true) : CallR X (.builtin "max") rMax2 := call_max2 hc
theorem cr_tup : CallR X (.type "tuple") (rTupOf X.K) := call_tuple_of
end
/-! ### a def of the text: where it stands -/
structure At (K : PySem.W.Frag) (mg : Str → Option Value) (x : Str) (st : Stmt) (ps : List Str) (f : Addr) (fd : FuncData) : Prop where
  F : Fun K x x st f fd
  b : Binds K fd ps []
  m : mg x = some (.ref f)
/-- what it promises -/
structure Ok (P : Program) (w : World) (K : PySem.W.Frag) (mg : Str → Option Value) (base : Heap) (k : Nat) (x : Str) (ps : List Str) (sp : Sp) : Prop where
  ex : ∃ f fd, FnOk P w K mg base CX0 k f fd ps sp ∧ mg x = some (.ref f) ∧ PySem.W.keepIn K (.ref f) = true ∧ Binds K fd ps []
section
variable {P : Program} {w : World} {K : PySem.W.Frag} {mg : Str → Option Value} {base : Heap} {x : Str} {st : Stmt} {ps N : List Str} {f : Addr} {fd : FuncData} {k : Nat} {sp : Sp} {T : Tb}
theorem At.ok (a : At K mg x st ps f fd) (G : FnOk P w K mg base CX0 k f fd ps sp) : Ok P w K mg base k x ps sp := ⟨f, fd, G, a.m, a.F.kp, a.b⟩
/-- what can't be asked -/
theorem At.none (a : At K mg x st ps f fd) (h : ∀ vs H Q E, ¬ sp vs H Q E) : Ok P w K mg base k x ps sp :=
  a.ok ⟨fun vs H Q E q => absurd q (h vs H Q E), fun A outer s H args us vs Q E _ _ _ _ q => absurd q (h vs H Q E)⟩
theorem Ok.mono {j : Nat} (o : Ok P w K mg base j x ps sp) (h : j ≤ k) : Ok P w K mg base k x ps sp := by
  obtain ⟨f, fd, G, r⟩ := o.ex
  exact ⟨f, fd, G.mono h, r⟩
theorem Ok.imp {sp' : Sp} (o : Ok P w K mg base k x ps sp) (h : ∀ vs H Q E, sp' vs H Q E → sp vs H Q E) : Ok P w K mg base k x ps sp' := by
  obtain ⟨f, fd, G, r⟩ := o.ex
  exact ⟨f, fd, G.imp h, r⟩
/-- a def of data by its body -/
theorem okR {R : List D → D → Prop} (a : At K mg x st ps f fd) (S : FnScope N ps (defScope st)) (hl : ∀ ds d, R ds d → ds.length = ps.length)
    (body : ∀ (cdv : Value) (A : Around) (outer : List Env) (s : Shared) (H : Hp) (E : XK) (ds : List D) (d : D) (Q : VK), Room k (A.deeper (envOfC x (defScope st) s.heap.objs.size f cdv)) → R ds d → Tbs T H → (∀ v H', Gr T [] H H' → Rep K H' d v → Q v H') →
      ∃ t, PSs (cxOf CX0 P w K mg base N x (defScope st) f cdv A outer s H E).nox (defBody st) t ∧ Run K t { nx := fun _ H' => Q .non H', rt := Q } (ds.map (fun d => some (SD.d d)) ++ List.replicate (N.length - ds.length) none) H) : Ok P w K mg base (k + 1) x ps (spR T K R) := by
  refine a.ok (a.F.ok S (fun vs H Q E ⟨ds, d, hR, hr, _⟩ => by rw [hr.len]; exact hl ds d hR) fun cdv A outer s H vs Q E hr ⟨ds, d, hR, rs, hT, q⟩ => ?_)
  obtain ⟨t, h1, h2⟩ := body cdv A outer s H E ds d Q hr hR hT q
  refine ⟨t, h1, h2 _ ?_⟩
  unfold L2.start
  rw [rs.len]
  exact Slots.start _ rs
theorem okRL {R : List D → List D → Prop} (a : At K mg x st ps f fd) (S : FnScope N ps (defScope st)) (hl : ∀ ds d, R ds d → ds.length = ps.length)
    (body : ∀ (cdv : Value) (A : Around) (outer : List Env) (s : Shared) (H : Hp) (E : XK) (ds es : List D) (Q : VK), Room k (A.deeper (envOfC x (defScope st) s.heap.objs.size f cdv)) → R ds es → Tbs T H → (∀ p xs H', H p = none → Gr T [] H H' → H' p = some (.lst xs) → Reps K H' es xs → Q (.ref p) H') →
      ∃ t, PSs (cxOf CX0 P w K mg base N x (defScope st) f cdv A outer s H E).nox (defBody st) t ∧ Run K t { nx := fun _ H' => Q .non H', rt := Q } (ds.map (fun d => some (SD.d d)) ++ List.replicate (N.length - ds.length) none) H) : Ok P w K mg base (k + 1) x ps (spRL T K R) := by
  refine a.ok (a.F.ok S (fun vs H Q E ⟨ds, es, hR, hr, _⟩ => by rw [hr.len]; exact hl ds es hR) fun cdv A outer s H vs Q E hr ⟨ds, es, hR, rs, hT, q⟩ => ?_)
  obtain ⟨t, h1, h2⟩ := body cdv A outer s H E ds es Q hr hR hT q
  refine ⟨t, h1, h2 _ ?_⟩
  unfold L2.start
  rw [rs.len]
  exact Slots.start _ rs
end
section
variable {X : Cx} {k j : Nat} {x : Str} {ps : List Str} {sp : Sp} {e : Expr} {es : List Expr} {t : TA} {p pos : Pos}
theorem pe_own (G : Ok X.prog X.w X.K X.mg X.base j x ps sp) (hr : Room k X.A) (hjk : j ≤ k) (hg : Gl X x) (ha : PA X (e :: es) t) (hdb : (x == ("__debug__" : Str)) = false := by decide)
    (he : starEach (e :: es) X.env = (false, eval e X.env) :: starEach es X.env := by rfl) (hpl : (backTo pos (starEach es X.env)).any (·.1) = false := by rfl) : PE X (.Call (.Name x p) (e :: es) [] pos) (tCall sp [] E0 t) := by
  obtain ⟨f, fd, F, m, kp, b⟩ := G.ex
  exact pe_call F (hr.mono hjk) hg m kp b .nil pass0 ha hdb he hpl
/-- a constant of the module -/
theorem pe_cstI {i : Int} (hg : Gl X x) (hm : ∃ t, X.mg x = some (.int i t)) (hd : (x == ("__debug__" : Str)) = false := by decide) : PE X (.Name x pos) (tC (.int i)) := by
  obtain ⟨t, h⟩ := hm
  exact pe_glob hg h ⟨t, rfl⟩ hd
theorem pe_cstS {z : Str} (hg : Gl X x) (hm : ∃ t, X.mg x = some (.str z t)) (hd : (x == ("__debug__" : Str)) = false := by decide) : PE X (.Name x pos) (tC (.str z)) := by
  obtain ⟨t, h⟩ := hm
  exact pe_glob hg h ⟨t, rfl⟩ hd
end
end Pd
namespace Pd
open PySem PySem.Spec PyProof.Rows L2
/-! ### all(..), any(..) of a generator expression whose element changes nothing -/
section
variable {X : Cx} {pins : List (Addr × Obj)} {σ : L2.St} {H H1 : Hp} {s s1 : Shared}
/-- the element at the value u of x is the truth value b -/
def Quiet (X : Cx) (scope : Scope) (cl : List (Str × Addr)) (x : Str) (elt : Expr) (P : Addr) (s1 : Shared) (u : Value) (b : Bool) : Prop :=
  ∀ (cenv : Env) (A' : Around) (E' : Value → Shared → Prop) (s₂ : Shared) (m₂ : Str → Option Value), cenv.scope = scope → cenv.globals = mainGlobals → cenv.builtins = builtinsNs → cenv.cells = cl → A'.handled = none → A'.depth ≤ X.A.depth + 1 → A'.units ≤ X.A.units + 8 →
    s₂.heap.Ns cenv.locals m₂ → m₂ x = some u → (∀ c o, c ≠ P → s1.heap.get? c = some o → s₂.heap.get? c = some o) → wpAny (model X.prog X.w) A' (eval elt cenv) (fun y s₃ => y = .bool b ∧ Keeps s₂ s₃) E' s₂
theorem kp_refl (s : Shared) : Keeps s s := ⟨s.heap, s.toks, rfl, fun _ _ e => e⟩
/-- behind the iterable: an iterator is new at the heap's end; the generator is made -/
theorem gen_core {c P : Addr} {elt iter : Expr} {x : Str} {px gpos : Pos} {scope : Scope} {k : Nat} {Q' : Value → Shared → Prop} {ps : Array Value} {o : Obj} {fp' : List Addr} {n : Nat} {Pf : Nat → Value → Prop} {St : Nat → Heap → Prop} {pb : Nat → Bool}
    (hr : Room k X.A) (TB : GxR.TabB X.base X.mg c P) (hcode : X.env.code = .ref c) (S : GxR.GenS X.env scope x) (I1 : Inv X pins σ H1 s1) (hP : H1 P = some (.tbl ps)) (ht : TriplesOk ps.toList)
    (W : ∀ A' : Around, A'.handled = none → Walks X.prog X.w A' s1.heap.objs.size (s1.heap.objs.size :: fp') [s1.heap.objs.size] n Pf St) (hst : St 0 (s1.heap.push o)) (hfp : ∀ b ∈ fp', b < s1.heap.objs.size ∧ b ≠ P)
    (hel : ∀ i v, Pf i v → Quiet X scope (cloFrom X.env.cells scope.names []) x elt P s1 v (pb i))
    (hs : ∀ v, genFold iter X.env v = pure v)
    (hQ : ∀ g s5, (∃ (fp wr : List Addr) (G : Array GenState → Array GenState → Prop) (F : Nat → Value → Prop) (St' : Nat → Shared → Prop), WalksS X.prog X.w X.A.in1 g fp wr G n F St' ∧ St' 0 s5 ∧ TruthOf X.prog X.w X.A.in1 F pb ∧
      ∀ s', Moved wr G s5 s' → ∃ H2, GxR.Tabbed P H1 H2 ∧ Inv X pins σ H2 s') → Q' (.ref g) s5) :
    (s1.heap.push o).NoLimit ∧ wpAny (model X.prog X.w) X.A (genexprCode X.env gpos (X.env.qual ++ "<genexpr>") scope) (fun code s₃ => wpAny (model X.prog X.w) X.A (builtinsFor X.env.globals X.env.builtins) (fun bi s₄ =>
        ∃ J fp wr n₀ P0 St₀ pz F, Value.ref s1.heap.objs.size = .ref J ∧ (∀ A' : Around, A'.handled = none → Walks X.prog X.w A' J fp wr n₀ P0 St₀) ∧ St₀ 0 s₄.heap ∧ (∀ b ∈ fp, b < s₄.heap.objs.size) ∧ s₄.heap.NoLimit ∧ cStatics ∉ wr ∧
          (∀ href : Heap, (∀ b o, s₄.heap.get? b = some o → href.get? b = some o) →
            QuietGenD X.prog X.w (genEnv scope (cloFrom X.env.cells scope.names []) s₄.heap.objs.size code bi X.env) x [] elt (List.range s₄.heap.objs.size) wr P0 pz F href (X.A.depth + 1) (X.A.units + 8)) ∧
          (∀ a h₅ tk gs, gs.bare = true → s₄.heap.objs.size < a → h₅.objs.size = a + 1 → (∀ b o, s₄.heap.get? b = some o → h₅.get? b = some o) →
            WalksS X.prog X.w X.A.in4 a (a :: s₄.heap.objs.size :: List.range s₄.heap.objs.size) (s₄.heap.objs.size :: wr) (GenOnlyQ s₄.gens.size) (passing pz n₀ 0).length
              (fun j y => ∃ i, (passing pz n₀ 0)[j]? = some i ∧ F i y) (GenAt X.prog X.w X.A.in4 a s₄.gens.size s₄.heap.objs.size (List.range s₄.heap.objs.size) wr pz n₀ F) →
            GenAt X.prog X.w X.A.in4 a s₄.gens.size s₄.heap.objs.size (List.range s₄.heap.objs.size) wr pz n₀ F 0 { s₄ with gens := s₄.gens.push gs, toks := tk, heap := h₅ } →
            Q' (.ref a) { s₄ with gens := s₄.gens.push gs, toks := tk, heap := h₅ })) X.xe s₃) X.xe { s1 with heap := s1.heap.push o } := by
  have sP := I1.hok P _ hP
  have sP : s1.heap.get? P = some { cls := .none, data := .fields ps } := sP
  have zP := Heap.lt_size sP
  have sP2 : (s1.heap.push o).get? P = some { cls := .none, data := .fields ps } := Heap.get?_push_of_some _ sP
  have lim := I1.nolimit.push o
  have zz : (s1.heap.push o).objs.size = s1.heap.objs.size + 1 := Heap.size_push ..
  have cd : PySem.W.CodeHd (s1.heap.push o) c P := TB.code.keeps fun b u e => Heap.get?_push_of_some _ (I1.bk b u e)
  refine ⟨lim, ?_⟩
  -- with the code object and the table as they are then
  have go : ∀ (code : Value) (h3 : Heap) (tk : Nat) (more : Array Value), Heap.ExtBut P (s1.heap.push o) h3 → (s1.heap.push o).objs.size ≤ h3.objs.size → h3.get? P = some { cls := .none, data := .fields (ps ++ more) } → TriplesOk (ps ++ more).toList →
      wpAny (model X.prog X.w) X.A (builtinsFor X.env.globals X.env.builtins) (fun bi s₄ =>
        ∃ J fp wr n₀ P0 St₀ pz F, Value.ref s1.heap.objs.size = .ref J ∧ (∀ A' : Around, A'.handled = none → Walks X.prog X.w A' J fp wr n₀ P0 St₀) ∧ St₀ 0 s₄.heap ∧ (∀ b ∈ fp, b < s₄.heap.objs.size) ∧ s₄.heap.NoLimit ∧ cStatics ∉ wr ∧
          (∀ href : Heap, (∀ b o, s₄.heap.get? b = some o → href.get? b = some o) →
            QuietGenD X.prog X.w (genEnv scope (cloFrom X.env.cells scope.names []) s₄.heap.objs.size code bi X.env) x [] elt (List.range s₄.heap.objs.size) wr P0 pz F href (X.A.depth + 1) (X.A.units + 8)) ∧
          (∀ a h₅ tk gs, gs.bare = true → s₄.heap.objs.size < a → h₅.objs.size = a + 1 → (∀ b o, s₄.heap.get? b = some o → h₅.get? b = some o) →
            WalksS X.prog X.w X.A.in4 a (a :: s₄.heap.objs.size :: List.range s₄.heap.objs.size) (s₄.heap.objs.size :: wr) (GenOnlyQ s₄.gens.size) (passing pz n₀ 0).length
              (fun j y => ∃ i, (passing pz n₀ 0)[j]? = some i ∧ F i y) (GenAt X.prog X.w X.A.in4 a s₄.gens.size s₄.heap.objs.size (List.range s₄.heap.objs.size) wr pz n₀ F) →
            GenAt X.prog X.w X.A.in4 a s₄.gens.size s₄.heap.objs.size (List.range s₄.heap.objs.size) wr pz n₀ F 0 { s₄ with gens := s₄.gens.push gs, toks := tk, heap := h₅ } →
            Q' (.ref a) { s₄ with gens := s₄.gens.push gs, toks := tk, heap := h₅ })) X.xe { s1 with heap := h3, toks := tk } := by
    intro code h3 tk more hx hge hP3 ht3
    have l3 : s1.heap.objs.size < h3.objs.size := by rw [zz] at hge; exact hge
    have k3 : ∀ b u, b ≠ P → s1.heap.get? b = some u → h3.get? b = some u := fun b u ne e => hx b u ne (Heap.get?_push_of_some _ e)
    obtain ⟨bm, ob, b1, b2, b3, b4, b5, b6, b7, b8⟩ := TB.bm
    have csP : cStatics ≠ P := fun e => by
      obtain ⟨_, ⟨ob', _, _, ho, hd, _⟩, _⟩ := I1.nolimit
      rw [e, sP] at ho; cases ho; cases hd
    have csl : cStatics < s1.heap.objs.size := by
      obtain ⟨_, hns, _⟩ := I1.nolimit
      exact hns.lt
    refine wpAny_builtinsFor (m := X.mg) (by rw [I1.ok.glob]; exact ((I1.mod.glob.keeps I1.bk).push o).extBut hx TB.gP) b1 b2 (k3 _ _ b4 (I1.bk _ _ b5)) b6 b7 b8 ?_
    refine ⟨s1.heap.objs.size, _, _, n, Pf, St, fun _ => true, fun i y => (∃ v, Pf i v) ∧ y = .bool (pb i), rfl, W, ?_, ?_, lim.extBut hx csP, ?_, ?_, ?_⟩
    · refine (W X.A hr.hd).frame 0 _ _ hst fun b hb u e => hx b u (fun z => ?_) e
      rcases List.mem_cons.mp hb with y | y
      · rw [y] at z; rw [← z] at zP; exact absurd zP (Nat.lt_irrefl _)
      · exact (hfp b y).2 z
    · intro b hb
      show b < h3.objs.size
      rcases List.mem_cons.mp hb with y | y
      · rw [y]; exact l3
      · exact Nat.lt_trans (hfp b y).1 l3
    · intro z
      rcases List.mem_cons.mp z with z | z
      · exact absurd csl (by rw [z]; exact Nat.lt_irrefl _)
      · cases z
    · intro href hk
      refine ⟨fun A' E' i v s₂ m₂ _ _ _ _ hn hm hkp => ?_, fun A' E' i v s₂ m₂ hA hD hU hPv _ hn hm hkp => ?_⟩
      · simp only [List.forIn_nil]
        exact wpAny_pure ⟨rfl, kp_refl _⟩
      · refine wpAny_mono (hel i v hPv _ A' E' s₂ m₂ rfl (show X.env.globals = mainGlobals from I1.ok.glob) rfl rfl hA hD hU hn hm fun b u nb e => ?_) (fun y s3 r => ⟨⟨⟨v, hPv⟩, r.1⟩, r.2⟩) fun _ _ e => e
        have lb := Heap.lt_size e
        exact hkp b (List.mem_range.mpr (Nat.lt_trans lb l3)) (fun z => (List.mem_cons.mp z).elim (fun z => by rw [z] at lb; exact Nat.lt_irrefl _ lb) (fun z => nomatch z)) u (hk b u (k3 b u nb e))
    · intro g h5 tk5 gs hgb hag hsz5 hk5 W5 hat
      simp only [GxR.passing_true, List.length_range] at W5
      refine hQ g _ ⟨_, _, _, _, _, W5.in4_1, hat, fun j y sj Qj Ej hy hq => ?_, fun s' hm => ?_⟩
      · obtain ⟨i, hi, _, rfl⟩ := hy
        obtain ⟨_, ei⟩ := List.getElem?_eq_some_iff.mp hi
        rw [List.getElem_range] at ei
        subst ei
        exact wpAny_truthy_bool hq
      · have nw : ∀ b u, s1.heap.get? b = some u → b ∉ h3.objs.size :: [s1.heap.objs.size] := fun b u e hb => by
          have lb := Heap.lt_size e
          rcases List.mem_cons.mp hb with z | z
          · rw [z] at lb; exact absurd (Nat.lt_trans lb l3) (Nat.lt_irrefl _)
          · rcases List.mem_cons.mp z with z | z
            · rw [z] at lb; exact absurd lb (Nat.lt_irrefl _)
            · cases z
        have J2 := GxR.inv_tab (more := more) (h' := s'.heap) (g' := s'.gens) (d' := s'.drawn) (t' := s'.toks) I1 hP (fun b u nb e => hm.heap b u (nw b u e) (hk5 b u (k3 b u nb e))) (hm.heap P _ (nw P _ sP) (hk5 P _ hP3)) (AllBare.movedS (I1.bare.push hgb) hm)
        rw [GxR.sh_eta s1 s' hm.os] at J2
        exact ⟨upd H1 P (.tbl (ps ++ more)), ⟨⟨ps ++ more, upd_same, ht3⟩, fun b nb => upd_ne nb⟩, J2⟩
  cases hf : codeAmong gpos ps.toList with
  | none =>
    refine wpAny_genexprCodeX hcode (cd.code sP2 ht) (cd.tab sP2) hf fun c' h' tk hx hge hlt hco' _ htab' _ => ?_
    obtain ⟨_, _, _, _, _, _, _, _, _, _, _, _, _, _, _, _, _, _, _, htr, _⟩ := hco'
    exact go _ h' tk _ hx (Nat.le_trans hge (Nat.le_of_lt hlt)) htab'.2 htr
  | some cv =>
    refine wpAny_genexprCode_hit hcode (cd.code sP2 ht) hf ?_
    exact go cv (s1.heap.push o) s1.toks #[] (Heap.ExtBut.refl _ _) (Nat.le_refl _) (by rw [Array.append_empty]; exact sP2) (by rw [Array.append_empty]; exact ht)
end
end Pd
namespace Pd
open PySem L2
def topS (i : Nat) : Stmt := PySem.Challenge.pw_pushdoors_k11_houses_written_and_read.main.body.getD i (.Pass ⟨0, 0, 0, 0⟩)
abbrev s_BadHouse___init__ : Stmt := inClass (topS 2) 0
theorem sc_BadHouse___init__ : FnScope ["self", "path"] ["self", "path"] (defScope s_BadHouse___init__) := ⟨rfl, rfl, rfl, by decide +kernel, rfl, by decide +kernel, by decide +kernel⟩
abbrev s_BadText___init__ : Stmt := inClass (topS 3) 0
theorem sc_BadText___init__ : FnScope ["self", "row"] ["self", "row"] (defScope s_BadText___init__) := ⟨rfl, rfl, rfl, by decide +kernel, rfl, by decide +kernel, by decide +kernel⟩
abbrev s_is_way_out : Stmt := topS 10
theorem sc_is_way_out : FnScope ["room"] ["room"] (defScope s_is_way_out) := ⟨rfl, rfl, rfl, by decide +kernel, rfl, by decide +kernel, by decide +kernel⟩
abbrev s_is_name : Stmt := topS 11
theorem sc_is_name : FnScope ["text"] ["text"] (defScope s_is_name) := ⟨rfl, rfl, rfl, by decide +kernel, rfl, by decide +kernel, by decide +kernel⟩
abbrev s_is_door : Stmt := topS 12
theorem sc_is_door : FnScope ["door", "need", "stands", "_"] ["door"] (defScope s_is_door) := ⟨rfl, rfl, rfl, by decide +kernel, rfl, by decide +kernel, by decide +kernel⟩
abbrev s_can_be : Stmt := topS 13
theorem sc_can_be : FnScope ["room", "hand", "doors"] ["room"] (defScope s_can_be) := ⟨rfl, rfl, rfl, by decide +kernel, rfl, by decide +kernel, by decide +kernel⟩
abbrev s_rooms_behind : Stmt := topS 14
theorem sc_rooms_behind : FnScope ["room", "path", "at", "door"] ["room", "path"] (defScope s_rooms_behind) := ⟨rfl, rfl, rfl, by decide +kernel, rfl, by decide +kernel, by decide +kernel⟩
abbrev s_check_house : Stmt := topS 15
theorem sc_check_house : FnScope ["house", "found", "waiting", "path", "room", "behind"] ["house"] (defScope s_check_house) := ⟨rfl, rfl, rfl, by decide +kernel, rfl, by decide +kernel, by decide +kernel⟩
abbrev s_rows_of : Stmt := topS 19
theorem sc_rows_of : FnScope ["room", "hand", "doors", "rows", "need", "stands", "inner"] ["room"] (defScope s_rows_of) := ⟨rfl, rfl, rfl, by decide +kernel, rfl, by decide +kernel, by decide +kernel⟩
abbrev s_written : Stmt := topS 20
theorem sc_written : FnScope ["house"] ["house"] (defScope s_written) := ⟨rfl, rfl, rfl, by decide +kernel, rfl, by decide +kernel, by decide +kernel⟩
abbrev s_is_number : Stmt := topS 21
theorem sc_is_number : FnScope ["word"] ["word"] (defScope s_is_number) := ⟨rfl, rfl, rfl, by decide +kernel, rfl, by decide +kernel, by decide +kernel⟩
abbrev s_can_stand : Stmt := topS 22
theorem sc_can_stand : FnScope ["words", "wanted"] ["words", "wanted"] (defScope s_can_stand) := ⟨rfl, rfl, rfl, by decide +kernel, rfl, by decide +kernel, by decide +kernel⟩
abbrev s_wanted_behind : Stmt := topS 23
theorem sc_wanted_behind : FnScope ["words"] ["words"] (defScope s_wanted_behind) := ⟨rfl, rfl, rfl, by decide +kernel, rfl, by decide +kernel, by decide +kernel⟩
abbrev s_words_of_rows : Stmt := topS 24
theorem sc_words_of_rows : FnScope ["text", "told", "wanted", "number", "row", "words"] ["text"] (defScope s_words_of_rows) := ⟨rfl, rfl, rfl, by decide +kernel, rfl, by decide +kernel, by decide +kernel⟩
abbrev s_built : Stmt := topS 25
theorem sc_built : FnScope ["told", "ready", "words", "rest", "doors"] ["told"] (defScope s_built) := ⟨rfl, rfl, rfl, by decide +kernel, rfl, by decide +kernel, by decide +kernel⟩
abbrev s_read : Stmt := topS 26
theorem sc_read : FnScope ["text", "house"] ["text"] (defScope s_read) := ⟨rfl, rfl, rfl, by decide +kernel, rfl, by decide +kernel, by decide +kernel⟩
abbrev s__law_mix : Stmt := topS 28
theorem sc__law_mix : FnScope ["_law_script", "_law_seed", "_law_mixed", "_law_cell"] ["_law_script", "_law_seed"] (defScope s__law_mix) := ⟨rfl, rfl, rfl, by decide +kernel, rfl, by decide +kernel, by decide +kernel⟩
abbrev s__law_next : Stmt := topS 29
theorem sc__law_next : FnScope ["_law_h", "_law_many", "_law_cell"] ["_law_h", "_law_many"] (defScope s__law_next) := ⟨rfl, rfl, rfl, by decide +kernel, rfl, by decide +kernel, by decide +kernel⟩
abbrev s__law_alike : Stmt := topS 30
theorem sc__law_alike : FnScope ["_law_found", "_law_due", "_law_k"] ["_law_found", "_law_due"] (defScope s__law_alike) := ⟨rfl, rfl, rfl, by decide +kernel, rfl, by decide +kernel, by decide +kernel⟩
abbrev s__law_door : Stmt := topS 31
theorem sc__law_door : FnScope ["_law_h", "_law_few", "_law_need"] ["_law_h", "_law_few"] (defScope s__law_door) := ⟨rfl, rfl, rfl, by decide +kernel, rfl, by decide +kernel, by decide +kernel⟩
abbrev s__law_room : Stmt := topS 32
theorem sc__law_room : FnScope ["_law_h", "_law_spare", "_law_deep", "_law_few", "_law_many", "_law_doors", "_law_k", "_law_need", "_law_stands", "_law_deeper"] ["_law_h", "_law_spare", "_law_deep", "_law_few"] (defScope s__law_room) := ⟨rfl, rfl, rfl, by decide +kernel, rfl, by decide +kernel, by decide +kernel⟩
abbrev s__law_house : Stmt := topS 33
theorem sc__law_house : FnScope ["_law_h", "_law_few"] ["_law_h", "_law_few"] (defScope s__law_house) := ⟨rfl, rfl, rfl, by decide +kernel, rfl, by decide +kernel, by decide +kernel⟩
abbrev s__law_rows : Stmt := topS 34
theorem sc__law_rows : FnScope ["_law_room_here", "_law_found", "_law_need", "_law_stands", "_law_inner"] ["_law_room_here"] (defScope s__law_rows) := ⟨rfl, rfl, rfl, by decide +kernel, rfl, by decide +kernel, by decide +kernel⟩
abbrev s_law : Stmt := topS 35
theorem sc_law : FnScope ["_law_script", "_law_h", "_law_turn", "_law_house_here", "_law_text"] ["_law_script"] (defScope s_law) := ⟨rfl, rfl, rfl, by decide +kernel, rfl, by decide +kernel, by decide +kernel⟩
structure Bl (mg : Str → Option Value) : Prop where
  all : mg "all" = none
  bool : mg "bool" = none
  enumerate : mg "enumerate" = none
  int : mg "int" = none
  isinstance : mg "isinstance" = none
  len : mg "len" = none
  list : mg "list" = none
  max : mg "max" = none
  min : mg "min" = none
  range : mg "range" = none
  str : mg "str" = none
  tuple : mg "tuple" = none
  LONGEST_NAME : ∃ t, mg "LONGEST_NAME" = some (.int 6 t)
  LETTERS : ∃ t, mg "LETTERS" = some (.str "abcdefghijklmnopqrstuvwxyz" t)
  MOST_NEED : ∃ t, mg "MOST_NEED" = some (.int 99 t)
  MOST_DOORS_OF_A_ROOM : ∃ t, mg "MOST_DOORS_OF_A_ROOM" = some (.int 4 t)
  MOST_DOORS_OF_A_HOUSE : ∃ t, mg "MOST_DOORS_OF_A_HOUSE" = some (.int 12 t)
  MOST_FIGURES : ∃ t, mg "MOST_FIGURES" = some (.int 2 t)
  FIGURES : ∃ t, mg "FIGURES" = some (.str "0123456789" t)
end Pd
namespace Pd
open PySem PySem.Spec PyProof.Rows L2
/-! ### quiet elements -/
theorem kp_trans {s s1 s2 : Shared} (a : Keeps s s1) (b : Keeps s1 s2) : Keeps s s2 := by
  obtain ⟨h1, t1, rfl, k1⟩ := a
  obtain ⟨h2, t2, rfl, k2⟩ := b
  exact ⟨h2, t2, rfl, fun c o e => k2 c o (k1 c o e)⟩
/-- what stands of the module where nothing but the table at P may differ -/
structure Gc (X : Cx) (h : Heap) : Prop where
  kin : X.K.In h
  glob : h.Ns mainGlobals X.mg
  blt : ∃ mb, h.Ns builtinsNs mb ∧ ∀ x : Str, x ≠ "__name__" → mb x = bootBuiltins x
  lim : h.NoLimit
theorem Gc.of {X : Cx} {pins : List (Addr × Obj)} {σ : L2.St} {H : Hp} {s1 s2 : Shared} {P : Addr} (I : Inv X pins σ H s1) (hP : H P ≠ none) (hk : ∀ c o, c ≠ P → s1.heap.get? c = some o → s2.heap.get? c = some o) : Gc X s2.heap := by
  have kb : ∀ b o, X.base.get? b = some o → s2.heap.get? b = some o := fun b o e => hk b o (fun z => hP (by rw [← z]; exact (I.bs b o e).2)) (I.bs b o e).1
  refine ⟨I.ok.mod.kin.keeps kb, I.ok.mod.glob.keeps kb, ?_, I.ok.mod.nolimit.keeps kb⟩
  obtain ⟨mb, h1, h2⟩ := I.ok.mod.blt
  exact ⟨mb, h1.keeps kb, h2⟩
theorem Gc.keeps {X : Cx} {h h' : Heap} (g : Gc X h) (k : ∀ b o, h.get? b = some o → h'.get? b = some o) : Gc X h' := by
  obtain ⟨mb, h1, h2⟩ := g.blt
  exact ⟨g.kin.keeps k, g.glob.keeps k, ⟨mb, h1.keeps k, h2⟩, g.lim.keeps k⟩
section
variable {X : Cx}
/-- letter in LETTERS -/
theorem quiet_letter {scope : Scope} {cl : List (Str × Addr)} {P : Addr} {pins : List (Addr × Obj)} {σ : L2.St} {H : Hp} {s1 : Shared} {z : Str} {x y : Str} {p1 p2 p3 : Pos} (I : Inv X pins σ H s1) (hP : H P ≠ none)
    (hk : scope.kind = .function) (hx : scope.names.lookup x = some .local) (hy : scope.names.lookup y = some .globalImplicit) (hm : ∃ t, X.mg y = some (.str z t)) (dx : (x == ("__debug__" : Str)) = false) (dy : (y == ("__debug__" : Str)) = false) (c : Nat) (t : Tok) :
    Quiet X scope cl x (.Compare (.Name x p1) [.In] [.Name y p2] p3) P s1 (.str ⟨#[c]⟩ t) (decide (c ∈ z.cps.toList)) := by
  intro cenv A' E' s₂ m₂ e1 e2 e3 e4 hA hD hU hn hv hkp
  obtain ⟨tz, hz⟩ := hm
  have g := Gc.of I hP hkp
  refine wpAny_Compare1 ?_ rfl
  refine wpAny_Name (wpAny_loadName_local (by rw [e1]; exact hk) (show cenv.scope.names.lookup x = _ by rw [e1]; exact hx) hn hv ?_) dx
  refine Calls.Name_function_global (by rw [e1]; exact hk) (show cenv.scope.names.lookup y = _ by rw [e1]; exact hy) (Calls.loadGlobal_global (by rw [e2]; exact g.glob) hz ?_) dy
  exact PyProof.Rows.in_str ⟨by rw [PySem.StrLaws.found_one z c], kp_refl _⟩
def doorOk (n s : Int) : Bool := (decide (1 ≤ n) && decide (n ≤ 99)) && (decide (0 ≤ s) && decide (s ≤ n))
/-- an expression that changes nothing: its value -/
def RQ (X : Cx) (env : Env) (m : Str → Option Value) (e : Expr) (v : V) : Prop := ∀ (A : Around) (E : Value → Shared → Prop) (s : Shared) (Q : Value → Shared → Prop), s.heap.Ns env.locals m → Gc X s.heap → (∀ u s', RelV v u → Keeps s s' → Q u s') → wpAny (model X.prog X.w) A (eval e env) Q E s
theorem kp_heap {s s' : Shared} (k : Keeps s s') : ∀ b o, s.heap.get? b = some o → s'.heap.get? b = some o := by
  obtain ⟨h, t, rfl, q⟩ := k
  exact q
theorem kp_tok (s : Shared) (t : Nat) : Keeps s { s with toks := t } := ⟨s.heap, t, rfl, fun _ _ e => e⟩
variable {env : Env} {m : Str → Option Value} {i j k : Int} {e e1 e2 e3 : Expr} {pos p1 p2 : Pos} {v : V} {u : Value} {x : Str}
theorem rq_loc (hk : env.scope.kind = .function) (hx : env.scope.names.lookup x = some .local) (hm : m x = some u) (r : RelV v u) (d : (x == ("__debug__" : Str)) = false := by decide) : RQ X env m (.Name x pos) v := fun A E s Q hn g q =>
  wpAny_Name (wpAny_loadName_local hk hx hn hm (q u s r (kp_refl s))) d
theorem rq_int {kk} : RQ X env m (.Constant (.int i) kk pos) (.int i) := fun A E s Q hn g q => wpAny_Constant_int (q _ _ ⟨_, rfl⟩ (kp_tok s _))
theorem rq_glob (hk : env.scope.kind = .function) (hx : env.scope.names.lookup x = some .globalImplicit) (hg : env.globals = mainGlobals) (hm : X.mg x = some u) (r : RelV v u) (d : (x == ("__debug__" : Str)) = false := by decide) : RQ X env m (.Name x pos) v := fun A E s Q hn g q =>
  Calls.Name_function_global hk hx (Calls.loadGlobal_global (by rw [hg]; exact g.glob) hm (q u s r (kp_refl s))) d
theorem rq_le2 (h1 : RQ X env m e1 (.int i)) (h2 : RQ X env m e2 (.int j)) (h3 : RQ X env m e3 (.int k)) (hm : lastMarks [.LtE, .LtE] [e2, e3] = false := by with_unfolding_all rfl) : RQ X env m (.Compare e1 [.LtE, .LtE] [e2, e3] pos) (.bl (decide (i ≤ j) && decide (j ≤ k))) := fun A E s Q hn g q =>
  Compare_chain (h1 A E s _ hn g fun u1 s1 r1 k1 => chain_link (h2 A E s1 _ (hn.keeps (kp_heap k1)) (g.keeps (kp_heap k1)) fun u2 s2 r2 k2 => by
    obtain ⟨t1, rfl⟩ := r1
    obtain ⟨t2, rfl⟩ := r2
    have k12 := kp_trans k1 k2
    refine le_int (wpAny_truthy_bool ?_)
    cases hb : decide (i ≤ j) with
    | false => exact ite_ff (q _ _ (by rw [hb]; rfl) k12)
    | true =>
      refine ite_tt (chain_last (h3 A E s2 _ (hn.keeps (kp_heap k12)) (g.keeps (kp_heap k12)) fun u3 s3 r3 k3 => ?_))
      obtain ⟨t3, rfl⟩ := r3
      exact le_int (q _ _ (by rw [hb]; rfl) (kp_trans k12 k3)))) hm
theorem rq_and {a b : Bool} {pos : Pos} (h1 : RQ X env m e1 (.bl a)) (h2 : RQ X env m e2 (.bl b)) : RQ X env m (.BoolOp .And [e1, e2] pos) (.bl (a && b)) := fun A E s Q hn g q =>
  BoolOp_and (h1 A E s _ hn g fun u1 s1 r1 k1 => by
    cases r1
    refine wpAny_truthy_bool ?_
    cases a with
    | true => exact BoolOp_one (h2 A E s1 _ (hn.keeps (kp_heap k1)) (g.keeps (kp_heap k1)) fun u2 s2 r2 k2 => q u2 s2 r2 (kp_trans k1 k2))
    | false => exact q _ _ rfl k1)
/-- a call of a def of the module, its body run quietly: f(e) -/
theorem rq_call1 {f : Addr} {fd : FuncData} {st : Stmt} {y : Str} {w' : V} {D U : Nat} {A0 : Around} (F : Fun X.K x x st f fd) (b : Binds X.K fd [y] []) (hm : X.mg x = some (.ref f)) (hnc : ∀ z ∈ (defScope st).names, z.2 ≠ .cell) (hyl : (defScope st).names.lookup y = some .local) : True := trivial
end
end Pd
namespace Pd
open PySem PySem.Spec PyProof.Rows L2
section
variable {X : Cx}
theorem nc_door : ∀ x ∈ (defScope s_is_door).names, x.2 ≠ .cell := by decide +kernel
theorem lc_door {u : Value} : ∀ x ∈ [("door" : Str)].zip ([u] ++ []), (defScope s_is_door).names.lookup x.1 = some .local := fun x hx => by
  have e : x = (("door" : Str), u) := by simpa using hx
  rw [e]; exact (by decide +kernel : (defScope s_is_door).names.lookup ("door" : Str) = some .local)
/-- is_door(door) -/
theorem quiet_isdoor {scope : Scope} {cl : List (Str × Addr)} {P : Addr} {pins : List (Addr × Obj)} {σ : L2.St} {H : Hp} {s1 : Shared} {x : Str} {p1 p2 p3 : Pos} {f : Addr} {fd : FuncData} {i j : Int} {a : Addr} {t1 t2 : Tok} {u3 : Value} {k : Nat}
    (I : Inv X pins σ H s1) (hP : H P ≠ none) (hr : Room k X.A) (B : Bl X.mg) (D : At X.K X.mg "is_door" s_is_door ["door"] f fd)
    (hk : scope.kind = .function) (hx : scope.names.lookup x = some .local) (hy : scope.names.lookup ("is_door" : Str) = some .globalImplicit) (dx : (x == ("__debug__" : Str)) = false)
    (hT : IsTup s1.heap a #[.int i t1, .int j t2, u3]) (haP : a ≠ P) :
    Quiet X scope cl x (.Call (.Name "is_door" p1) [.Name x p2] [] p3) P s1 (.ref a) (doorOk i j) := by
  intro cenv A' E' s₂ m₂ e1 e2 e3 e4 hA hD hU hn hv hkp
  have g := Gc.of I hP hkp
  have hT2 : IsTup s₂.heap a #[.int i t1, .int j t2, u3] := by
    obtain ⟨o, h1, h2⟩ := hT
    exact ⟨o, hkp a o haP h1, h2⟩
  refine wpAny_Call_Name_kw (Calls.Name_function_global (by rw [e1]; exact hk) (show cenv.scope.names.lookup ("is_door" : Str) = _ by rw [e1]; exact hy) (Calls.loadGlobal_global (by rw [e2]; exact g.glob) D.m ?_))
  refine PySem.W.callWith_K g.kin D.F.kp (Calls.spliced_cons (wpAny_Name (wpAny_loadName_local (by rw [e1]; exact hk) (show cenv.scope.names.lookup x = _ by rw [e1]; exact hx) hn hv (Calls.spliced_nil ⟨g.kin, ?_⟩)) dx))
  refine wpAny_call ?_
  obtain ⟨oc, od, kV, doc, pm, an, cdv, ct, osl, efd, lk, hcd⟩ := D.F.ex
  have hb := D.b s₂ [.ref a] g.kin rfl
  subst efd
  refine codeAny_call_def (body := defBody s_is_door) (by have := hr.dp; omega) (g.kin _ _ lk) rfl g.lim (PySem.W.codeRec_of g.kin hcd) rfl hb nc_door lc_door (fun h0 hn0 hk0 => ?_)
  refine wpAny_execs_cons (wpAny_Assign_stores (wpAny_Name (wpAny_loadName_local rfl rfl hn0 rfl ?_)) rfl rfl)
  have hT3 : IsTup h0 a #[.int i t1, .int j t2, u3] := by
    obtain ⟨o, h1, h2⟩ := hT2
    exact ⟨o, hk0 a o h1, h2⟩
  -- need, stands, _ = door
  refine wpAny_mono (show wpAny _ _ (assign _ _ _) (fun _ s3 => ∃ h3 tk m3, s3 = { s₂ with heap := h3, toks := tk } ∧ h3.Ns s₂.heap.objs.size m3 ∧ (∀ b o, s₂.heap.get? b = some o → h3.get? b = some o) ∧ m3 "need" = some (.int i t1) ∧ m3 "stands" = some (.int j t2)) _ _ from assign_Tuple_tuple hA hT3 rfl rfl fun h1 hx1 => ?_) (fun _ s3 ⟨h3, tk, m3, e3, hn3, hk3, hm1, hm2⟩ => ?_) fun _ _ q => q
  · have nl : ∀ b o, s₂.heap.get? b = some o → b ≠ s₂.heap.objs.size := fun b o e => Nat.ne_of_lt (Heap.lt_size e)
    have hk1 : ∀ b o, h0.get? b = some o → h1.get? b = some o := fun b o e => hx1 b o (Nat.ne_of_lt (Heap.lt_size e)) e
    refine assignInOrder_cons (assign_Name (wpAny_storeName_local rfl (hn0.keeps hk1) fun h2 hn2 sb2 => ?_))
    refine assignInOrder_cons (assign_Name (wpAny_storeName_local rfl hn2 fun h3 hn3 sb3 => ?_))
    refine assignInOrder_cons (assign_Name (wpAny_storeName_local rfl hn3 fun h4 hn4 sb4 => ?_))
    refine assignInOrder_nil ⟨h4, _, _, rfl, hn4, fun b o e => ?_, ?_, ?_⟩
    · rw [sb4.2 b (nl b o e), sb3.2 b (nl b o e), sb2.2 b (nl b o e)]
      exact hk1 b o (hk0 b o e)
    · rfl
    · rfl
  · subst e3
    have g3 := g.keeps hk3
    refine wpAny_execs_cons (wpAny_Return_some ?_)
    refine rq_and (X := X) (rq_le2 rq_int (rq_loc rfl rfl hm1 ⟨_, rfl⟩) (rq_glob rfl rfl rfl B.MOST_NEED.choose_spec ⟨_, rfl⟩)) (rq_le2 rq_int (rq_loc rfl rfl hm2 ⟨_, rfl⟩) (rq_loc rfl rfl hm1 ⟨_, rfl⟩)) _ _ _ _ hn3 g3 fun u s' r kp => ?_
    obtain ⟨h', tk', rfl, kq⟩ := kp
    exact ⟨r, h', tk', rfl, fun b o e => kq b o (hk3 b o e)⟩
end
end Pd
namespace Pd
open PySem PySem.Spec PyProof.Rows L2
section
variable {X : Cx}
def ReadyG (X : Cx) (pins : List (Addr × Obj)) (σ : L2.St) (P : Addr) (R : Nat → (Nat → Bool) → Hp → Prop) (gv : Value) (s5 : Shared) : Prop :=
  ∃ (g : Addr) (n : Nat) (pb : Nat → Bool) (H1 : Hp), gv = .ref g ∧ R n pb H1 ∧ ∃ (fp wr : List Addr) (G : Array GenState → Array GenState → Prop) (F : Nat → Value → Prop) (St' : Nat → Shared → Prop), WalksS X.prog X.w X.A.in1 g fp wr G n F St' ∧ St' 0 s5 ∧ TruthOf X.prog X.w X.A.in1 F pb ∧
      ∀ s', Moved wr G s5 s' → ∃ H2, GxR.Tabbed P H1 H2 ∧ Inv X pins σ H2 s'
/-- all(test for x in e), e a text -/
theorem pe_allTx {c P : Addr} {elt iter : Expr} {x : Str} {px p pos gpos : Pos} {scope : Scope} {pb : Nat → Bool} {te : TE} {k : Nat}
    (hr : Room k X.A) (hg : Gl X "all") (hm : X.mg "all" = none) (hb : bootBuiltins "all" = some (.builtin "all")) (TB : GxR.TabB X.base X.mg c P) (hcode : X.env.code = .ref c) (S : GxR.GenS X.env scope x) (hi : PE X iter te)
    (hel : ∀ (pins : List (Addr × Obj)) (σ : L2.St) (H : Hp) (s1 : Shared), Inv X pins σ H s1 → H P ≠ none → ∀ (c : Nat) (t : Tok), Quiet X scope (cloFrom X.env.cells scope.names []) x elt P s1 (.str ⟨#[c]⟩ t) (pb c))
    (hs : ∀ v, genFold iter X.env v = pure v)
    (he : starEach [.GeneratorExp elt [⟨.Name x px, iter, [], 0⟩] scope gpos] X.env = (false, eval (.GeneratorExp elt [⟨.Name x px, iter, [], 0⟩] scope gpos) X.env) :: starEach [] X.env := by rfl) :
    PE X (.Call (.Name "all" p) [.GeneratorExp elt [⟨.Name x px, iter, [], 0⟩] scope gpos] [] pos) (GxR.tAllS P pb te) := by
  refine ⟨fun pins s σ H Q I h => ?_⟩
  refine wpAny_Call_Name_kw (ld_blt I hg hm hb (PyProof.Rows.callWith_builtin1 ?_ he (by rfl)))
  rw [he]
  show wpAny _ _ (spliced ((false, eval (.GeneratorExp elt [⟨.Name x px, iter, [], 0⟩] scope gpos) X.env) :: backTo pos (starEach [] X.env))) _ _ s
  refine Calls.spliced_cons (thn (show wpAny _ _ _ (ReadyG X pins σ P fun n bs H1 => ∀ H2, GxR.Tabbed P H1 H2 → Q (.bl ((List.range n).all bs)) H2) _ s from wpAny_GeneratorExp_walksQD hr.hd S.co (closure_ok S.free) S.cell S.dot S.loc S.kind (by have := hr.dp; omega) ?_ hs) fun gv s5 ⟨g, n, bs, H1, eg, hR, fp, wr, G, F, St', W', hst', htr, hI⟩ => ?_)
  rotate_left
  · subst eg
    refine Calls.spliced_nil (call_all_walkS (W'.self 0 _ _ _ hst' ⟨g, fp, wr, G, _, F, St', _, rfl, W', hst', htr, fun s' hmv => ?_⟩))
    obtain ⟨H2, hT, J⟩ := hI s' hmv
    exact ⟨.bl _, H2, J, rfl, hR H2 hT⟩
  refine thn (hi.run pins s σ H _ I h) fun xv s1 ⟨v, H1, I1, r1, z, ev, ⟨ps, hP, ht⟩, q⟩ => ?_
  subst ev
  obtain ⟨t, rfl⟩ := _root_.id r1
  refine wpAny_pyIter_str fun o St W hst => gen_core (px := px) (fp' := []) (pb := GxR.trF pb z.cps.toList) hr TB hcode S I1 hP ht W hst (fun b hb => nomatch hb) (fun i v hv => ?_) hs fun g s5 hG => ?_
  · obtain ⟨cc, u, hcc, rfl⟩ := hv
    have e9 : z.cps.toList[i]? = some cc := by rw [Array.getElem?_toList]; exact hcc
    rw [GxR.trF_some e9]
    exact hel pins σ H1 s1 I1 (by rw [hP]; simp) cc u
  · exact ⟨g, _, _, H1, rfl, by intro H2 hT; rw [GxR.all_signs z pb]; exact q H2 hT, hG⟩
/-- all(test for x in e), e a tuple -/
def tAllT (K : PySem.W.Frag) (P : Addr) (Pel : V → Hp → Bool → Prop) (te : TE) : TE := fun σ H Q => te σ H fun v H1 => ∃ (a : Addr) (xs : List V) (bs : Nat → Bool), v = .ref a ∧ SqT K H1 a xs ∧ GxR.TabG H1 P ∧ (∀ i x, xs[i]? = some x → Pel x H1 (bs i)) ∧ ∀ H2, GxR.Tabbed P H1 H2 → Q (.bl ((List.range xs.length).all bs)) H2
theorem pe_allTup {c P : Addr} {elt iter : Expr} {x : Str} {px p pos gpos : Pos} {scope : Scope} {Pel : V → Hp → Bool → Prop} {te : TE} {k : Nat}
    (hr : Room k X.A) (hg : Gl X "all") (hm : X.mg "all" = none) (hb : bootBuiltins "all" = some (.builtin "all")) (TB : GxR.TabB X.base X.mg c P) (hcode : X.env.code = .ref c) (S : GxR.GenS X.env scope x) (hi : PE X iter te)
    (hel : ∀ (pins : List (Addr × Obj)) (σ : L2.St) (H : Hp) (s1 : Shared), Inv X pins σ H s1 → (∃ ps, H P = some (.tbl ps)) → ∀ v u b, Pel v H b → RelV v u → Quiet X scope (cloFrom X.env.cells scope.names []) x elt P s1 u b)
    (hs : ∀ v, genFold iter X.env v = pure v)
    (he : starEach [.GeneratorExp elt [⟨.Name x px, iter, [], 0⟩] scope gpos] X.env = (false, eval (.GeneratorExp elt [⟨.Name x px, iter, [], 0⟩] scope gpos) X.env) :: starEach [] X.env := by rfl) :
    PE X (.Call (.Name "all" p) [.GeneratorExp elt [⟨.Name x px, iter, [], 0⟩] scope gpos] [] pos) (tAllT X.K P Pel te) := by
  refine ⟨fun pins s σ H Q I h => ?_⟩
  refine wpAny_Call_Name_kw (ld_blt I hg hm hb (PyProof.Rows.callWith_builtin1 ?_ he (by rfl)))
  rw [he]
  show wpAny _ _ (spliced ((false, eval (.GeneratorExp elt [⟨.Name x px, iter, [], 0⟩] scope gpos) X.env) :: backTo pos (starEach [] X.env))) _ _ s
  refine Calls.spliced_cons (thn (show wpAny _ _ _ (ReadyG X pins σ P fun n bs H1 => ∀ H2, GxR.Tabbed P H1 H2 → Q (.bl ((List.range n).all bs)) H2) _ s from wpAny_GeneratorExp_walksQD hr.hd S.co (closure_ok S.free) S.cell S.dot S.loc S.kind (by have := hr.dp; omega) ?_ hs) fun gv s5 ⟨g, n, bs, H1, eg, hR, fp, wr, G, F, St', W', hst', htr, hI⟩ => ?_)
  rotate_left
  · subst eg
    refine Calls.spliced_nil (call_all_walkS (W'.self 0 _ _ _ hst' ⟨g, fp, wr, G, _, F, St', _, rfl, W', hst', htr, fun s' hmv => ?_⟩))
    obtain ⟨H2, hT, J⟩ := hI s' hmv
    exact ⟨.bl _, H2, J, rfl, hR H2 hT⟩
  refine thn (hi.run pins s σ H _ I h) fun xv s1 ⟨v, H1, I1, r1, a, xs, bs, ev, hq, ⟨ps, hP, ht⟩, hp, q⟩ => ?_
  subst ev
  obtain rfl : xv = Value.ref a := r1
  obtain ⟨its, rv, pt, _⟩ := I1.tuple hq
  have pt' : s1.heap.IsTuple a its.toArray := pt
  have la : a < s1.heap.objs.size := by obtain ⟨_, e, _⟩ := pt'; exact Heap.lt_size e
  have naP : a ≠ P := fun z => by
    have sP : s1.heap.get? P = some { cls := .none, data := .fields ps } := I1.hok P _ hP
    obtain ⟨o, e, e2, _⟩ := pt'
    rw [z, sP] at e; cases e; cases e2
  have hi0 := Heap.get?_push_size s1.heap (o := { cls := .type "tuple_iterator", data := .fields #[.ref a, .int 0 0] }) rfl
  refine wpAny_pyIter_tuple pt' (gen_core (px := px) (fp' := [a]) (n := its.toArray.size) (Pf := fun i v => its.toArray[i]? = some v) (St := fun i h => h.IsTupleIter s1.heap.objs.size a i ∧ h.IsTuple a its.toArray) (pb := bs) hr TB hcode S I1 hP ht
    (fun A' hA => Walks.tuple hA _ a (Nat.ne_of_lt la) its.toArray) ⟨⟨_, hi0, rfl, rfl⟩, pt'.at fun o e => Heap.get?_push_of_some _ e⟩ (fun b hb => ?_) (fun i v hv => ?_) hs fun g s5 hG => ?_)
  · obtain rfl : b = a := by simpa using hb
    exact ⟨la, naP⟩
  · have hv' : its[i]? = some v := by simpa using hv
    have hl : i < xs.length := by rw [rv.length]; exact (List.getElem?_eq_some_iff.mp hv').1
    obtain ⟨u, hu, ru⟩ := rv.get (List.getElem?_eq_getElem hl)
    rw [hv'] at hu; cases hu
    exact hel pins σ H1 s1 I1 ⟨ps, hP⟩ _ v (bs i) (hp i _ (List.getElem?_eq_getElem hl)) ru
  · exact ⟨g, _, _, H1, rfl, by intro H2 hT; rw [List.size_toArray, ← rv.length]; exact q H2 hT, hG⟩
end
end Pd
namespace Pd
open PySem PySem.Spec PyProof.Rows L2
/-! ### defs with tables -/
theorem Gr.tab {T : Tb} {H1 H2 : Hp} {P : Addr} (hT : Tbs T H1) (hP : GxR.TabG H1 P) (hl : ∀ p ∈ T.l, p.1 ≠ P) (t : GxR.Tabbed P H1 H2) : Gr T [] H1 H2 := by
  obtain ⟨ps, h1, _⟩ := hP
  obtain ⟨t1, t2⟩ := t
  have ne : ∀ b o, H1 b = some o → (∀ qs, o ≠ .tbl qs) → b ≠ P := fun b o e q z => by subst z; rw [h1] at e; cases e; exact q ps rfl
  refine ⟨fun b o _ e q => by rw [t2 b (ne b o e q)]; exact e, fun b o e q => by rw [t2 b (ne b o e fun qs z => by subst z; exact q)]; exact e, fun b e => ?_, fun R hR => ?_, fun p hp => ?_⟩
  · by_cases z : b = P
    · subst z; obtain ⟨qs, e2, _⟩ := t1; rw [e2] at e; cases e
    · rw [t2 b z] at e; exact e
  · by_cases z : R = P
    · subst z; exact t1
    · obtain ⟨qs, e, r⟩ := hT.1 R hR
      exact ⟨qs, by rw [t2 R z]; exact e, r⟩
  · obtain ⟨qs, e, r, q⟩ := hT.2 p hp
    refine ⟨qs, by rw [t2 _ (hl p hp)]; exact e, r, fun pos cv hc => ?_⟩
    obtain ⟨c, e1, e2⟩ := q pos cv hc
    exact ⟨c, e1, by rw [t2 c (ne c _ e2 fun qs z => by unfold LamX.CodeO at z; cases z)]; exact e2⟩
structure FunC (K : PySem.W.Frag) (x qual : Str) (st : Stmt) (f : Addr) (fd : FuncData) (c : Addr) : Prop where
  ex : ∃ (oc : Value) (od : Option Addr) (kV doc pm : Value) (an : Option Addr) (ct : Value) (osl : Array (Option Value)),
    fd = PySem.W.fnOf x qual (defArgs st) (defBody st) (defScope st) .none kV doc pm an (.ref c) ct ∧ K.lookup f = some ⟨oc, od, .func fd, osl⟩ ∧ PySem.W.codeIn K (.ref c) qual = true
  kp : PySem.W.keepIn K (.ref f) = true
structure AtC (K : PySem.W.Frag) (mg : Str → Option Value) (x : Str) (st : Stmt) (ps : List Str) (f : Addr) (fd : FuncData) (c : Addr) : Prop where
  F : FunC K x x st f fd c
  b : Binds K fd ps []
  m : mg x = some (.ref f)
section
variable {P : Program} {w : World} {K : PySem.W.Frag} {mg : Str → Option Value} {base : Heap} {x : Str} {st : Stmt} {ps N : List Str} {f c : Addr} {fd : FuncData} {k : Nat} {sp : Sp} {T : Tb}
theorem AtC.ok (a : AtC K mg x st ps f fd c) (G : FnOk P w K mg base CX0 k f fd ps sp) : Ok P w K mg base k x ps sp := ⟨f, fd, G, a.m, a.F.kp, a.b⟩
theorem FunC.ok {qual : Str} (F : FunC K x qual st f fd c) (S : FnScope N ps (defScope st)) (len : ∀ vs H Q E, sp vs H Q E → vs.length = ps.length)
    (hbody : ∀ (A : Around) (outer : List Env) (s : Shared) (H : Hp) (vs : List V) (Q : VK) (E : XK), Room k (A.deeper (envOfC qual (defScope st) s.heap.objs.size f (.ref c))) → sp vs H Q E →
      ∃ t, PSs (cxOf CX0 P w K mg base N qual (defScope st) f (.ref c) A outer s H E).nox (defBody st) t ∧ t { nx := fun _ H' => Q .non H', rt := Q } (start N vs) H) : FnOk P w K mg base CX0 (k + 1) f fd ps sp := by
  obtain ⟨oc, od, kV, doc, pm, an, ct, osl, rfl, lk, hcd⟩ := F.ex
  refine fn_of lk hcd S len fun A outer s H vs Q E hr hsp => ?_
  obtain ⟨t, h, q⟩ := hbody A outer s H vs Q E hr hsp
  exact ⟨t, h.nox, q⟩
theorem okRC {R : List D → D → Prop} (a : AtC K mg x st ps f fd c) (S : FnScope N ps (defScope st)) (hl : ∀ ds d, R ds d → ds.length = ps.length)
    (body : ∀ (A : Around) (outer : List Env) (s : Shared) (H : Hp) (E : XK) (ds : List D) (d : D) (Q : VK), Room k (A.deeper (envOfC x (defScope st) s.heap.objs.size f (.ref c))) → R ds d → Tbs T H → (∀ v H', Gr T [] H H' → Rep K H' d v → Q v H') →
      ∃ t, PSs (cxOf CX0 P w K mg base N x (defScope st) f (.ref c) A outer s H E).nox (defBody st) t ∧ Run K t { nx := fun _ H' => Q .non H', rt := Q } (ds.map (fun d => some (SD.d d)) ++ List.replicate (N.length - ds.length) none) H) : Ok P w K mg base (k + 1) x ps (spR T K R) := by
  refine a.ok (a.F.ok S (fun vs H Q E ⟨ds, d, hR, hr, _⟩ => by rw [hr.len]; exact hl ds d hR) fun A outer s H vs Q E hr ⟨ds, d, hR, rs, hT, q⟩ => ?_)
  obtain ⟨t, h1, h2⟩ := body A outer s H E ds d Q hr hR hT q
  refine ⟨t, h1, h2 _ ?_⟩
  unfold L2.start
  rw [rs.len]
  exact Slots.start _ rs
end
section
variable {T : Tb} {K : PySem.W.Frag} {δ : List (Option SD)} {H : Hp} {te : TE} {P : Addr}
theorem ev_allTx {z : Str} {pb : Nat → Bool} (h : EvD T K te δ H (.str z)) (hP : P ∈ T.g) (hl : ∀ p ∈ T.l, p.1 ≠ P) : EvD T K (GxR.tAllS P pb te) δ H (.bl (z.cps.toList.all pb)) := fun σ H1 g s Q q =>
  h σ H1 g s _ fun v H2 g2 r => ⟨z, r, g2.tbs.1 P hP, fun H3 t => q _ H3 (g2.trans (Gr.tab g2.tbs (g2.tbs.1 P hP) hl t)) rfl⟩
theorem ev_allT {ds : List D} {Pel : V → Hp → Bool → Prop} {bd : D → Bool} (h : EvD T K te δ H (.tup ds)) (hP : P ∈ T.g) (hl : ∀ p ∈ T.l, p.1 ≠ P) (he : ∀ d ∈ ds, ∀ v H1, Rep K H1 d v → Pel v H1 (bd d)) : EvD T K (tAllT K P Pel te) δ H (.bl (ds.all bd)) := fun σ H1 g s Q q =>
  h σ H1 g s _ fun v H2 g2 r => by
    obtain ⟨a, xs, e, hs, rs⟩ := r
    refine ⟨a, xs, fun i => (ds[i]?.map bd).getD true, e, hs, g2.tbs.1 P hP, fun i x hx => ?_, fun H3 t => ?_⟩
    · obtain ⟨d, hd, rd⟩ := rs.got hx
      show Pel x H2 ((Option.map bd ds[i]?).getD true)
      rw [hd]
      exact he d (List.mem_of_getElem? hd) x H2 rd
    · have e2 : (List.range xs.length).all (fun i => (ds[i]?.map bd).getD true) = ds.all bd := by
        rw [rs.len, Bool.eq_iff_iff, List.all_eq_true, List.all_eq_true]
        constructor
        · intro hh d hd
          obtain ⟨i, hi, rfl⟩ := List.getElem_of_mem hd
          have := hh i (List.mem_range.mpr hi)
          simpa [List.getElem?_eq_getElem hi] using this
        · intro hh i hi
          have hi' := List.mem_range.mp hi
          simpa [List.getElem?_eq_getElem hi'] using hh _ (List.getElem_mem hi')
      rw [e2]
      exact q _ H3 (g2.trans (Gr.tab g2.tbs (g2.tbs.1 P hP) hl t)) rfl
end
end Pd
namespace Pd
open PySem PySem.Spec PyProof.Rows L2
/-! ### what may change some lists (those of S, while J stands) and hands back something (p) -/
section
variable (T : Tb) (K : PySem.W.Frag) (S : List Addr) (J : Hp → Prop)
def EvX (te : TE) (δ : List (Option SD)) (H : Hp) (p : D → Prop) : Prop := ∀ σ H1, Gr T S H H1 → J H1 → Slots K H1 δ σ → ∀ Q : VK, (∀ d v H2, p d → Gr T S H1 H2 → J H2 → Rep K H2 d v → Q v H2) → te σ H1 Q
def ExT (tt : TT) (δ : List (Option SD)) (H : Hp) (p : Bool → Prop) : Prop := ∀ σ H1, Gr T S H H1 → J H1 → Slots K H1 δ σ → ∀ Q : Bool → Hp → Prop, (∀ b H2, p b → Gr T S H1 H2 → J H2 → Q b H2) → tt σ H1 Q
def ExA (ta : TA) (δ : List (Option SD)) (H : Hp) (p : List D → Prop) : Prop := ∀ σ H1, Gr T S H H1 → J H1 → Slots K H1 δ σ → ∀ Q : List V → Hp → Prop, (∀ ds vs H2, p ds → Gr T S H1 H2 → J H2 → Reps K H2 ds vs → Q vs H2) → ta σ H1 Q
def ExS (ta : TA) (δ : List (Option SD)) (H : Hp) (p : List SD → Prop) : Prop := ∀ σ H1, Gr T S H H1 → J H1 → Slots K H1 δ σ → ∀ Q : List V → Hp → Prop, (∀ ss vs H2, p ss → Gr T S H1 H2 → J H2 → ArgOk K H2 ss vs → Q vs H2) → ta σ H1 Q
def ExL (te : TE) (δ : List (Option SD)) (H : Hp) (p : List D → Prop) : Prop := ∀ σ H1, Gr T S H H1 → J H1 → Slots K H1 δ σ → ∀ Q : VK, (∀ ds l xs H2, p ds → H1 l = none → Gr T S H1 H2 → J H2 → H2 l = some (.lst xs) → Reps K H2 ds xs → Q (.ref l) H2) → te σ H1 Q
def OpSem (r : R2) (x y d : D) : Prop := ∀ v w H1, Tbs T H1 → Rep K H1 x v → Rep K H1 y w → ∀ Q : VK, (∀ u H2, Gr T [] H1 H2 → Rep K H2 d u → Q u H2) → r v w H1 Q
end
section
variable {T : Tb} {S : List Addr} {J : Hp → Prop} {K : PySem.W.Frag} {δ δ' : List (Option SD)} {H H' : Hp} {ta tb te : TE} {tt : TT} {x y d : D} {i j : Int} {p p1 p2 : D → Prop} {B : Ends} {t u : TS}
theorem EvX.imp (h : EvX T K S J te δ H p) (hp : ∀ d, p d → p1 d) : EvX T K S J te δ H p1 := fun σ H1 g j s Q q => h σ H1 g j s Q fun d v H2 pd => q d v H2 (hp d pd)
theorem EvX.up (h : EvX T K S J te δ H p) (g : Gr T S H H') : EvX T K S J te δ H' p := fun σ H1 a => h σ H1 (g.trans a)
theorem ExS.imp {ta : TA} {p p1 : List SD → Prop} (h : ExS T K S J ta δ H p) (hp : ∀ d, p d → p1 d) : ExS T K S J ta δ H p1 := fun σ H1 g j s Q q => h σ H1 g j s Q fun d v H2 pd => q d v H2 (hp d pd)
def Stays (T : Tb) (J : Hp → Prop) : Prop := ∀ H1 H2, Gr T [] H1 H2 → J H1 → J H2
theorem ex_pure (hJ : Stays T J) (h : ∀ H1, Gr T S H H1 → EvD T K te δ H1 d) : EvX T K S J te δ H (fun z => z = d) := fun σ H1 g j s Q q =>
  h H1 g σ H1 g.self s Q fun v H2 g2 r => q d v H2 rfl g2.any (hJ H1 H2 g2 j) r
theorem ex_op {r : R2} (hJ : Stays T J) (ha : EvX T K S J ta δ H p1) (hb : EvX T K S J tb δ H p2) (hr : ∀ x y, p1 x → p2 y → ∃ d, p d ∧ OpSem T K r x y d) : EvX T K S J (tOp r ta tb) δ H p := fun σ H1 g j s Q q =>
  ha σ H1 g j s _ fun x v H2 px g2 j2 rx => hb σ H2 (g.trans g2) j2 (s.up g2) _ fun y w H3 py g3 j3 ry => by
    obtain ⟨d, pd, op⟩ := hr x y px py
    exact op v w H3 g3.tbs (rx.up g3) ry Q fun u H4 g4 ru => q d u H4 pd ((g2.trans g3).trans g4.any) (hJ H3 H4 g4 j3) ru
theorem os_I0 {g : Int → Int → Int} : OpSem T K (rI0 fun i j => .int (g i j)) (.int i) (.int j) (.int (g i j)) := fun v w H1 hT e1 e2 Q q => ⟨i, j, e1, e2, q _ H1 (Gr.refl hT) rfl⟩
theorem os_I {C : Int → Int → Prop} {g : Int → Int → Int} (hc : C i j) : OpSem T K (rI C fun i j => .int (g i j)) (.int i) (.int j) (.int (g i j)) := fun v w H1 hT e1 e2 Q q => ⟨i, j, e1, e2, hc, q _ H1 (Gr.refl hT) rfl⟩
theorem os_B0 {g : Int → Int → Bool} : OpSem T K (rI0 fun i j => .bl (g i j)) (.int i) (.int j) (.bl (g i j)) := fun v w H1 hT e1 e2 Q q => ⟨i, j, e1, e2, q _ H1 (Gr.refl hT) rfl⟩
theorem os_eqI : OpSem T K rEq (.int i) (.int j) (.bl (decide (i = j))) := fun v w H1 hT e1 e2 Q q => by
  cases (show v = .int i from e1); cases (show w = .int j from e2)
  exact ⟨rfl, by have := q (.bl (decide (i = j))) H1 (Gr.refl hT) rfl; simpa using this⟩
theorem xa_nil : ExA T K S J tNil δ H (fun ds => ds = []) := fun σ H1 g j s Q q => q [] [] H1 rfl g.self j rfl
theorem xa_cons {tr : TA} {pr : List D → Prop} (h : EvX T K S J ta δ H p) (hr : ExA T K S J tr δ H pr) : ExA T K S J (tCons ta tr) δ H (fun ds => ∃ d r, ds = d :: r ∧ p d ∧ pr r) := fun σ H1 g j s Q q =>
  h σ H1 g j s _ fun d v H2 pd g2 j2 r => hr σ H2 (g.trans g2) j2 (s.up g2) _ fun ds vs H3 pds g3 j3 rs => q (d :: ds) (v :: vs) H3 ⟨d, ds, rfl, pd, pds⟩ (g2.trans g3) j3 ⟨v, vs, rfl, r.up g3, rs⟩
theorem xs_nil : ExS T K S J tNil δ H (fun ds => ds = []) := fun σ H1 g j s Q q => q [] [] H1 rfl g.self j rfl
theorem xs_d {tr : TA} {pr : List SD → Prop} (h : EvX T K S J ta δ H p) (hr : ExS T K S J tr δ H pr) : ExS T K S J (tCons ta tr) δ H (fun ds => ∃ d r, ds = .d d :: r ∧ p d ∧ pr r) := fun σ H1 g j s Q q =>
  h σ H1 g j s _ fun d v H2 pd g2 j2 r => hr σ H2 (g.trans g2) j2 (s.up g2) _ fun ds vs H3 pds g3 j3 rs => q (.d d :: ds) (v :: vs) H3 ⟨d, ds, rfl, pd, pds⟩ (g2.trans g3) j3 ⟨v, vs, rfl, Rep.up r g3, rs⟩
theorem xs_v {tr : TA} {pr : List SD → Prop} {v : V} (hJ : Stays T J) (h : ∀ H1, Gr T S H H1 → EvV T K ta δ H1 v) (hr : ExS T K S J tr δ H pr) : ExS T K S J (tCons ta tr) δ H (fun ds => ∃ r, ds = .v v :: r ∧ pr r) := fun σ H1 g j s Q q =>
  h H1 g σ H1 g.self s _ fun H2 g2 => hr σ H2 (g.trans g2.any) (hJ H1 H2 g2 j) (s.up g2) _ fun ds vs H3 pds g3 j3 rs => q (.v v :: ds) (v :: vs) H3 ⟨ds, rfl, pds⟩ (g2.any.trans g3) j3 ⟨v, vs, rfl, rfl, rs⟩
theorem ex_tup {ta : TA} {pa : List D → Prop} (hJ : Stays T J) (h : ExA T K S J ta δ H pa) (hl : ∀ ds, pa ds → ds.length ≤ 100000 ∧ p (.tup ds)) : EvX T K S J (tTup ta) δ H p := fun σ H1 g j s Q q =>
  h σ H1 g j s _ fun ds vs H2 pds g2 j2 rs => ⟨sz (by rw [rs.len]; exact (hl ds pds).1), fun b hb => by
    have gn : Gr T [] H2 (upd H2 b (.tup vs)) := Gr.new g2.tbs hb
    exact q (.tup ds) (.ref b) _ (hl ds pds).2 (g2.trans gn.any) (hJ _ _ gn j2) ⟨b, vs, rfl, .inl (.inl upd_same), rs.up gn⟩⟩
theorem ex_lst {ta : TA} {pa : List D → Prop} (hJ : Stays T J) (h : ExA T K S J ta δ H pa) (hl : ∀ ds, pa ds → ds.length ≤ 100000) : ExL T K S J (tLst ta) δ H pa := fun σ H1 g j s Q q =>
  h σ H1 g j s _ fun ds vs H2 pds g2 j2 rs => ⟨sz (by rw [rs.len]; exact hl ds pds), fun b hb => by
    have gn : Gr T [] H2 (upd H2 b (.lst vs)) := Gr.new g2.tbs hb
    exact q ds b vs _ pds (g2.dom b hb) (g2.trans gn.any) (hJ _ _ gn j2) upd_same (rs.up gn)⟩
theorem ex_ixL {pa : List D → Prop} (ha : ExL T K S J ta δ H pa) (hb : EvX T K S J tb δ H p2) (hr : ∀ ds y, pa ds → p2 y → ∃ i d, y = .int i ∧ atI ds i = some d ∧ p d) (hS : ∀ H1 l, J H1 → l ∈ S → H1 l ≠ none) : EvX T K S J (tOp (rIxL K) ta tb) δ H p := fun σ H1 g j s Q q =>
  ha σ H1 g j s _ fun ds l xs H2 pds nl g2 j2 el rs => hb σ H2 (g.trans g2) j2 (s.up g2) _ fun y w H3 py g3 j3 ry => by
    obtain ⟨i, d, rfl, e, pd⟩ := hr ds y pds py
    obtain ⟨v, hv, rv⟩ := atI_rep (rs.up g3) e
    have nS : l ∉ S := fun z => hS H1 l j z nl
    exact ⟨l, xs, i, v, rfl, ry, .inl (.inl (g3.lst el nS)), hv, q d v H3 pd (g2.trans g3) j3 rv⟩
/-! statements -/
theorem runx_asg {n : Nat} (hT : Tbs T H) (hj : J H) (h : EvX T K S J te δ H p) (k : ∀ d H1, p d → Gr T S H H1 → J H1 → Run K u B (δ.set n (some (.d d))) H1) : Run K (tSeq (tAsg te (gName n)) u) B δ H := fun σ s =>
  h σ H (Gr.refl hT) hj s _ fun d v H1 pd g j r => k d H1 pd g j _ ((s.up g).set n (show SlotOk K H1 (some (.d d)) (some v) from r))
theorem runx_asgG {g : TG} (hT : Tbs T H) (hj : J H) (h : EvX T K S J te δ H p) (k : ∀ d H1, p d → Gr T S H H1 → J H1 → ∃ δ' js, EvG T K g d δ H1 δ' js ∧ Run K u B δ' H1) : Run K (tSeq (tAsg te g) u) B δ H := fun σ s =>
  h σ H (Gr.refl hT) hj s _ fun d v H1 pd g j r => by
    obtain ⟨δ', js, hg, hk⟩ := k d H1 pd g j
    exact hg v σ H1 g.self r (s.up g) _ fun σ' s' _ => hk σ' s'
theorem runx_ret (hT : Tbs T H) (hj : J H) (h : EvX T K S J te δ H p) (k : ∀ d v H1, p d → Gr T S H H1 → J H1 → Rep K H1 d v → B.rt v H1) : Run K (tRet te) B δ H := fun σ s => h σ H (Gr.refl hT) hj s _ k
/-! ### lists by what stands in them -/
/-- a new list of just these -/
def EvN (T : Tb) (K : PySem.W.Frag) (te : TE) (δ : List (Option SD)) (H : Hp) (xs : List V) : Prop := ∀ σ H1, Gr T [] H H1 → Slots K H1 δ σ → ∀ Q : VK, (∀ l H2, H1 l = none → Gr T [] H1 H2 → H2 l = some (.lst xs) → Q (.ref l) H2) → te σ H1 Q
variable {v : V} {l : Addr} {xs ys : List V}
theorem ev_ofV {z : Int} (h : EvV T K te δ H (.int z)) : EvD T K te δ H (.int z) := fun σ H1 g s Q q => h σ H1 g s Q fun H2 g2 => q _ H2 g2 rfl
theorem ev_toV {z : Int} (h : EvD T K te δ H (.int z)) : EvV T K te δ H (.int z) := fun σ H1 g s Q q => h σ H1 g s Q fun v H2 g2 e => by cases (show v = .int z from e); exact q H2 g2
theorem ev_toS {z : Str} (h : EvD T K te δ H (.str z)) : EvV T K te δ H (.str z) := fun σ H1 g s Q q => h σ H1 g s Q fun v H2 g2 e => by cases (show v = .str z from e); exact q H2 g2
theorem ev_ixV (ha : EvV T K ta δ H (.ref l)) (hb : EvD T K tb δ H (.int i)) (hl : H l = some (.lst xs)) (h : atI xs i = some v) : EvV T K (tOp (rIxL K) ta tb) δ H v := fun σ H1 g s Q q =>
  ha σ H1 g s _ fun H2 g2 => hb σ H2 (g.trans g2) (s.up g2) _ fun w H3 g3 e => ⟨l, xs, i, v, rfl, e, .inl (.inl (((g.trans g2).trans g3).lst hl (by simp))), h, q H3 (g2.trans g3)⟩
theorem ev_ixI {z : Int} (ha : EvV T K ta δ H (.ref l)) (hb : EvD T K tb δ H (.int i)) (hl : H l = some (.lst xs)) (h : atI xs i = some (.int z)) : EvD T K (tOp (rIxL K) ta tb) δ H (.int z) := ev_ofV (ev_ixV ha hb hl h)
theorem en_one (h : EvV T K te δ H v) : EvN T K (tLst (tCons te tNil)) δ H [v] := fun σ H1 g s Q q =>
  h σ H1 g s _ fun H2 g2 => ⟨sz (by simp), fun b hb => q b _ (g2.dom b hb) (g2.trans (Gr.new g2.tbs hb)) upd_same⟩
theorem en_cat (ha : EvV T K ta δ H (.ref l)) (hb : EvN T K tb δ H ys) (hl : H l = some (.lst xs)) (hz : xs.length + ys.length ≤ 100000) : EvN T K (tOp rCat ta tb) δ H (xs ++ ys) := fun σ H1 g s Q q =>
  ha σ H1 g s _ fun H2 g2 => hb σ H2 (g.trans g2) (s.up g2) _ fun m H3 nm g3 hm => ⟨l, m, xs, ys, rfl, rfl, ((g.trans g2).trans g3).lst hl (by simp), hm, sz hz, fun b hb => q b _ (g2.dom b (g3.dom b hb)) ((g2.trans g3).trans (Gr.new g3.tbs hb)) upd_same⟩
theorem ev_ixN (ha : EvN T K ta δ H xs) (hb : EvD T K tb δ H (.int i)) (h : atI xs i = some v) : EvV T K (tOp (rIxL K) ta tb) δ H v := fun σ H1 g s Q q =>
  ha σ H1 g s _ fun m H2 nm g2 hm => hb σ H2 (g.trans g2) (s.up g2) _ fun w H3 g3 e => ⟨m, xs, i, v, rfl, e, .inl (.inl (g3.lst hm (by simp))), h, q H3 (g2.trans g3)⟩
theorem run_setL {to ti : TE} {n : Nat} (hT : Tbs T H) (h : EvV T K te δ H v) (ho : EvV T K to δ H (.ref l)) (hi : EvD T K ti δ H (.int i)) (hl : H l = some (.lst xs)) (hx : ixN xs.length i = some n)
    (k : ∀ H1, Gr T [] H H1 → H1 l = some (.lst xs) → Run K u B δ (upd H1 l (.lst (xs.set n v)))) : Run K (tSeq (tAsg te (gSub to ti rSetL)) u) B δ H := fun σ s =>
  h σ H (Gr.refl hT) s _ fun H1 g1 => ho σ H1 g1 (s.up g1) _ fun H2 g2 => hi σ H2 (g1.trans g2) ((s.up g1).up g2) _ fun w H3 g3 e => by
    have g := (g1.trans g2).trans g3
    have hl3 := g.lst hl (by simp)
    have gp : Gr T [l] H3 (upd H3 l (.lst (xs.set n v))) := (Gr.refl g.tbs).put hl3 (.inl (by simp))
    exact ⟨l, xs, i, n, rfl, e, hl3, hx, k H3 g hl3 σ ((s.up g).up gp)⟩
theorem run_app {tl te : TE} (hT : Tbs T H) (hl : EvV T K tl δ H (.ref l)) (h : EvV T K te δ H v) (e : H l = some (.lst xs)) (hz : xs.length < 50000)
    (k : ∀ H1, Gr T [] H H1 → H1 l = some (.lst xs) → Run K u B δ (upd H1 l (.lst (xs ++ [v])))) : Run K (tSeq (tDrop (tBM K "list" rAppend tl (tCons te tNil))) u) B δ H := fun σ s =>
  hl σ H (Gr.refl hT) s _ fun H1 g1 => ⟨.inl ⟨rfl, xs, .inl (.inl (g1.lst e (by simp)))⟩, h σ H1 g1 (s.up g1) _ fun H2 g2 => by
    have g := g1.trans g2
    have hl3 := g.lst e (by simp)
    have gp : Gr T [l] H2 (upd H2 l (.lst (xs ++ [v]))) := (Gr.refl g.tbs).put hl3 (.inl (by simp))
    exact ⟨l, xs, v, rfl, rfl, hl3, Nat.lt_trans hz (by decide), k H2 g hl3 σ ((s.up g).up gp)⟩⟩
/-- a datum is appended -/
theorem run_appD {tl te : TE} (hT : Tbs T H) (hl : EvV T K tl δ H (.ref l)) (h : EvD T K te δ H d) (e : H l = some (.lst xs)) (hz : xs.length < 50000)
    (k : ∀ v H1, Gr T [] H H1 → H1 l = some (.lst xs) → Rep K H1 d v → Run K u B δ (upd H1 l (.lst (xs ++ [v])))) : Run K (tSeq (tDrop (tBM K "list" rAppend tl (tCons te tNil))) u) B δ H := fun σ s =>
  hl σ H (Gr.refl hT) s _ fun H1 g1 => ⟨.inl ⟨rfl, xs, .inl (.inl (g1.lst e (by simp)))⟩, h σ H1 g1 (s.up g1) _ fun v H2 g2 r => by
    have g := g1.trans g2
    have hl3 := g.lst e (by simp)
    have gp : Gr T [l] H2 (upd H2 l (.lst (xs ++ [v]))) := (Gr.refl g.tbs).put hl3 (.inl (by simp))
    exact ⟨l, xs, v, rfl, rfl, hl3, Nat.lt_trans hz (by decide), k v H2 g hl3 r σ ((s.up g).up gp)⟩⟩
theorem Rep.put {o : HO} (h : Rep K H d v) (hl : H l = some (.lst xs)) (hT : Tbs T H) : Rep K (upd H l o) d v := h.up ((Gr.refl (T := T) (S := [l]) hT).put hl (.inl (by simp)))
theorem Reps.put {o : HO} {ds : List D} (h : Reps K H ds ys) (hl : H l = some (.lst xs)) (hT : Tbs T H) : Reps K (upd H l o) ds ys := h.up ((Gr.refl (T := T) (S := [l]) hT).put hl (.inl (by simp)))
theorem Gr.sqL {c : Addr} (g : Gr T [] H H') (h : SqL K H c xs) : SqL K H' c xs := by
  rcases h with (h | ⟨o, h⟩) | h
  · exact .inl (.inl (g.lst h (by simp)))
  · exact .inl (.inr ⟨o, g.fast _ _ h trivial⟩)
  · exact .inr h
/-- a list of ints that stands at c -/
theorem ei_ints {c : Addr} {ns : List Int} {tl : TE} (h : EvV T K tl δ H (.ref c)) (hs : SqL K H c (ns.map V.int)) : EvI T K [] (iList K tl) δ H (ns.map D.int) := fun σ H1 g s R q =>
  h σ H1 g s _ fun H2 g2 => by
    have hs2 := g2.sqL (g.sqL hs)
    refine ⟨c, rfl, ⟨_, hs2⟩, q _ H2 g2 ?_⟩
    rw [List.length_map, ← List.length_map (f := V.int)]
    refine (walk_list (K := K) (a := c) (xs := ns.map V.int)).mono (fun H' g' => g'.sqL hs2) fun i Ha x Hb hi g' y => ?_
    obtain ⟨e1, e2⟩ := y
    subst e1
    rw [List.getElem?_map] at e2
    cases e : ns[i]? with
    | none => rw [e] at e2; cases e2
    | some n => rw [e] at e2; cases e2; exact ⟨g'.self, .int n, by rw [List.getElem?_map, e]; rfl, rfl⟩
def rListOf (K : PySem.W.Frag) : List V → Hp → VK → Prop := fun xs H Q => ∃ p ys, xs = [.ref p] ∧ (SqL K H p ys ∨ SqT K H p ys) ∧ ∀ l, H l = none → Q (.ref l) (upd H l (.lst ys))
theorem cr_list {X : Cx} : CallR X (.type "list") (rListOf X.K) := call_list_of
theorem ext_test {pb : Bool → Prop} (h : EvX T K S J te δ H p) (hp : ∀ d, p d → ∃ b, d = .bl b ∧ pb b) : ExT T K S J (tTest te) δ H pb := fun σ H1 g j s Q q => h σ H1 g j s _ fun d v H2 pd g2 j2 r => by
  obtain ⟨b, rfl, pb⟩ := hp d pd
  exact ⟨b, r, q b H2 pb g2 j2⟩
theorem ex_if {pb : Bool → Prop} (h : ExT T K S J tt δ H pb) (h1 : EvX T K S J ta δ H p) (h2 : EvX T K S J tb δ H p) : EvX T K S J (tIf tt ta tb) δ H p := fun σ H1 g j s Q q => h σ H1 g j s _ fun b H2 _ g2 j2 => by
  cases b with
  | true => exact (show ta σ H2 Q from h1 σ H2 (g.trans g2) j2 (s.up g2) Q fun d v H3 pd g3 j3 r => q d v H3 pd (g2.trans g3) j3 r)
  | false => exact (show tb σ H2 Q from h2 σ H2 (g.trans g2) j2 (s.up g2) Q fun d v H3 pd g3 j3 r => q d v H3 pd (g2.trans g3) j3 r)
theorem ex_min2 {ta tb : TE} (hJ : Stays T J) (ha : EvX T K S J ta δ H p1) (hb : EvX T K S J tb δ H p2) (hr : ∀ x y, p1 x → p2 y → ∃ i j, x = .int i ∧ y = .int j ∧ p (.int (min i j))) : EvX T K S J (tCB rMin2 (tCons ta (tCons tb tNil))) δ H p := fun σ H1 g j s Q q =>
  ha σ H1 g j s _ fun x v H2 px g2 j2 rx => hb σ H2 (g.trans g2) j2 (s.up g2) _ fun y w H3 py g3 j3 ry => by
    obtain ⟨i, k, rfl, rfl, pm⟩ := hr x y px py
    cases (show v = .int i from rx); cases (show w = .int k from ry)
    refine ⟨i, k, rfl, ?_⟩
    have e : (if k < i then k else i) = min i k := by omega
    rw [e]; exact q _ _ H3 pm (g2.trans g3) j3 rfl
theorem Gr.drop {l : Addr} (a : Gr T S H H') {H2 : Hp} (b : Gr T (l :: S) H' H2) (h : H l = none) : Gr T S H H2 :=
  ⟨fun c o n e q => by
      have nc : c ≠ l := fun z => by subst z; rw [h] at e; cases e
      exact b.keep c o (fun z => (List.mem_cons.mp z).elim nc n) (a.keep c o n e q) q,
    fun c o e q => b.fast c o (a.fast c o e q) q, fun c e => a.dom c (b.dom c e), b.tbs⟩
end
end Pd
namespace Pd
open PySem L2
/-! ### houses -/
mutual
inductive House where
  | out (n : Str)
  | room (hand : Int) (ds : Doors)
inductive Doors where
  | nil
  | cons (need stands : Int) (h : House) (r : Doors)
end
mutual
def House.toD : House → D
  | .out n => .str n
  | .room hand ds => .tup [.int hand, .tup ds.toDs]
def Doors.toDs : Doors → List D
  | .nil => []
  | .cons need stands h r => .tup [.int need, .int stands, h.toD] :: r.toDs
end
def Doors.len : Doors → Nat
  | .nil => 0
  | .cons _ _ _ r => r.len + 1
def Doors.app : Doors → Doors → Doors
  | .nil, b => b
  | .cons n s h r, b => .cons n s h (r.app b)
theorem Doors.toDs_app : ∀ a b : Doors, (a.app b).toDs = a.toDs ++ b.toDs
  | .nil, b => by simp [Doors.app, Doors.toDs]
  | .cons n s h r, b => by simp [Doors.app, Doors.toDs, Doors.toDs_app r b]
theorem Doors.len_app : ∀ a b : Doors, (a.app b).len = a.len + b.len
  | .nil, b => by simp [Doors.app, Doors.len]
  | .cons n s h r, b => by simp only [Doors.app, Doors.len, Doors.len_app r b]; omega
theorem Doors.toDs_len : ∀ a : Doors, a.toDs.length = a.len
  | .nil => rfl
  | .cons _ _ _ r => by simp [Doors.toDs, Doors.len, Doors.toDs_len r]
/-- a name that a way out may have -/
def okName (n : Str) : Prop := 1 ≤ n.length ∧ n.length ≤ 6 ∧ ∀ c ∈ n.cps.toList, 97 ≤ c ∧ c ≤ 122
instance (n : Str) : Decidable (okName n) := by unfold okName; infer_instance
mutual
def House.many : House → Nat
  | .out _ => 0
  | .room _ ds => ds.many
def Doors.many : Doors → Nat
  | .nil => 0
  | .cons _ _ h r => 1 + h.many + r.many
end
mutual
def House.ok : House → Prop
  | .out n => okName n
  | .room hand ds => 0 ≤ hand ∧ hand < ds.len ∧ ds.len ≤ 4 ∧ ds.ok
def Doors.ok : Doors → Prop
  | .nil => True
  | .cons need stands h r => 1 ≤ need ∧ need ≤ 99 ∧ 0 ≤ stands ∧ stands ≤ need ∧ h.ok ∧ r.ok
end
mutual
def House.deep : House → Nat
  | .out _ => 0
  | .room _ ds => ds.deep + 1
def Doors.deep : Doors → Nat
  | .nil => 0
  | .cons _ _ h r => max h.deep r.deep
end
theorem Doors.ok_app : ∀ a b : Doors, a.ok → b.ok → (a.app b).ok
  | .nil, b, _, h => h
  | .cons n s h r, b, ⟨h1, h2, h3, h4, h5, h6⟩, hb => ⟨h1, h2, h3, h4, h5, Doors.ok_app r b h6 hb⟩
theorem Doors.many_app : ∀ a b : Doors, (a.app b).many = a.many + b.many
  | .nil, b => by simp [Doors.app, Doors.many]
  | .cons n s h r, b => by simp only [Doors.app, Doors.many, Doors.many_app r b]; omega
theorem Doors.len_le : ∀ a : Doors, a.len ≤ a.many
  | .nil => Nat.le_refl _
  | .cons _ _ h r => by have := Doors.len_le r; simp only [Doors.len, Doors.many]; omega
mutual
theorem House.deep_le : ∀ h : House, h.ok → h.deep ≤ h.many
  | .out _, _ => Nat.le_refl _
  | .room hand .nil, ⟨h0, h1, _⟩ => by exfalso; simp [Doors.len] at h1; omega
  | .room hand (.cons n s h r), ⟨h0, h1, h2, h3⟩ => by
    have := Doors.deep_le (.cons n s h r) h3
    simp only [House.deep, House.many, Doors.deep, Doors.many] at this ⊢
    have a := House.deep_le h h3.2.2.2.2.1
    have b := Doors.deep_le r h3.2.2.2.2.2
    omega
theorem Doors.deep_le : ∀ ds : Doors, ds.ok → ds.deep ≤ ds.many
  | .nil, _ => Nat.le_refl _
  | .cons n s h r, h3 => by
    have a := House.deep_le h h3.2.2.2.2.1
    have b := Doors.deep_le r h3.2.2.2.2.2
    simp only [Doors.deep, Doors.many]
    omega
end
/-- the i-th -/
def Doors.get? : Doors → Nat → Option (Int × Int × House)
  | .nil, _ => none
  | .cons n s h _, 0 => some (n, s, h)
  | .cons _ _ _ r, i + 1 => r.get? i
theorem Doors.get_some : ∀ (ds : Doors) (i : Nat), i < ds.len → ∃ n s h, ds.get? i = some (n, s, h)
  | .nil, _, h => absurd h (Nat.not_lt_zero _)
  | .cons n s h _, 0, _ => ⟨n, s, h, rfl⟩
  | .cons _ _ _ r, i + 1, h => Doors.get_some r i (Nat.lt_of_succ_lt_succ h)
theorem Doors.get_toDs : ∀ (ds : Doors) (i : Nat), ds.toDs[i]? = (ds.get? i).map fun x => .tup [.int x.1, .int x.2.1, x.2.2.toD]
  | .nil, _ => by simp [Doors.toDs, Doors.get?]
  | .cons n s h _, 0 => rfl
  | .cons _ _ _ r, i + 1 => by simpa [Doors.toDs, Doors.get?] using Doors.get_toDs r i
theorem Doors.get_ok : ∀ (ds : Doors) (i : Nat) {n s : Int} {h : House}, ds.ok → ds.get? i = some (n, s, h) → 1 ≤ n ∧ n ≤ 99 ∧ 0 ≤ s ∧ s ≤ n ∧ h.ok
  | .nil, _, _, _, _, _, e => nomatch e
  | .cons _ _ _ _, 0, _, _, _, ⟨h1, h2, h3, h4, h5, _⟩, e => by cases e; exact ⟨h1, h2, h3, h4, h5⟩
  | .cons _ _ _ r, i + 1, _, _, _, ⟨_, _, _, _, _, h6⟩, e => Doors.get_ok r i h6 e
theorem Doors.get_deep : ∀ (ds : Doors) (i : Nat) {n s : Int} {h : House}, ds.get? i = some (n, s, h) → h.deep ≤ ds.deep
  | .nil, _, _, _, _, e => nomatch e
  | .cons _ _ h r, 0, _, _, _, e => by cases e; exact Nat.le_max_left _ _
  | .cons _ _ h r, i + 1, _, _, _, e => Nat.le_trans (Doors.get_deep r i e) (Nat.le_max_right _ _)
/-- another one there -/
def Doors.set : Doors → Nat → Int → Int → House → Doors
  | .nil, _, _, _, _ => .nil
  | .cons _ _ _ r, 0, n, s, h => .cons n s h r
  | .cons a b c r, i + 1, n, s, h => .cons a b c (r.set i n s h)
theorem Doors.toDs_set : ∀ (ds : Doors) (i : Nat) (n s : Int) (h : House), (ds.set i n s h).toDs = ds.toDs.set i (.tup [.int n, .int s, h.toD])
  | .nil, _, _, _, _ => rfl
  | .cons _ _ _ _, 0, _, _, _ => rfl
  | .cons _ _ _ r, i + 1, n, s, h => by simp [Doors.set, Doors.toDs, Doors.toDs_set r i n s h]
theorem Doors.len_set : ∀ (ds : Doors) (i : Nat) (n s : Int) (h : House), (ds.set i n s h).len = ds.len
  | .nil, _, _, _, _ => rfl
  | .cons _ _ _ _, 0, _, _, _ => rfl
  | .cons _ _ _ r, i + 1, n, s, h => by simp [Doors.set, Doors.len, Doors.len_set r i n s h]
end Pd
namespace Pd
open PySem PySem.Spec PyProof.Rows L2
section
variable {P : Program} {w : World} {K : PySem.W.Frag} {mg : Str → Option Value} {base : Heap} {T : Tb} {f : Addr} {fd : FuncData}
theorem genS_by {env : Env} {scope : Scope} {x : Str} (h1 : scope.kind = .function) (h2 : scope.isCoroutine = false) (h3 : (scope.names.all fun y => !decide (y.2 = .cell) && !decide (y.2 = .free)) = true) (h4 : scope.names.lookup (".0" : Str) = some NameKind.local) (h5 : scope.names.lookup x = some .local) : GxR.GenS env scope x := by
  simp only [List.all_eq_true, Bool.and_eq_true, Bool.not_eq_true', decide_eq_false_iff_not] at h3
  exact ⟨h1, h2, fun y hy => (h3 y hy).1, h4, h5, fun y hy e => absurd e (h3 y hy).2⟩
def RWay (ds : List D) (d : D) : Prop := ∃ x, ds = [x] ∧ d = .bl (isStr x)
theorem ok_way (B : Bl mg) (a : At K mg "is_way_out" s_is_way_out ["room"] f fd) : Ok P w K mg base 1 "is_way_out" ["room"] (spR T K RWay) := by
  refine okR a sc_is_way_out (fun ds d ⟨_, e, _⟩ => by rw [e]; rfl) fun cdv A outer s H E ds d Q hr hR hT q => ⟨_, (pss_one (ps_ret (pe_callB call_isi (by rfl) B.isinstance (by decide +kernel) (pa_cons (pv 0) (pa_cons (pe_bltn (v := .ty "str") (by rfl) B.str (by decide +kernel) rfl) pa_nil))))), ?_⟩
  obtain ⟨x, rfl, rfl⟩ := hR
  exact run_ret hT (ev_isStr (ev_var rfl)) q
theorem letters_eq : ("abcdefghijklmnopqrstuvwxyz" : Str).cps.toList = List.range' 97 26 := by decide +kernel
theorem okName.all {z : Str} (h : okName z) : z.cps.toList.all (fun c => decide (c ∈ ("abcdefghijklmnopqrstuvwxyz" : Str).cps.toList)) = true := by
  rw [List.all_eq_true]
  intro c hc
  obtain ⟨h1, h2⟩ := h.2.2 c hc
  rw [letters_eq, decide_eq_true_eq, List.mem_range'_1]
  omega
def RName (ds : List D) (d : D) : Prop := ∃ z, ds = [.str z] ∧ okName z ∧ d = .bl true
theorem ok_isname {c Pt : Addr} (B : Bl mg) (TB : GxR.TabB base mg c Pt) (hP : Pt ∈ T.g) (hl : ∀ p ∈ T.l, p.1 ≠ Pt) (a : AtC K mg "is_name" s_is_name ["text"] f fd c) : Ok P w K mg base 1 "is_name" ["text"] (spR T K RName) := by
  refine okRC a sc_is_name (fun ds d ⟨_, e, _⟩ => by rw [e]; rfl) fun A outer s H E ds d Q hr hR hT q => ⟨_, (pss_one (ps_ret (pe_and (pe_chain op_le op_le pe_int (pe_callB cr_lenS (by rfl) B.len (by decide +kernel) (pa_cons (pv 0) pa_nil)) (pe_cstI (by rfl) B.LONGEST_NAME)) (pe_one
    (pe_allTx hr (by rfl) B.all (by decide +kernel) TB rfl (genS_by rfl rfl (by decide +kernel) rfl rfl) (pv 0) (fun pins σ H s1 I hP cc t => quiet_letter I hP rfl rfl rfl B.LETTERS (by decide) (by decide) cc t) (fun _ => rfl)))))), ?_⟩
  obtain ⟨z, rfl, hz, rfl⟩ := hR
  refine run_ret hT ((ev_andV (ev_chain ev_int (ev_lenS (ev_var rfl) (by have := hz.2.1; omega)) ev_int) fun _ => ev_allTx (ev_var rfl) hP hl).is ?_) q
  rw [hz.all]
  have h1 := hz.1
  have h2 := hz.2.1
  simp
  omega
end
end Pd
namespace Pd
open PySem PySem.Spec PyProof.Rows L2
section
variable {T : Tb} {S : List Addr} {K : PySem.W.Frag} {δ δ' : List (Option SD)} {H H' : Hp} {te to tb : TE} {u : TS} {B : Ends} {d : D} {l : Addr} {xs : List V} {js : List Nat}
/-- is a list empty -/
theorem et_truL (h : EvV T K te δ H (.ref l)) (e : H l = some (.lst xs)) : EvT T K (fun σ H Q => te σ H fun x H' => ∃ k, TruV K x H' k ∧ Q k H') δ H (!xs.isEmpty) := fun σ H1 g s Q q =>
  h σ H1 g s _ fun H2 g2 => ⟨_, .inl ⟨xs, .inl (.inl (g2.lst (g.lst e (by simp)) (by simp))), rfl⟩, q H2 g2⟩
/-- target = list.pop() -/
theorem run_popG {g : TG} {y : V} (hT : Tbs T H) (ho : EvV T K to δ H (.ref l)) (e : H l = some (.lst (xs ++ [y]))) (r : Rep K H d y) (hg : ∀ H1, EvG T K g d δ H1 δ' js)
    (k : ∀ H1, Gr T [] H H1 → H1 l = some (.lst (xs ++ [y])) → Run K u B δ' (upd H1 l (.lst xs))) : Run K (tSeq (tAsg (tBM0 K "list" rPop to) g) u) B δ H := fun σ s =>
  ho σ H (Gr.refl hT) s _ fun H1 g1 => by
    have el := g1.lst e (by simp)
    have gp : Gr T [l] H1 (upd H1 l (.lst xs)) := (Gr.refl g1.tbs).put el (.inl (by simp))
    refine ⟨.inl ⟨rfl, _, .inl (.inl el)⟩, l, _, y, rfl, rfl, el, by simp, ?_⟩
    rw [List.dropLast_concat]
    exact hg _ y σ _ (Gr.refl gp.tbs) ((r.up g1).up gp) ((s.up g1).up gp) _ fun σ' s' _ => k H1 g1 el σ' s'
/-- a.extend(b[::-1]) -/
theorem run_extR {b : Addr} {ys : List V} (hT : Tbs T H) (ho : EvV T K to δ H (.ref l)) (hb : EvV T K tb δ H (.ref b)) (e : H l = some (.lst xs)) (e2 : H b = some (.lst ys)) (hz : xs.length + ys.length ≤ 50000)
    (k : ∀ H1, Gr T [] H H1 → H1 l = some (.lst xs) → Run K u B δ (upd H1 l (.lst (xs ++ ys.reverse)))) : Run K (tSeq (tDrop (tBM K "list" rExtend to (tCons (tRevL K tb) tNil))) u) B δ H := fun σ s =>
  ho σ H (Gr.refl hT) s _ fun H1 g1 => ⟨.inl ⟨rfl, _, .inl (.inl (g1.lst e (by simp)))⟩, hb σ H1 g1 (s.up g1) _ fun H2 g2 => ⟨b, ys, rfl, .inl (.inl ((g1.trans g2).lst e2 (by simp))), fun p hp => by
    have gn : Gr T [] H2 (upd H2 p (.lst ys.reverse)) := Gr.new g2.tbs hp
    have g := (g1.trans g2).trans gn
    have el := g.lst e (by simp)
    have gp : Gr T [l] (upd H2 p (.lst ys.reverse)) (upd (upd H2 p (.lst ys.reverse)) l (.lst (xs ++ ys.reverse))) := (Gr.refl g.tbs).put el (.inl (by simp))
    exact ⟨l, p, xs, ys.reverse, rfl, rfl, el, upd_same, by rw [List.length_reverse]; exact Nat.le_trans hz (by decide), k _ g el σ ((s.up g).up gp)⟩⟩⟩
end
end Pd
namespace Pd
open PySem PySem.Spec PyProof.Rows L2
/-! ### rules whose readings name K itself (for blocks of comprehensions) -/
section
variable {X : Cx} {K : PySem.W.Frag}
theorem pgTup {es : List Expr} {k n : Nat} {t : TGs} {pos : Pos} (h : PGs X es t) (hK : X.K = K := by rfl) (hc : X.calm = true := by rfl)
    (hn : (assignEach es X.env).length = n := by rfl) (hst : (assignEach es X.env).findIdx? (·.1) = none := by rfl) : PG X (.Tuple es k pos) (gTup K n t) := hK ▸ pg_tup hc h hn hst
theorem pgUnl {es : List Expr} {k n : Nat} {t : TGs} {pos : Pos} (h : PGs X es t) (hK : X.K = K := by rfl) (hc : X.calm = true := by rfl)
    (hn : (assignEach es X.env).length = n := by rfl) (hst : (assignEach es X.env).findIdx? (·.1) = none := by rfl) : PG X (.Tuple es k pos) (gUnl K n t) := hK ▸ pg_unl hc h hn hst
theorem ixTup (hK : X.K = K := by rfl) : IxR X (rIxT K) := hK ▸ ix_tup
theorem ixLst (hK : X.K = K := by rfl) : IxR X (rIxL K) := hK ▸ ix_list
theorem catA (hK : X.K = K := by rfl) : OpR X (binaryOp .Add) (rCatA K) := hK ▸ op_catA
theorem slTup (hK : X.K = K := by rfl) : SlR X (rSlA K) := hK ▸ sl_tupA
theorem crLen (hK : X.K = K := by rfl) : CallR X (.builtin "len") (rLenS K) := hK ▸ cr_len
theorem crIsi (hK : X.K = K := by rfl) : CallR X (.builtin "isinstance") (rIsi K) := hK ▸ call_isi
theorem crTup (hK : X.K = K := by rfl) : CallR X (.type "tuple") (rTupOf K) := hK ▸ cr_tup
theorem crLst (hK : X.K = K := by rfl) : CallR X (.type "list") (rListOf K) := hK ▸ cr_list
theorem piTup {tg l : Expr} {tl : TE} (hl : PE X l tl) (hK : X.K = K := by rfl) : PI X tg l (iTup K tl) := hK ▸ pi_tup hl
theorem piLst {tg l : Expr} {tl : TE} (hl : PE X l tl) (hK : X.K = K := by rfl) : PI X tg l (iList K tl) := hK ▸ pi_list hl
end
end Pd
namespace Pd
open PySem PySem.Spec PyProof.Rows L2
theorem House.isStr_out (n : Str) : isStr (House.out n).toD = true := rfl
theorem House.isStr_room (hand : Int) (ds : Doors) : isStr (House.room hand ds).toD = false := rfl
/-- the rooms behind a room, with their paths -/
def Doors.behind (p : List D) : Doors → Nat → List (List D × House)
  | .nil, _ => []
  | .cons _ _ h r, k => (p ++ [.int (k : Nat)], h) :: r.behind p (k + 1)
def House.behind (p : List D) : House → List (List D × House)
  | .out _ => []
  | .room _ ds => ds.behind p 0
def toPend (x : List D × House) : D := .tup [.tup x.1, x.2.toD]
theorem Doors.behind_get (p : List D) : ∀ (ds : Doors) (k i : Nat), (ds.behind p k)[i]? = (ds.get? i).map fun x => (p ++ [.int ((k + i : Nat) : Int)], x.2.2)
  | .nil, _, _ => by simp [Doors.behind, Doors.get?]
  | .cons n s h r, k, 0 => rfl
  | .cons n s h r, k, i + 1 => by
    show (r.behind p (k + 1))[i]? = _
    rw [Doors.behind_get p r (k + 1) i, show k + 1 + i = k + (i + 1) by omega]; rfl
theorem Doors.behind_len (p : List D) : ∀ (ds : Doors) (k : Nat), (ds.behind p k).length = ds.len
  | .nil, _ => rfl
  | .cons _ _ _ r, k => congrArg (· + 1) (Doors.behind_len p r (k + 1))
section
variable {P : Program} {w : World} {K : PySem.W.Frag} {mg : Str → Option Value} {base : Heap} {T : Tb} {f : Addr} {fd : FuncData}
def RCan (ds : List D) (d : D) : Prop := ∃ h : House, ds = [h.toD] ∧ h.ok ∧ d = .bl true
/-- what is_door is asked of -/
def PelDoor (K : PySem.W.Frag) (v : V) (H : Hp) (b : Bool) : Prop := ∃ (a : Addr) (n s : Int) (r : V), v = .ref a ∧ SqT K H a [.int n, .int s, r] ∧ b = doorOk n s
def bdDoor : D → Bool
  | .tup [.int n, .int s, _] => doorOk n s
  | _ => false
theorem Doors.all_ok : ∀ ds : Doors, ds.ok → ds.toDs.all bdDoor = true
  | .nil, _ => by simp [Doors.toDs]
  | .cons n s h r, ⟨h1, h2, h3, h4, _, h6⟩ => by
    simp only [Doors.toDs, List.all_cons, Bool.and_eq_true]
    refine ⟨?_, Doors.all_ok r h6⟩
    show doorOk n s = true
    unfold doorOk
    simp [h1, h2, h3, h4]
theorem Doors.mem_toDs : ∀ (ds : Doors) (d : D), d ∈ ds.toDs → ∃ n s r, d = .tup [.int n, .int s, r]
  | .nil, d, h => by simp [Doors.toDs] at h
  | .cons n s h r, d, hd => by
    simp only [Doors.toDs, List.mem_cons] at hd
    rcases hd with rfl | hd
    · exact ⟨n, s, _, rfl⟩
    · exact Doors.mem_toDs r d hd
theorem ok_canbe {c Pt : Addr} {fdoor : Addr} {fddoor : FuncData} (B : Bl mg) (TB : GxR.TabB base mg c Pt) (hP : Pt ∈ T.g) (hl : ∀ p ∈ T.l, p.1 ≠ Pt) (a : AtC K mg "can_be" s_can_be ["room"] f fd c) (Dr : At K mg "is_door" s_is_door ["door"] fdoor fddoor)
    (G_is_way_out : Ok P w K mg base 1 "is_way_out" ["room"] (spR T K RWay)) (G_is_name : Ok P w K mg base 1 "is_name" ["text"] (spR T K RName)) : Ok P w K mg base 2 "can_be" ["room"] (spR T K RCan) := by
  refine okRC a sc_can_be (fun ds d ⟨_, e, _⟩ => by rw [e]; rfl) fun A outer s H E ds d Q hr hR hT q => ⟨_, (pss_cons (ps_if (pt_val (pe_own G_is_way_out hr (by decide) (by rfl) (pa_cons (pv 0) pa_nil))) (pss_one (ps_ret (pe_own G_is_name hr (by decide) (by rfl) (pa_cons (pv 0) pa_nil)))) pss_nil)
    (pss_cons (ps_asg (pv 0) (pg_tup rfl (pgs_cons (pg_name (i := 1) sc_can_be.nd rfl (Or.inl rfl)) (pgs_cons (pg_name (i := 2) sc_can_be.nd rfl (Or.inl rfl)) pgs_nil))))
    (pss_cons (ps_if (PW.pt (pw_or (pt_not (pt_chain op_le op_le pe_int (pe_callB cr_len (by rfl) B.len (by decide +kernel) (pa_cons (pv 2) pa_nil)) (pe_cstI (by rfl) B.MOST_DOORS_OF_A_ROOM))) (pw_or1 (pt_not (pt_chain op_le op_lt pe_int (pv 1) (pe_callB cr_len (by rfl) B.len (by decide +kernel) (pa_cons (pv 2) pa_nil))))))) (pss_one (ps_ret pe_bl)) pss_nil)
    (pss_one (ps_ret (pe_allTup (Pel := PelDoor K) hr (by rfl) B.all (by decide +kernel) TB rfl (genS_by rfl rfl (by decide +kernel) rfl rfl) (pv 2) (fun pins σ H s1 I hPt v u b hv ru => by
      obtain ⟨aa, n, ss, r, rfl, hq, rfl⟩ := hv
      obtain ⟨its, rv, pt, _⟩ := I.tuple hq
      cases rv with
      | cons r1 rv => cases rv with
        | cons r2 rv => cases rv with
          | cons r3 rv =>
            cases rv
            obtain ⟨t1, rfl⟩ := r1
            obtain ⟨t2, rfl⟩ := r2
            obtain rfl : u = Value.ref aa := ru
            obtain ⟨ps, hP2⟩ := hPt
            refine quiet_isdoor I (by rw [hP2]; simp) hr B Dr rfl rfl rfl (by decide) pt fun z => ?_
            have sP : s1.heap.get? Pt = some { cls := .none, data := .fields ps } := I.hok Pt _ hP2
            obtain ⟨o, e, e2, _⟩ := pt
            rw [z, sP] at e; cases e; cases e2) (fun _ => rfl))))))), ?_⟩
  obtain ⟨h, rfl, hok, rfl⟩ := hR
  cases h with
  | out n =>
    exact run_when hT (et_B (ev_call (ea_cons (ev_var rfl) ea_nil) ⟨_, rfl, rfl⟩)) (fun _ H1 g1 => run_ret g1.tbs (ev_call (ea_cons (ev_var rfl) ea_nil) ⟨n, rfl, hok, rfl⟩) fun v H2 g2 r => q v H2 (g1.trans g2) r) fun e => nomatch e
  | room hand ds =>
    obtain ⟨h0, h1, h2, h3⟩ := hok
    refine run_when hT (et_B (ev_call (ea_cons (ev_var rfl) ea_nil) ⟨_, rfl, rfl⟩)) (fun e => nomatch e) fun _ H1 g1 => ?_
    refine run_asgG g1.tbs (ev_var rfl) (fun H1 g1 => eg_tup rfl (eg_cons eg_name (eg_cons eg_name eg_nil))) fun H2 g2 => ?_
    have len1 : 1 ≤ ds.len := by omega
    refine run_when g2.tbs ((et_or (a := false) ((et_not (et_test (ev_chain ev_int (ev_lenT (ev_var rfl)) ev_int))).is (by rw [Doors.toDs_len]; simp; omega)) fun _ => (et_not (et_test (ev_chain ev_int (ev_var rfl) (ev_lenT (ev_var rfl))))).is (b := _) (c := false) (by rw [Doors.toDs_len]; simp; omega))) (fun e => nomatch e) fun _ H3 g3 => ?_
    refine run_ret g3.tbs ((ev_allT (bd := bdDoor) (ev_var rfl) hP hl fun d hd v H4 r => ?_).is (by rw [Doors.all_ok ds h3])) fun v H4 g4 r => q v H4 (((g1.trans g2).trans g3).trans g4) r
    obtain ⟨n, s, r', rfl⟩ := Doors.mem_toDs ds d hd
    obtain ⟨aa, xs, e, hs, x1, l1, e1, r1, x2, l2, e2, r2, x3, l3, e3, r3, e4⟩ := r
    cases (show x1 = _ from r1); cases (show x2 = _ from r2); cases (show l3 = [] from e4)
    subst e1; subst e2; subst e3
    exact ⟨aa, n, s, x3, e, hs, rfl⟩
def RBehind (ds : List D) (es : List D) : Prop := ∃ (h : House) (p : List D), ds = [h.toD, .tup p] ∧ h.ok ∧ p.length ≤ 100 ∧ es = (h.behind p).map toPend
theorem ok_behind (B : Bl mg) (a : At K mg "rooms_behind" s_rooms_behind ["room", "path"] f fd) (G_is_way_out : Ok P w K mg base 1 "is_way_out" ["room"] (spR T K RWay)) : Ok P w K mg base 2 "rooms_behind" ["room", "path"] (spRL T K RBehind) := by
  refine okRL a sc_rooms_behind (fun ds d ⟨_, _, e, _⟩ => by rw [e]; rfl) fun cdv A outer s H E ds es Q hr hR hT q => ⟨_, (pss_cons (ps_if (pt_val (pe_own G_is_way_out hr (by decide) (by rfl) (pa_cons (pv 0) pa_nil))) (pss_one (ps_ret (pe_lst pa_nil))) pss_nil)
    (pss_one (ps_ret (pe_lc (own := [("at", 2), ("door", 3)]) rfl sc_rooms_behind.nd (pi_enumT (by rfl) B.enumerate (pa_cons (pe_ix ix_tup (pv 0) pe_int (fun _ _ => rfl)) pa_nil)) (blkOk_by (N := ["room", "path", "at", "door"]) (sc := defScope s_rooms_behind) (by decide +kernel)) (fun _ _ _ _ _ => (pgTup (n := 2) (pgs_cons (pg_name (i := 2) sc_rooms_behind.nd rfl (Or.inl rfl)) (pgs_cons (pg_name (i := 3) sc_rooms_behind.nd rfl (Or.inl rfl)) pgs_nil)))) (fun _ _ _ _ _ => pts_nil) (fun _ _ _ _ _ => (pe_tup (pa_cons (pe_op catA (pv 1) (pe_tup (pa_cons (pv 2) pa_nil))) (pa_cons (pe_ix ixTup (pv 3) pe_int (fun _ _ => rfl)) pa_nil)))))))), ?_⟩
  obtain ⟨h, p, rfl, hok, hp, rfl⟩ := hR
  cases h with
  | out n => exact run_when hT (et_B (ev_call (ea_cons (ev_var rfl) ea_nil) ⟨_, rfl, rfl⟩)) (fun _ H1 g1 => run_retL g1.tbs (ev_lst ea_nil (by decide)) fun l xs H2 n1 g2 e r => q l xs H2 (g1.dom l n1) (g1.trans g2) e r) fun e => nomatch e
  | room hand ds =>
    obtain ⟨h0, h1, h2, h3⟩ := hok
    refine run_when hT (et_B (ev_call (ea_cons (ev_var rfl) ea_nil) ⟨_, rfl, rfl⟩)) (fun e => nomatch e) fun _ H1 g1 => ?_
    refine run_retL g1.tbs (ev_lcA (ds := (ds.behind p 0).map toPend) (ei_enumT (ea_cons (ev_ixT (ev_var rfl) ev_int (atI_nat (j := 1) rfl)) ea_nil)) (by rw [withNo_len, Doors.toDs_len]; omega) (by rw [withNo_len, Doors.toDs_len, List.length_map, Doors.behind_len]) fun i e y H2 he hy g2 => ?_) fun l xs H2 n1 g2 e r => q l xs H2 (g1.dom l n1) (g1.trans g2) e r
    rw [withNo_get, Doors.get_toDs] at he
    rw [List.getElem?_map, Doors.behind_get] at hy
    cases hd : ds.get? i with
    | none => rw [hd] at he; cases he
    | some x =>
      rw [hd] at he hy
      cases he; cases hy
      refine ⟨_, _, eg_tup rfl (eg_cons eg_name (eg_cons eg_name eg_nil)), by decide, ?_⟩
      exact ev_tup (ea_cons (ev_catT (ev_var rfl) (ev_tup (ea_cons (ev_var rfl) ea_nil) (by simp)) (by simp; omega)) (ea_cons (ev_ixT (ev_var rfl) ev_int (atI_nat (j := 2) rfl)) ea_nil)) (by simp)
end
end Pd
namespace Pd
open PySem PySem.Spec PyProof.Rows L2
def sumMany : List (List D × House) → Nat
  | [] => 0
  | x :: r => x.2.many + sumMany r
theorem sumMany_app : ∀ a b, sumMany (a ++ b) = sumMany a + sumMany b
  | [], b => by simp [sumMany]
  | x :: r, b => by simp only [List.cons_append, sumMany, sumMany_app r b]; omega
theorem sumMany_rev : ∀ a, sumMany a.reverse = sumMany a
  | [] => rfl
  | x :: r => by rw [List.reverse_cons, sumMany_app, sumMany_rev r]; simp only [sumMany]; omega
theorem Doors.sum_behind (p : List D) : ∀ (ds : Doors) (k : Nat), sumMany (ds.behind p k) + (ds.behind p k).length = ds.many
  | .nil, _ => rfl
  | .cons n s h r, k => by
    have := Doors.sum_behind p r (k + 1)
    simp only [Doors.behind, sumMany, List.length_cons, Doors.many]
    omega
theorem House.sum_behind (p : List D) : ∀ h : House, sumMany (h.behind p) + (h.behind p).length = h.many
  | .out _ => rfl
  | .room _ ds => ds.sum_behind p 0
theorem Doors.behind_ok (p : List D) : ∀ (ds : Doors) (k : Nat), ds.ok → ∀ x ∈ ds.behind p k, x.2.ok ∧ x.1.length = p.length + 1 ∧ x.2.many + 1 ≤ ds.many
  | .nil, _, _, x, h => by simp [Doors.behind] at h
  | .cons n s h r, k, ⟨_, _, _, _, h5, h6⟩, x, hx => by
    simp only [Doors.behind, List.mem_cons] at hx
    rcases hx with rfl | hx
    · exact ⟨h5, by simp, by simp only [Doors.many]; omega⟩
    · obtain ⟨a, b, c⟩ := Doors.behind_ok p r (k + 1) h6 x hx
      exact ⟨a, b, by simp only [Doors.many]; omega⟩
theorem House.behind_ok (p : List D) : ∀ h : House, h.ok → ∀ x ∈ h.behind p, x.2.ok ∧ x.1.length = p.length + 1 ∧ x.2.many + 1 ≤ h.many
  | .out _, _, x, hx => by simp [House.behind] at hx
  | .room _ ds, h, x, hx => ds.behind_ok p 0 h.2.2.2 x hx
section
variable {P : Program} {w : World} {K : PySem.W.Frag} {mg : Str → Option Value} {base : Heap} {T : Tb} {f : Addr} {fd : FuncData}
def RCheck (ds : List D) (d : D) : Prop := ∃ h : House, ds = [h.toD] ∧ h.ok ∧ h.many ≤ 12 ∧ d = .non
theorem ok_check (B : Bl mg) (a : At K mg "check_house" s_check_house ["house"] f fd) (G_can_be : Ok P w K mg base 2 "can_be" ["room"] (spR T K RCan)) (G_rooms_behind : Ok P w K mg base 2 "rooms_behind" ["room", "path"] (spRL T K RBehind)) : Ok P w K mg base 3 "check_house" ["house"] (spR T K RCheck) := by
  refine okR a sc_check_house (fun ds d ⟨_, e, _⟩ => by rw [e]; rfl) fun cdv A outer s H E ds d Q hr hR hT q => ⟨_, (pss_cons (ps_set (i := 1) sc_check_house.nd rfl (Or.inl rfl) pe_int)
    (pss_cons (ps_set (i := 2) sc_check_house.nd rfl (Or.inl rfl) (pe_lst (pa_cons (pe_tup (pa_cons (pe_tup pa_nil) (pa_cons (pv 0) pa_nil))) pa_nil)))
    (pss_cons (ps_while PassesOwn.never (pt_truth (pv 2) (by intro _; rfl)) (pss_cons (ps_asg (pe_bm0 PySem.F.plainAttrs_list PySem.F.slot_list_pop PySem.F.type_list_pop mt_pop (pv 2)) (pg_tup rfl (pgs_cons (pg_name (i := 3) sc_check_house.nd rfl (Or.inl rfl)) (pgs_cons (pg_name (i := 4) sc_check_house.nd rfl (Or.inl rfl)) pgs_nil))))
    (pss_cons (ps_if (pt_not (pt_val (pe_own G_can_be hr (by decide) (by rfl) (pa_cons (pv 4) pa_nil)))) (pss_one ps_never) pss_nil)
    (pss_cons (ps_set (i := 5) sc_check_house.nd rfl (Or.inl rfl) (pe_own G_rooms_behind hr (by decide) (by rfl) (pa_cons (pv 4) (pa_cons (pv 3) pa_nil))))
    (pss_cons (ps_aug (i := 1) sc_check_house.nd rfl (Or.inl rfl) (pe_callB cr_len (by rfl) B.len (by decide +kernel) (pa_cons (pv 5) pa_nil)) ip_add)
    (pss_one (ps_expr (pe_bm PySem.F.plainAttrs_list PySem.F.slot_list_extend PySem.F.type_list_extend mt_extend (pv 2) (pa_cons (pe_revL (pv 5)) pa_nil)))))))))
    (pss_one (ps_if (pt_cmpR op_gt (pv 1) (pe_cstI (by rfl) B.MOST_DOORS_OF_A_HOUSE) (nomark _)) (pss_one ps_never) pss_nil))))), ?_⟩
  obtain ⟨h, rfl, hok, h12, rfl⟩ := hR
  refine run_asg hT ev_int fun H1 g1 => ?_
  refine run_asgL g1.tbs (ev_lst (ea_cons (ev_tup (ea_cons (ev_tup ea_nil (by decide)) (ea_cons (ev_var rfl) ea_nil)) (by simp)) ea_nil) (by simp)) fun l xs H2 nl g2 el rl => ?_
  have nl0 : H l = none := g1.dom l nl
  refine run_while (S := [l]) g2.tbs (fun m δ H => ∃ (pend : List (List D × House)) (found : Int) (s3 s4 s5 : Option SD) (xs : List V), δ = [some (.d h.toD), some (.d (.int found)), some (.v (.ref l)), s3, s4, s5] ∧ found + sumMany pend = h.many ∧ m = sumMany pend + pend.length ∧ m ≤ 13 ∧
      (∀ x ∈ pend, x.2.ok ∧ x.1.length + x.2.many ≤ 12) ∧ H l = some (.lst xs) ∧ Reps K H (pend.map toPend) xs)
    (fun m δ Ha Hb g ⟨pend, found, s3, s4, s5, ys, e1, e2, e3, em, e4, e5, e6⟩ => ⟨pend, found, s3, s4, s5, ys, e1, e2, e3, em, e4, g.lst e5 (by simp), e6.up g⟩)
    (h.many + 1) ⟨[([], h)], 0, none, none, none, xs, rfl, by simp [sumMany], by simp [sumMany], by omega, fun x hx => ?_, el, rl⟩ fun m δ Ha ga ⟨pend, found, s3, s4, s5, ys, e1, e2, e3, em, e4, e5, e6⟩ => ?_
  · obtain rfl : x = ([], h) := by simpa using hx
    exact ⟨hok, by simpa using h12⟩
  subst e1
  refine ⟨_, et_truL (ev_raw rfl) e5, fun hb Hb gb N hN => ?_, fun hb Hb gb => ?_⟩
  · -- a turn
    have ne : ys ≠ [] := fun z => by rw [z] at hb; exact absurd hb (by decide)
    have nep : pend ≠ [] := fun z => by subst z; exact ne (show ys = [] from e6)
    obtain ⟨rest, x, rfl⟩ : ∃ rest x, pend = rest ++ [x] := ⟨pend.dropLast, pend.getLast nep, (List.dropLast_concat_getLast nep).symm⟩
    obtain ⟨p, hh⟩ := x
    obtain ⟨ys0, y, rfl⟩ : ∃ ys0 y, ys = ys0 ++ [y] := ⟨ys.dropLast, ys.getLast ne, (List.dropLast_concat_getLast ne).symm⟩
    have elen := e6.len
    rw [List.map_append, List.length_append, List.length_append] at elen
    have elen' : ys0.length = (rest.map toPend).length := by simpa using elen
    have r0 : Reps K Ha (rest.map toPend) ys0 := by
      have := e6.take (rest.map toPend).length
      rw [List.map_append, List.take_left' rfl, List.take_left' elen'] at this
      exact this
    have ry : Rep K Ha (toPend (p, hh)) y := by
      obtain ⟨z, hz, rz⟩ := e6.get (i := (rest.map toPend).length) (d := toPend (p, hh)) (by rw [List.map_append, List.getElem?_append_right (Nat.le_refl _)]; simp)
      rw [← elen', List.getElem?_append_right (Nat.le_refl _)] at hz
      simp at hz
      rw [hz]; exact rz
    obtain ⟨hhok, hh12⟩ := e4 (p, hh) (by simp)
    have hh12' : p.length + hh.many ≤ 12 := hh12
    refine run_popG gb.tbs (ev_raw rfl) (gb.lst e5 (by simp)) (ry.up gb) (fun H1 => eg_tup rfl (eg_cons eg_name (eg_cons eg_name eg_nil))) fun Hc gc elc => ?_
    have gl : Gr T [l] Hc (upd Hc l (.lst ys0)) := (Gr.refl gc.tbs).put elc (.inl (by simp))
    refine run_when gl.tbs ((et_not (et_B (ev_call (ea_cons (ev_var rfl) ea_nil) ⟨hh, rfl, hhok, rfl⟩))).is rfl) (fun e => nomatch e) fun _ Hd gd => ?_
    refine run_asgL gd.tbs (ev_callL (ea_cons (ev_var rfl) (ea_cons (ev_var rfl) ea_nil)) ⟨hh, p, rfl, hhok, by show p.length ≤ 100; have : p.length + hh.many ≤ 12 := hh12; omega, rfl⟩) fun l2 zs He nl2 ge el2 rl2 => ?_
    refine run_aug ge.tbs rfl (ev_lenL (ev_raw rfl) el2) fun Hf gf => ?_
    have elf : Hf l = some (.lst ys0) := gf.lst (ge.lst (gd.lst upd_same (by simp)) (by simp)) (by simp)
    have el2f := gf.lst el2 (by simp)
    have hsb := House.sum_behind p hh
    have lz : zs.length = (hh.behind p).length := by rw [rl2.len, List.length_map]
    have hys : ys0.length = rest.length := by rw [elen', List.length_map]
    have hrest : rest.length ≤ 13 := by
      rw [List.length_append] at e3
      omega
    refine run_last (run_extR gf.tbs (ev_raw rfl) (ev_raw rfl) elf el2f (by omega) fun Hg gg elg => run_next fun σ sl => ?_)
    have glg : Gr T [l] Hg (upd Hg l (.lst (ys0 ++ zs.reverse))) := (Gr.refl gg.tbs).put elg (.inl (by simp))
    have gall : Gr T [l] Hb (upd Hg l (.lst (ys0 ++ zs.reverse))) := ((((gc.any.trans gl).trans gd.any).trans ge.any).trans (gf.any.trans gg.any)).trans glg
    refine hN (sumMany rest + sumMany (hh.behind p) + (rest.length + (hh.behind p).length)) _ σ _ ?_ gall ⟨rest ++ (hh.behind p).reverse, _, _, _, _, _, rfl, ?_, ?_, ?_, ?_, upd_same, ?_⟩ sl
    · rw [e3, sumMany_app]; simp only [sumMany, List.length_append, List.length_cons, List.length_nil]; omega
    · rw [sumMany_app] at e2; rw [sumMany_app, sumMany_rev, lz]; simp only [sumMany] at e2; omega
    · rw [sumMany_app, sumMany_rev, List.length_append, List.length_reverse]
    · rw [sumMany_app, List.length_append] at e3; simp only [sumMany, List.length_cons, List.length_nil] at e3; omega
    · intro x hx
      rcases List.mem_append.mp hx with hx | hx
      · exact e4 x (List.mem_append_left _ hx)
      · obtain ⟨b1, b2, b3⟩ := House.behind_ok p hh hhok x (List.mem_reverse.mp hx)
        refine ⟨b1, ?_⟩
        have : p.length + hh.many ≤ 12 := hh12
        omega
    · rw [List.map_append, List.map_reverse]
      have r0g : Reps K Hg (rest.map toPend) ys0 := (((((r0.up gb).up gc).up gl).up gd).up ge).up (gf.trans gg)
      have r2g : Reps K Hg ((hh.behind p).map toPend) zs := (rl2.up gf).up gg
      exact (r0g.app r2g.rev).up glg
  · -- behind the loop
    have hy : ys = [] := by cases ys with
      | nil => rfl
      | cons z zs => simp at hb
    have hp : pend = [] := by
      subst hy
      have := e6.len
      simpa using this.symm
    subst hp
    have g0b : Gr T [] H Hb := ((g1.trans g2).drop (ga.trans gb.any) nl0)
    have e2' : found = h.many := by simpa [sumMany] using e2
    refine run_last (run_when gb.tbs ((et_test (ev_B0 (ev_var rfl) ev_int)).is (c := false) (by simp; omega)) (fun e => nomatch e) fun _ Hc gc => run_next fun σ sl => ?_)
    exact q .non Hc (g0b.trans gc) rfl
end
end Pd
namespace Pd
open PySem L2
/-! ### what leavings and pushes do to a house -/
def turns (hand len k l : Int) : Int := (l - (k - hand).fmod len + len - 1).fdiv len
mutual
def House.W : House → Int → Int
  | .out _, l => l
  | .room hand ds, l => ds.W hand ds.len 0 l
def Doors.W : Doors → Int → Int → Int → Int → Int
  | .nil, _, _, _, _ => 0
  | .cons n s h r, hand, len, k, l => (if turns hand len k l > 0 then turns hand len k l * n - s + h.W (turns hand len k l) else 0) + r.W hand len (k + 1) l
end
mutual
def House.BL : House → Int → House
  | .out n, _ => .out n
  | .room hand ds, l => .room ((hand + l).fmod ds.len) (ds.BL hand ds.len 0 l)
def Doors.BL : Doors → Int → Int → Int → Int → Doors
  | .nil, _, _, _, _ => .nil
  | .cons n s h r, hand, len, k, l => .cons n (if turns hand len k l = 0 then s else 0) (h.BL (turns hand len k l)) (r.BL hand len (k + 1) l)
end
mutual
def House.BP : House → Int → House
  | .out n, _ => .out n
  | .room hand ds, w => .room hand (ds.BP hand.toNat w)
def Doors.BP : Doors → Nat → Int → Doors
  | .nil, _, _ => .nil
  | .cons n s h r, 0, w => .cons n (s + min w (n - s)) (h.BP (w - min w (n - s))) r
  | .cons n s h r, i + 1, w => .cons n s h (r.BP i w)
end
/-- the path, and by what name, if by one -/
abbrev Told := List Int × Option Str
mutual
def House.step : House → Told × House
  | .out n => (([], some n), .out n)
  | .room hand ds => ((hand :: (ds.step hand.toNat).1.1, (ds.step hand.toNat).1.2), .room (if (ds.step hand.toNat).1.2 = none then hand else (hand + 1).fmod ds.len) (ds.step hand.toNat).2)
def Doors.step : Doors → Nat → Told × Doors
  | .nil, _ => (([], none), .nil)
  | .cons n s h r, 0 => if s < n then (([], none), .cons n (s + 1) h r) else (h.step.1, .cons n (if h.step.1.2 = none then s else 0) h.step.2 r)
  | .cons n s h r, i + 1 => ((r.step i).1, .cons n s h (r.step i).2)
end
/-! ### turns -/
theorem turns_all {hand len k l : Int} (P : Int → Int → Int → Int → Prop)
    (H : ∀ len : Int, (len = 1 ∨ len = 2 ∨ len = 3 ∨ len = 4) → ∀ hand k : Int, 0 ≤ hand → hand < len → 0 ≤ k → k < len → P hand len k l) (h0 : 0 ≤ hand) (h1 : hand < len) (h4 : len ≤ 4) (k0 : 0 ≤ k) (k1 : k < len) : P hand len k l :=
  H len (by omega) hand k h0 h1 k0 k1
theorem fmod4 {x len : Int} (h : 0 < len) : x.fmod len = x % len := Int.fmod_eq_emod_of_nonneg x (by omega)
theorem fdiv4 {x len : Int} (h : 0 < len) : x.fdiv len = x / len := Int.fdiv_eq_ediv_of_nonneg x (by omega)
theorem turns_zero {hand len k : Int} (h0 : 0 ≤ hand) (h1 : hand < len) (h4 : len ≤ 4) (k0 : 0 ≤ k) (k1 : k < len) : turns hand len k 0 = 0 := by
  unfold turns
  rw [fmod4 (by omega), fdiv4 (by omega)]
  have : len = 1 ∨ len = 2 ∨ len = 3 ∨ len = 4 := by omega
  rcases this with rfl | rfl | rfl | rfl <;> omega
theorem turns_succ {hand len k l : Int} (h0 : 0 ≤ hand) (h1 : hand < len) (h4 : len ≤ 4) (k0 : 0 ≤ k) (k1 : k < len) (l0 : 0 ≤ l) : turns hand len k (l + 1) = turns hand len k l + (if (hand + l).fmod len = k then 1 else 0) := by
  unfold turns
  rw [fmod4 (by omega), fdiv4 (by omega), fdiv4 (by omega), fmod4 (by omega)]
  have : len = 1 ∨ len = 2 ∨ len = 3 ∨ len = 4 := by omega
  rcases this with rfl | rfl | rfl | rfl <;> split <;> omega
theorem turns_nonneg {hand len k l : Int} (h0 : 0 ≤ hand) (h1 : hand < len) (h4 : len ≤ 4) (k0 : 0 ≤ k) (k1 : k < len) (l0 : 0 ≤ l) : 0 ≤ turns hand len k l := by
  unfold turns
  rw [fmod4 (by omega), fdiv4 (by omega)]
  have : len = 1 ∨ len = 2 ∨ len = 3 ∨ len = 4 := by omega
  rcases this with rfl | rfl | rfl | rfl <;> omega
theorem turns_add {hand len k l m : Int} (h0 : 0 ≤ hand) (h1 : hand < len) (h4 : len ≤ 4) (k0 : 0 ≤ k) (k1 : k < len) (l0 : 0 ≤ l) (m0 : 0 ≤ m) : turns ((hand + l).fmod len) len k m = turns hand len k (l + m) - turns hand len k l := by
  unfold turns
  rw [fmod4 (by omega), fdiv4 (by omega), fdiv4 (by omega), fdiv4 (by omega), fmod4 (by omega), fmod4 (by omega)]
  have : len = 1 ∨ len = 2 ∨ len = 3 ∨ len = 4 := by omega
  rcases this with rfl | rfl | rfl | rfl <;> omega
theorem hand_rng {hand len l : Int} (h1 : 0 < len) : 0 ≤ (hand + l).fmod len ∧ (hand + l).fmod len < len := ⟨Int.fmod_nonneg_of_pos _ h1, Int.fmod_lt_of_pos _ h1⟩
end Pd
namespace Pd
open PySem L2
theorem Doors.len_BL : ∀ (ds : Doors) (hand len k l : Int), (ds.BL hand len k l).len = ds.len
  | .nil, _, _, _, _ => rfl
  | .cons _ _ _ r, hand, len, k, l => congrArg (· + 1) (Doors.len_BL r hand len (k + 1) l)
theorem Doors.len_BP : ∀ (ds : Doors) (i : Nat) (w : Int), (ds.BP i w).len = ds.len
  | .nil, _, _ => rfl
  | .cons _ _ _ _, 0, _ => rfl
  | .cons _ _ _ r, i + 1, w => congrArg (· + 1) (Doors.len_BP r i w)
theorem Doors.len_step : ∀ (ds : Doors) (i : Nat), (ds.step i).2.len = ds.len
  | .nil, _ => rfl
  | .cons n s h r, 0 => by
    unfold Doors.step
    split <;> rfl
  | .cons _ _ _ r, i + 1 => congrArg (· + 1) (Doors.len_step r i)
/-! no leavings -/
mutual
theorem House.W_zero : ∀ h : House, h.ok → h.W 0 = 0
  | .out _, _ => rfl
  | .room hand ds, ⟨h0, h1, h2, h3⟩ => Doors.W_zero ds hand ds.len 0 h3 h0 h1 (by omega) (by omega) (by omega)
theorem Doors.W_zero : ∀ (ds : Doors) (hand len k : Int), ds.ok → 0 ≤ hand → hand < len → len ≤ 4 → 0 ≤ k → k + ds.len ≤ len → ds.W hand len k 0 = 0
  | .nil, _, _, _, _, _, _, _, _, _ => rfl
  | .cons n s h r, hand, len, k, ⟨_, _, _, _, h5, h6⟩, a, b, c, d, e => by
    simp only [Doors.len] at e
    simp only [Doors.W]
    rw [turns_zero a b c d (by omega), Doors.W_zero r hand len (k + 1) h6 a b c (by omega) (by omega)]
    simp
end
mutual
theorem House.BL_zero : ∀ h : House, h.ok → h.BL 0 = h
  | .out _, _ => rfl
  | .room hand ds, ⟨h0, h1, h2, h3⟩ => by
    simp only [House.BL]
    rw [Doors.BL_zero ds hand ds.len 0 h3 h0 h1 (by omega) (by omega) (by omega), fmod4 (by omega)]
    congr 1
    rw [Int.add_zero, Int.emod_eq_of_lt h0 h1]
theorem Doors.BL_zero : ∀ (ds : Doors) (hand len k : Int), ds.ok → 0 ≤ hand → hand < len → len ≤ 4 → 0 ≤ k → k + ds.len ≤ len → ds.BL hand len k 0 = ds
  | .nil, _, _, _, _, _, _, _, _, _ => rfl
  | .cons n s h r, hand, len, k, ⟨_, _, _, _, h5, h6⟩, a, b, c, d, e => by
    simp only [Doors.len] at e
    simp only [Doors.BL]
    rw [turns_zero a b c d (by omega), Doors.BL_zero r hand len (k + 1) h6 a b c (by omega) (by omega), House.BL_zero h h5]
    simp
end
/-! more leavings -/
mutual
theorem House.W_add : ∀ (h : House) (l m : Int), h.ok → 0 ≤ l → 0 ≤ m → (h.BL l).W m = h.W (l + m) - h.W l
  | .out _, l, m, _, _, _ => by simp only [House.BL, House.W]; omega
  | .room hand ds, l, m, ⟨h0, h1, h2, h3⟩, l0, m0 => by
    simp only [House.BL, House.W]
    rw [Doors.len_BL]
    exact Doors.W_add ds hand ds.len 0 l m h3 h0 h1 (by omega) (by omega) (by omega) l0 m0
theorem Doors.W_add : ∀ (ds : Doors) (hand len k l m : Int), ds.ok → 0 ≤ hand → hand < len → len ≤ 4 → 0 ≤ k → k + ds.len ≤ len → 0 ≤ l → 0 ≤ m →
    (ds.BL hand len k l).W ((hand + l).fmod len) len k m = ds.W hand len k (l + m) - ds.W hand len k l
  | .nil, _, _, _, _, _, _, _, _, _, _, _, _, _ => rfl
  | .cons n s h r, hand, len, k, l, m, ⟨_, _, _, _, h5, h6⟩, a, b, c, d, e, l0, m0 => by
    simp only [Doors.len] at e
    simp only [Doors.BL, Doors.W]
    have t1 := turns_add a b c d (by omega : k < len) l0 m0
    have t2 := turns_nonneg a b c d (by omega : k < len) l0
    have t3 : 0 ≤ turns ((hand + l).fmod len) len k m := turns_nonneg (hand_rng (by omega)).1 (hand_rng (by omega)).2 c d (by omega) m0
    have ih := Doors.W_add r hand len (k + 1) l m h6 a b c (by omega) (by omega) l0 m0
    have hw := House.W_add h (turns hand len k l) (turns ((hand + l).fmod len) len k m) h5 t2 t3
    have hz := House.W_zero h h5
    rw [ih, hw]
    generalize hT : turns hand len k l = T at *
    generalize hT2 : turns ((hand + l).fmod len) len k m = T2 at *
    rw [show turns hand len k (l + m) = T + T2 by omega]
    have hm : (T + T2) * n = T * n + T2 * n := Int.add_mul _ _ _
    rw [hm]
    have hx : T = 0 → T * n = 0 := fun z => by rw [z, Int.zero_mul]
    have hy : T2 = 0 → T2 * n = 0 := fun z => by rw [z, Int.zero_mul]
    generalize T * n = x at hx ⊢
    generalize T2 * n = y at hy ⊢
    by_cases c1 : T = 0
    · subst c1
      simp only [if_true, Int.zero_add, hz]
      rw [if_neg (show ¬ ((0 : Int) > 0) by omega)]
      by_cases c2 : T2 > 0
      · rw [if_pos c2, if_pos c2]
        have := hx rfl
        omega
      · rw [if_neg c2, if_neg c2]; omega
    · rw [if_neg c1, if_pos (show T > 0 by omega), if_pos (show T + T2 > 0 by omega)]
      by_cases c2 : T2 > 0
      · rw [if_pos c2]; omega
      · have : T2 = 0 := by omega
        subst this
        rw [if_neg c2]
        have := hy rfl
        simp only [Int.add_zero] at *
        omega
end
/-! one leaving -/
/-- how many walkers till one leaves by the i-th door -/
def Doors.b : Doors → Nat → Int
  | .nil, _ => 0
  | .cons n s h _, 0 => n - s + h.W 1
  | .cons _ _ _ r, i + 1 => r.b i
theorem turns_one {hand len k : Int} (h0 : 0 ≤ hand) (h1 : hand < len) (h4 : len ≤ 4) (k0 : 0 ≤ k) (k1 : k < len) : turns hand len k 1 = if hand = k then 1 else 0 := by
  have := turns_succ (l := 0) h0 h1 h4 k0 k1 (by omega)
  rw [turns_zero h0 h1 h4 k0 k1, Int.add_zero, fmod4 (by omega), Int.emod_eq_of_lt h0 h1] at this
  simpa using this
theorem Doors.W_far : ∀ (ds : Doors) (hand len k : Int), ds.ok → 0 ≤ hand → hand < k → len ≤ 4 → k + ds.len ≤ len → ds.W hand len k 1 = 0
  | .nil, _, _, _, _, _, _, _, _ => rfl
  | .cons n s h r, hand, len, k, ⟨_, _, _, _, h5, h6⟩, a, b, c, e => by
    simp only [Doors.len] at e
    simp only [Doors.W]
    rw [turns_one a (by omega) c (by omega) (by omega), if_neg (show ¬ hand = k by omega), Doors.W_far r hand len (k + 1) h6 a (by omega) c (by omega)]
    simp
theorem Doors.W_one : ∀ (ds : Doors) (i : Nat) (len k : Int), ds.ok → i < ds.len → len ≤ 4 → 0 ≤ k → k + ds.len ≤ len → ds.W (k + i) len k 1 = ds.b i
  | .nil, i, _, _, _, h, _, _, _ => absurd h (Nat.not_lt_zero _)
  | .cons n s h r, 0, len, k, ⟨_, _, _, _, h5, h6⟩, _, c, d, e => by
    simp only [Doors.len] at e
    simp only [Doors.W, Doors.b]
    rw [show k + ((0 : Nat) : Int) = k by omega, turns_one d (by omega) c d (by omega), if_pos rfl, Doors.W_far r k len (k + 1) h6 d (by omega) c (by omega)]
    simp
  | .cons n s h r, i + 1, len, k, ⟨_, _, _, _, h5, h6⟩, hi, c, d, e => by
    simp only [Doors.len] at e hi
    simp only [Doors.W, Doors.b]
    rw [turns_one (by omega) (by omega) c d (by omega), if_neg (show ¬ k + ((i + 1 : Nat) : Int) = k by omega)]
    have := Doors.W_one r i len (k + 1) h6 (by omega) c (by omega) (by omega)
    rw [show k + ((i + 1 : Nat) : Int) = k + 1 + (i : Int) by omega, this]
    simp
theorem House.W_one (hand : Int) (ds : Doors) (h : (House.room hand ds).ok) : (House.room hand ds).W 1 = ds.b hand.toNat := by
  obtain ⟨h0, h1, h2, h3⟩ := h
  have := Doors.W_one ds hand.toNat ds.len 0 h3 (by omega) (by omega) (by omega) (by omega)
  rw [show (0 : Int) + (hand.toNat : Int) = hand by omega] at this
  exact this
mutual
theorem House.W_pos : ∀ h : House, h.ok → 1 ≤ h.W 1
  | .out _, _ => by simp only [House.W]; omega
  | .room hand ds, h => by
    rw [House.W_one hand ds h]
    exact Doors.b_pos ds hand.toNat h.2.2.2 (by have := h.1; have := h.2.1; omega)
theorem Doors.b_pos : ∀ (ds : Doors) (i : Nat), ds.ok → i < ds.len → 1 ≤ ds.b i
  | .nil, _, _, h => absurd h (Nat.not_lt_zero _)
  | .cons n s h r, 0, ⟨_, _, _, h4, h5, _⟩, _ => by
    have := House.W_pos h h5
    simp only [Doors.b]; omega
  | .cons n s h r, i + 1, ⟨_, _, _, _, _, h6⟩, hi => Doors.b_pos r i h6 (Nat.lt_of_succ_lt_succ hi)
end
mutual
theorem House.ok_BL : ∀ (h : House) (l : Int), h.ok → 0 ≤ l → (h.BL l).ok
  | .out _, _, h, _ => h
  | .room hand ds, l, ⟨h0, h1, h2, h3⟩, l0 => by
    refine ⟨(hand_rng (by omega)).1, ?_, ?_, Doors.ok_BL ds hand ds.len 0 l h3 h0 h1 (by omega) (by omega) (by omega) l0⟩
    · rw [Doors.len_BL]; exact (hand_rng (by omega)).2
    · rw [Doors.len_BL]; exact h2
theorem Doors.ok_BL : ∀ (ds : Doors) (hand len k l : Int), ds.ok → 0 ≤ hand → hand < len → len ≤ 4 → 0 ≤ k → k + ds.len ≤ len → 0 ≤ l → (ds.BL hand len k l).ok
  | .nil, _, _, _, _, _, _, _, _, _, _, _ => trivial
  | .cons n s h r, hand, len, k, l, ⟨h1, h2, h3, h4, h5, h6⟩, a, b, c, d, e, l0 => by
    simp only [Doors.len] at e
    refine ⟨h1, h2, ?_, ?_, House.ok_BL h _ h5 (turns_nonneg a b c d (by omega) l0), Doors.ok_BL r hand len (k + 1) l h6 a b c (by omega) (by omega) l0⟩
    · split <;> omega
    · split <;> omega
end
theorem House.W_succ {h : House} {l : Int} (ok : h.ok) (l0 : 0 ≤ l) : h.W (l + 1) = h.W l + (h.BL l).W 1 ∧ 1 ≤ (h.BL l).W 1 := by
  have := House.W_add h l 1 ok l0 (by omega)
  exact ⟨by omega, House.W_pos _ (House.ok_BL h l ok l0)⟩
mutual
theorem House.BL_add : ∀ (h : House) (l m : Int), h.ok → 0 ≤ l → 0 ≤ m → (h.BL l).BL m = h.BL (l + m)
  | .out _, l, m, _, _, _ => rfl
  | .room hand ds, l, m, ⟨h0, h1, h2, h3⟩, l0, m0 => by
    simp only [House.BL]
    rw [Doors.len_BL, Doors.BL_add ds hand ds.len 0 l m h3 h0 h1 (by omega) (by omega) (by omega) l0 m0]
    congr 1
    rw [fmod4 (by omega), fmod4 (by omega), fmod4 (by omega), Int.emod_add_emod, Int.add_assoc]
theorem Doors.BL_add : ∀ (ds : Doors) (hand len k l m : Int), ds.ok → 0 ≤ hand → hand < len → len ≤ 4 → 0 ≤ k → k + ds.len ≤ len → 0 ≤ l → 0 ≤ m →
    (ds.BL hand len k l).BL ((hand + l).fmod len) len k m = ds.BL hand len k (l + m)
  | .nil, _, _, _, _, _, _, _, _, _, _, _, _, _ => rfl
  | .cons n s h r, hand, len, k, l, m, ⟨_, _, _, _, h5, h6⟩, a, b, c, d, e, l0, m0 => by
    simp only [Doors.len] at e
    simp only [Doors.BL]
    have t1 := turns_add a b c d (by omega : k < len) l0 m0
    have t2 := turns_nonneg a b c d (by omega : k < len) l0
    have t3 : 0 ≤ turns ((hand + l).fmod len) len k m := turns_nonneg (hand_rng (by omega)).1 (hand_rng (by omega)).2 c d (by omega) m0
    rw [Doors.BL_add r hand len (k + 1) l m h6 a b c (by omega) (by omega) l0 m0, House.BL_add h _ _ h5 t2 t3]
    rw [show turns hand len k l + turns ((hand + l).fmod len) len k m = turns hand len k (l + m) by omega]
    congr 1
    split <;> split <;> (try split) <;> first | rfl | omega
end
/-! pushes -/
mutual
theorem House.BP_zero : ∀ h : House, h.ok → h.BP 0 = h
  | .out _, _ => rfl
  | .room hand ds, ⟨_, _, _, h3⟩ => by
    simp only [House.BP]
    rw [Doors.BP_zero ds hand.toNat h3]
theorem Doors.BP_zero : ∀ (ds : Doors) (i : Nat), ds.ok → ds.BP i 0 = ds
  | .nil, _, _ => rfl
  | .cons n s h r, 0, ⟨_, _, _, h4, h5, _⟩ => by
    simp only [Doors.BP]
    rw [show min 0 (n - s) = 0 by omega, Int.sub_zero, House.BP_zero h h5, Int.add_zero]
  | .cons n s h r, i + 1, ⟨_, _, _, _, _, h6⟩ => by
    simp only [Doors.BP]
    rw [Doors.BP_zero r i h6]
end
/-! steps -/
mutual
/-- a push -/
theorem House.step_push : ∀ (h : House) (w : Int), h.ok → 0 ≤ w → w + 1 < h.W 1 → (h.BP w).step.1.2 = none ∧ (h.BP w).step.2 = h.BP (w + 1)
  | .out _, w, _, w0, w1 => by simp only [House.W] at w1; omega
  | .room hand ds, w, h, w0, w1 => by
    rw [House.W_one hand ds h] at w1
    obtain ⟨h0, h1, h2, h3⟩ := h
    obtain ⟨a, b⟩ := Doors.step_push ds hand.toNat w h3 (by omega) w0 w1
    simp only [House.BP, House.step]
    rw [a, b]
    simp
theorem Doors.step_push : ∀ (ds : Doors) (i : Nat) (w : Int), ds.ok → i < ds.len → 0 ≤ w → w + 1 < ds.b i → ((ds.BP i w).step i).1.2 = none ∧ ((ds.BP i w).step i).2 = ds.BP i (w + 1)
  | .nil, _, _, _, h, _, _ => absurd h (Nat.not_lt_zero _)
  | .cons n s h r, 0, w, ⟨_, _, _, h4, h5, _⟩, _, w0, w1 => by
    simp only [Doors.b] at w1
    simp only [Doors.BP, Doors.step]
    by_cases c : w < n - s
    · rw [show min w (n - s) = w by omega, show min (w + 1) (n - s) = w + 1 by omega, if_pos (by omega)]
      refine ⟨rfl, ?_⟩
      rw [show s + (w + 1) = s + w + 1 by omega, show w - w = 0 by omega, show w + 1 - (w + 1) = 0 by omega]
    · rw [show min w (n - s) = n - s by omega, show min (w + 1) (n - s) = n - s by omega, if_neg (by omega)]
      obtain ⟨a, b⟩ := House.step_push h (w - (n - s)) h5 (by omega) (by omega)
      refine ⟨a, ?_⟩
      rw [if_pos a, b, show w - (n - s) + 1 = w + 1 - (n - s) by omega]
  | .cons n s h r, i + 1, w, ⟨_, _, _, _, _, h6⟩, hi, w0, w1 => by
    simp only [Doors.BP, Doors.step]
    obtain ⟨a, b⟩ := Doors.step_push r i w h6 (Nat.lt_of_succ_lt_succ hi) w0 w1
    exact ⟨a, by rw [b]⟩
end
theorem Doors.BL_far : ∀ (ds : Doors) (hand len k : Int), ds.ok → 0 ≤ hand → hand < k → len ≤ 4 → k + ds.len ≤ len → ds.BL hand len k 1 = ds
  | .nil, _, _, _, _, _, _, _, _ => rfl
  | .cons n s h r, hand, len, k, ⟨_, _, _, _, h5, h6⟩, a, b, c, e => by
    simp only [Doors.len] at e
    simp only [Doors.BL]
    rw [turns_one a (by omega) c (by omega) (by omega), if_neg (show ¬ hand = k by omega), Doors.BL_far r hand len (k + 1) h6 a (by omega) c (by omega), House.BL_zero h h5]
    simp
mutual
/-- a leaving -/
theorem House.step_out : ∀ (h : House) (w : Int), h.ok → w + 1 = h.W 1 → (h.BP w).step.1.2 ≠ none ∧ (h.BP w).step.2 = h.BL 1
  | .out n, w, _, _ => by simp [House.BP, House.step, House.BL]
  | .room hand ds, w, h, w1 => by
    rw [House.W_one hand ds h] at w1
    obtain ⟨h0, h1, h2, h3⟩ := h
    obtain ⟨a, b⟩ := Doors.step_out ds hand.toNat ds.len 0 w h3 (by omega) (by omega) (by omega) (by omega) w1
    simp only [House.BP, House.step, House.BL]
    rw [if_neg a, b, Doors.len_BP, show (0 : Int) + (hand.toNat : Int) = hand by omega]
    exact ⟨a, rfl⟩
theorem Doors.step_out : ∀ (ds : Doors) (i : Nat) (len k w : Int), ds.ok → i < ds.len → len ≤ 4 → 0 ≤ k → k + ds.len ≤ len → w + 1 = ds.b i → ((ds.BP i w).step i).1.2 ≠ none ∧ ((ds.BP i w).step i).2 = ds.BL (k + i) len k 1
  | .nil, _, _, _, _, _, h, _, _, _, _ => absurd h (Nat.not_lt_zero _)
  | .cons n s h r, 0, len, k, w, ⟨_, _, _, h4, h5, h6⟩, _, c, d, e, w1 => by
    simp only [Doors.len] at e
    simp only [Doors.b] at w1
    simp only [Doors.BP, Doors.step, Doors.BL]
    have hp := House.W_pos h h5
    rw [show k + ((0 : Nat) : Int) = k by omega, turns_one d (by omega) c d (by omega), if_pos rfl, if_neg (show ¬ (1 : Int) = 0 by omega), Doors.BL_far r k len (k + 1) h6 d (by omega) c (by omega)]
    rw [show min w (n - s) = n - s by omega, if_neg (by omega)]
    obtain ⟨a, b⟩ := House.step_out h (w - (n - s)) h5 (by omega)
    refine ⟨a, ?_⟩
    rw [if_neg a, b]
  | .cons n s h r, i + 1, len, k, w, ⟨_, _, _, _, h5, h6⟩, hi, c, d, e, w1 => by
    simp only [Doors.len] at e hi
    simp only [Doors.BP, Doors.step, Doors.BL]
    rw [turns_one (by omega) (by omega) c d (by omega), if_neg (show ¬ k + ((i + 1 : Nat) : Int) = k by omega), House.BL_zero h h5]
    obtain ⟨a, b⟩ := Doors.step_out r i len (k + 1) w h6 (by omega) c (by omega) (by omega) w1
    refine ⟨a, ?_⟩
    rw [b, show k + 1 + (i : Int) = k + ((i + 1 : Nat) : Int) by omega]
    simp
end
end Pd
namespace Pd
open PySem L2
mutual
theorem House.ok_step : ∀ h : House, h.ok → h.step.2.ok
  | .out _, h => h
  | .room hand ds, ⟨h0, h1, h2, h3⟩ => by
    refine ⟨?_, ?_, ?_, Doors.ok_step ds hand.toNat h3⟩
    · split
      · exact h0
      · exact (hand_rng (by omega)).1
    · rw [Doors.len_step]; split
      · exact h1
      · exact (hand_rng (by omega)).2
    · rw [Doors.len_step]; exact h2
theorem Doors.ok_step : ∀ (ds : Doors) (i : Nat), ds.ok → (ds.step i).2.ok
  | .nil, _, _ => trivial
  | .cons n s h r, 0, ⟨h1, h2, h3, h4, h5, h6⟩ => by
    unfold Doors.step
    split
    · exact ⟨h1, h2, by omega, by omega, h5, h6⟩
    · refine ⟨h1, h2, ?_, ?_, House.ok_step h h5, h6⟩ <;> split <;> omega
  | .cons n s h r, i + 1, ⟨h1, h2, h3, h4, h5, h6⟩ => ⟨h1, h2, h3, h4, h5, Doors.ok_step r i h6⟩
end
mutual
theorem House.many_step : ∀ h : House, h.step.2.many = h.many
  | .out _ => rfl
  | .room hand ds => Doors.many_step ds hand.toNat
theorem Doors.many_step : ∀ (ds : Doors) (i : Nat), (ds.step i).2.many = ds.many
  | .nil, _ => rfl
  | .cons n s h r, 0 => by
    unfold Doors.step
    split
    · rfl
    · simp only [Doors.many, House.many_step h]
  | .cons n s h r, i + 1 => by simp only [Doors.step, Doors.many, Doors.many_step r i]
end
mutual
theorem House.many_BL : ∀ (h : House) (l : Int), (h.BL l).many = h.many
  | .out _, _ => rfl
  | .room hand ds, l => Doors.many_BL ds hand ds.len 0 l
theorem Doors.many_BL : ∀ (ds : Doors) (hand len k l : Int), (ds.BL hand len k l).many = ds.many
  | .nil, _, _, _, _ => rfl
  | .cons n s h r, hand, len, k, l => by simp only [Doors.BL, Doors.many, House.many_BL h, Doors.many_BL r]
end
mutual
theorem House.many_BP : ∀ (h : House) (w : Int), (h.BP w).many = h.many
  | .out _, _ => rfl
  | .room hand ds, w => Doors.many_BP ds hand.toNat w
theorem Doors.many_BP : ∀ (ds : Doors) (i : Nat) (w : Int), (ds.BP i w).many = ds.many
  | .nil, _, _ => rfl
  | .cons n s h r, 0, w => by simp only [Doors.BP, Doors.many, House.many_BP h]
  | .cons n s h r, i + 1, w => by simp only [Doors.BP, Doors.many, Doors.many_BP r]
end
/-! so many walkers -/
def IsL (h : House) (n L : Int) : Prop := 0 ≤ L ∧ h.W L ≤ n ∧ n < h.W (L + 1)
def behindW (h : House) (n L : Int) : House := (h.BL L).BP (n - h.W L)
theorem IsL.lt {h : House} {n L : Int} (ok : h.ok) (i : IsL h n L) : 0 ≤ n - h.W L ∧ n - h.W L < (h.BL L).W 1 := by
  obtain ⟨a, b, c⟩ := i
  have := (House.W_succ ok a).1
  omega
theorem IsL.zero {h : House} (ok : h.ok) : IsL h 0 0 := by
  have := House.W_pos h ok
  have z := House.W_zero h ok
  exact ⟨Int.le_refl _, by omega, by rw [Int.zero_add]; omega⟩
theorem behindW_zero {h : House} (ok : h.ok) : behindW h 0 0 = h := by
  unfold behindW
  rw [House.BL_zero h ok, House.W_zero h ok]
  exact House.BP_zero h ok
theorem IsL.next {h : House} {n L : Int} (ok : h.ok) (i : IsL h n L) :
    ((behindW h n L).step.1.2 = none ∧ IsL h (n + 1) L ∧ (behindW h n L).step.2 = behindW h (n + 1) L) ∨
    ((behindW h n L).step.1.2 ≠ none ∧ IsL h (n + 1) (L + 1) ∧ (behindW h n L).step.2 = behindW h (n + 1) (L + 1)) := by
  obtain ⟨a, b⟩ := i.lt ok
  obtain ⟨l0, l1, l2⟩ := i
  obtain ⟨w1, w2⟩ := House.W_succ ok l0
  have okL := House.ok_BL h L ok l0
  by_cases c : n - h.W L + 1 < (h.BL L).W 1
  · left
    obtain ⟨s1, s2⟩ := House.step_push (h.BL L) (n - h.W L) okL a c
    refine ⟨s1, ⟨l0, by omega, by omega⟩, ?_⟩
    unfold behindW
    rw [s2, show n + 1 - h.W L = n - h.W L + 1 by omega]
  · right
    obtain ⟨s1, s2⟩ := House.step_out (h.BL L) (n - h.W L) okL (by omega)
    have w3 := House.W_succ (l := L + 1) ok (by omega)
    refine ⟨s1, ⟨by omega, by omega, by omega⟩, ?_⟩
    unfold behindW
    rw [s2, House.BL_add h L 1 ok l0 (by omega), show n + 1 - h.W (L + 1) = 0 by omega, House.BP_zero _ (House.ok_BL h (L + 1) ok (by omega))]
/-- the walkers one by one -/
def House.iter : Nat → House → House
  | 0, h => h
  | n + 1, h => (House.iter n h).step.2
def House.outs : Nat → House → Int
  | 0, _ => 0
  | n + 1, h => House.outs n h + (if (House.iter n h).step.1.2 = none then 0 else 1)
theorem House.iter_ok : ∀ (n : Nat) (h : House), h.ok → (House.iter n h).ok
  | 0, _, o => o
  | n + 1, h, o => House.ok_step _ (House.iter_ok n h o)
theorem House.iter_many : ∀ (n : Nat) (h : House), (House.iter n h).many = h.many
  | 0, _ => rfl
  | n + 1, h => (House.many_step _).trans (House.iter_many n h)
theorem iter_is {h : House} (ok : h.ok) : ∀ n : Nat, IsL h n (House.outs n h) ∧ House.iter n h = behindW h n (House.outs n h)
  | 0 => ⟨IsL.zero ok, (behindW_zero ok).symm⟩
  | n + 1 => by
    obtain ⟨a, b⟩ := iter_is ok n
    simp only [House.iter, House.outs]
    rw [show ((n + 1 : Nat) : Int) = (n : Int) + 1 by omega, b]
    rcases a.next ok with ⟨c, d, e⟩ | ⟨c, d, e⟩
    · rw [if_pos c, Int.add_zero]; exact ⟨d, e⟩
    · rw [if_neg c]; exact ⟨d, e⟩
theorem House.W_mono {h : House} (ok : h.ok) {l : Int} (l0 : 0 ≤ l) : ∀ m : Nat, h.W l + m ≤ h.W (l + m)
  | 0 => by simp
  | m + 1 => by
    have := House.W_mono ok l0 m
    have w := House.W_succ (l := l + m) ok (by omega)
    rw [show l + ((m + 1 : Nat) : Int) = l + m + 1 by omega]
    omega
theorem House.W_lt {h : House} (ok : h.ok) {l m : Int} (l0 : 0 ≤ l) (lt : l < m) : h.W l < h.W m := by
  have := House.W_mono ok l0 (m - l).toNat
  rw [show l + ((m - l).toNat : Int) = m by omega] at this
  omega
theorem House.W_ge {h : House} (ok : h.ok) {l : Int} (l0 : 0 ≤ l) : l ≤ h.W l := by
  have := House.W_mono ok (Int.le_refl 0) l.toNat
  rw [House.W_zero h ok, show (0 : Int) + (l.toNat : Int) = l by omega] at this
  omega
theorem IsL.uniq {h : House} (ok : h.ok) {n L M : Int} (a : IsL h n L) (b : IsL h n M) : L = M := by
  obtain ⟨a0, a1, a2⟩ := a
  obtain ⟨b0, b1, b2⟩ := b
  by_cases c : L < M
  · by_cases d : L + 1 = M
    · rw [d] at a2; omega
    · have := House.W_lt ok (l := L + 1) (m := M) (by omega) (by omega); omega
  · by_cases d : M < L
    · by_cases d : M + 1 = L
      · rw [d] at b2; omega
      · have := House.W_lt ok (l := M + 1) (m := L) (by omega) (by omega); omega
    · omega
theorem IsL.some {h : House} (ok : h.ok) {n : Int} (n0 : 0 ≤ n) : ∃ L, IsL h n L := ⟨_, by
  have := (iter_is ok n.toNat).1
  rw [show ((n.toNat : Nat) : Int) = n by omega] at this
  exact this⟩
theorem IsL.le {h : House} (ok : h.ok) {n L : Int} (a : IsL h n L) : L ≤ n := by
  have := House.W_ge ok a.1
  have := a.2.1
  omega
end Pd
namespace Pd
open PySem L2
/-! ### by which way a leaving is -/
mutual
def House.way : House → Int → List Int × Str
  | .out n, _ => ([], n)
  | .room hand ds, l => ((hand + l - 1).fmod ds.len :: (ds.way (((hand + l - 1).fmod ds.len).toNat) ((l - 1).fdiv ds.len + 1)).1, (ds.way (((hand + l - 1).fmod ds.len).toNat) ((l - 1).fdiv ds.len + 1)).2)
def Doors.way : Doors → Nat → Int → List Int × Str
  | .nil, _, _ => ([], "")
  | .cons _ _ h _, 0, l => h.way l
  | .cons _ _ _ r, i + 1, l => r.way i l
end
theorem Doors.way_get : ∀ (ds : Doors) (i : Nat) (l : Int) {n s : Int} {h : House}, ds.get? i = some (n, s, h) → ds.way i l = h.way l
  | .nil, _, _, _, _, _, e => nomatch e
  | .cons _ _ _ _, 0, _, _, _, _, e => by cases e; rfl
  | .cons _ _ _ r, i + 1, l, _, _, _, e => Doors.way_get r i l e
theorem Doors.get_lt : ∀ (ds : Doors) (i : Nat) {x : Int × Int × House}, ds.get? i = some x → i < ds.len
  | .nil, _, _, e => nomatch e
  | .cons _ _ _ _, 0, _, _ => Nat.succ_pos _
  | .cons _ _ _ r, i + 1, _, e => Nat.succ_lt_succ (Doors.get_lt r i e)
theorem Doors.get_BL : ∀ (ds : Doors) (hand len k l : Int) (i : Nat), (ds.BL hand len k l).get? i = (ds.get? i).map fun x => (x.1, (if turns hand len (k + i) l = 0 then x.2.1 else 0), x.2.2.BL (turns hand len (k + i) l))
  | .nil, _, _, _, _, _ => rfl
  | .cons n s h r, hand, len, k, l, 0 => by simp [Doors.BL, Doors.get?]
  | .cons n s h r, hand, len, k, l, i + 1 => by
    simp only [Doors.BL, Doors.get?]
    rw [Doors.get_BL r hand len (k + 1) l i, show k + 1 + (i : Int) = k + ((i + 1 : Nat) : Int) by omega]
theorem Doors.get_BP : ∀ (ds : Doors) (i : Nat) (w : Int) {n s : Int} {h : House}, ds.get? i = some (n, s, h) → (ds.BP i w).get? i = some (n, s + min w (n - s), h.BP (w - min w (n - s)))
  | .nil, _, _, _, _, _, e => nomatch e
  | .cons _ _ _ _, 0, _, _, _, _, e => by cases e; rfl
  | .cons _ _ _ r, i + 1, w, _, _, _, e => Doors.get_BP r i w e
theorem Doors.step_told : ∀ (ds : Doors) (i : Nat) {n s : Int} {h : House}, ds.get? i = some (n, s, h) → (ds.step i).1 = if s < n then ([], none) else h.step.1
  | .nil, _, _, _, _, e => nomatch e
  | .cons _ _ _ _, 0, _, _, _, e => by
    cases e
    simp only [Doors.step]
    split <;> rfl
  | .cons _ _ _ r, i + 1, _, _, _, e => Doors.step_told r i e
theorem Doors.b_at : ∀ (ds : Doors) (i : Nat) {n s : Int} {h : House}, ds.get? i = some (n, s, h) → ds.b i = n - s + h.W 1
  | .nil, _, _, _, _, e => nomatch e
  | .cons _ _ _ r, 0, _, _, _, e => by cases e; rfl
  | .cons _ _ _ r, i + 1, _, _, _, e => Doors.b_at r i e
theorem turns_at {hand len k l : Int} (h0 : 0 ≤ hand) (h1 : hand < len) (h4 : len ≤ 4) (k0 : 0 ≤ k) (k1 : k < len) (l0 : 0 ≤ l) (e : (hand + l).fmod len = k) : turns hand len k l = l.fdiv len := by
  unfold turns
  rw [fmod4 (by omega)] at e
  rw [fmod4 (by omega), fdiv4 (by omega), fdiv4 (by omega)]
  have : len = 1 ∨ len = 2 ∨ len = 3 ∨ len = 4 := by omega
  rcases this with rfl | rfl | rfl | rfl <;> omega
theorem fdiv_nonneg4 {len l : Int} (h1 : 0 < len) (l0 : 0 ≤ l) : 0 ≤ l.fdiv len := by
  rw [fdiv4 h1]; exact Int.ediv_nonneg l0 (by omega)
/-- the room behind so many leavings and pushes, at the door where its hand points -/
theorem House.here {hand : Int} {ds : Doors} (ok : (House.room hand ds).ok) {L : Int} (l0 : 0 ≤ L) :
    ∃ (i : Nat) (n s s' : Int) (hh : House), ((hand + L).fmod ds.len) = (i : Int) ∧ i < ds.len ∧ ds.get? i = some (n, s, hh) ∧ 1 ≤ n ∧ n ≤ 99 ∧ 0 ≤ s ∧ s ≤ n ∧ hh.ok ∧ hh.deep < (House.room hand ds).deep ∧ turns hand ds.len i L = L.fdiv ds.len ∧ 0 ≤ L.fdiv ds.len ∧
      s' = (if L.fdiv ds.len = 0 then s else 0) ∧ 0 ≤ s' ∧ s' ≤ n ∧ ((House.room hand ds).BL L).W 1 = n - s' + (hh.BL (L.fdiv ds.len)).W 1 ∧
      ∀ w, (((House.room hand ds).BL L).BP w).step.1 = ((i : Int) :: (if s' + min w (n - s') < n then (([], none) : Told) else ((hh.BL (L.fdiv ds.len)).BP (w - min w (n - s'))).step.1).1, (if s' + min w (n - s') < n then (([], none) : Told) else ((hh.BL (L.fdiv ds.len)).BP (w - min w (n - s'))).step.1).2) := by
  have okL := House.ok_BL _ L ok l0
  obtain ⟨h0, h1, h2, h3⟩ := ok
  obtain ⟨r0, r1⟩ := hand_rng (hand := hand) (len := ds.len) (l := L) (by omega)
  have hi : (((hand + L).fmod ds.len).toNat : Int) = (hand + L).fmod ds.len := by omega
  have hlt : ((hand + L).fmod ds.len).toNat < ds.len := by omega
  obtain ⟨n, s, hh, he⟩ := ds.get_some _ hlt
  obtain ⟨n1, n2, n3, n4, hok⟩ := Doors.get_ok ds _ h3 he
  have ht : turns hand ds.len (((hand + L).fmod ds.len).toNat : Int) L = L.fdiv ds.len := turns_at h0 h1 (by omega) (by omega) (by omega) l0 hi.symm
  have gL : (ds.BL hand ds.len 0 L).get? ((hand + L).fmod ds.len).toNat = some (n, (if L.fdiv ds.len = 0 then s else 0), hh.BL (L.fdiv ds.len)) := by
    rw [Doors.get_BL, he, Int.zero_add, ht]; rfl
  have hd := Doors.get_deep ds _ he
  refine ⟨((hand + L).fmod ds.len).toNat, n, s, _, hh, hi.symm, hlt, he, n1, n2, n3, n4, hok, by show hh.deep < ds.deep + 1; omega, ht, fdiv_nonneg4 (by omega) l0, rfl, ?_, ?_, ?_, fun w => ?_⟩
  · split <;> omega
  · split <;> omega
  · simp only [House.BL] at okL ⊢
    rw [House.W_one _ _ okL, Doors.b_at _ _ gL]
  · simp only [House.BL, House.BP, House.step]
    rw [Doors.step_told _ _ (Doors.get_BP _ _ w gL), hi]
theorem House.way_step : ∀ (d : Nat) (h : House) (L w : Int), h.deep < d → h.ok → 0 ≤ L → w + 1 = (h.BL L).W 1 → ((h.BL L).BP w).step.1 = ((h.way (L + 1)).1, some (h.way (L + 1)).2)
  | 0, _, _, _, hd, _, _, _ => absurd hd (Nat.not_lt_zero _)
  | d + 1, .out n, L, w, hd, ok, l0, e => rfl
  | d + 1, .room hand ds, L, w, hd, ok, l0, e => by
    obtain ⟨i, n, s, s', hh, hi, hlt, he, n1, n2, n3, n4, hok, hdp, ht, t0, es, s0, s1, hW, hs⟩ := House.here ok l0
    have hp := House.W_pos _ (House.ok_BL hh _ hok t0)
    rw [hW] at e
    rw [hs w, show min w (n - s') = n - s' by omega, if_neg (by omega)]
    rw [House.way_step d hh (L.fdiv ds.len) (w - (n - s')) (by omega) hok t0 (by omega)]
    simp only [House.way]
    rw [show hand + (L + 1) - 1 = hand + L by omega, show L + 1 - 1 = L by omega, hi, Int.toNat_natCast, Doors.way_get ds i _ he]
/-! ### leavings by a name -/
mutual
def House.LN : House → Str → Int → Int
  | .out n, nm, l => if n = nm then l else 0
  | .room hand ds, nm, l => ds.LN nm hand ds.len 0 l
def Doors.LN : Doors → Str → Int → Int → Int → Int → Int
  | .nil, _, _, _, _, _ => 0
  | .cons _ _ h r, nm, hand, len, k, l => h.LN nm (turns hand len k l) + r.LN nm hand len (k + 1) l
end
mutual
theorem House.LN_zero : ∀ (h : House) (nm : Str), h.ok → h.LN nm 0 = 0
  | .out _, _, _ => by simp [House.LN]
  | .room hand ds, nm, ⟨h0, h1, h2, h3⟩ => Doors.LN_zero ds nm hand ds.len 0 h3 h0 h1 (by omega) (by omega) (by omega)
theorem Doors.LN_zero : ∀ (ds : Doors) (nm : Str) (hand len k : Int), ds.ok → 0 ≤ hand → hand < len → len ≤ 4 → 0 ≤ k → k + ds.len ≤ len → ds.LN nm hand len k 0 = 0
  | .nil, _, _, _, _, _, _, _, _, _, _ => rfl
  | .cons n s h r, nm, hand, len, k, ⟨_, _, _, _, h5, h6⟩, a, b, c, d, e => by
    simp only [Doors.len] at e
    simp only [Doors.LN]
    rw [turns_zero a b c d (by omega), Doors.LN_zero r nm hand len (k + 1) h6 a b c (by omega) (by omega), House.LN_zero h nm h5]
    rfl
end
theorem Doors.LN_far : ∀ (ds : Doors) (nm : Str) (hand len k l : Int), ds.ok → 0 ≤ hand → hand < len → len ≤ 4 → 0 ≤ k → k + ds.len ≤ len → 0 ≤ l → (hand + l).fmod len < k → ds.LN nm hand len k (l + 1) = ds.LN nm hand len k l
  | .nil, _, _, _, _, _, _, _, _, _, _, _, _, _ => rfl
  | .cons n s h r, nm, hand, len, k, l, ⟨_, _, _, _, h5, h6⟩, a, b, c, d, e, l0, hf => by
    simp only [Doors.len] at e
    simp only [Doors.LN]
    rw [turns_succ a b c d (by omega) l0, if_neg (by omega), Int.add_zero, Doors.LN_far r nm hand len (k + 1) l h6 a b c (by omega) (by omega) l0 (by omega)]
mutual
theorem House.LN_succ : ∀ (h : House) (nm : Str) (l : Int), h.ok → 0 ≤ l → h.LN nm (l + 1) = h.LN nm l + (if (h.way (l + 1)).2 = nm then 1 else 0)
  | .out n, nm, l, _, _ => by
    have e : ((House.out n).way (l + 1)).2 = n := rfl
    rw [e]
    simp only [House.LN]
    by_cases c : n = nm
    · simp [c]
    · simp [c]
  | .room hand ds, nm, l, ⟨h0, h1, h2, h3⟩, l0 => by
    obtain ⟨r0, r1⟩ := hand_rng (hand := hand) (len := ds.len) (l := l) (by omega)
    have hi : (((hand + l).fmod ds.len).toNat : Int) = (hand + l).fmod ds.len := by omega
    have := Doors.LN_succ ds nm hand ds.len 0 l ((hand + l).fmod ds.len).toNat h3 h0 h1 (by omega) (by omega) (by omega) l0 (by omega) (by omega)
    have e : ((House.room hand ds).way (l + 1)).2 = (ds.way ((hand + l).fmod ds.len).toNat (l.fdiv ds.len + 1)).2 := by
      simp only [House.way]
      rw [show hand + (l + 1) - 1 = hand + l by omega, show l + 1 - 1 = l by omega]
    rw [e]
    exact this
theorem Doors.LN_succ : ∀ (ds : Doors) (nm : Str) (hand len k l : Int) (i : Nat), ds.ok → 0 ≤ hand → hand < len → len ≤ 4 → 0 ≤ k → k + ds.len ≤ len → 0 ≤ l → i < ds.len → (hand + l).fmod len = k + i →
    ds.LN nm hand len k (l + 1) = ds.LN nm hand len k l + (if (ds.way i (l.fdiv len + 1)).2 = nm then 1 else 0)
  | .nil, _, _, _, _, _, _, _, _, _, _, _, _, _, hi, _ => absurd hi (Nat.not_lt_zero _)
  | .cons n s h r, nm, hand, len, k, l, 0, ⟨_, _, _, _, h5, h6⟩, a, b, c, d, e, l0, hi, hf => by
    simp only [Doors.len] at e
    have ew : (Doors.cons n s h r).way 0 (l.fdiv len + 1) = h.way (l.fdiv len + 1) := rfl
    rw [ew]
    simp only [Doors.LN]
    have ht := turns_at a b c d (by omega) l0 (by omega : (hand + l).fmod len = k)
    have t0 := fdiv_nonneg4 (len := len) (by omega) l0
    rw [turns_succ a b c d (by omega) l0, if_pos (by omega), ht, House.LN_succ h nm _ h5 t0, Doors.LN_far r nm hand len (k + 1) l h6 a b c (by omega) (by omega) l0 (by omega)]
    omega
  | .cons n s h r, nm, hand, len, k, l, i + 1, ⟨_, _, _, _, h5, h6⟩, a, b, c, d, e, l0, hi, hf => by
    simp only [Doors.len] at e hi
    have ew : (Doors.cons n s h r).way (i + 1) (l.fdiv len + 1) = r.way i (l.fdiv len + 1) := rfl
    rw [ew]
    simp only [Doors.LN]
    rw [turns_succ a b c d (by omega) l0, if_neg (by omega), Int.add_zero, Doors.LN_succ r nm hand len (k + 1) l i h6 a b c (by omega) (by omega) l0 (by omega) (by omega)]
    omega
end
mutual
def House.has : House → Str → Bool
  | .out n, nm => decide (n = nm)
  | .room _ ds, nm => ds.has nm
def Doors.has : Doors → Str → Bool
  | .nil, _ => false
  | .cons _ _ h r, nm => h.has nm || r.has nm
end
mutual
theorem House.way_has : ∀ (h : House) (l : Int), h.ok → h.has (h.way l).2 = true
  | .out n, l, _ => by simp [House.has, House.way]
  | .room hand ds, l, ⟨h0, h1, h2, h3⟩ => by
    obtain ⟨r0, r1⟩ := hand_rng (hand := hand) (len := ds.len) (l := l - 1) (by omega)
    simp only [House.has, House.way]
    rw [show hand + l - 1 = hand + (l - 1) by omega]
    exact Doors.way_has ds _ _ h3 (by omega)
theorem Doors.way_has : ∀ (ds : Doors) (i : Nat) (l : Int), ds.ok → i < ds.len → ds.has (ds.way i l).2 = true
  | .nil, _, _, _, h => absurd h (Nat.not_lt_zero _)
  | .cons _ _ h r, 0, l, ⟨_, _, _, _, h5, _⟩, _ => by
    simp only [Doors.has, Doors.way]
    rw [House.way_has h l h5]; rfl
  | .cons _ _ h r, i + 1, l, ⟨_, _, _, _, _, h6⟩, hi => by
    simp only [Doors.has, Doors.way]
    rw [Doors.way_has r i l h6 (Nat.lt_of_succ_lt_succ hi), Bool.or_true]
end
theorem House.LN_mono {h : House} (ok : h.ok) (nm : Str) {l : Int} (l0 : 0 ≤ l) : ∀ m : Nat, h.LN nm l ≤ h.LN nm (l + m)
  | 0 => by simp
  | m + 1 => by
    have := House.LN_mono ok nm l0 m
    rw [show l + ((m + 1 : Nat) : Int) = l + m + 1 by omega, House.LN_succ h nm (l + m) ok (by omega)]
    split <;> omega
theorem House.LN_le {h : House} (ok : h.ok) (nm : Str) {l m : Int} (l0 : 0 ≤ l) (lm : l ≤ m) : h.LN nm l ≤ h.LN nm m := by
  have := House.LN_mono ok nm l0 (m - l).toNat
  rwa [show l + ((m - l).toNat : Int) = m by omega] at this
theorem House.LN_nonneg {h : House} (ok : h.ok) (nm : Str) {l : Int} (l0 : 0 ≤ l) : 0 ≤ h.LN nm l := by
  have := House.LN_le ok nm (Int.le_refl 0) l0
  rwa [House.LN_zero h nm ok] at this
/-- no more leavings by a name than leavings -/
theorem House.LN_top {h : House} (ok : h.ok) (nm : Str) : ∀ m : Nat, h.LN nm m ≤ m
  | 0 => by have := House.LN_zero h nm ok; simp [this]
  | m + 1 => by
    have := House.LN_top ok nm m
    rw [show ((m + 1 : Nat) : Int) = m + 1 by omega, House.LN_succ h nm m ok (by omega)]
    split <;> omega
theorem turns_big {hand len k M : Int} (h0 : 0 ≤ hand) (h1 : hand < len) (h4 : len ≤ 4) (k0 : 0 ≤ k) (k1 : k < len) (m0 : 0 ≤ M) : M ≤ turns hand len k (4 * M) := by
  unfold turns
  rw [fmod4 (by omega), fdiv4 (by omega)]
  have : len = 1 ∨ len = 2 ∨ len = 3 ∨ len = 4 := by omega
  rcases this with rfl | rfl | rfl | rfl <;> omega
theorem Doors.LN_nonneg : ∀ (ds : Doors) (nm : Str) (hand len k l : Int), ds.ok → 0 ≤ hand → hand < len → len ≤ 4 → 0 ≤ k → k + ds.len ≤ len → 0 ≤ l → 0 ≤ ds.LN nm hand len k l
  | .nil, _, _, _, _, _, _, _, _, _, _, _, _ => Int.le_refl _
  | .cons n s h r, nm, hand, len, k, l, ⟨_, _, _, _, h5, h6⟩, a, b, c, d, e, l0 => by
    simp only [Doors.len] at e
    simp only [Doors.LN]
    have h1 := House.LN_nonneg h5 nm (turns_nonneg a b c d (by omega : k < len) l0)
    have h2 := Doors.LN_nonneg r nm hand len (k + 1) l h6 a b c (by omega) (by omega) l0
    omega
mutual
theorem House.LN_big : ∀ (h : House) (nm : Str) (N : Int), h.ok → h.has nm = true → 0 ≤ N → ∃ M, 0 ≤ M ∧ N ≤ h.LN nm M
  | .out n, nm, N, _, hh, n0 => by
    have : n = nm := by simpa [House.has] using hh
    exact ⟨N, n0, by simp only [House.LN]; rw [if_pos this]; omega⟩
  | .room hand ds, nm, N, ⟨h0, h1, h2, h3⟩, hh, n0 => Doors.LN_big ds nm hand ds.len 0 N h3 h0 h1 (by omega) (by omega) (by omega) hh n0
theorem Doors.LN_big : ∀ (ds : Doors) (nm : Str) (hand len k N : Int), ds.ok → 0 ≤ hand → hand < len → len ≤ 4 → 0 ≤ k → k + ds.len ≤ len → ds.has nm = true → 0 ≤ N → ∃ M, 0 ≤ M ∧ N ≤ ds.LN nm hand len k M
  | .nil, _, _, _, _, _, _, _, _, _, _, _, hh, _ => by simp [Doors.has] at hh
  | .cons n s h r, nm, hand, len, k, N, ⟨_, _, _, _, h5, h6⟩, a, b, c, d, e, hh, n0 => by
    simp only [Doors.len] at e
    simp only [Doors.has, Bool.or_eq_true] at hh
    rcases hh with hh | hh
    · obtain ⟨M, m0, hM⟩ := House.LN_big h nm N h5 hh n0
      refine ⟨4 * M, by omega, ?_⟩
      simp only [Doors.LN]
      have t := turns_big a b c d (by omega : k < len) m0
      have x1 := House.LN_le h5 nm m0 t
      have x2 := Doors.LN_nonneg r nm hand len (k + 1) (4 * M) h6 a b c (by omega) (by omega) (by omega)
      omega
    · obtain ⟨M, m0, hM⟩ := Doors.LN_big r nm hand len (k + 1) N h6 a b c (by omega) (by omega) hh n0
      refine ⟨M, m0, ?_⟩
      simp only [Doors.LN]
      have x1 := House.LN_nonneg h5 nm (turns_nonneg a b c d (by omega : k < len) m0)
      omega
end
end Pd
namespace Pd
open PySem PySem.Spec PyProof.Rows L2
section
variable {P : Program} {w : World} {K : PySem.W.Frag} {mg : Str → Option Value} {base : Heap} {T : Tb} {f : Addr} {fd : FuncData}
def RTurns (ds : List D) (d : D) : Prop := ∃ (hand at' l : Int) (dd : List D), ds = [.tup [.int hand, .tup dd], .int at', .int l] ∧ dd ≠ [] ∧ dd.length ≤ 100 ∧ d = .int ((l - (at' - hand).fmod dd.length + dd.length - 1).fdiv dd.length)
def RWith (ds : List D) (d : D) : Prop := ∃ (dd : List D) (n : Nat) (x : D), ds = [.tup dd, .int (n : Int), x] ∧ n < dd.length ∧ dd.length ≤ 100 ∧ d = .tup (dd.set n x)
theorem cut_lo (dd : List D) (n : Nat) (h : n ≤ dd.length) : cutD dd none (some (n : Int)) = dd.take n := by
  unfold cutD
  rw [HT.sIx_none, HT.sIx_nat, List.drop_zero, Nat.sub_zero, Nat.min_eq_left h]
theorem cut_hi (dd : List D) (n : Nat) (h : n ≤ dd.length) : cutD dd (some (n : Int)) none = dd.drop n := by
  unfold cutD
  rw [HT.sIx_none, HT.sIx_nat, Nat.min_eq_left h, List.take_of_length_le (by rw [List.length_drop]; omega)]
end
end Pd
namespace Pd
open PySem PySem.Spec PyProof.Rows L2
def Doors.drop : Doors → Nat → Doors
  | ds, 0 => ds
  | .nil, _ + 1 => .nil
  | .cons _ _ _ r, i + 1 => r.drop i
theorem Doors.drop_get : ∀ (ds : Doors) (i : Nat) {n s : Int} {h : House}, ds.get? i = some (n, s, h) → ds.drop i = .cons n s h (ds.drop (i + 1))
  | .nil, _, _, _, _, e => nomatch e
  | .cons _ _ _ r, 0, _, _, _, e => by cases e; cases r <;> rfl
  | .cons _ _ _ r, i + 1, _, _, _, e => by
    have := Doors.drop_get r i e
    simpa [Doors.drop] using this
theorem Doors.drop_len : ∀ ds : Doors, ds.drop ds.len = .nil
  | .nil => rfl
  | .cons _ _ _ r => Doors.drop_len r
theorem withNo_doors {ds : Doors} {i : Nat} {d : D} (h : (withNo ds.toDs 0)[i]? = some d) : ∃ n s hh, ds.get? i = some (n, s, hh) ∧ d = .tup [.int (i : Nat), .tup [.int n, .int s, hh.toD]] := by
  rw [withNo_get, Doors.get_toDs, Nat.zero_add] at h
  cases hd : ds.get? i with
  | none => rw [hd] at h; cases h
  | some x => rw [hd] at h; cases h; exact ⟨_, _, _, rfl, rfl⟩
section
variable {P : Program} {w : World} {K : PySem.W.Frag} {mg : Str → Option Value} {base : Heap} {T : Tb} {f : Addr} {fd : FuncData}
def RWf (lv : Nat) (ds : List D) (d : D) : Prop := ∃ (h : House) (l : Int), ds = [h.toD, .int l] ∧ h.ok ∧ 0 ≤ l ∧ h.deep < lv ∧ d = .int (h.W l)
end
end Pd
namespace Pd
open PySem PySem.Spec PyProof.Rows L2
theorem take_succ' {α : Type} {l : List α} {i : Nat} {x : α} (h : l[i]? = some x) : l.take (i + 1) = l.take i ++ [x] := by
  rw [List.take_succ, h]; rfl
section
variable {P : Program} {w : World} {K : PySem.W.Frag} {mg : Str → Option Value} {base : Heap} {T : Tb} {f : Addr} {fd : FuncData}
def RBl (lv : Nat) (ds : List D) (d : D) : Prop := ∃ (h : House) (l : Int), ds = [h.toD, .int l] ∧ h.ok ∧ 0 ≤ l ∧ h.deep < lv ∧ d = (h.BL l).toD
end
end Pd
namespace Pd
open PySem PySem.Spec PyProof.Rows L2
theorem atI_int {α : Type} {l : List α} {i : Int} {x : α} (h0 : 0 ≤ i) (h : l[i.toNat]? = some x) : atI l i = some x := by
  obtain ⟨n, rfl⟩ := Int.eq_ofNat_of_zero_le h0
  exact atI_nat (by simpa using h)
theorem Doors.BP_set : ∀ (ds : Doors) (i : Nat) (w : Int) {n s : Int} {h : House}, ds.get? i = some (n, s, h) → ds.BP i w = ds.set i n (s + min w (n - s)) (h.BP (w - min w (n - s)))
  | .nil, _, _, _, _, _, e => nomatch e
  | .cons _ _ _ r, 0, _, _, _, _, e => by cases e; rfl
  | .cons _ _ _ r, i + 1, w, _, _, _, e => by simp only [Doors.BP, Doors.set]; rw [Doors.BP_set r i w e]
theorem Doors.b_get : ∀ (ds : Doors) (i : Nat) {n s : Int} {h : House}, ds.get? i = some (n, s, h) → ds.b i = n - s + h.W 1
  | .nil, _, _, _, _, e => nomatch e
  | .cons _ _ _ r, 0, _, _, _, e => by cases e; rfl
  | .cons _ _ _ r, i + 1, _, _, _, e => Doors.b_get r i e
theorem Doors.step_get : ∀ (ds : Doors) (i : Nat) {n s : Int} {h : House}, ds.get? i = some (n, s, h) → ds.step i = if s < n then (([], none), ds.set i n (s + 1) h) else (h.step.1, ds.set i n (if h.step.1.2 = none then s else 0) h.step.2)
  | .nil, _, _, _, _, e => nomatch e
  | .cons _ _ _ r, 0, _, _, _, e => by cases e; rfl
  | .cons _ _ _ r, i + 1, _, _, _, e => by
    simp only [Doors.step, Doors.set]
    rw [Doors.step_get r i e]
    split <;> rfl
section
variable {P : Program} {w : World} {K : PySem.W.Frag} {mg : Str → Option Value} {base : Heap} {T : Tb} {f : Addr} {fd : FuncData}
def RBp (lv : Nat) (ds : List D) (d : D) : Prop := ∃ (h : House) (w : Int), ds = [h.toD, .int w] ∧ h.ok ∧ 0 ≤ w ∧ w < h.W 1 ∧ h.deep < lv ∧ d = (h.BP w).toD
def toldD (p : List D) : Told → D
  | (r, none) => .tup [.str "push", .tup (p ++ r.map D.int)]
  | (r, some n) => .tup [.str "out", .tup (p ++ r.map D.int), .str n]
def RLw (lv : Nat) (ds : List D) (d : D) : Prop := ∃ (h : House) (p : List D), ds = [h.toD, .tup p] ∧ h.ok ∧ h.deep < lv ∧ p.length + lv ≤ 1000 ∧ d = .tup [toldD p h.step.1, h.step.2.toD]
end
end Pd
namespace Pd
open PySem PySem.Spec PyProof.Rows L2
/-! ### a lambda with parameters -/
abbrev lamName : Str := "<lambda>"
def lamNF (X : Cx) (params : Arguments) (scope : Scope) (c : Addr) : NdefX.NF := ⟨lamName, X.env.qual ++ lamName, params, [], scope, cloFrom X.env.cells scope.names [], c⟩
abbrev lamObj (X : Cx) (params : Arguments) (body : Expr) (scope : Scope) (pm : Value) (c : Addr) (ctv : Value) : Obj := PySem.W.kla_obj lamName (X.env.qual ++ lamName) params body scope (cloFrom X.env.cells scope.names []) pm c ctv
section
variable {X : Cx} {pins : List (Addr × Obj)} {σ : L2.St} {H HZ : Hp} {s s1 : Shared} {T : Tb}
/-- captured cells stay, what is tracked may grow -/
theorem cells_un {cl : List (Str × Addr)} {fr : List Str} {ws : List (Option V)} {fs : List Addr} (C : NdefX.CellsAt cl fr ws s.heap H) (un : Un fs [] H HZ s.heap s1.heap) : NdefX.CellsAt cl fr ws s1.heap HZ := by
  have kp : ∀ c v, H c = none → s.heap.IsCell c v → s1.heap.IsCell c v := fun c v n ⟨o, ho, hd⟩ => by
    obtain ⟨sl, e⟩ := un.any ho n (by simp)
    exact ⟨_, e, hd⟩
  refine ⟨C.len, fun y c e => ?_, C.inj, fun i y e => ?_⟩
  · obtain ⟨n, v, z⟩ := C.all y c e
    refine ⟨?_, v, kp c v n z⟩
    obtain ⟨o, ho, _⟩ := z
    exact un.free c o ho n (by simp)
  · obtain ⟨c, hc, hv⟩ := C.has i y e
    refine ⟨c, hc, fun v ev => ?_⟩
    obtain ⟨u, r, z⟩ := hv v ev
    exact ⟨u, r, kp c _ (C.all y c hc).1 z⟩
/-- the lambda's object is made -/
theorem lam_mk {c P : Addr} {params : Arguments} {body : Expr} {scope : Scope} {pos : Pos} {E : Value → Shared → Prop} {Q : Value → Shared → Prop} (I : Inv X pins σ H s) (TB : LamX.TabB X.base X.mg c P) (hcode : X.env.code = .ref c)
    (hm : (P, X.env.qual ++ lamName) ∈ T.l) (hu : ∀ p ∈ T.l, p.1 = P → p.2 = X.env.qual ++ lamName) (hg : P ∉ T.g) (hT : Tbs T H) (hdef : defaultsOf params X.env = ([], [])) (hfree : ∀ y ∈ scope.names, y.2 = .free → ∃ c, X.env.cells.lookup y.1 = some c)
    (h : ∀ (f c' : Addr) (pm ctv : Value) (H1 : Hp) (s' : Shared), Inv X pins σ H1 s' → Gr T [] H H1 → s'.heap.get? f = some (lamObj X params body scope pm c' ctv) → H1 f = none → f ∉ frs X.stack → H1 c' = some (LamX.CodeO c' (X.env.qual ++ lamName)) → Q (.ref f) s') :
    wpAny (model X.prog X.w) X.A (eval (.Lambda params body scope pos) X.env) Q E s := by
  obtain ⟨ps, hP, ht, ha⟩ := hT.2 _ hm
  have hP : H P = some (.tbl ps) := hP
  refine PySem.W.kla_eval hdef ?_
  have sP : s.heap.get? P = some { cls := .none, data := .fields ps } := I.hok P _ hP
  have off : ∀ a, s.heap.objs.size ≤ a → a ∉ frs X.stack := fun a la z => (List.mem_cons.mp (I.stkSub _ z)).elim
    (fun e => by have l := I.lt; rw [← e] at l; exact absurd (Nat.lt_of_lt_of_le l la) (Nat.lt_irrefl _)) (fun e => I.nofs la e)
  cases hc : codeAmong pos ps.toList with
  | some cv =>
    obtain ⟨c', rfl, hco⟩ := ha pos cv hc
    refine PySem.W.kla_makeFunctionHit (mg := X.mg) (c := c) (P := P) (ps := ps) (closure_ok hfree) I.ok.glob (I.mod.glob.keeps I.bk) hcode (TB.code.keeps I.bk) sP ht hc (TB.bm.keeps I.bk) fun ctv h' tk hx hz => ?_
    exact h _ c' _ ctv H _ (I.kept fun b o e => Heap.get?_push_of_some _ (hx b o e)) (Gr.refl hT) (Heap.get?_push_size _ rfl) (I.hok.fresh hz) (off _ hz) hco
  | none =>
    refine PySem.W.kla_makeFunction (mg := X.mg) (c := c) (P := P) (ps := ps) (closure_ok hfree) I.ok.glob (I.mod.glob.keeps I.bk) hcode (TB.code.keeps I.bk) sP ht hc TB.gP (TB.bm.keeps I.bk) fun c' ctv h' tk hx hge hlt hrec htb => ?_
    obtain ⟨c2, oc, vs, t, e2, hoc, hd, hv⟩ := hrec
    cases e2
    have nC : H c' = none := I.hok.fresh hge
    have lP : P < s.heap.objs.size := Heap.lt_size sP
    have hPc : P ≠ c' := Nat.ne_of_lt (Nat.lt_of_lt_of_le lP hge)
    have hz : s.heap.objs.size ≤ h'.objs.size := Nat.le_trans hge (Nat.le_of_lt hlt)
    have J := LamX.inv_table (t' := tk) (more := #[rawInt pos.line, rawInt pos.col, .ref c']) (h' := h'.push (lamObj X params body scope ((X.mg "__name__").getD .none) c' ctv)) I hP (fun b o nb e => Heap.get?_push_of_some _ (hx b o nb e)) (Heap.get?_push_of_some _ htb) hge ⟨oc, vs, t, Heap.get?_push_of_some _ hoc, hd, hv⟩
    have kp : ∀ b o, H b = some o → (∀ qs, o ≠ .tbl qs) → upd (upd H P (.tbl (ps ++ #[rawInt pos.line, rawInt pos.col, .ref c']))) c' (LamX.CodeO c' (X.env.qual ++ lamName)) b = some o := fun b o e nt => by
      rw [upd_ne (ne_of_none e nC), upd_ne fun z => by subst z; rw [hP] at e; cases e; exact nt ps rfl]
      exact e
    have g : Gr T [] H (upd (upd H P (.tbl (ps ++ #[rawInt pos.line, rawInt pos.col, .ref c']))) c' (LamX.CodeO c' (X.env.qual ++ lamName))) := by
      refine ⟨fun b o _ e nt => kp b o e nt, fun b o e fo => kp b o e fun qs z => by subst z; exact fo, fun b e => ?_, fun R hR => ?_, fun p hp => ?_⟩
      · by_cases z : b = c'
        · subst z; exact nC
        · rw [upd_ne z] at e
          by_cases z2 : b = P
          · subst z2; rw [upd_same] at e; cases e
          · rw [upd_ne z2] at e; exact e
      · obtain ⟨qs, e, r⟩ := hT.1 R hR
        exact ⟨qs, by rw [upd_ne (ne_of_none e nC), upd_ne fun z => hg (by rw [← z]; exact hR)]; exact e, r⟩
      · obtain ⟨qs, e, r, al⟩ := hT.2 p hp
        by_cases z : p.1 = P
        · rw [hu p hp z]
          refine ⟨_, by rw [z, upd_ne hPc, upd_same], by rw [Array.toList_append]; exact PySem.TriplesOk_snoc _ _ _ _ ht, fun p' cv hcv => ?_⟩
          rw [Array.toList_append] at hcv
          rcases LamX.among_app _ ht hcv with y | y
          · obtain ⟨c0, e1, e2⟩ := ha p' cv y
            exact ⟨c0, e1, kp _ _ e2 LamX.codeO_ne⟩
          · exact ⟨c', y, upd_same⟩
        · refine ⟨qs, by rw [upd_ne (ne_of_none e nC), upd_ne z]; exact e, r, fun p' cv hcv => ?_⟩
          obtain ⟨c0, e1, e2⟩ := al p' cv hcv
          exact ⟨c0, e1, kp _ _ e2 LamX.codeO_ne⟩
    refine h _ c' _ ctv _ _ J g (Heap.get?_push_size _ rfl) ?_ (off _ hz) upd_same
    have n1 : h'.objs.size ≠ c' := Nat.ne_of_gt hlt
    have n2 : h'.objs.size ≠ P := Nat.ne_of_gt (Nat.lt_of_lt_of_le lP hz)
    rw [upd_ne n1, upd_ne n2]
    exact I.hok.fresh hz
end
section
variable {P : Program} {w : World} {K : PySem.W.Frag} {mg : Str → Option Value} {base : Heap} {N ps fr : List Str} {F : NdefX.NF} {f : Addr} {k : Nat} {A : Around} {outer : List Env} {s : Shared} {H : Hp} {us : List Value} {vs : List V} {ws : List (Option V)} {Q : VK} {E : XK} {body : Expr} {tb : TE} {pm ctv : Value} {CX : CXT}
/-- a call of such an object -/
theorem lam_call (S : NdefX.NScope N ps fr F.scope) (hr : Room (k + 1) A) (e0 : Env0 P w K mg base A outer s H) (hf : s.heap.get? f = some (PySem.W.kla_obj lamName F.qual F.params body F.scope F.cl pm F.c ctv)) (hc : H F.c = some (LamX.CodeO F.c F.qual))
    (hb : bindArgs (PySem.W.kla_fn lamName F.qual F.params body F.scope F.cl pm (.ref F.c) ctv) ⟨us, []⟩ = pure (ps.zip us)) (hl : vs.length = ps.length) (C : NdefX.CellsAt F.cl fr ws s.heap H) (r : Vals vs us)
    (hbody : Room k (A.deeper (NdefX.envF F f s.heap.objs.size)) → PE (NdefX.ncx CX P w K mg base N F f A outer s H E) body tb) (q : tb (NdefX.startF N vs ws) H Q) : codeAny (model P w) A (.call (.ref f) ⟨us, []⟩) (CR CX outer P w H s Q E) s := by
  have lim : s.heap.NoLimit := e0.mod.nolimit.keeps fun b o e => (e0.bs b o e).1
  refine PySem.W.kla_callFunE hr.depth hf rfl S.co S.gen rfl (NdefX.codeO_at e0.hok hc) ?_
  rw [hb]
  refine wpAny_pure (wpAny_newFunctionEnv S.nocell (fun y hy => S.par y.1 (List.of_mem_zip hy).1) (fun h₁ hns hsb => ⟨lim.fresh _ hsb, ?_⟩) S.kind)
  have kp : ∀ b o, s.heap.get? b = some o → h₁.get? b = some o := fun b o e => hsb.extBut b o (Nat.ne_of_lt (Heap.lt_size e)) (Heap.get?_push_of_some _ e)
  have I : Inv (NdefX.ncx CX P w K mg base N F f A outer s H E) [] (NdefX.startF N vs ws) H { s with heap := h₁, toks := s.toks + (ps.zip us).length } := NdefX.inv_startN S hr.hd e0 hl r C hns kp
  refine PySem.W.kla_codeExpr (wpAny_mono ((hbody (hr.deeper _)).run [] _ _ H Q I q) (fun v s' hq => ?_) fun e s' hq => hq)
  obtain ⟨w', H', J, rv, q'⟩ := hq
  exact ⟨w', H', J.os, J.bare, J.base, J.hok, rv, q'⟩
end
end Pd
namespace Pd
open PySem PySem.Spec PyProof.Rows L2
/-- f(e), f the lambda that slot i holds -/
def tHold (i : Nat) (f c' : Addr) (q : Str) (t1 : TE) (tl : V → Hp → VK → Prop) : TE := fun σ H Q => σ[i]? = some (some (.ref f)) ∧ t1 σ H fun v H1 => H1 c' = some (LamX.CodeO c' q) ∧ tl v H1 Q
section
variable {X : Cx} {pins : List (Addr × Obj)} {σ : L2.St} {H : Hp} {s : Shared} {T : Tb}
abbrev inCx (X : Cx) (Ng : List Str) (qg : Str) (sg : Scope) (g : Addr) (cdg : Value) (s : Shared) (H : Hp) : Cx := (cxOf CX0 X.prog X.w X.K X.mg X.base Ng qg sg g cdg X.A X.stack s H E0).nox
theorem pe_hold {Ng : List Str} {qg : Str} {sg : Scope} {g f c' : Addr} {cdg pm ctv : Value} {params : Arguments} {body e1 : Expr} {scope : Scope} {k i : Nat} {a b : Str} {N fr : List Str} {ws : List (Option V)} {tb t1 : TE} {p1 p2 : Pos}
    (I : Inv X pins σ H s) (S : NdefX.NScope N [b] fr scope) (hf : s.heap.get? f = some (lamObj X params body scope pm c' ctv)) (hfn : H f = none) (hfr : f ∉ frs X.stack) (C : NdefX.CellsAt (cloFrom X.env.cells scope.names []) fr ws s.heap H)
    (hbind : ∀ u : Value, bindArgs (PySem.W.kla_fn lamName (X.env.qual ++ lamName) params body scope (cloFrom X.env.cells scope.names []) pm (.ref c') ctv) ⟨[u], []⟩ = pure ([b].zip [u])) (hr : Room (k + 1) (X.A.deeper (envOfC qg sg s.heap.objs.size g cdg)))
    (hbody : ∀ (A : Around) (outer : List Env) (s : Shared) (H : Hp), Room k (A.deeper (NdefX.envF (lamNF X params scope c') f s.heap.objs.size)) → PE (NdefX.ncx CX0 X.prog X.w X.K X.mg X.base N (lamNF X params scope c') f A outer s H E0) body tb)
    (ha : PE (inCx X Ng qg sg g cdg s H) e1 t1) (hN : Ng[i]? = some a) (hv : Vis sg a) (hd : (a == ("__debug__" : Str)) = false := by decide) (hcd : (a == ("__classdict__" : Str)) = false := by decide)
    (he : starEach [e1] (inCx X Ng qg sg g cdg s H).env = (false, eval e1 (inCx X Ng qg sg g cdg s H).env) :: starEach [] (inCx X Ng qg sg g cdg s H).env := by rfl) :
    PE (inCx X Ng qg sg g cdg s H) (.Call (.Name a p1) [e1] [] p2) (tHold i f c' (X.env.qual ++ lamName) t1 fun v H1 Q => tb (NdefX.startF N [v] ws) H1 Q) := by
  refine ⟨fun pinsZ sZ σZ HZ Q IZ h => ?_⟩
  obtain ⟨hs, ht⟩ := h
  have there : ∀ {pn : List (Addr × Obj)} {σ2 : L2.St} {H2 : Hp} {s2 : Shared}, Inv (inCx X Ng qg sg g cdg s H) pn σ2 H2 s2 → s2.heap.get? f = some (lamObj X params body scope pm c' ctv) := fun J => J.base.keep f _ hf hfn hfr (fun z => nomatch (show f ∈ ([] : List Addr) from z))
  refine wpAny_Call_Name_kw (thn ((pe_var (pos := p1) (i := i) hN hv hd hcd).run pinsZ sZ σZ HZ (fun v H1 => v = .ref f ∧ H1 = HZ) IZ ⟨.ref f, hs, rfl, rfl⟩) fun u s1 ⟨v, H1, I1, r1, q1⟩ => ?_)
  obtain ⟨rfl, rfl⟩ := q1
  obtain rfl : u = Value.ref f := r1
  refine PySem.W.callWith_F (first := []) ⟨_, _, _, _, there I1⟩ (thn ((pa_cons ha pa_nil he).run p2 pinsZ s1 σZ H1 (fun vs H2 => match vs with
    | [v] => H2 c' = some (LamX.CodeO c' (X.env.qual ++ lamName)) ∧ tb (NdefX.startF N [v] ws) H2 Q
    | _ => False) I1 ht) fun us s2 ⟨vs, H2, I2, r, qm⟩ => ⟨⟨_, _, _, _, there I2⟩, ?_⟩) he rfl
  match vs, r, qm with
  | [w'], r, ⟨hc, qb⟩ =>
    obtain ⟨u, rfl, ru⟩ := vals1 r
    have un : Un (frs X.stack) [] H H2 s.heap s2.heap := I2.base
    refine wpAny_call (codeAny_mono (lam_call (F := lamNF X params scope c') (CX := CX0) (E := E0) (vs := [w']) S hr I2.env0 (there I2) hc (hbind u) rfl (cells_un C un) (.cons ru .nil) (fun hr' => hbody _ _ _ _ hr') qb) fun r s' hq => ?_)
    cases r with
    | error e => exact (show False from hq).elim
    | ok fl =>
      cases fl with
      | ret u => exact I2.after hq
      | next => exact False.elim hq
      | brk => exact False.elim hq
      | cont => exact False.elim hq
/-- what a def that calls its third argument makes of what that argument does -/
def Calls3 (X : Cx) (Ng : List Str) (qg : Str) (sg : Scope) (g : Addr) (cdg : Value) (bg : List Stmt) (a m : Str) (j : Nat) (q : Str) (TT : (V → Hp → VK → Prop) → V → V → Addr → Hp → VK → Prop) : Prop :=
  ∀ (f c' : Addr) (s : Shared) (H : Hp) (Q : VK) (va vb : V) (tl : V → Hp → VK → Prop), (∀ p1 p2 p3 : Pos, PE (inCx X Ng qg sg g cdg s H) (.Call (.Name a p1) [.Name m p3] [] p2) (tHold 2 f c' q (tVar j) tl)) → TT tl va vb c' H Q →
    ∃ t, PSs (inCx X Ng qg sg g cdg s H) bg t ∧ t { nx := fun _ H' => Q .non H', rt := Q } (L2.start Ng [va, vb, .ref f]) H
def tLam3 (T : Tb) (q : Str) (TT : (V → Hp → VK → Prop) → V → V → Addr → Hp → VK → Prop) (t1 t2 : TE) (tl : L2.St → V → Hp → VK → Prop) : TE := fun σ H Q => t1 σ H fun va H1 => t2 σ H1 fun vb H2 => Tbs T H2 ∧ ∀ c' H3, Gr T [] H2 H3 → H3 c' = some (LamX.CodeO c' q) → TT (tl σ) va vb c' H3 Q
theorem pe_lam3 {x a1 a2 a m : Str} {st : Stmt} {g c P : Addr} {fd : FuncData} {Ng N fr : List Str} {js : List Nat} {k j : Nat} {TT : (V → Hp → VK → Prop) → V → V → Addr → Hp → VK → Prop} {params : Arguments} {body e1 e2 : Expr} {scope : Scope} {b : Str} {tb t1 t2 : TE} {p lpos pos : Pos}
    (Ag : At X.K X.mg x st [a1, a2, a] g fd) (Sg : FnScope Ng [a1, a2, a] (defScope st)) (hg : Gl X x) (hNa : Ng[2]? = some a) (hva : Vis (defScope st) a) (hNm : Ng[j]? = some m) (hvm : Vis (defScope st) m)
    (hG : ∀ cdg : Value, Calls3 X Ng x (defScope st) g cdg (defBody st) a m j (X.env.qual ++ lamName) TT)
    (TB : LamX.TabB X.base X.mg c P) (hcode : X.env.code = .ref c) (hmT : (P, X.env.qual ++ lamName) ∈ T.l) (hu : ∀ p ∈ T.l, p.1 = P → p.2 = X.env.qual ++ lamName) (hgP : P ∉ T.g) (hr : Room (k + 2) X.A)
    (S : NdefX.NScope N [b] fr scope) (hfree : ∀ y ∈ scope.names, y.2 = .free → X.env.scope.names.lookup y.1 = some .cell ∨ X.env.scope.names.lookup y.1 = some .free) (hfr : ∀ y ∈ fr, (y, NameKind.free) ∈ scope.names) (hjs : js.map (fun j => X.N[j]?) = fr.map some)
    (hdef : defaultsOf params X.env = ([], [])) (hbind : ∀ (cl : List (Str × Addr)) (pm cv ctv u : Value), bindArgs (PySem.W.kla_fn lamName (X.env.qual ++ lamName) params body scope cl pm cv ctv) ⟨[u], []⟩ = pure ([b].zip [u]))
    (hbody : ∀ (f c' : Addr) (A : Around) (outer : List Env) (s : Shared) (H : Hp), Room k (A.deeper (NdefX.envF (lamNF X params scope c') f s.heap.objs.size)) → PE (NdefX.ncx CX0 X.prog X.w X.K X.mg X.base N (lamNF X params scope c') f A outer s H E0) body tb)
    (h1 : PE X e1 t1) (h2 : PE X e2 t2)
    (hdb : (x == ("__debug__" : Str)) = false := by decide) (hd : (a == ("__debug__" : Str)) = false := by decide) (hcd : (a == ("__classdict__" : Str)) = false := by decide) (hd2 : (m == ("__debug__" : Str)) = false := by decide) (hcd2 : (m == ("__classdict__" : Str)) = false := by decide)
    (he1 : starEach [e1, e2, .Lambda params body scope lpos] X.env = (false, eval e1 X.env) :: starEach [e2, .Lambda params body scope lpos] X.env := by rfl)
    (he2 : starEach [e2, .Lambda params body scope lpos] X.env = [(false, eval e2 X.env), (false, eval (.Lambda params body scope lpos) X.env)] := by rfl)
    (hst : ∀ s H cdg (p3 : Pos), starEach [.Name m p3] (inCx X Ng x (defScope st) g cdg s H).env = (false, eval (.Name m p3) (inCx X Ng x (defScope st) g cdg s H).env) :: starEach [] (inCx X Ng x (defScope st) g cdg s H).env := by intros; rfl) :
    PE X (.Call (.Name x p) [e1, e2, .Lambda params body scope lpos] [] pos) (tLam3 T (X.env.qual ++ lamName) TT t1 t2 fun σ v H' Q' => tb (NdefX.startF N [v] (js.map (NdefX.slotAt σ))) H' Q') := by
  refine ⟨fun pins s σ H Q I h => ?_⟩
  refine wpAny_Call_Name_kw (ld_glob I hg Ag.m ?_ hdb)
  refine PySem.W.callWith_K (h₀ := X.base) I.ok.mod.kin Ag.F.kp ?_ he1 (by rw [he2]; rfl)
  rw [he1, he2]
  show wpAny _ _ (spliced ((false, eval e1 X.env) :: (false, eval e2 X.env) :: (false, eval (.Lambda params body scope lpos) X.env) :: backTo pos (starEach [] X.env))) _ _ s
  refine Calls.spliced_cons (thn (h1.run pins s σ H _ I h) fun u1 s1 ⟨va, H1, I1, r1, q1⟩ => Calls.spliced_cons (thn (h2.run pins s1 σ H1 _ I1 q1) fun u2 s2 ⟨vb, H2, I2, r2, hT, q2⟩ => Calls.spliced_cons (lam_mk I2 TB hcode hmT hu hgP hT hdef (fun y hy e => (hfree y hy e).elim (fun z => I2.ok.has _ (.inl z)) fun z => I2.ok.has _ (.inr z)) fun f c' pm ctv H3 s' I3 g3 hf hfn hff hco => Calls.spliced_nil ⟨I3.kIn, ?_⟩)))
  obtain ⟨oc, od, kV, doc, pm', an, cdv, ct, osl, efd, lk, hcg⟩ := Ag.F.ex
  have hb := Ag.b s' [u1, u2, .ref f] I3.kIn rfl
  subst efd
  have rc : codeAny (model X.prog X.w) X.A (.call (.ref g) ⟨[u1, u2, .ref f], []⟩) (CR CX0 X.stack X.prog X.w H3 s' Q E0) s' := by
    refine LamX.run_ofS (N := Ng) (ps := [a1, a2, a]) (us := [u1, u2, .ref f]) (vs := [va, vb, .ref f]) lk hcg Sg hr I3.env0 hb (.cons r1 (.cons r2 (.cons rfl .nil))) rfl fun hr' => ?_
    have C := NdefX.cells_of I3 (NdefX.Caps.made I3.ok hfree hfr hjs)
    obtain ⟨t, ht, hq⟩ := hG cdv f c' s' H3 Q va vb (fun v H' Q' => tb (NdefX.startF N [v] (js.map (NdefX.slotAt σ))) H' Q') (fun p1 p2 p3 => pe_hold I3 S hf hfn hff C (fun u => hbind _ _ _ _ u) hr' (fun A outer s H hr2 => hbody f c' A outer s H hr2) (pe_var hNm hvm hd2 hcd2) hNa hva hd hcd (hst _ _ _ _)) (q2 c' H3 g3 hco)
    exact ⟨t, ht.nox, hq⟩
  refine wpAny_call (codeAny_mono rc fun r s2 hq => ?_)
  cases r with
  | error e => exact (show False from hq).elim
  | ok fl =>
    cases fl with
    | ret u => exact I3.after hq
    | next => exact False.elim hq
    | brk => exact False.elim hq
    | cont => exact False.elim hq
end
end Pd
namespace Pd
open PySem PySem.Spec PyProof.Rows L2
def TTfirst (T : Tb) (q : Str) : (V → Hp → VK → Prop) → V → V → Addr → Hp → VK → Prop := fun tl va vb c' H Q => ∃ (lo hi : Int) (pr : Int → Bool), va = .int lo ∧ vb = .int hi ∧ lo ≤ hi ∧ H c' = some (LamX.CodeO c' q) ∧ Tbs T H ∧
  (∀ m H1, Gr T [] H H1 → lo ≤ m → m < hi → ∀ Q' : VK, (∀ H2, Gr T [] H1 H2 → Q' (.bl (pr m)) H2) → tl (.int m) H1 Q') ∧
  ∀ r H', lo ≤ r → r ≤ hi → (r = lo ∨ pr (r - 1) = false) → (r = hi ∨ pr r = true) → Gr T [] H H' → Q (.int r) H'
end Pd
namespace Pd
open PySem PySem.Spec PyProof.Rows L2
section
variable {P : Program} {w : World} {K : PySem.W.Frag} {mg : Str → Option Value} {base : Heap} {T : Tb} {f : Addr} {fd : FuncData}
def RLeav (lv : Nat) (ds : List D) (d : D) : Prop := ∃ (h : House) (n L : Int), ds = [h.toD, .int n] ∧ h.ok ∧ 0 ≤ n ∧ h.deep < lv ∧ IsL h n L ∧ d = .int L
end
end Pd
namespace Pd
open PySem PySem.Spec PyProof.Rows L2
section
variable {P : Program} {w : World} {K : PySem.W.Frag} {mg : Str → Option Value} {base : Heap} {T : Tb} {f : Addr} {fd : FuncData}
def RCount (ds : List D) (d : D) : Prop := ∃ n lo hi : Int, ds = [.int n, .int lo, .int hi] ∧ lo ≤ n ∧ n ≤ hi ∧ d = .non
end
end Pd
namespace Pd
open PySem PySem.Spec PyProof.Rows L2
mutual
theorem House.deep_step : ∀ h : House, h.step.2.deep = h.deep
  | .out _ => rfl
  | .room hand ds => congrArg (· + 1) (Doors.deep_step ds hand.toNat)
theorem Doors.deep_step : ∀ (ds : Doors) (i : Nat), (ds.step i).2.deep = ds.deep
  | .nil, _ => rfl
  | .cons n s h r, 0 => by
    unfold Doors.step
    split
    · rfl
    · simp only [Doors.deep, House.deep_step h]
  | .cons n s h r, i + 1 => by simp only [Doors.step, Doors.deep, Doors.deep_step r i]
end
mutual
theorem House.deep_BL : ∀ (h : House) (l : Int), (h.BL l).deep = h.deep
  | .out _, _ => rfl
  | .room hand ds, l => congrArg (· + 1) (Doors.deep_BL ds hand ds.len 0 l)
theorem Doors.deep_BL : ∀ (ds : Doors) (hand len k l : Int), (ds.BL hand len k l).deep = ds.deep
  | .nil, _, _, _, _ => rfl
  | .cons n s h r, hand, len, k, l => by simp only [Doors.BL, Doors.deep, House.deep_BL h, Doors.deep_BL r]
end
mutual
theorem House.deep_BP : ∀ (h : House) (w : Int), (h.BP w).deep = h.deep
  | .out _, _ => rfl
  | .room hand ds, w => congrArg (· + 1) (Doors.deep_BP ds hand.toNat w)
theorem Doors.deep_BP : ∀ (ds : Doors) (i : Nat) (w : Int), (ds.BP i w).deep = ds.deep
  | .nil, _, _ => rfl
  | .cons n s h r, 0, w => by simp only [Doors.BP, Doors.deep, House.deep_BP h]
  | .cons n s h r, i + 1, w => by simp only [Doors.BP, Doors.deep, Doors.deep_BP r]
end
theorem House.iter_deep : ∀ (n : Nat) (h : House), (House.iter n h).deep = h.deep
  | 0, _ => rfl
  | n + 1, h => (House.deep_step _).trans (House.iter_deep n h)
theorem behindW_ok {h : House} {n L : Int} (ok : h.ok) (i : IsL h n L) (n0 : 0 ≤ n) : (behindW h n L).ok := by
  have e := iter_is ok n.toNat
  rw [show ((n.toNat : Nat) : Int) = n by omega] at e
  rw [← e.1.uniq ok i, ← e.2]
  exact House.iter_ok _ h ok
theorem deep12 {h : House} (ok : h.ok) (m : h.many ≤ 12) : h.deep < 13 := by
  have := House.deep_le h ok
  omega
section
variable {P : Program} {w : World} {K : PySem.W.Frag} {mg : Str → Option Value} {base : Heap} {T : Tb} {f : Addr} {fd : FuncData}
def RBw (ds : List D) (d : D) : Prop := ∃ (h : House) (n L : Int), ds = [h.toD, .int n] ∧ h.ok ∧ 0 ≤ n ∧ h.deep < 13 ∧ IsL h n L ∧ d = (behindW h n L).toD
def RCf (ds : List D) (d : D) : Prop := ∃ n : Int, ds = [.int n] ∧ 0 ≤ n ∧ n ≤ 300 ∧ d = .non
def RCw (ds : List D) (d : D) : Prop := ∃ n : Int, ds = [.int n] ∧ 0 ≤ n ∧ n ≤ 1000000000000000000 ∧ d = .non
/-- what is asked of a house and a number of walkers -/
def RFar (r : House → Int → Int → D) (ds : List D) (d : D) : Prop := ∃ (h : House) (n L : Int), ds = [h.toD, .int n] ∧ h.ok ∧ h.many ≤ 12 ∧ 0 ≤ n ∧ n ≤ 1000000000000000000 ∧ IsL h n L ∧ d = r h n L
def fatesD (h : House) (n : Nat) : List D := (List.range n).map fun i => toldD [] (House.iter i h).step.1
theorem fatesD_succ (h : House) (n : Nat) : fatesD h (n + 1) = fatesD h n ++ [toldD [] (House.iter n h).step.1] := by
  unfold fatesD
  rw [List.range_succ, List.map_append]; rfl
theorem fatesD_len (h : House) (n : Nat) : (fatesD h n).length = n := by simp [fatesD]
def RFates (ds : List D) (es : List D) : Prop := ∃ (h : House) (n : Nat), ds = [h.toD, .int n] ∧ h.ok ∧ h.many ≤ 12 ∧ n ≤ 300 ∧ es = fatesD h n
end
end Pd
namespace Pd
open PySem L2
/-! ### houses as lists: where each list stands -/
mutual
inductive LH where
  | out (n : Str)
  | room (a b : Addr) (hand : Int) (ds : LD)
inductive LD where
  | nil
  | cons (c : Addr) (n s : Int) (h : LH) (r : LD)
end
def LH.val : LH → V
  | .out n => .str n
  | .room a _ _ _ => .ref a
def LD.refs : LD → List V
  | .nil => []
  | .cons c _ _ _ r => .ref c :: r.refs
mutual
def LH.house : LH → House
  | .out n => .out n
  | .room _ _ hand ds => .room hand ds.doors
def LD.doors : LD → Doors
  | .nil => .nil
  | .cons _ n s h r => .cons n s h.house r.doors
end
abbrev Cells := List (Addr × List V)
mutual
def LH.cells : LH → Cells
  | .out _ => []
  | .room a b hand ds => (a, [.int hand, .ref b]) :: (b, ds.refs) :: ds.cells
def LD.cells : LD → Cells
  | .nil => []
  | .cons c n s h r => (c, [.int n, .int s, h.val]) :: (h.cells ++ r.cells)
end
def CAt (H : Hp) (C : Cells) : Prop := ∀ e ∈ C, H e.1 = some (.lst e.2)
def fps (C : Cells) : List Addr := C.map (·.1)
def putC (C : Cells) (x : Addr) (ys : List V) : Cells := C.map fun e => if e.1 = x then (x, ys) else e
theorem fps_put (C : Cells) (x : Addr) (ys : List V) : fps (putC C x ys) = fps C := by
  unfold fps putC
  rw [List.map_map]
  refine List.map_congr_left fun e _ => ?_
  show (if e.1 = x then (x, ys) else e).1 = e.1
  split
  · rename_i h; exact h.symm
  · rfl
theorem CAt.put {H : Hp} {C : Cells} (h : CAt H C) (x : Addr) (ys : List V) : CAt (upd H x (.lst ys)) (putC C x ys) := fun e he => by
  obtain ⟨e0, h0, rfl⟩ := List.mem_map.mp he
  show upd H x (.lst ys) (if e0.1 = x then (x, ys) else e0).1 = some (.lst (if e0.1 = x then (x, ys) else e0).2)
  split
  · exact upd_same
  · rename_i n; rw [upd_ne n]; exact h e0 h0
theorem CAt.up {T : Tb} {S : List Addr} {H H' : Hp} {C : Cells} (h : CAt H C) (g : Gr T S H H') (d : ∀ x ∈ fps C, x ∉ S) : CAt H' C := fun e he => g.lst (h e he) (d _ (List.mem_map.mpr ⟨e, he, rfl⟩))
theorem put_off {C : Cells} {x : Addr} (ys : List V) (h : x ∉ fps C) : putC C x ys = C := by
  unfold putC
  conv => rhs; rw [← List.map_id C]
  refine List.map_congr_left fun e he => ?_
  show (if e.1 = x then (x, ys) else e) = e
  rw [if_neg fun z => h (by rw [← z]; exact List.mem_map.mpr ⟨e, he, rfl⟩)]
theorem put_cons (e : Addr × List V) (C : Cells) (x : Addr) (ys : List V) : putC (e :: C) x ys = (if e.1 = x then (x, ys) else e) :: putC C x ys := rfl
theorem put_app (C D : Cells) (x : Addr) (ys : List V) : putC (C ++ D) x ys = putC C x ys ++ putC D x ys := List.map_append
theorem fps_app (C D : Cells) : fps (C ++ D) = fps C ++ fps D := List.map_append
/-! the i-th door -/
def LD.get? : LD → Nat → Option (Addr × Int × Int × LH)
  | .nil, _ => none
  | .cons c n s h _, 0 => some (c, n, s, h)
  | .cons _ _ _ _ r, i + 1 => r.get? i
def LD.set : LD → Nat → Int → LH → LD
  | .nil, _, _, _ => .nil
  | .cons c n _ _ r, 0, s, h => .cons c n s h r
  | .cons c n s h r, i + 1, s', h' => .cons c n s h (r.set i s' h')
theorem LD.refs_set : ∀ (ds : LD) (i : Nat) (s : Int) (h : LH), (ds.set i s h).refs = ds.refs
  | .nil, _, _, _ => rfl
  | .cons _ _ _ _ _, 0, _, _ => rfl
  | .cons c _ _ _ r, i + 1, s, h => congrArg (V.ref c :: ·) (LD.refs_set r i s h)
theorem LD.refs_get : ∀ (ds : LD) (i : Nat), ds.refs[i]? = (ds.get? i).map fun x => .ref x.1
  | .nil, _ => by simp [LD.refs, LD.get?]
  | .cons _ _ _ _ _, 0 => rfl
  | .cons _ _ _ _ r, i + 1 => by simpa [LD.refs, LD.get?] using LD.refs_get r i
theorem LD.refs_len : ∀ ds : LD, ds.refs.length = ds.doors.len
  | .nil => rfl
  | .cons _ _ _ _ r => congrArg (· + 1) (LD.refs_len r)
theorem LD.doors_get : ∀ (ds : LD) (i : Nat), ds.doors.get? i = (ds.get? i).map fun x => (x.2.1, x.2.2.1, x.2.2.2.house)
  | .nil, _ => rfl
  | .cons _ _ _ _ _, 0 => rfl
  | .cons _ _ _ _ r, i + 1 => LD.doors_get r i
theorem LD.doors_set : ∀ (ds : LD) (i : Nat) {c : Addr} {n s : Int} {h : LH} (s' : Int) (h' : LH), ds.get? i = some (c, n, s, h) → (ds.set i s' h').doors = ds.doors.set i n s' h'.house
  | .nil, _, _, _, _, _, _, _, e => nomatch e
  | .cons _ _ _ _ _, 0, _, _, _, _, _, _, e => by cases e; rfl
  | .cons _ _ _ _ r, i + 1, _, _, _, _, s', h', e => by simp only [LD.set, LD.doors, Doors.set]; rw [LD.doors_set r i s' h' e]
theorem LD.cell_get : ∀ (ds : LD) (i : Nat) {c : Addr} {n s : Int} {h : LH}, ds.get? i = some (c, n, s, h) → (c, [V.int n, .int s, h.val]) ∈ ds.cells ∧ ∀ e ∈ h.cells, e ∈ ds.cells
  | .nil, _, _, _, _, _, e => nomatch e
  | .cons _ _ _ _ _, 0, _, _, _, _, e => by
    cases e
    exact ⟨List.mem_cons_self, fun e he => List.mem_cons_of_mem _ (List.mem_append_left _ he)⟩
  | .cons _ _ _ _ r, i + 1, _, _, _, _, e => by
    obtain ⟨a, b⟩ := LD.cell_get r i e
    exact ⟨List.mem_cons_of_mem _ (List.mem_append_right _ a), fun e he => List.mem_cons_of_mem _ (List.mem_append_right _ (b e he))⟩
theorem LD.get_nodup : ∀ (ds : LD) (i : Nat) {c : Addr} {n s : Int} {h : LH}, ds.get? i = some (c, n, s, h) → (fps ds.cells).Nodup → (fps h.cells).Nodup ∧ c ∉ fps h.cells
  | .nil, _, _, _, _, _, e, _ => nomatch e
  | .cons _ _ _ _ _, 0, _, _, _, _, e, nd => by
    cases e
    simp only [LD.cells, fps, List.map_cons, List.map_append] at nd
    obtain ⟨n1, n2⟩ := List.nodup_cons.mp nd
    exact ⟨(List.nodup_append.mp n2).1, fun z => n1 (List.mem_append_left _ z)⟩
  | .cons _ _ _ _ r, i + 1, _, _, _, _, e, nd => by
    simp only [LD.cells, fps, List.map_cons, List.map_append] at nd
    exact LD.get_nodup r i e (List.nodup_append.mp (List.nodup_cons.mp nd).2).2.1
/-- what is written inside the i-th door changes nothing else -/
theorem LD.put_in : ∀ (ds : LD) (i : Nat) {c : Addr} {n s : Int} {h : LH} (h' : LH) (x : Addr) (ys : List V), ds.get? i = some (c, n, s, h) → (fps ds.cells).Nodup → x ∈ fps h.cells → h'.val = h.val → h'.cells = putC h.cells x ys → (ds.set i s h').cells = putC ds.cells x ys
  | .nil, _, _, _, _, _, _, _, _, e, _, _, _, _ => nomatch e
  | .cons c0 n0 s0 h0 r, 0, _, _, _, _, h', x, ys, e, nd, hx, hv, hc => by
    cases e
    simp only [LD.cells, fps, List.map_cons, List.map_append] at nd
    obtain ⟨n1, n2⟩ := List.nodup_cons.mp nd
    obtain ⟨m1, m2, m3⟩ := List.nodup_append.mp n2
    simp only [LD.set, LD.cells]
    rw [put_cons, put_app, if_neg (fun z => n1 (by rw [show c0 = x from z]; exact List.mem_append_left _ hx)), hv, hc, put_off (C := r.cells) ys fun z => m3 x hx x z rfl]
  | .cons c0 n0 s0 h0 r, i + 1, _, _, _, _, h', x, ys, e, nd, hx, hv, hc => by
    simp only [LD.cells, fps, List.map_cons, List.map_append] at nd
    obtain ⟨n1, n2⟩ := List.nodup_cons.mp nd
    obtain ⟨m1, m2, m3⟩ := List.nodup_append.mp n2
    have hx2 : x ∈ fps r.cells := by
      obtain ⟨e0, he0, rfl⟩ := List.mem_map.mp hx
      exact List.mem_map.mpr ⟨e0, (LD.cell_get r i e).2 e0 he0, rfl⟩
    simp only [LD.set, LD.cells]
    rw [put_cons, put_app, if_neg (fun z => n1 (by rw [show c0 = x from z]; exact List.mem_append_right _ hx2)), LD.put_in r i h' x ys e m2 hx hv hc, put_off (C := h0.cells) ys fun z => m3 x z x hx2 rfl]
/-- the i-th door itself is written -/
theorem LD.put_at : ∀ (ds : LD) (i : Nat) {c : Addr} {n s : Int} {h : LH} (s' : Int), ds.get? i = some (c, n, s, h) → (fps ds.cells).Nodup → (ds.set i s' h).cells = putC ds.cells c [.int n, .int s', h.val]
  | .nil, _, _, _, _, _, _, e, _ => nomatch e
  | .cons c0 n0 s0 h0 r, 0, _, _, _, _, s', e, nd => by
    cases e
    simp only [LD.cells, fps, List.map_cons, List.map_append] at nd
    obtain ⟨n1, n2⟩ := List.nodup_cons.mp nd
    simp only [LD.set, LD.cells]
    rw [put_cons, put_app, if_pos rfl, put_off (C := h0.cells) _ (fun z => n1 (List.mem_append_left _ z)), put_off (C := r.cells) _ (fun z => n1 (List.mem_append_right _ z))]
  | .cons c0 n0 s0 h0 r, i + 1, c, _, _, _, s', e, nd => by
    simp only [LD.cells, fps, List.map_cons, List.map_append] at nd
    obtain ⟨n1, n2⟩ := List.nodup_cons.mp nd
    obtain ⟨m1, m2, m3⟩ := List.nodup_append.mp n2
    have hx2 : c ∈ fps r.cells := List.mem_map.mpr ⟨_, (LD.cell_get r i e).1, rfl⟩
    simp only [LD.set, LD.cells]
    rw [put_cons, put_app, if_neg (fun z => n1 (by rw [show c0 = c from z]; exact List.mem_append_right _ hx2)), LD.put_at r i s' e m2, put_off (C := h0.cells) _ fun z => m3 c z c hx2 rfl]
end Pd
namespace Pd
open PySem L2
theorem LD.get_set : ∀ (ds : LD) (i : Nat) {c : Addr} {n s : Int} {h : LH} (s' : Int) (h' : LH), ds.get? i = some (c, n, s, h) → (ds.set i s' h').get? i = some (c, n, s', h')
  | .nil, _, _, _, _, _, _, _, e => nomatch e
  | .cons _ _ _ _ _, 0, _, _, _, _, _, _, e => by cases e; rfl
  | .cons _ _ _ _ r, i + 1, _, _, _, _, s', h', e => LD.get_set r i s' h' e
theorem LD.set_set : ∀ (ds : LD) (i : Nat) (s s' : Int) (h h' : LH), (ds.set i s h).set i s' h' = ds.set i s' h'
  | .nil, _, _, _, _, _ => rfl
  | .cons _ _ _ _ _, 0, _, _, _, _ => rfl
  | .cons c n s0 h0 r, i + 1, s, s', h, h' => congrArg (LD.cons c n s0 h0) (LD.set_set r i s s' h h')
theorem LD.set_self : ∀ (ds : LD) (i : Nat) {c : Addr} {n s : Int} {h : LH}, ds.get? i = some (c, n, s, h) → ds.set i s h = ds
  | .nil, _, _, _, _, _, e => nomatch e
  | .cons _ _ _ _ _, 0, _, _, _, _, e => by cases e; rfl
  | .cons c n s0 h0 r, i + 1, _, _, _, _, e => congrArg (LD.cons c n s0 h0) (LD.set_self r i e)
/-- the way down to where one stands: the numbers of the doors, the rooms' lists -/
inductive Down : LH → List Int → List Addr → LH → Prop
  | here (t : LH) : Down t [] [] t
  | go {a b c : Addr} {hand n s : Int} {ds : LD} {inner cur : LH} {p : List Int} {as : List Addr} (h0 : 0 ≤ hand) (g : ds.get? hand.toNat = some (c, n, s, inner)) (f : ¬ s < n) (d : Down inner p as cur) : Down (.room a b hand ds) (hand :: p) (a :: as) cur
theorem Down.snoc {t : LH} {p : List Int} {as : List Addr} {cur : LH} (d : Down t p as cur) : ∀ {a b c : Addr} {hand n s : Int} {ds : LD} {inner : LH}, cur = .room a b hand ds → 0 ≤ hand → ds.get? hand.toNat = some (c, n, s, inner) → ¬ s < n → Down t (p ++ [hand]) (as ++ [a]) inner := by
  induction d with
  | here t => intro a b c hand n s ds inner e h0 g f; subst e; exact .go h0 g f (.here _)
  | go h0 g f d ih => intro a b c hand n s ds inner e h0' g' f'; exact .go h0 g f (ih e h0' g' f')
theorem Down.cells {t : LH} {p : List Int} {as : List Addr} {cur : LH} (d : Down t p as cur) : ∀ e ∈ cur.cells, e ∈ t.cells := by
  induction d with
  | here t => exact fun e h => h
  | go h0 g f d ih => exact fun e h => List.mem_cons_of_mem _ (List.mem_cons_of_mem _ ((LD.cell_get _ _ g).2 e (ih e h)))
theorem Down.house {t : LH} {p : List Int} {as : List Addr} {cur : LH} (d : Down t p as cur) : t.house.ok → cur.house.ok ∧ cur.house.deep + p.length ≤ t.house.deep ∧ as.length = p.length := by
  induction d with
  | here t => exact fun h => ⟨h, Nat.le_refl _, rfl⟩
  | go h0 g f d ih =>
    rename_i a b c hand n s ds inner cur p as
    intro ⟨_, _, _, h3⟩
    have hg : ds.doors.get? hand.toNat = some (n, s, inner.house) := by rw [LD.doors_get, g]; rfl
    obtain ⟨_, _, _, _, ho⟩ := Doors.get_ok _ _ h3 hg
    obtain ⟨a1, a2, a3⟩ := ih ho
    refine ⟨a1, ?_, by simp [a3]⟩
    have := Doors.get_deep _ _ hg
    simp only [LH.house, House.deep, List.length_cons]
    omega
theorem nd_room {a b : Addr} {hand : Int} {ds : LD} (nd : (fps (LH.room a b hand ds).cells).Nodup) : a ∉ fps ds.cells ∧ b ∉ fps ds.cells ∧ a ≠ b ∧ (fps ds.cells).Nodup := by
  simp only [LH.cells, fps, List.map_cons] at nd
  obtain ⟨n1, n2⟩ := List.nodup_cons.mp nd
  obtain ⟨n3, n4⟩ := List.nodup_cons.mp n2
  exact ⟨fun z => n1 (List.mem_cons_of_mem _ z), n3, fun z => n1 (by rw [z]; exact List.mem_cons_self), n4⟩
theorem room_put {a b x : Addr} {hand : Int} {ds ds' : LD} {ys : List V} (nd : (fps (LH.room a b hand ds).cells).Nodup) (hx : x ∈ fps ds.cells) (hr : ds'.refs = ds.refs) (hc : ds'.cells = putC ds.cells x ys) : (LH.room a b hand ds').cells = putC (LH.room a b hand ds).cells x ys := by
  obtain ⟨n1, n2, _, _⟩ := nd_room nd
  simp only [LH.cells]
  rw [put_cons, put_cons, if_neg (fun z => n1 (by rw [show a = x from z]; exact hx)), if_neg (fun z => n2 (by rw [show b = x from z]; exact hx)), hr, hc]
theorem fps_in {ds : LD} {i : Nat} {c : Addr} {n s : Int} {h : LH} (g : ds.get? i = some (c, n, s, h)) {x : Addr} (hx : x ∈ fps h.cells) : x ∈ fps ds.cells := by
  obtain ⟨e, he, rfl⟩ := List.mem_map.mp hx
  exact List.mem_map.mpr ⟨e, (LD.cell_get _ _ g).2 e he, rfl⟩
/-- a push: one list is written -/
theorem Down.push {t : LH} {p : List Int} {as : List Addr} {cur : LH} (d : Down t p as cur) : ∀ {a b c : Addr} {hand n s : Int} {ds : LD} {inner : LH}, cur = .room a b hand ds → 0 ≤ hand → ds.get? hand.toNat = some (c, n, s, inner) → s < n → (fps t.cells).Nodup →
    ∃ t' : LH, t'.house = t.house.step.2 ∧ t.house.step.1 = (p ++ [hand], none) ∧ t'.val = t.val ∧ t'.cells = putC t.cells c [.int n, .int (s + 1), inner.val] ∧ c ∈ fps t.cells := by
  induction d with
  | here t =>
    intro a b c hand n s ds inner e h0 g f nd
    subst e
    have hg : ds.doors.get? hand.toNat = some (n, s, inner.house) := by rw [LD.doors_get, g]; rfl
    have hs := Doors.step_get _ _ hg
    rw [if_pos f] at hs
    have hx : c ∈ fps ds.cells := List.mem_map.mpr ⟨_, (LD.cell_get _ _ g).1, rfl⟩
    refine ⟨.room a b hand (ds.set hand.toNat (s + 1) inner), ?_, ?_, rfl, room_put nd hx (LD.refs_set _ _ _ _) (LD.put_at ds _ _ g (nd_room nd).2.2.2), List.mem_cons_of_mem _ (List.mem_cons_of_mem _ hx)⟩
    · simp only [LH.house, House.step, hs, if_true]
      rw [LD.doors_set _ _ _ _ g]
    · simp only [LH.house, House.step, hs, List.nil_append]
  | go h0 g f d ih =>
    rename_i a0 b0 c0 hand0 n0 s0 ds0 inner0 cur0 p0 as0
    intro a b c hand n s ds inner e h0' g' f' nd
    obtain ⟨_, _, _, nd2⟩ := nd_room nd
    obtain ⟨nd3, _⟩ := LD.get_nodup _ _ g nd2
    obtain ⟨t', e1, e2, e3, e4, e5⟩ := ih e h0' g' f' nd3
    have hg : ds0.doors.get? hand0.toNat = some (n0, s0, inner0.house) := by rw [LD.doors_get, g]; rfl
    have hs := Doors.step_get _ _ hg
    rw [if_neg f, e2] at hs
    have hx := fps_in g e5
    refine ⟨.room a0 b0 hand0 (ds0.set hand0.toNat s0 t'), ?_, ?_, rfl, room_put nd hx (LD.refs_set _ _ _ _) ?_, List.mem_cons_of_mem _ (List.mem_cons_of_mem _ hx)⟩
    · simp only [LH.house, House.step, hs, if_true]
      rw [LD.doors_set _ _ _ _ g, e1]
    · simp only [LH.house, House.step, hs, List.cons_append]
    · exact LD.put_in ds0 hand0.toNat t' c _ g nd2 e5 e3 e4
/-- one room that a leaving turns: its door's list, then its own -/
structure Turn1 (t tm t' : LH) (a : Addr) : Prop where
  ex : ∃ (b c : Addr) (hand : Int) (refs : List V) (n s : Int) (v : V), (a, [V.int hand, .ref b]) ∈ t.cells ∧ (b, refs) ∈ t.cells ∧ refs[hand.toNat]? = some (.ref c) ∧ 0 ≤ hand ∧ refs.length ≤ 4 ∧ (c, [V.int n, .int s, v]) ∈ t.cells ∧
    tm.cells = putC t.cells c [.int n, .int 0, v] ∧ t'.cells = putC tm.cells a [.int ((hand + 1).fmod refs.length), .ref b] ∧ (a, [V.int hand, .ref b]) ∈ tm.cells ∧ (b, refs) ∈ tm.cells ∧ a ∈ fps t.cells ∧ c ∈ fps t.cells
  vm : tm.val = t.val
  v : t'.val = t.val
theorem Turn1.fps {t tm t' : LH} {a : Addr} (h : Turn1 t tm t' a) : fps t'.cells = fps t.cells := by
  obtain ⟨b, c, hand, refs, n, s, v, _, _, _, _, _, _, e1, e2, _⟩ := h.ex
  rw [e2, fps_put, e1, fps_put]
/-- .. lies in the door of a room -/
theorem Turn1.lift {u um u' : LH} {a x y c : Addr} {hand n s : Int} {ds : LD} (h : Turn1 u um u' a) (g : ds.get? hand.toNat = some (c, n, s, u)) (hand' : Int) (nd : (Pd.fps (LH.room x y hand' ds).cells).Nodup) :
    Turn1 (.room x y hand' ds) (.room x y hand' (ds.set hand.toNat s um)) (.room x y hand' (ds.set hand.toNat s u')) a := by
  obtain ⟨b, c1, hd, refs, n1, s1, v, m1, m2, m3, m4, m4', m5, e1, e2, m6, m7, m8, m9⟩ := h.ex
  have inn : ∀ {e}, e ∈ u.cells → e ∈ (LH.room x y hand' ds).cells := fun he => List.mem_cons_of_mem _ (List.mem_cons_of_mem _ ((LD.cell_get _ _ g).2 _ he))
  have gm : (ds.set hand.toNat s um).get? hand.toNat = some (c, n, s, um) := LD.get_set _ _ _ _ g
  have inm : ∀ {e}, e ∈ um.cells → e ∈ (LH.room x y hand' (ds.set hand.toNat s um)).cells := fun he => List.mem_cons_of_mem _ (List.mem_cons_of_mem _ ((LD.cell_get _ _ gm).2 _ he))
  obtain ⟨_, _, _, nd2⟩ := nd_room nd
  have c1e : (LH.room x y hand' (ds.set hand.toNat s um)).cells = putC (LH.room x y hand' ds).cells c1 [.int n1, .int 0, v] := room_put nd (fps_in g m9) (LD.refs_set _ _ _ _) (LD.put_in ds _ um _ _ g nd2 m9 h.vm e1)
  have ndm : (Pd.fps (LH.room x y hand' (ds.set hand.toNat s um)).cells).Nodup := by rw [c1e, fps_put]; exact nd
  obtain ⟨_, _, _, nd3⟩ := nd_room ndm
  have am : a ∈ Pd.fps um.cells := by rw [e1, fps_put]; exact m8
  have c2e : (LH.room x y hand' (ds.set hand.toNat s u')).cells = putC (LH.room x y hand' (ds.set hand.toNat s um)).cells a [.int ((hd + 1).fmod refs.length), .ref b] := by
    rw [← LD.set_set ds hand.toNat s s um u']
    exact room_put ndm (fps_in gm am) (LD.refs_set _ _ _ _) (LD.put_in _ _ u' _ _ gm nd3 am (h.v.trans h.vm.symm) e2)
  exact ⟨⟨b, c1, hd, refs, n1, s1, v, inn m1, inn m2, m3, m4, m4', inn m5, c1e, c2e, inm m6, inm m7, List.mem_cons_of_mem _ (List.mem_cons_of_mem _ (fps_in g m8)), List.mem_cons_of_mem _ (List.mem_cons_of_mem _ (fps_in g m9))⟩, rfl, rfl⟩
/-- a leaving: the rooms on its way are turned, from the outermost -/
theorem Down.out {t : LH} {p : List Int} {as : List Addr} {cur : LH} (d : Down t p as cur) : ∀ {nm : Str}, cur = .out nm → t.house.ok → (fps t.cells).Nodup →
    ∃ ts tm : Nat → LH, ts 0 = t ∧ (ts as.length).house = t.house.step.2 ∧ t.house.step.1 = (p, some nm) ∧ ∀ i a, as[i]? = some a → Turn1 (ts i) (tm i) (ts (i + 1)) a := by
  induction d with
  | here t =>
    intro nm e ok nd
    subst e
    exact ⟨fun _ => .out nm, fun _ => .out nm, rfl, rfl, rfl, fun i a h => by simp at h⟩
  | go h0 g f d ih =>
    rename_i a0 b0 c0 hand0 n0 s0 ds0 inner0 cur0 p0 as0
    intro nm e ok nd
    obtain ⟨na, nb, nab, nd2⟩ := nd_room nd
    obtain ⟨nd3, _⟩ := LD.get_nodup _ _ g nd2
    obtain ⟨_, _, k2, k3⟩ := ok
    have hg : ds0.doors.get? hand0.toNat = some (n0, s0, inner0.house) := by rw [LD.doors_get, g]; rfl
    obtain ⟨_, _, _, _, ho⟩ := Doors.get_ok _ _ k3 hg
    obtain ⟨us, um, u0, u1, u2, u3⟩ := ih e ho nd3
    have hs := Doors.step_get _ _ hg
    rw [if_neg f, u2] at hs
    have hx : c0 ∈ fps ds0.cells := List.mem_map.mpr ⟨_, (LD.cell_get _ _ g).1, rfl⟩
    have lenr : ds0.refs.length = ds0.doors.len := LD.refs_len ds0
    -- the first room
    have c1 : (LH.room a0 b0 hand0 (ds0.set hand0.toNat 0 inner0)).cells = putC (LH.room a0 b0 hand0 ds0).cells c0 [.int n0, .int 0, inner0.val] := room_put nd hx (LD.refs_set _ _ _ _) (LD.put_at ds0 _ _ g nd2)
    have ndm : (fps (LH.room a0 b0 hand0 (ds0.set hand0.toNat 0 inner0)).cells).Nodup := by rw [c1, fps_put]; exact nd
    obtain ⟨ma, _, mab, nd4⟩ := nd_room ndm
    have c2 : (LH.room a0 b0 ((hand0 + 1).fmod ds0.refs.length) (ds0.set hand0.toNat 0 inner0)).cells = putC (LH.room a0 b0 hand0 (ds0.set hand0.toNat 0 inner0)).cells a0 [.int ((hand0 + 1).fmod ds0.refs.length), .ref b0] := by
      simp only [LH.cells]
      rw [put_cons, put_cons, if_pos rfl, if_neg (fun z => mab (Eq.symm z)), put_off (C := (ds0.set hand0.toNat 0 inner0).cells) _ ma]
    have first : Turn1 (.room a0 b0 hand0 ds0) (.room a0 b0 hand0 (ds0.set hand0.toNat 0 inner0)) (.room a0 b0 ((hand0 + 1).fmod ds0.refs.length) (ds0.set hand0.toNat 0 inner0)) a0 :=
      ⟨⟨b0, c0, hand0, ds0.refs, n0, s0, inner0.val, List.mem_cons_self, List.mem_cons_of_mem _ List.mem_cons_self, by rw [LD.refs_get, g]; rfl, h0, by rw [lenr]; exact k2, List.mem_cons_of_mem _ (List.mem_cons_of_mem _ (LD.cell_get _ _ g).1), c1, c2, List.mem_cons_self, by
        show _ ∈ (LH.room a0 b0 hand0 (ds0.set hand0.toNat 0 inner0)).cells
        simp only [LH.cells, LD.refs_set]; exact List.mem_cons_of_mem _ List.mem_cons_self, List.mem_cons_self, List.mem_cons_of_mem _ (List.mem_cons_of_mem _ hx)⟩, rfl, rfl⟩
    have ndi : ∀ i, i ≤ as0.length → (fps (us i).cells) = fps inner0.cells := by
      intro i
      induction i with
      | zero => intro _; rw [u0]
      | succ i ihh => intro hi; rw [(u3 i as0[i] (List.getElem?_eq_getElem (by omega))).fps]; exact ihh (by omega)
    have vi : ∀ i, i ≤ as0.length → (us i).val = inner0.val := by
      intro i
      induction i with
      | zero => intro _; rw [u0]
      | succ i ihh => intro hi; rw [(u3 i as0[i] (List.getElem?_eq_getElem (by omega))).v]; exact ihh (by omega)
    let R : LH → LH := fun u => .room a0 b0 ((hand0 + 1).fmod ds0.refs.length) (ds0.set hand0.toNat 0 u)
    have gset : ∀ u, (ds0.set hand0.toNat 0 u).get? hand0.toNat = some (c0, n0, 0, u) := fun u => LD.get_set _ _ _ _ g
    have rfps : ∀ i, i ≤ as0.length → (fps (R (us i)).cells).Nodup := by
      intro i
      induction i with
      | zero => intro _; rw [u0]; show (fps (R inner0).cells).Nodup; rw [first.fps]; exact nd
      | succ i ihh =>
        intro hi
        have lf := (u3 i as0[i] (List.getElem?_eq_getElem (by omega))).lift (gset (us i)) ((hand0 + 1).fmod ds0.refs.length) (ihh (by omega))
        rw [LD.set_set, LD.set_set] at lf
        rw [lf.fps]; exact ihh (by omega)
    refine ⟨fun i => match i with | 0 => .room a0 b0 hand0 ds0 | i + 1 => R (us i), fun i => match i with | 0 => .room a0 b0 hand0 (ds0.set hand0.toNat 0 inner0) | i + 1 => R (um i), rfl, ?_, ?_, fun i a hi => ?_⟩
    · show (R (us as0.length)).house = _
      simp only [R, LH.house, House.step, hs]
      rw [LD.doors_set _ _ _ _ g, u1, lenr]
      simp
    · simp only [LH.house, House.step, hs]
    · cases i with
      | zero =>
        simp at hi
        subst hi
        show Turn1 _ _ (R (us 0)) a0
        rw [u0]; exact first
      | succ i =>
        have hi' : as0[i]? = some a := by simpa using hi
        have hl := (List.getElem?_eq_some_iff.mp hi').1
        have lf := (u3 i a hi').lift (gset (us i)) ((hand0 + 1).fmod ds0.refs.length) (rfps i (by omega))
        rw [LD.set_set, LD.set_set] at lf
        exact lf
end Pd
namespace Pd
open PySem PySem.Spec PyProof.Rows L2
/-! ### rules for lists that stand where they are known to stand -/
section
variable {T : Tb} {S : List Addr} {K : PySem.W.Frag} {δ δ' : List (Option SD)} {H H' : Hp} {te ta tb tl to : TE} {t u : TS} {B : Ends} {d : D} {a l : Addr} {xs : List V} {v x y : V} {i : Int} {z : Str}
theorem ev_ofS (h : EvV T K te δ H (.str z)) : EvD T K te δ H (.str z) := fun σ H1 g s Q q => h σ H1 g s Q fun H2 g2 => q _ H2 g2 rfl
theorem ev_isStrS (h : EvV T K ta δ H (.str z)) : EvD T K (tCB (rIsi K) (tCons ta (tCons (tC (.ty "str")) tNil))) δ H (.bl true) := (ev_isStr (ev_ofS h)).is rfl
theorem ev_isStrL (h : EvV T K ta δ H (.ref l)) (e : H l = some (.lst xs)) : EvD T K (tCB (rIsi K) (tCons ta (tCons (tC (.ty "str")) tNil))) δ H (.bl false) := fun σ H1 g s Q q =>
  h σ H1 g s _ fun H2 g2 => ⟨.ref l, .ty "str", .type "list", .type "str", false, rfl, .ty _, .base (.lst ((g.trans g2).lst e (by simp))), kit_ty (by decide +kernel), q _ H2 g2 rfl⟩
/-- x, y = list of two -/
theorem run_unl2 {m n : Nat} (hT : Tbs T H) (h : EvV T K te δ H (.ref a)) (e : H a = some (.lst [x, y])) (k : ∀ H1, Gr T [] H H1 → Run K u B ((δ.set m (some (.v x))).set n (some (.v y))) H1) :
    Run K (tSeq (tAsg te (gUnl K 2 (gCons (gName m) (gCons (gName n) gNil)))) u) B δ H := fun σ s =>
  h σ H (Gr.refl hT) s _ fun H1 g1 => ⟨a, [x, y], rfl, .inl (.inl (g1.lst e (by simp))), rfl, x, [y], rfl, y, [], rfl, rfl, k H1 g1 _ (((s.up g1).set m (show SlotOk K H1 (some (.v x)) (some x) from rfl)).set n (show SlotOk K H1 (some (.v y)) (some y) from rfl))⟩
/-- for x in a list that stands at l and is not changed -/
theorem run_forL {n : Nat} (hT : Tbs T H) (hl : EvV T K tl δ H (.ref l)) (e : H l = some (.lst xs)) (nS : l ∉ S) (δs : Nat → List (Option SD)) (I : Nat → Hp → Prop)
    (h0 : Less δ (δs 0)) (hI : ∀ H1, Gr T [] H H1 → I 0 H1) (hIm : ∀ i H1 H2, Gr T [] H1 H2 → I i H1 → I i H2)
    (hs : ∀ i x H1 (N : L2.St → Hp → Prop), xs[i]? = some x → Gr T S H H1 → I i H1 → (∀ σ H2, Gr T S H1 H2 → I (i + 1) H2 → Slots K H2 (δs (i + 1)) σ → N σ H2) → Run K t { nx := N, rt := B.rt, bk := u B, ct := N } ((δs i).set n (some (.v x))) H1)
    (hd : ∀ H1, Gr T S H H1 → I xs.length H1 → Run K u B (δs xs.length) H1) : Run K (tSeq (tFor (iList K tl) (gName n) t) u) B δ H := fun σ s =>
  hl σ H (Gr.refl hT) s _ fun H2 g2 => by
    have e2 := g2.lst e (by simp)
    refine ⟨l, rfl, ⟨xs, .inl (.inl e2)⟩, ?_⟩
    have W : Walk (Itl K l) xs.length (fun H' => Gr T S H2 H') (fun i Ha x Hb => Ha = Hb ∧ xs[i]? = some x) := (walk_list (K := K) (a := l) (xs := xs)).mono (fun H' g => .inl (.inl (Gr.lst g e2 nS))) fun i Ha x Hb hi g q => ⟨q.1.symm, q.2⟩
    refine for_it W (fun i σ' H' => Gr T S H2 H' ∧ I i H' ∧ Slots K H' (δs i) σ') ⟨Gr.refl g2.tbs, hI H2 g2, Slots.less h0 (s.up g2)⟩ (fun i σ' H' _ p => p.1) (fun i x σ' Ha Hb hlt p y => ?_) (fun σ' H' p => hd H' (g2.any.trans p.1) p.2.1 σ' p.2.2)
    obtain ⟨p1, p2, p3⟩ := p
    obtain ⟨rfl, hx⟩ := y
    exact hs i x Ha (fun σ' H' => Gr T S H2 H' ∧ I (i + 1) H' ∧ Slots K H' (δs (i + 1)) σ') hx (g2.any.trans p1) p2 (fun σ2 H3 g3 i3 s3 => ⟨p1.trans g3, i3, s3⟩) _ (p3.set n (show SlotOk K Ha (some (.v x)) (some x) from rfl))
end
end Pd
namespace Pd
open PySem L2
/-! ### numbers of one or two figures, as texts -/
def num (i : Int) : Str := toString i
def isNum (z : Str) : Bool := (decide (1 ≤ z.length) && decide (z.length ≤ 2)) && z.cps.toList.all (fun c => decide (c ∈ ("0123456789" : Str).cps.toList)) && (decide (z.length = 1) || !decide (z.cps.toList[0]? = some 48))
def numOk (i : Int) : Bool := isNum (num i) && decide (PySem.intText? (num i) = some i) && (num i).cps.toList.all (fun c => decide (48 ≤ c) && decide (c ≤ 57)) && decide (i.natAbs.log2 < 1920)
theorem numOk_all : (List.range 100).all (fun k => numOk (k : Nat)) = true := by decide +kernel
theorem num_ok {i : Int} (h0 : 0 ≤ i) (h1 : i ≤ 99) : numOk i = true := by
  have := List.all_eq_true.mp numOk_all i.toNat (List.mem_range.mpr (by omega))
  rwa [Int.toNat_of_nonneg h0] at this
end Pd
namespace Pd
open PySem L2 TL
def fig (i : Int) : Prop := 0 ≤ i ∧ i ≤ 99
section
variable {i : Int}
theorem fig.isNum (h : fig i) : isNum (num i) = true := by
  have := num_ok h.1 h.2
  simp only [numOk, Bool.and_eq_true] at this
  exact this.1.1.1
theorem fig.val (h : fig i) : PySem.intText? (num i) = some i := by
  have := num_ok h.1 h.2
  simp only [numOk, Bool.and_eq_true, decide_eq_true_eq] at this
  exact this.1.1.2
theorem fig.figs (h : fig i) : ∀ c ∈ tl (num i), 48 ≤ c ∧ c ≤ 57 := by
  have := num_ok h.1 h.2
  simp only [numOk, Bool.and_eq_true, decide_eq_true_eq, List.all_eq_true] at this
  exact this.1.2
theorem fig.log (h : fig i) : i.natAbs.log2 < 1920 := by
  have := num_ok h.1 h.2
  simp only [numOk, Bool.and_eq_true, decide_eq_true_eq] at this
  exact this.2
theorem fig.len (h : fig i) : 1 ≤ (num i).length ∧ (num i).length ≤ 2 := by
  have := h.isNum
  simp only [Pd.isNum, Bool.and_eq_true, decide_eq_true_eq] at this
  exact this.1.1
end
mutual
def House.words : House → List (List Str)
  | .out n => [["out", n]]
  | .room hand ds => ["room", num hand, num ds.len] :: ds.words
def Doors.words : Doors → List (List Str)
  | .nil => []
  | .cons n s h r => ["door", num n, num s] :: (h.words ++ r.words)
end
mutual
theorem House.words_len : ∀ h : House, h.words.length = 1 + 2 * h.many
  | .out _ => rfl
  | .room _ ds => by simp only [House.words, List.length_cons, House.many, Doors.words_len ds]; omega
theorem Doors.words_len : ∀ ds : Doors, ds.words.length = 2 * ds.many
  | .nil => rfl
  | .cons _ _ h r => by simp only [Doors.words, List.length_cons, List.length_append, Doors.many, House.words_len h, Doors.words_len r]; omega
end
def rowT (ws : List Str) : Str := Txt.join " " ws
def House.text (h : House) : Str := Txt.join "\n" (h.words.map rowT)
inductive RowOk : List Str → Prop
  | out (n : Str) : okName n → RowOk ["out", n]
  | room (a b : Int) : fig a → fig b → RowOk ["room", num a, num b]
  | door (a b : Int) : fig a → fig b → RowOk ["door", num a, num b]
mutual
theorem House.words_ok : ∀ h : House, h.ok → ∀ w ∈ h.words, RowOk w
  | .out n, o, w, hw => by
    simp only [House.words, List.mem_singleton] at hw
    subst hw; exact .out n o
  | .room hand ds, ⟨o1, o2, o3, o4⟩, w, hw => by
    simp only [House.words, List.mem_cons] at hw
    rcases hw with rfl | hw
    · exact .room _ _ ⟨o1, by omega⟩ ⟨by omega, by omega⟩
    · exact Doors.words_ok ds o4 w hw
theorem Doors.words_ok : ∀ ds : Doors, ds.ok → ∀ w ∈ ds.words, RowOk w
  | .nil, _, w, hw => by simp [Doors.words] at hw
  | .cons n s h r, ⟨o1, o2, o3, o4, o5, o6⟩, w, hw => by
    simp only [Doors.words, List.mem_cons, List.mem_append] at hw
    rcases hw with rfl | hw | hw
    · exact .door _ _ ⟨by omega, o2⟩ ⟨o3, by omega⟩
    · exact House.words_ok h o5 w hw
    · exact Doors.words_ok r o6 w hw
end
theorem tl_rowT (ws : List Str) : tl (rowT ws) = joinL [32] (ws.map tl) := by
  unfold rowT
  rw [join_eq, tl_join]; rfl
theorem tl_row2 (a b : Str) : tl (rowT [a, b]) = tl a ++ (32 :: tl b) := by rw [tl_rowT]; simp [joinL]
theorem tl_row3 (a b c : Str) : tl (rowT [a, b, c]) = tl a ++ (32 :: (tl b ++ (32 :: tl c))) := by rw [tl_rowT]; simp [joinL]
theorem tl_out : tl "out" = [111, 117, 116] := by decide +kernel
theorem tl_room : tl "room" = [114, 111, 111, 109] := by decide +kernel
theorem tl_door : tl "door" = [100, 111, 111, 114] := by decide +kernel
theorem tl_out_ : tl "out " = [111, 117, 116, 32] := by decide +kernel
theorem tl_room_ : tl "room " = [114, 111, 111, 109, 32] := by decide +kernel
theorem tl_door_ : tl "door " = [100, 111, 111, 114, 32] := by decide +kernel
theorem tl_sp : tl " " = [32] := by decide +kernel
theorem tl_nl : tl "\n" = [10] := by decide +kernel
theorem tl_empty : tl Str.empty = [] := rfl
theorem row_out (n : Str) : "out " ++ n = rowT ["out", n] := ext_tl (by rw [tl_row2, tl_append, tl_out_, tl_out]; rfl)
theorem row_room (a b : Str) : "room " ++ a ++ " " ++ b = rowT ["room", a, b] := ext_tl (by rw [tl_row3, tl_append, tl_append, tl_append, tl_room_, tl_room, tl_sp]; simp)
theorem row_door (a b : Str) : "door " ++ a ++ " " ++ b = rowT ["door", a, b] := ext_tl (by rw [tl_row3, tl_append, tl_append, tl_append, tl_door_, tl_door, tl_sp]; simp)
theorem empty_app (a : Str) : Str.empty ++ a = a := ext_tl (by rw [tl_append, tl_empty]; rfl)
theorem RowOk.signs {w : List Str} (h : RowOk w) : w ≠ [] ∧ (∀ p ∈ w, 32 ∉ tl p) ∧ 10 ∉ tl (rowT w) ∧ (rowT w).length ≤ 10 := by
  cases h with
  | out n o =>
    have hc : ∀ c ∈ tl n, 97 ≤ c ∧ c ≤ 122 := o.2.2
    refine ⟨by simp, fun p hp => ?_, ?_, ?_⟩
    · rcases (by simpa using hp : p = "out" ∨ p = n) with rfl | rfl
      · rw [tl_out]; decide
      · exact fun z => absurd (hc 32 z).1 (by decide)
    · rw [tl_row2, tl_out]
      simp only [List.mem_append, List.mem_cons]
      rintro (z | z | z)
      · simp at z
      · cases z
      · exact absurd (hc 10 z).1 (by decide)
    · rw [len_tl, tl_row2, tl_out]
      have := o.2.1
      rw [len_tl] at this
      simp only [List.length_append, List.length_cons, List.length_nil]; omega
  | room a b ha hb =>
    refine ⟨by simp, fun p hp => ?_, ?_, ?_⟩
    · rcases (by simpa using hp : p = "room" ∨ p = num a ∨ p = num b) with rfl | rfl | rfl
      · rw [tl_room]; decide
      · exact fun z => absurd (ha.figs 32 z).1 (by decide)
      · exact fun z => absurd (hb.figs 32 z).1 (by decide)
    · rw [tl_row3, tl_room]
      simp only [List.mem_append, List.mem_cons]
      rintro (z | z | z | z | z)
      · simp at z
      · cases z
      · exact absurd (ha.figs 10 z).1 (by decide)
      · cases z
      · exact absurd (hb.figs 10 z).1 (by decide)
    · rw [len_tl, tl_row3, tl_room]
      have h1 := ha.len.2
      have h2 := hb.len.2
      rw [len_tl] at h1 h2
      simp only [List.length_append, List.length_cons, List.length_nil]; omega
  | door a b ha hb =>
    refine ⟨by simp, fun p hp => ?_, ?_, ?_⟩
    · rcases (by simpa using hp : p = "door" ∨ p = num a ∨ p = num b) with rfl | rfl | rfl
      · rw [tl_door]; decide
      · exact fun z => absurd (ha.figs 32 z).1 (by decide)
      · exact fun z => absurd (hb.figs 32 z).1 (by decide)
    · rw [tl_row3, tl_door]
      simp only [List.mem_append, List.mem_cons]
      rintro (z | z | z | z | z)
      · simp at z
      · cases z
      · exact absurd (ha.figs 10 z).1 (by decide)
      · cases z
      · exact absurd (hb.figs 10 z).1 (by decide)
    · rw [len_tl, tl_row3, tl_door]
      have h1 := ha.len.2
      have h2 := hb.len.2
      rw [len_tl] at h1 h2
      simp only [List.length_append, List.length_cons, List.length_nil]; omega
theorem RowOk.split {w : List Str} (h : RowOk w) : Txt.split (rowT w) " " = w := split_join (s := 32) (S := []) tl_sp (by decide +kernel) h.signs.1 h.signs.2.1
theorem words_ne (h : House) : h.words ≠ [] := by
  cases h <;> simp [House.words]
theorem text_split {h : House} (o : h.ok) : Txt.split h.text "\n" = h.words.map rowT := by
  refine split_join (s := 10) (S := []) tl_nl (by decide +kernel) (fun e => words_ne h (List.map_eq_nil_iff.mp e)) fun p hp => ?_
  obtain ⟨w, hw, rfl⟩ := List.mem_map.mp hp
  exact (House.words_ok h o w hw).signs.2.2.1
theorem sum_rows : ∀ ws : List (List Str), (∀ w ∈ ws, RowOk w) → ((ws.map rowT).map (·.length)).sum ≤ 10 * ws.length
  | [], _ => Nat.le_refl _
  | w :: ws, h => by
    have a := (h w (by simp)).signs.2.2.2
    have b := sum_rows ws fun x hx => h x (by simp [hx])
    simp only [List.map_cons, List.sum_cons, List.length_cons]; omega
theorem joinL_len (S : List Nat) : ∀ ls : List (List Nat), (joinL S ls).length ≤ (ls.map (·.length)).sum + S.length * ls.length
  | [] => by simp [joinL]
  | [a] => by simp [joinL]
  | a :: b :: r => by
    have := joinL_len S (b :: r)
    simp only [joinL, List.length_append, List.map_cons, List.sum_cons, List.length_cons, Nat.mul_add] at this ⊢
    omega
theorem text_len {h : House} (o : h.ok) : h.text.length ≤ 11 * h.words.length := by
  have a := sum_rows h.words (House.words_ok h o)
  unfold House.text
  rw [len_tl, join_eq, tl_join, tl_nl]
  have b := joinL_len [10] ((h.words.map rowT).map tl)
  have e : (((h.words.map rowT).map tl).map (·.length)) = ((h.words.map rowT).map (·.length)) := by
    rw [List.map_map]; exact List.map_congr_left fun x _ => (len_tl x).symm
  rw [e] at b
  simp only [List.length_map, List.length_cons, List.length_nil] at b
  omega
/-! ### the doors from the i-th on -/
def Doors.skip : Doors → Nat → Doors
  | ds, 0 => ds
  | .nil, _ + 1 => .nil
  | .cons _ _ _ r, i + 1 => r.skip i
theorem Doors.skip_zero (ds : Doors) : ds.skip 0 = ds := by cases ds <;> rfl
theorem Doors.skip_get : ∀ (ds : Doors) (i : Nat) {n s : Int} {h : House}, ds.get? i = some (n, s, h) → ds.skip i = .cons n s h (ds.skip (i + 1))
  | .nil, _, _, _, _, e => nomatch e
  | .cons _ _ _ r, 0, _, _, _, e => by cases e; simp only [Doors.skip, Doors.skip_zero]
  | .cons _ _ _ r, i + 1, _, _, _, e => by simp only [Doors.skip]; exact Doors.skip_get r i e
theorem Doors.skip_len : ∀ ds : Doors, ds.skip ds.len = .nil
  | .nil => rfl
  | .cons _ _ _ r => Doors.skip_len r
theorem Doors.get_many : ∀ (ds : Doors) (i : Nat) {n s : Int} {h : House}, ds.get? i = some (n, s, h) → h.many + 1 ≤ ds.many
  | .nil, _, _, _, _, e => nomatch e
  | .cons _ _ h r, 0, _, _, _, e => by cases e; simp only [Doors.many]; omega
  | .cons _ _ h r, i + 1, _, _, _, e => by have := Doors.get_many r i e; simp only [Doors.many]; omega
/-! ### which rows can stand -/
inductive Stands : List Str → Str → List Str → Prop
  | out (n : Str) : okName n → Stands ["out", n] "room" []
  | room (a b : Int) : fig a → fig b → Stands ["room", num a, num b] "room" (List.replicate b.toNat ("door" : Str))
  | door (a b : Int) : fig a → fig b → Stands ["door", num a, num b] "door" ["room"]
def Goes : List Str → List (List Str) → List Str → Prop
  | st, [], fin => st = fin
  | st, w :: ws, fin => ∃ st0 x n, st = st0 ++ [x] ∧ Stands w x n ∧ Goes (st0 ++ n) ws fin
theorem Goes.app : ∀ {u v : List (List Str)} {a b c : List Str}, Goes a u b → Goes b v c → Goes a (u ++ v) c
  | [], _, _, _, _, h, h2 => by cases (show _ = _ from h); exact h2
  | _ :: u, _, _, _, _, ⟨st0, x, n, e, s, g⟩, h2 => ⟨st0, x, n, e, s, Goes.app (u := u) g h2⟩
mutual
theorem House.goes : ∀ h : House, h.ok → ∀ st, Goes (st ++ [("room" : Str)]) h.words st
  | .out n, o, st => ⟨st, "room", [], rfl, .out n o, by simp [Goes]⟩
  | .room hand ds, ⟨o1, o2, o3, o4⟩, st => by
    have := Doors.goes ds o4 st
    exact ⟨st, "room", _, rfl, .room _ _ ⟨o1, by omega⟩ ⟨by omega, by omega⟩, by rw [Int.toNat_natCast]; exact this⟩
theorem Doors.goes : ∀ ds : Doors, ds.ok → ∀ st, Goes (st ++ List.replicate ds.len ("door" : Str)) ds.words st
  | .nil, _, st => by simp [Goes, Doors.words, Doors.len]
  | .cons n s h r, ⟨o1, o2, o3, o4, o5, o6⟩, st => by
    refine ⟨st ++ List.replicate r.len ("door" : Str), "door", ["room"], ?_, .door _ _ ⟨by omega, o2⟩ ⟨o3, by omega⟩, Goes.app (House.goes h o5 _) (Doors.goes r o6 st)⟩
    rw [Doors.len, List.replicate_succ', List.append_assoc]
end
/-! ### what they build, from the last -/
inductive Step : List Str → List D → List D → Prop
  | out (n : Str) (st : List D) : Step ["out", n] st (.str n :: st)
  | door (a b : Int) (x : D) (st : List D) : fig a → fig b → Step ["door", num a, num b] (x :: st) (.tup [.int a, .int b, x] :: st)
  | room (a : Int) (ds st : List D) : fig a → ds.length ≤ 99 → Step ["room", num a, num ds.length] (ds ++ st) (.tup [.int a, .tup ds] :: st)
def Comes : List (List Str) → List D → List D → Prop
  | [], st, fin => st = fin
  | w :: ws, st, fin => ∃ st', Step w st st' ∧ Comes ws st' fin
theorem Comes.app : ∀ {u v : List (List Str)} {a b c : List D}, Comes u a b → Comes v b c → Comes (u ++ v) a c
  | [], _, _, _, _, h, h2 => by cases (show _ = _ from h); exact h2
  | _ :: u, _, _, _, _, ⟨st, s, g⟩, h2 => ⟨st, s, Comes.app (u := u) g h2⟩
mutual
theorem House.ends : ∀ h : House, h.ok → ∀ st, Comes h.words.reverse st (h.toD :: st)
  | .out n, o, st => ⟨_, .out n st, rfl⟩
  | .room hand ds, ⟨o1, o2, o3, o4⟩, st => by
    simp only [House.words, List.reverse_cons]
    refine Comes.app (Doors.ends ds o4 st) ⟨_, ?_, rfl⟩
    have := Step.room hand ds.toDs st ⟨o1, by omega⟩ (by rw [Doors.toDs_len]; omega)
    rw [Doors.toDs_len] at this
    exact this
theorem Doors.ends : ∀ ds : Doors, ds.ok → ∀ st, Comes ds.words.reverse st (ds.toDs ++ st)
  | .nil, _, st => by simp [Comes, Doors.words, Doors.toDs]
  | .cons n s h r, ⟨o1, o2, o3, o4, o5, o6⟩, st => by
    simp only [Doors.words, List.reverse_cons, List.reverse_append, Doors.toDs, List.append_assoc, List.cons_append]
    rw [← List.append_assoc]
    exact Comes.app (Comes.app (Doors.ends r o6 st) (House.ends h o5 _)) ⟨_, .door n s h.toD _ ⟨by omega, o2⟩ ⟨o3, by omega⟩, rfl⟩
end
end Pd
namespace L2
open PySem PySem.Spec PyProof.Rows
/-! ### del xs[a:] -/
section
variable {prog : Program} {w : World} {A : Around} {E : Value → Shared → Prop} {s : Shared}
theorem zip_keep {α : Type} (sel : Nat → Bool) (a : Nat) : ∀ (xs : List α) (k : Nat), (∀ i, k ≤ i → i < k + xs.length → sel i = decide (a ≤ i)) → (xs.zipIdx k).filterMap (fun x => if sel x.2 then none else some x.1) = xs.take (a - k)
  | [], k, _ => by simp
  | x :: xs, k, h => by
    rw [List.zipIdx_cons, List.filterMap_cons]
    have h0 := h k (Nat.le_refl _) (by simp)
    have ih := zip_keep sel a xs (k + 1) fun i h1 h2 => h i (by omega) (by simp only [List.length_cons]; omega)
    simp only [h0]
    by_cases c : a ≤ k
    · rw [decide_eq_true c, if_pos rfl, ih, show a - (k + 1) = 0 by omega, show a - k = 0 by omega]; simp
    · rw [decide_eq_false c, if_neg (by decide), ih, show a - k = (a - (k + 1)) + 1 by omega]; rfl
theorem bounds_from {a n : Nat} (ha : a ≤ n) : sliceBounds (some (a : Int)) none none n = ((a : Int), (n : Int), 1) := by
  simp only [sliceBounds, Option.getD_none]
  have h1 : ¬ ((a : Int) < 0) := by omega
  simp only [h1, if_false, show (1 : Int) > 0 by decide, if_true]
  congr 1
  omega
theorem delItem_slice {l sl : Addr} {items : Array Value} {n : Nat} {vl vu : Value} {a : Nat} {Q : Unit → Shared → Prop}
    (e : s.heap.get? l = some { cls := .type "list", data := .seq items n }) (hs : s.heap.IsSliceOf sl vl vu .none) (pl : IsPart vl (some (a : Int))) (pu : IsPart vu none) (ha : a ≤ items.size)
    (hsz : items.size ≤ sizeLine) (h : ∀ F : Array Value → Array Value, F items = (items.toList.take a).toArray → Q () { s with heap := s.heap.update l (Obj.mapSeq F) }) :
    wpAny (model prog w) A (delItem (.ref l) (.ref sl)) Q E s := by
  have hl : s.heap.IsList l items := PySem.IsL.isList e
  obtain ⟨os, hos, hcs, hds⟩ := id hs
  have hTs : s.TypeIs (.ref sl) "slice" := ⟨os, hos, hcs⟩
  have hstep : ¬ ((rawPart none == rawInt 0) = true) := Bool.false_ne_true
  unfold delItem
  try with_reducible refine wpAny_holding ?_
  first | refine wpAny_bind (wpAny_pure ?_) | skip
  refine wpAny_bind (wpAny_sequenceKey hl.typeIs (by decide) ?_)
  refine wpAny_bind (wpAny_callSpecial?_slot (name := Str.ofString "__delitem__") hl.typeIs PySem.F.slot_list_delitem
    (wpAny_call_entry PySem.F.slot_list_delitem hl.typeIs PySem.F.entry_list_delitem ?_ (PySem.F.args_list_delitem_2 _ _)))
  show wpAny _ _ (Builtin.List.listSubscript? (.ref sl) >>= _) _ _ s
  refine wpAny_bind ?_
  unfold Builtin.List.listSubscript?
  refine wpAny_bind (wpAny_specialOf hTs slice_no_index ?_)
  simp only [Option.isNone_none, if_true]
  refine wpAny_pure ?_
  show wpAny _ _ (typeOf (.ref sl) >>= _) _ _ s
  refine wpAny_bind (wpAny_typeOf hTs ?_)
  first
    | rw [if_neg (by decide)]
    | refine PySem.W.KFB.if_not (by decide) ?_
  rw [listSliceParts_eq]
  refine wpAny_bind (wpAny_bind (wpAny_field hos hds (x := .none) rfl (wpAny_bind (wpAny_listPart .none ?_))))
  rw [if_neg hstep]
  refine wpAny_bind (wpAny_field hos hds (x := vl) rfl (wpAny_bind (wpAny_listPart pl ?_)))
  refine wpAny_bind (wpAny_field hos hds (x := vu) rfl (wpAny_bind (wpAny_listPart pu (wpAny_pure ?_))))
  unfold Builtin.List.listItems
  refine wpAny_bind (wpAny_bind (wpAny_seqItems e rfl (wpAny_pure ?_)))
  refine wpAny_bind (wpAny_of_eq ((sliceIndices_raw (some (a : Int)) none none items.size (by simp)).trans (congrArg (pure : Int × Int × Int → Sem (Int × Int × Int)) (bounds_from ha))) ?_)
  refine wpAny_bind (wpAny_rule ?_)
  generalize hF : (fun xs : Array Value => (List.filterMap _ xs.toList.zipIdx).toArray) = F
  have hFi : F items = (items.toList.take a).toArray := by
    rw [← hF]
    show (List.filterMap _ items.toList.zipIdx).toArray = _
    refine congrArg List.toArray ?_
    have := zip_keep (fun i => (decide ((a : Int) ≤ (i : Int)) && decide ((i : Int) < (items.size : Int))) && (((i : Int) - a) % 1 == 0)) a items.toList 0 fun i _ h2 => by
      have : (i : Int) < (items.size : Int) := by simpa using h2
      rw [decide_eq_true this, Bool.and_true]
      by_cases c : a ≤ i
      · rw [decide_eq_true c, decide_eq_true (by omega)]; simp
      · rw [decide_eq_false c, decide_eq_false (by omega)]; rfl
    exact this
  refine wpAny_bind (wpAny_updateSeq (hz := hsz) (_hz' := by rw [hFi]; simp; omega) e rfl ?_)
  refine wpAny_bind (wpAny_letGo ?_)
  exact wpAny_pure ⟨.none, rfl, wpAny_pure (h F hFi)⟩
end
section
variable {X : Cx}
/-- del o[lo:] -/
def tDelS (to : TE) (tl : TO) : TS := fun D σ H => to σ H fun x H1 => tl σ H1 fun lo H2 => ∃ (l : Addr) (xs : List V) (a : Nat), x = .ref l ∧ lo = some (a : Int) ∧ H2 l = some (.lst xs) ∧ a ≤ xs.length ∧ D.nx σ (upd H2 l (.lst (xs.take a)))
theorem ps_delS {o : Expr} {lo : Option Expr} {to : TE} {tl : TO} {p2 tpos pos : Pos} (ho : PE X o to) (hl : PO X lo tl) : PS X (.Delete [.Subscript o (.Slice lo none none p2) tpos] pos) (tDelS to tl) := by
  refine ⟨fun pins s σ H D I h => ?_⟩
  refine wpAny_Delete (wpAny_deleteEach_cons (wpAny_delete_Subscript (thn (ho.run pins s σ H _ I h) fun u s1 ⟨x, H1, I1, rx, q1⟩ => ?_)))
  refine wpAny_Slice (thn (hl.run pins s1 σ H1 _ I1 q1) fun vl s2 ⟨lo', H2, I2, pl, q2⟩ => thn ((po_none : PO X none tNoPart).run pins s2 σ H2 (fun u' H3 => u' = none ∧ H3 = H2) I2 ⟨rfl, rfl⟩) fun vu s3 ⟨u', H3, I3, pu, q3⟩ => ?_)
  obtain ⟨rfl, rfl⟩ := q3
  rw [evalPart_none]
  refine wpAny_pure ?_
  have I4 : Inv X pins σ H3 { s3 with heap := s3.heap.push { cls := .type "slice", data := .fields #[vl, vu, .none] } } := I3.kept (t' := s3.toks) fun b ob q => Heap.get?_push_of_some _ q
  obtain ⟨l, xs, a, ex, ea, hH, hale, q⟩ := q2
  subst ex; subst ea
  cases (show u = Value.ref l from rx)
  obtain ⟨z, its, n, r, hlz, e⟩ := I4.lstM hH
  have hlen := r.length
  refine delItem_slice (a := a) e (Heap.IsSliceOf.new ..) pl pu (by rw [List.size_toArray]; omega) (by rw [List.size_toArray]; omega) fun F hF => ?_
  refine wpAny_deleteEach_nil ⟨σ, _, ?_, q⟩
  refine I4.lset (its' := its.take a) (t' := s3.toks) hH e (by rw [hF]) (r.take a) ?_
  rw [List.length_take]; omega
end
end L2
namespace Pd
open PySem PySem.Spec PyProof.Rows L2
theorem run_delS {T : Tb} {K : PySem.W.Frag} {δ : List (Option SD)} {H : Hp} {to : TE} {tl : TO} {u : TS} {B : Ends} {l : Addr} {xs : List V} {a : Nat} (hT : Tbs T H) (ho : EvV T K to δ H (.ref l)) (hl : EvO T K tl δ H (some (a : Int))) (e : H l = some (.lst xs)) (ha : a ≤ xs.length)
    (k : ∀ H1, Gr T [] H H1 → H1 l = some (.lst xs) → Run K u B δ (upd H1 l (.lst (xs.take a)))) : Run K (tSeq (tDelS to tl) u) B δ H := fun σ s =>
  ho σ H (Gr.refl hT) s _ fun H1 g1 => hl σ H1 g1 (s.up g1) _ fun H2 g2 => by
    have g := g1.trans g2
    have e2 := g.lst e (by simp)
    have gp : Gr T [l] H2 (upd H2 l (.lst (xs.take a))) := (Gr.refl g.tbs).put e2 (.inl (by simp))
    exact ⟨l, xs, a, rfl, rfl, e2, ha, k H2 g e2 σ ((s.up g).up gp)⟩
end Pd
namespace Pd
open PySem PySem.Spec PyProof.Rows L2
/-! ### rules for texts and lists of texts -/
section
variable {T : Tb} {S : List Addr} {K : PySem.W.Frag} {δ δ' : List (Option SD)} {H H' : Hp} {te ta tb tl to : TE} {t u : TS} {B : Ends} {d : D} {l : Addr} {xs ys : List V} {i : Int} {x y z : Str} {ws : List Str} {ds : List D}
theorem Reps.strs : ∀ {ws : List Str} {xs : List V}, Reps K H (ws.map D.str) xs → xs = ws.map V.str
  | [], _, h => h
  | w :: ws, _, ⟨x, r, e, h1, h2⟩ => by
    subst e
    cases (show x = .str w from h1)
    rw [Reps.strs (ws := ws) h2]; rfl
theorem Reps.ofStrs : ∀ ws : List Str, Reps K H (ws.map D.str) (ws.map V.str)
  | [] => rfl
  | w :: ws => ⟨.str w, _, rfl, rfl, Reps.ofStrs ws⟩
theorem en_ofL (h : EvL T K te δ H (ws.map D.str)) : EvN T K te δ H (ws.map V.str) := fun σ H1 g s Q q => h σ H1 g s Q fun p xs H2 n g2 e r => q p H2 n g2 (by rw [← r.strs]; exact e)
theorem el_ofN (h : EvN T K te δ H (ws.map V.str)) : EvL T K te δ H (ws.map D.str) := fun σ H1 g s Q q => h σ H1 g s Q fun p H2 n g2 e => q p _ H2 n g2 e (Reps.ofStrs ws)
theorem ev_addS (ha : EvD T K ta δ H (.str x)) (hb : EvD T K tb δ H (.str y)) (hz : x.length + y.length ≤ 100000) : EvD T K (tOp (fun x y H Q => ∃ i j : Str, x = .str i ∧ y = .str j ∧ i.length + j.length ≤ sizeLine ∧ Q (.str (i ++ j)) H) ta tb) δ H (.str (x ++ y)) :=
  ev_op ha hb fun v w H1 g1 e1 e2 Q q => ⟨x, y, e1, e2, sz hz, q _ H1 g1.self rfl⟩
theorem ev_strI (h : EvD T K te δ H (.int i)) (hf : fig i) : EvD T K (tCB (fun xs H Q => ∃ i : Int, xs = [.int i] ∧ i.natAbs.log2 < 1920 ∧ Q (.str (toString i)) H) (tCons te tNil)) δ H (.str (num i)) := fun σ H1 g s Q q =>
  h σ H1 g s _ fun v H2 g2 e => by
    cases (show v = .int i from e)
    exact ⟨i, rfl, hf.log, q _ H2 g2 rfl⟩
theorem ev_intS (h : EvD T K te δ H (.str (num i))) (hf : fig i) : EvD T K (tCB (fun xs H Q => ∃ a n, xs = [.str a] ∧ PySem.intText? a = some n ∧ a.length ≤ 640 ∧ Q (.int n) H) (tCons te tNil)) δ H (.int i) := fun σ H1 g s Q q =>
  h σ H1 g s _ fun v H2 g2 e => by
    cases (show v = .str (num i) from e)
    exact ⟨num i, i, rfl, hf.val, by have := hf.len.2; omega, q _ H2 g2 rfl⟩
/-! f-strings -/
def EvJ (T : Tb) (K : PySem.W.Frag) (ts : List TE) (acc : Str) (δ : List (Option SD)) (H : Hp) (out : Str) : Prop := ∀ σ H1, Gr T [] H H1 → Slots K H1 δ σ → ∀ Q : Str → Hp → Prop, (∀ H2, Gr T [] H1 H2 → Q out H2) → tJs ts acc σ H1 Q
theorem ej_nil {acc : Str} : EvJ T K [] acc δ H acc := fun σ H1 g s Q q => q H1 g.self
theorem ej_cons {acc out : Str} {ts : List TE} (h : EvD T K te δ H (.str y)) (hz : (acc ++ y).length ≤ 100000) (hr : EvJ T K ts (acc ++ y) δ H out) : EvJ T K (te :: ts) acc δ H out := fun σ H1 g s Q q =>
  h σ H1 g s _ fun v H2 g2 e => ⟨y, e, sz hz, hr σ H2 (g.trans g2) (s.up g2) Q fun H3 g3 => q H3 (g2.trans g3)⟩
theorem ev_joined {out : Str} {ts : List TE} (h : EvJ T K ts Str.empty δ H out) : EvD T K (fun σ H Q => tJs ts Str.empty σ H fun out H1 => Q (.str out) H1) δ H (.str out) := fun σ H1 g s Q q => h σ H1 g s _ fun H2 g2 => q _ H2 g2 rfl
theorem ev_fmtS (h : EvD T K te δ H (.str y)) (hz : y.length ≤ 100000) : EvD T K (tFmt te) δ H (.str y) := fun σ H1 g s Q q => h σ H1 g s _ fun v H2 g2 e => .inl ⟨y, e, sz hz, q _ H2 g2 rfl⟩
theorem ev_fmtI (h : EvD T K te δ H (.int i)) (hf : fig i) : EvD T K (tFmt te) δ H (.str (num i)) := fun σ H1 g s Q q => h σ H1 g s _ fun v H2 g2 e => .inr ⟨i, e, hf.log, q _ H2 g2 rfl⟩
/-! join, split, a sign -/
theorem ev_joinN {a : Str} (ho : EvD T K to δ H (.str a)) (he : EvL T K te δ H (ws.map D.str)) (hz : (ws.map (·.length)).sum + ws.length * a.length ≤ 100000) :
    EvD T K (tM1 (fun x xs H Q => ∃ a p, ∃ ys : List Str, x = .str a ∧ xs = [.ref p] ∧ (SqL K H p (ys.map V.str) ∨ SqT K H p (ys.map V.str)) ∧ (ys.map (·.length)).sum + ys.length * a.length ≤ 16777216 ∧ Q (.str (Txt.join a ys)) H) to te) δ H (.str (Txt.join a ws)) := fun σ H1 g s Q q =>
  ho σ H1 g s _ fun v H2 g2 e => ⟨⟨a, e⟩, he σ H2 (g.trans g2) (s.up g2) _ fun p xs H3 n g3 ep r => ⟨a, p, ws, e, rfl, .inl (.inl (.inl (by rw [← r.strs]; exact ep))), Nat.le_trans hz (by decide), q _ H3 (g2.trans g3) rfl⟩⟩
theorem el_split {a b : Str} (ho : EvD T K to δ H (.str a)) (he : EvD T K te δ H (.str b)) (hb : (b.length == 0) = false) (ha : a.length ≤ 90000) :
    EvL T K (tM1 (fun x xs H Q => ∃ a b, x = .str a ∧ xs = [.str b] ∧ (b.length == 0) = false ∧ a.length + 2 ≤ sizeLine ∧ rNewStrs (Txt.split a b) H Q) to te) δ H ((Txt.split a b).map D.str) := fun σ H1 g s Q q =>
  ho σ H1 g s _ fun v H2 g2 e => ⟨⟨a, e⟩, he σ H2 (g.trans g2) (s.up g2) _ fun w H3 g3 e2 => by
    cases (show v = .str a from e); cases (show w = .str b from e2)
    exact ⟨a, b, rfl, rfl, hb, sz (by omega), fun p hp => q p _ _ (g2.dom p (g3.dom p hp)) ((g2.trans g3).trans (Gr.new g3.tbs hp)) upd_same (Reps.ofStrs _)⟩⟩
theorem ev_ixS {c : Nat} (ha : EvD T K ta δ H (.str z)) (hb : EvD T K tb δ H (.int i)) (hz : z.length ≤ 100000) (h : atI z.cps.toList i = some c) : EvD T K (tOp rIxS ta tb) δ H (.str ⟨#[c]⟩) :=
  ev_op ha hb fun v w H1 g1 e1 e2 Q q => ⟨z, i, c, e1, e2, sz hz, h, q _ H1 g1.self rfl⟩
/-- a text out of a list of texts -/
theorem ev_ixW {w : Str} (ha : EvV T K ta δ H (.ref l)) (hb : EvD T K tb δ H (.int i)) (hl : H l = some (.lst (ws.map V.str))) (h : atI ws i = some w) : EvD T K (tOp (rIxL K) ta tb) δ H (.str w) :=
  ev_ofS (ev_ixV ha hb hl (by
    unfold atI at h ⊢
    rw [List.length_map]
    cases e : ixN ws.length i with
    | none => rw [e] at h; cases h
    | some n =>
      rw [e] at h
      show (ws.map V.str)[n]? = _
      rw [List.getElem?_map, (show ws[n]? = some w from h)]; rfl))
theorem el_revL (h : EvL T K te δ H ds) : EvL T K (tRevL K te) δ H ds.reverse := fun σ H1 g s Q q => h σ H1 g s _ fun p xs H2 n g2 e r => ⟨p, xs, rfl, .inl (.inl e), fun r' hr => by
    have gn : Gr T [] H2 (upd H2 r' (.lst xs.reverse)) := Gr.new g2.tbs hr
    exact q r' _ _ (g2.dom r' hr) (g2.trans gn) upd_same (Reps.up r.rev gn)⟩
theorem en_rev (h : EvV T K te δ H (.ref l)) (e : H l = some (.lst xs)) : EvN T K (tRevL K te) δ H xs.reverse := fun σ H1 g s Q q => h σ H1 g s _ fun H2 g2 => ⟨l, xs, rfl, .inl (.inl ((g.trans g2).lst e (by simp))), fun p hp => q p _ (g2.dom p hp) (g2.trans (Gr.new g2.tbs hp)) upd_same⟩
theorem el_repS (ha : EvL T K ta δ H [.str y]) (hb : EvD T K tb δ H (.int i)) (h0 : 0 ≤ i) (h1 : i ≤ 1000) : EvL T K (tOp rRep ta tb) δ H ((List.replicate i.toNat y).map D.str) := fun σ H1 g s Q q =>
  ha σ H1 g s _ fun p xs H2 n g2 e r => hb σ H2 (g.trans g2) (s.up g2) _ fun w H3 g3 e2 => by
    have ex : xs = [.str y] := Reps.strs (ws := [y]) r
    subst ex
    refine ⟨p, i, _, rfl, e2, g3.lst e (by simp), by omega, by omega, sz (by simp only [List.length_cons, List.length_nil]; omega), fun p' hp => ?_⟩
    have ef : ∀ k : Nat, (List.replicate k [V.str y]).flatten = (List.replicate k y).map V.str := fun k => by
      induction k with
      | zero => rfl
      | succ k ih => rw [List.replicate_succ, List.flatten_cons, ih, List.replicate_succ]; rfl
    exact q p' _ _ (g2.dom p' (g3.dom p' hp)) ((g2.trans g3).trans (Gr.new g3.tbs hp)) upd_same (by rw [ef]; exact Reps.ofStrs _)
/-- a.extend(a new list) -/
theorem run_extN (hT : Tbs T H) (ho : EvV T K to δ H (.ref l)) (h : EvN T K te δ H ys) (e : H l = some (.lst xs)) (hz : xs.length + ys.length ≤ 50000)
    (k : ∀ H1, Gr T [] H H1 → H1 l = some (.lst xs) → Run K u B δ (upd H1 l (.lst (xs ++ ys)))) : Run K (tSeq (tDrop (tBM K "list" rExtend to (tCons te tNil))) u) B δ H := fun σ s =>
  ho σ H (Gr.refl hT) s _ fun H1 g1 => ⟨.inl ⟨rfl, _, .inl (.inl (g1.lst e (by simp)))⟩, h σ H1 g1 (s.up g1) _ fun p H2 np g2 e2 => by
    have g := g1.trans g2
    have el := g.lst e (by simp)
    have gp : Gr T [l] H2 (upd H2 l (.lst (xs ++ ys))) := (Gr.refl g.tbs).put el (.inl (by simp))
    exact ⟨l, p, xs, ys, rfl, rfl, el, e2, Nat.le_trans hz (by decide), k _ g el σ ((s.up g).up gp)⟩⟩
/-- enumerate(a new list) -/
theorem ei_enumL (h : EvL T K te δ H ds) (hS : ∀ s ∈ S, H s ≠ none) : EvI T K S (iEnum K (tCons te tNil)) δ H (withNo ds 0) := fun σ H1 g s R q =>
  h σ H1 g s _ fun a xs H2 na g2 ea rs => by
    have nS : a ∉ S := fun z => hS a z (g.dom a na)
    have hs : ∀ H', Gr T S H2 H' → SqL K H' a xs := fun H' g' => .inl (.inl (g'.lst ea nS))
    refine ⟨a, xs, rfl, .inl (.inl ea), q _ H2 g2 ?_⟩
    rw [withNo_len, ← rs.len]
    refine ⟨fun i Ha hi g' => ⟨xs, xs[i], hs Ha g', by simp [hi]⟩, fun Ha g' => ⟨xs, hs Ha g', Nat.le_refl _⟩, fun i Ha x Hb hi g' y => ?_⟩
    obtain ⟨p, z, e1, hp, e2, e3⟩ := y
    subst e1; subst e2
    obtain ⟨d, hd, rd⟩ := rs.got (e3 xs (hs Ha g'))
    have gn : Gr T [] Ha (upd Ha p (.tup [.int (i : Nat), z])) := Gr.new g'.tbs hp
    refine ⟨gn, .tup [.int (i : Nat), d], by rw [withNo_get, hd, Nat.zero_add]; rfl, p, _, rfl, .inl (.inl upd_same), .int (i : Nat), _, rfl, rfl, z, _, rfl, (rd.up g').up gn, rfl⟩
/-- for x in a new list -/
theorem run_forN {n : Nat} (hT : Tbs T H) (hl : EvN T K tl δ H xs) (hS : ∀ s ∈ S, H s ≠ none) (δs : Nat → List (Option SD)) (I : Nat → Hp → Prop)
    (h0 : Less δ (δs 0)) (hI : ∀ H1, Gr T [] H H1 → I 0 H1) (hIm : ∀ i H1 H2, Gr T [] H1 H2 → I i H1 → I i H2)
    (hs : ∀ i x H1 (N : L2.St → Hp → Prop), xs[i]? = some x → Gr T S H H1 → I i H1 → (∀ σ H2, Gr T S H1 H2 → I (i + 1) H2 → Slots K H2 (δs (i + 1)) σ → N σ H2) → Run K t { nx := N, rt := B.rt, bk := u B, ct := N } ((δs i).set n (some (.v x))) H1)
    (hd : ∀ H1, Gr T S H H1 → I xs.length H1 → Run K u B (δs xs.length) H1) : Run K (tSeq (tFor (iList K tl) (gName n) t) u) B δ H := fun σ s =>
  hl σ H (Gr.refl hT) s _ fun l H2 nl g2 e2 => by
    have nS : l ∉ S := fun z => hS l z nl
    refine ⟨l, rfl, ⟨xs, .inl (.inl e2)⟩, ?_⟩
    have W : Walk (Itl K l) xs.length (fun H' => Gr T S H2 H') (fun i Ha x Hb => Ha = Hb ∧ xs[i]? = some x) := (walk_list (K := K) (a := l) (xs := xs)).mono (fun H' g => .inl (.inl (Gr.lst g e2 nS))) fun i Ha x Hb hi g q => ⟨q.1.symm, q.2⟩
    refine for_it W (fun i σ' H' => Gr T S H2 H' ∧ I i H' ∧ Slots K H' (δs i) σ') ⟨Gr.refl g2.tbs, hI H2 g2, Slots.less h0 (s.up g2)⟩ (fun i σ' H' _ p => p.1) (fun i x σ' Ha Hb hlt p y => ?_) (fun σ' H' p => hd H' (g2.any.trans p.1) p.2.1 σ' p.2.2)
    obtain ⟨p1, p2, p3⟩ := p
    obtain ⟨rfl, hx⟩ := y
    exact hs i x Ha (fun σ' H' => Gr T S H2 H' ∧ I (i + 1) H' ∧ Slots K H' (δs (i + 1)) σ') hx (g2.any.trans p1) p2 (fun σ2 H3 g3 i3 s3 => ⟨p1.trans g3, i3, s3⟩) _ (p3.set n (show SlotOk K Ha (some (.v x)) (some x) from rfl))
/-- if not (so) or not f(a, list.pop()): never -/
theorem run_can {sp : Sp} {E : XK} {t0 : TT} {v y : V} (hT : Tbs T H) (h0 : EvT T K t0 δ H false) (hw : EvV T K ta δ H v) (hl : EvV T K to δ H (.ref l)) (e : H l = some (.lst (xs ++ [y])))
    (hsp : ∀ H1, Gr T [l] H H1 → ∀ Q : VK, (∀ H2, Gr T [] H1 H2 → Q (.bl true) H2) → sp [v, y] H1 Q E)
    (k : ∀ H1, Gr T [l] H H1 → H1 l = some (.lst xs) → (∀ H0, Gr T [] H H0 → True) → Run K u B δ H1) :
    Run K (tSeq (tIfS (tOr t0 (tNot (tB (tCall sp [] E (tCons ta (tCons (tBM0 K "list" rPop to) tNil)))))) t tNext) u) B δ H := fun σ s =>
  h0 σ H (Gr.refl hT) s _ fun H1 g1 => by
    refine (show ta σ H1 _ from hw σ H1 g1 (s.up g1) _ fun H2 g2 => hl σ H2 (g1.trans g2) ((s.up g1).up g2) _ fun H3 g3 => ?_)
    have g := (g1.trans g2).trans g3
    have el := g.lst e (by simp)
    have gp : Gr T [l] H3 (upd H3 l (.lst xs)) := (Gr.refl g.tbs).put el (.inl (by simp))
    refine ⟨.inl ⟨rfl, _, .inl (.inl el)⟩, l, _, y, rfl, rfl, el, by simp, ?_⟩
    rw [List.dropLast_concat]
    refine hsp _ (g.any.trans gp) _ fun H4 g4 => ⟨true, rfl, ?_⟩
    exact k H4 ((g.any.trans gp).trans g4.any) (g4.lst upd_same (by simp)) (fun _ _ => trivial) σ (((s.up g).up gp).up g4)
/-- list.append((a, b, list.pop())) -/
theorem run_appPop {to2 : TE} {a b : Int} {y : V} (hT : Tbs T H) (ho : EvV T K to δ H (.ref l)) (ho2 : EvV T K to2 δ H (.ref l)) (ha : EvD T K ta δ H (.int a)) (hb : EvD T K tb δ H (.int b)) (e : H l = some (.lst (xs ++ [y]))) (hy : Rep K H d y) (hz : xs.length < 50000)
    (k : ∀ v H1, Gr T [l] H H1 → H1 l = some (.lst (xs ++ [v])) → Rep K H1 (.tup [.int a, .int b, d]) v → Run K u B δ H1) :
    Run K (tSeq (tDrop (tBM K "list" rAppend to (tCons (tTup (tCons ta (tCons tb (tCons (tBM0 K "list" rPop to2) tNil)))) tNil))) u) B δ H := fun σ s =>
  ho σ H (Gr.refl hT) s _ fun H1 g1 => ⟨.inl ⟨rfl, _, .inl (.inl (g1.lst e (by simp)))⟩, ha σ H1 g1 (s.up g1) _ fun v2 H2 g2 r2 => hb σ H2 (g1.trans g2) ((s.up g1).up g2) _ fun v3 H3 g3 r3 => ho2 σ H3 ((g1.trans g2).trans g3) (((s.up g1).up g2).up g3) _ fun H4 g4 => by
    have g := ((g1.trans g2).trans g3).trans g4
    have el := g.lst e (by simp)
    have gp : Gr T [l] H4 (upd H4 l (.lst xs)) := (Gr.refl g.tbs).put el (.inl (by simp))
    refine ⟨.inl ⟨rfl, _, .inl (.inl el)⟩, l, _, y, rfl, rfl, el, by simp, ?_⟩
    rw [List.dropLast_concat]
    refine ⟨by simp [sizeLine], fun p hp => ?_⟩
    have gn : Gr T [] (upd H4 l (.lst xs)) (upd (upd H4 l (.lst xs)) p (.tup [v2, v3, y])) := Gr.new gp.tbs hp
    have el2 := gn.lst (l := l) upd_same (by simp)
    have gq : Gr T [l] _ (upd (upd (upd H4 l (.lst xs)) p (.tup [v2, v3, y])) l (.lst (xs ++ [.ref p]))) := (Gr.refl gn.tbs).put el2 (.inl (by simp))
    have gall := ((g.any.trans gp).trans gn.any).trans gq
    have hpl : p ≠ l := fun z => by subst z; rw [upd_same] at hp; cases hp
    refine ⟨l, xs, .ref p, rfl, rfl, el2, Nat.lt_trans hz (by decide), ?_⟩
    refine k (.ref p) _ gall upd_same ⟨p, [v2, v3, y], rfl, .inl (.inl ?_), v2, _, rfl, r2, v3, _, rfl, r3, y, _, rfl, hy.up gall, rfl⟩ σ (s.up gall)
    rw [upd_ne hpl]; exact upd_same⟩
end
end Pd
set_option maxHeartbeats 4000000
namespace Pd
open PySem PySem.Spec PyProof.Rows L2
theorem figures_eq : ("0123456789" : Str).cps.toList = List.range' 48 10 := by decide +kernel
theorem n_zero (c : Nat) : decide ((⟨#[c]⟩ : Str) = "0") = decide (some c = some 48) := by
  have e : ("0" : Str) = ⟨#[48]⟩ := by decide +kernel
  rw [e]
  by_cases h : c = 48
  · subst h; simp
  · have n1 : ¬ (⟨#[c]⟩ : Str) = ⟨#[48]⟩ := fun z => by
      have := congrArg (fun s : Str => s.cps.toList) z
      simp at this
      exact h this
    have n2 : ¬ some c = some 48 := by simpa using h
    rw [decide_eq_false n1, decide_eq_false n2]
theorem n_ro : decide (("room" : Str) = "out") = false := by decide +kernel
theorem n_do : decide (("door" : Str) = "out") = false := by decide +kernel
theorem n_dr : decide (("door" : Str) = "room") = false := by decide +kernel
theorem n_rd : decide (("room" : Str) = "door") = false := by decide +kernel
theorem n_or : decide (("out" : Str) = "room") = false := by decide +kernel
theorem n_od : decide (("out" : Str) = "door") = false := by decide +kernel
section
variable {P : Program} {w : World} {K : PySem.W.Frag} {mg : Str → Option Value} {base : Heap} {T : Tb} {f : Addr} {fd : FuncData}
/-! ### written -/
def RRows (lv : Nat) (ds : List D) (es : List D) : Prop := ∃ h : House, ds = [h.toD] ∧ h.ok ∧ h.deep < lv ∧ h.many ≤ 12 ∧ es = (h.words.map rowT).map D.str
theorem ok_rows (B : Bl mg) (a : At K mg "rows_of" s_rows_of ["room"] f fd) (G_is_way_out : Ok P w K mg base 1 "is_way_out" ["room"] (spR T K RWay)) : ∀ lv, Ok P w K mg base (lv + 1) "rows_of" ["room"] (spRL T K (RRows lv)) := by
  intro lv
  induction lv with
  | zero => exact a.none fun vs H Q E ⟨_, _, ⟨_, _, _, h, _⟩, _⟩ => absurd h (Nat.not_lt_zero _)
  | succ lv G_rows_of =>
  refine okRL a sc_rows_of (fun ds d ⟨_, e, _⟩ => by rw [e]; rfl) fun cdv A outer s H E ds es Q hr hR hT q => ⟨_, (pss_cons (ps_if (pt_val (pe_own G_is_way_out hr (by omega) (by rfl) (pa_cons (pv 0) pa_nil))) (pss_one (ps_ret (pe_lst (pa_cons (pe_joined (PJ.cons pe_str (PJ.cons (pe_fmt (pv 0)) PJ.nil))) pa_nil)))) pss_nil)
    (pss_cons (ps_asg (pv 0) (pg_tup (n := 2) rfl (pgs_cons (pg_name (i := 1) sc_rows_of.nd rfl (Or.inl rfl)) (pgs_cons (pg_name (i := 2) sc_rows_of.nd rfl (Or.inl rfl)) pgs_nil))))
    (pss_cons (ps_set (i := 3) sc_rows_of.nd rfl (Or.inl rfl) (pe_lst (pa_cons (pe_joined (PJ.cons pe_str (PJ.cons (pe_fmt (pv 1)) (PJ.cons pe_str (PJ.cons (pe_fmt (pe_callB cr_len (by rfl) B.len (by decide +kernel) (pa_cons (pv 2) pa_nil))) PJ.nil))))) pa_nil)))
    (pss_cons (ps_for PassesOwn.never rfl (pi_tup (pv 2)) (pg_tup (n := 3) rfl (pgs_cons (pg_name (i := 4) sc_rows_of.nd rfl (Or.inl rfl)) (pgs_cons (pg_name (i := 5) sc_rows_of.nd rfl (Or.inl rfl)) (pgs_cons (pg_name (i := 6) sc_rows_of.nd rfl (Or.inl rfl)) pgs_nil)))) (pss_cons (ps_expr (pe_bm PySem.F.plainAttrs_list PySem.F.slot_list_append PySem.F.type_list_append mt_append (pv 3) (pa_cons (pe_joined (PJ.cons pe_str (PJ.cons (pe_fmt (pv 4)) (PJ.cons pe_str (PJ.cons (pe_fmt (pv 5)) PJ.nil))))) pa_nil)))
    (pss_one (ps_expr (pe_bm PySem.F.plainAttrs_list PySem.F.slot_list_extend PySem.F.type_list_extend mt_extend (pv 3) (pa_cons (pe_own G_rows_of hr (Nat.le_refl _) (by rfl) (pa_cons (pv 6) pa_nil)) pa_nil))))))
    (pss_one (ps_ret (pv 3))))))), ?_⟩
  obtain ⟨h, rfl, hok, hd, h12, rfl⟩ := hR
  cases h with
  | out n =>
    have hn : n.length ≤ 6 := hok.2.1
    refine run_when hT (et_B (ev_call (ea_cons (ev_var rfl) ea_nil) ⟨_, rfl, rfl⟩)) (fun _ H1 g1 => ?_) fun e => nomatch e
    have e0 : Str.empty ++ "out " ++ n = rowT ["out", n] := by rw [empty_app, row_out]
    refine run_retL g1.tbs (ev_lst (ea_cons (ev_joined (ej_cons ev_str (by rw [empty_app]; decide +kernel) (ej_cons (ev_fmtS (ev_var rfl) (by omega)) (by rw [e0]; have := (RowOk.out n hok).signs.2.2.2; omega) ej_nil))) ea_nil) (by simp)) fun p xs H2 n1 g2 e r => q p xs H2 (g1.dom p n1) (g1.trans g2) e ?_
    rw [e0] at r; exact r
  | room hand ds =>
    obtain ⟨o1, o2, o3, o4⟩ := hok
    have hdd : ds.deep < lv := by simp only [House.deep] at hd; omega
    refine run_when hT (et_B (ev_call (ea_cons (ev_var rfl) ea_nil) ⟨_, rfl, rfl⟩)) (fun e => nomatch e) fun _ H1 g1 => ?_
    refine run_asgG g1.tbs (ev_var rfl) (fun H1 g1 => eg_tup rfl (eg_cons eg_name (eg_cons eg_name eg_nil))) fun H2 g2 => ?_
    have fh : fig hand := ⟨o1, by omega⟩
    have fl : fig (ds.len : Int) := ⟨by omega, by omega⟩
    have e0 : Str.empty ++ "room " ++ num hand ++ " " ++ num ds.len = rowT ["room", num hand, num ds.len] := by rw [empty_app, row_room]
    have l1 := fh.len.2
    have lx : ∀ {a b : Int}, fig a → (Str.empty ++ "room " ++ num a).length ≤ 100000 ∧ (Str.empty ++ "room " ++ num a ++ " ").length ≤ 100000 ∧ (Str.empty ++ "door " ++ num a).length ≤ 100000 ∧ (Str.empty ++ "door " ++ num a ++ " ").length ≤ 100000 := fun {a b} ha => by
      have := ha.len.2
      rw [TL.len_tl] at this
      refine ⟨?_, ?_, ?_, ?_⟩ <;> (rw [TL.len_tl]; simp only [TL.tl_append, tl_empty, tl_room_, tl_door_, tl_sp, List.length_append, List.length_cons, List.length_nil]; omega)
    refine run_asgL g2.tbs (ev_lst (ea_cons (ev_joined (ej_cons ev_str (by rw [empty_app]; decide +kernel) (ej_cons (ev_fmtI (ev_var rfl) fh) (lx (b := 0) fh).1 (ej_cons ev_str (lx (b := 0) fh).2.1 (ej_cons (ev_fmtI ((ev_lenT (ev_var rfl)).is (by rw [Doors.toDs_len])) fl) (by rw [e0]; have := (RowOk.room _ _ fh fl).signs.2.2.2; omega) ej_nil))))) ea_nil) (by simp)) fun l xs H3 nl g3 el rl => ?_
    rw [e0] at rl
    have nl0 : H l = none := g1.dom l (g2.dom l nl)
    have exs : xs = ([rowT ["room", num hand, num ds.len]]).map V.str := Reps.strs (ws := [rowT ["room", num hand, num ds.len]]) rl
    refine run_for (S := [l]) g3.tbs (ei_tup (ev_var rfl)) (fun _ => [some (.d (House.room hand ds).toD), some (.d (.int hand)), some (.d (.tup ds.toDs)), some (.v (.ref l)), none, none, none])
      (fun i H => ∃ pre : List (List Str), H l = some (.lst ((pre.map rowT).map V.str)) ∧ pre ++ (ds.skip i).words = (House.room hand ds).words ∧ pre.length ≤ 25)
      (.same _ (.same _ (.same _ (.same _ (.drop _ (.drop _ (.drop _ .nil))))))) (fun H4 g4 => ⟨[["room", num hand, num ds.len]], by rw [g4.lst el (by simp), exs]; rfl, by rw [Doors.skip_zero]; rfl, by simp⟩)
      (fun i H4 H5 g ⟨pre, a1, a2, a3⟩ => ⟨pre, g.lst a1 (by simp), a2, a3⟩)
      (fun i d H4 N hdi g4 ⟨pre, a1, a2, a3⟩ hN => ?_) fun H4 g4 ⟨pre, a1, a2, a3⟩ => ?_
    · rw [Doors.get_toDs] at hdi
      cases hg : ds.get? i with
      | none => rw [hg] at hdi; cases hdi
      | some tr =>
        obtain ⟨nn, ss, hh⟩ := tr
        rw [hg] at hdi; cases hdi
        obtain ⟨q1, q2, q3, q4, q5⟩ := Doors.get_ok ds i o4 hg
        have fn : fig nn := ⟨by omega, q2⟩
        have fs : fig ss := ⟨q3, by omega⟩
        have hskip := Doors.skip_get ds i hg
        have hdeep := Doors.get_deep ds i hg
        have hmany := Doors.get_many ds i hg
        have h12' : ds.many ≤ 12 := h12
        have wl := House.words_len (House.room hand ds)
        rw [← a2, hskip] at wl
        simp only [Doors.words, List.length_append, List.length_cons, House.many] at wl
        refine ⟨_, _, eg_tup rfl (eg_cons eg_name (eg_cons eg_name (eg_cons eg_name eg_nil))), ?_⟩
        have e1 : Str.empty ++ "door " ++ num nn ++ " " ++ num ss = rowT ["door", num nn, num ss] := by rw [empty_app, row_door]
        refine run_appD g4.tbs (ev_raw rfl) (ev_joined (ej_cons ev_str (by rw [empty_app]; decide +kernel) (ej_cons (ev_fmtI (ev_var rfl) fn) (lx (b := 0) fn).2.2.1 (ej_cons ev_str (lx (b := 0) fn).2.2.2 (ej_cons (ev_fmtI (ev_var rfl) fs) (by rw [e1]; have := (RowOk.door _ _ fn fs).signs.2.2.2; omega) ej_nil))))) a1 (by simp only [List.length_map]; omega) fun v H5 g5 e5 r5 => ?_
        rw [e1] at r5
        cases (show v = .str _ from r5)
        have gp : Gr T [l] H5 (upd H5 l (.lst ((pre.map rowT).map V.str ++ [.str (rowT ["door", num nn, num ss])]))) := (Gr.refl g5.tbs).put e5 (.inl (by simp))
        refine run_last (run_extN gp.tbs (ev_raw rfl) (en_ofL (ev_callL (ea_cons (ev_var rfl) ea_nil) ⟨hh, rfl, q5, by omega, by omega, rfl⟩)) upd_same (by simp only [List.length_append, List.length_map, List.length_cons, List.length_nil]; omega) fun H6 g6 e6 => run_next fun σ sl => ?_)
        have gq : Gr T [l] H6 _ := (Gr.refl (T := T) (S := [l]) g6.tbs).put (o := .lst (((pre.map rowT).map V.str ++ [V.str (rowT ["door", num nn, num ss])]) ++ (hh.words.map rowT).map V.str)) e6 (.inl (by simp))
        refine hN σ _ (((g5.any.trans gp).trans g6.any).trans gq) ⟨pre ++ ((["door", num nn, num ss] : List Str) :: hh.words), ?_, ?_, ?_⟩ (Slots.less (.same _ (.same _ (.same _ (.same _ (.drop _ (.drop _ (.drop _ .nil))))))) sl)
        · rw [upd_same]; simp
        · rw [← a2, hskip]; simp [Doors.words]
        · simp only [List.length_append, List.length_cons]; omega
    · have gl : Gr T [] H H4 := ((g1.trans g2).trans g3).drop (g4) nl0
      rw [Doors.toDs_len, Doors.skip_len] at a2
      simp only [Doors.words, List.append_nil] at a2
      subst a2
      exact run_retV g4.tbs (ev_raw rfl) fun H5 g5 => q l _ H5 nl0 (gl.trans g5) (g5.lst a1 (by simp)) (Reps.ofStrs _)
end
end Pd
namespace Pd
open PySem PySem.Spec PyProof.Rows L2
section
variable {P : Program} {w : World} {K : PySem.W.Frag} {mg : Str → Option Value} {base : Heap} {T : Tb} {f : Addr} {fd : FuncData}
def RWritten (ds : List D) (d : D) : Prop := ∃ h : House, ds = [h.toD] ∧ h.ok ∧ h.many ≤ 12 ∧ d = .str h.text
theorem text_fits {h : House} (hok : h.ok) (h12 : h.many ≤ 12) : ((h.words.map rowT).map (·.length)).sum + (h.words.map rowT).length * ("\n" : Str).length ≤ 1000 := by
  have a := sum_rows h.words (House.words_ok h hok)
  have b := House.words_len h
  have c : ("\n" : Str).length = 1 := by decide +kernel
  rw [c, List.length_map]; omega
theorem ok_written (B : Bl mg) (a : At K mg "written" s_written ["house"] f fd) (G_check_house : Ok P w K mg base 3 "check_house" ["house"] (spR T K RCheck)) (G_rows_of : Ok P w K mg base 14 "rows_of" ["room"] (spRL T K (RRows 13))) : Ok P w K mg base 15 "written" ["house"] (spR T K RWritten) := by
  refine okR a sc_written (fun ds d ⟨_, e, _⟩ => by rw [e]; rfl) fun cdv A outer s H E ds d Q hr hR hT q => ⟨_, (pss_cons (ps_expr (pe_own G_check_house hr (by decide) (by rfl) (pa_cons (pv 0) pa_nil)))
    (pss_one (ps_ret (pe_join pe_str (pe_own G_rows_of hr (by decide) (by rfl) (pa_cons (pv 0) pa_nil)))))), ?_⟩
  obtain ⟨h, rfl, hok, h12, rfl⟩ := hR
  have hd := House.deep_le h hok
  refine run_drop hT (ev_call (ea_cons (ev_var rfl) ea_nil) ⟨h, rfl, hok, h12, rfl⟩) fun H1 g1 => ?_
  exact run_ret g1.tbs (ev_joinN ev_str (ev_callL (ea_cons (ev_var rfl) ea_nil) ⟨h, rfl, hok, by omega, h12, rfl⟩) (Nat.le_trans (text_fits hok h12) (by decide))) fun v H2 g2 r => q v H2 (g1.trans g2) r
def RNum (ds : List D) (d : D) : Prop := ∃ z : Str, ds = [.str z] ∧ z.length ≤ 90000 ∧ d = .bl (isNum z)
theorem ok_isnum {c Pt : Addr} (B : Bl mg) (TB : GxR.TabB base mg c Pt) (hP : Pt ∈ T.g) (hl : ∀ p ∈ T.l, p.1 ≠ Pt) (a : AtC K mg "is_number" s_is_number ["word"] f fd c) : Ok P w K mg base 1 "is_number" ["word"] (spR T K RNum) := by
  refine okRC a sc_is_number (fun ds d ⟨_, e, _⟩ => by rw [e]; rfl) fun A outer s H E ds d Q hr hR hT q => ⟨_, (pss_cons (ps_if (PW.pt (pw_or (pt_not (pt_chain op_le op_le pe_int (pe_callB cr_lenS (by rfl) B.len (by decide +kernel) (pa_cons (pv 0) pa_nil)) (pe_cstI (by rfl) B.MOST_FIGURES))) (pw_or1 (pt_not (pt_val
    (pe_allTx hr (by rfl) B.all (by decide +kernel) TB rfl (genS_by rfl rfl (by decide +kernel) rfl rfl) (pv 0) (fun pins σ H s1 I hP cc t => quiet_letter I hP rfl rfl rfl B.FIGURES (by decide) (by decide) cc t) (fun _ => rfl))))))) (pss_one (ps_ret pe_bl)) pss_nil)
    (pss_one (ps_ret (pe_or (pe_cmpR op_eq (pe_callB cr_lenS (by rfl) B.len (by decide +kernel) (pa_cons (pv 0) pa_nil)) pe_int (nomark _)) (pe_one (pe_cmpR op_ne (pe_ix ix_str (pv 0) pe_int (fun _ _ => rfl)) pe_str (nomark _))))))), ?_⟩
  obtain ⟨z, rfl, hz, rfl⟩ := hR
  have hz' : z.length ≤ 100000 := by omega
  have hc : (decide ((1 : Int) ≤ (z.length : Int)) && decide ((z.length : Int) ≤ 2)) = (decide (1 ≤ z.length) && decide (z.length ≤ 2)) := by
    congr 1 <;> exact decide_eq_decide.mpr ⟨fun h => by omega, fun h => by omega⟩
  refine run_when hT (et_or (et_not (et_test (ev_chain ev_int (ev_lenS (ev_var rfl) hz') ev_int))) fun _ => et_not (et_B (ev_allTx (ev_var rfl) hP hl))) (fun hb H1 g1 => run_ret g1.tbs ev_bl fun v H2 g2 r => ?_) fun hb H1 g1 => ?_
  · have e : isNum z = false := by
      unfold isNum
      rw [Bool.or_eq_true, Bool.not_eq_true', Bool.not_eq_true', hc] at hb
      rcases hb with hb | hb
      · rw [hb]; rfl
      · rw [hb]; simp
    rw [e] at q
    exact q v H2 (g1.trans g2) r
  · rw [Bool.or_eq_false_iff, Bool.not_eq_false', Bool.not_eq_false', hc] at hb
    obtain ⟨b3, b2⟩ := hb
    have hlen : 1 ≤ z.length := by
      rw [Bool.and_eq_true, decide_eq_true_eq] at b3; exact b3.1
    obtain ⟨cc, hcc⟩ : ∃ cc, z.cps.toList[0]? = some cc := ⟨_, List.getElem?_eq_getElem (by rw [TL.len_tl] at hlen; exact hlen)⟩
    refine run_ret g1.tbs ((ev_orV (ev_eqI (ev_lenS (ev_var rfl) hz') ev_int) fun _ => ev_neS (ev_ixS (ev_var rfl) ev_int hz' (atI_nat (j := 0) hcc)) ev_str).is ?_) fun v H2 g2 r => q v H2 (g1.trans g2) r
    unfold isNum
    rw [b3, b2, hcc, n_zero]
    congr 1
    simp only [Bool.and_true, Bool.true_and]
    congr 1
    exact decide_eq_decide.mpr ⟨fun h => by omega, fun h => by omega⟩
/-! ### which rows can stand -/
def spStand (T : Tb) (K : PySem.W.Frag) : Sp := fun vs H Q _ => ∃ (l : Addr) (ws : List Str) (x : Str) (n : List Str), vs = [.ref l, .str x] ∧ H l = some (.lst (ws.map V.str)) ∧ Stands ws x n ∧ Tbs T H ∧ ∀ H', Gr T [] H H' → Q (.bl true) H'
theorem ok_stand (B : Bl mg) (a : At K mg "can_stand" s_can_stand ["words", "wanted"] f fd) (G_is_name : Ok P w K mg base 1 "is_name" ["text"] (spR T K RName)) (G_is_number : Ok P w K mg base 1 "is_number" ["word"] (spR T K RNum)) : Ok P w K mg base 2 "can_stand" ["words", "wanted"] (spStand T K) := by
  refine a.ok (a.F.ok sc_can_stand (fun vs H Q E ⟨_, _, _, _, e, _⟩ => by rw [e]; rfl) fun cdv A' outer s H vs Q E hr h => ⟨_, (pss_cons (ps_if (pt_cmpR op_eq (pe_ix ix_list (pv 0) pe_int (fun _ _ => rfl)) pe_str (nomark _)) (pss_one (ps_ret (pe_and (pe_cmpR op_eq (pv 1) pe_str (nomark _)) (pe_and (pe_cmpR op_eq (pe_callB cr_len (by rfl) B.len (by decide +kernel) (pa_cons (pv 0) pa_nil)) pe_int (nomark _)) (pe_one (pe_own G_is_name hr (by decide) (by rfl) (pa_cons (pe_ix ix_list (pv 0) pe_int (fun _ _ => rfl)) pa_nil))))))) pss_nil)
    (pss_one (ps_ret (pe_and (pe_cmpR op_eq (pe_ix ix_list (pv 0) pe_int (fun _ _ => rfl)) (pv 1) (nomark _)) (pe_and (pe_cmpR op_eq (pe_callB cr_len (by rfl) B.len (by decide +kernel) (pa_cons (pv 0) pa_nil)) pe_int (nomark _)) (pe_and (pe_own G_is_number hr (by decide) (by rfl) (pa_cons (pe_ix ix_list (pv 0) pe_int (fun _ _ => rfl)) pa_nil)) (pe_one (pe_own G_is_number hr (by decide) (by rfl) (pa_cons (pe_ix ix_list (pv 0) pe_int (fun _ _ => rfl)) pa_nil))))))))), ?_⟩)
  obtain ⟨l, ws, x, n, rfl, hl, st, hT, q⟩ := h
  dsimp only [Cx.nox, Cx.wish, cxOf]
  suffices hR : Run K _ _ [some (.v (.ref l)), some (.d (.str x))] H from
    hR _ ⟨_, _, rfl, rfl, _, _, rfl, rfl, rfl⟩
  cases st with
  | out n o =>
    refine run_when hT ((et_test (ev_eqS (ev_ixW (w := "out") (ev_raw rfl) ev_int hl rfl) ev_str)).is (c := true) (by simp)) (fun _ H1 g1 => ?_) fun e => nomatch e
    have hl1 := g1.lst hl (by simp)
    refine run_ret g1.tbs ((ev_andV (ev_eqS (ev_var rfl) ev_str) fun _ => ev_andV (ev_eqI ((ev_lenL (ev_raw rfl) hl1).is (x := .int 2) (by simp)) ev_int) fun _ => ev_call (ea_cons (ev_ixW (w := n) (ev_raw rfl) ev_int hl1 rfl) ea_nil) ⟨n, rfl, o, rfl⟩).is (x := .bl true) (by simp)) fun v H2 g2 r => ?_
    cases (show v = .bl true from r)
    exact q H2 (g1.trans g2)
  | room a b ha hb =>
    refine run_when hT ((et_test (ev_eqS (ev_ixW (w := "room") (ev_raw rfl) ev_int hl rfl) ev_str)).is n_ro) (fun e => nomatch e) fun _ H1 g1 => ?_
    have hl1 := g1.lst hl (by simp)
    refine run_ret g1.tbs ((ev_andV (ev_eqS (ev_ixW (w := "room") (ev_raw rfl) ev_int hl1 rfl) (ev_var rfl)) fun _ => ev_andV (ev_eqI ((ev_lenL (ev_raw rfl) hl1).is (x := .int 3) (by simp)) ev_int) fun _ => ev_andV (ev_call (ea_cons (ev_ixW (w := num a) (ev_raw rfl) ev_int hl1 rfl) ea_nil) ⟨_, rfl, by have := ha.len.2; omega, rfl⟩) fun _ => ev_call (ea_cons (ev_ixW (w := num b) (ev_raw rfl) ev_int hl1 rfl) ea_nil) ⟨_, rfl, by have := hb.len.2; omega, rfl⟩).is (x := .bl true) (by rw [ha.isNum, hb.isNum]; simp)) fun v H2 g2 r => ?_
    cases (show v = .bl true from r)
    exact q H2 (g1.trans g2)
  | door a b ha hb =>
    refine run_when hT ((et_test (ev_eqS (ev_ixW (w := "door") (ev_raw rfl) ev_int hl rfl) ev_str)).is n_do) (fun e => nomatch e) fun _ H1 g1 => ?_
    have hl1 := g1.lst hl (by simp)
    refine run_ret g1.tbs ((ev_andV (ev_eqS (ev_ixW (w := "door") (ev_raw rfl) ev_int hl1 rfl) (ev_var rfl)) fun _ => ev_andV (ev_eqI ((ev_lenL (ev_raw rfl) hl1).is (x := .int 3) (by simp)) ev_int) fun _ => ev_andV (ev_call (ea_cons (ev_ixW (w := num a) (ev_raw rfl) ev_int hl1 rfl) ea_nil) ⟨_, rfl, by have := ha.len.2; omega, rfl⟩) fun _ => ev_call (ea_cons (ev_ixW (w := num b) (ev_raw rfl) ev_int hl1 rfl) ea_nil) ⟨_, rfl, by have := hb.len.2; omega, rfl⟩).is (x := .bl true) (by rw [ha.isNum, hb.isNum]; simp)) fun v H2 g2 r => ?_
    cases (show v = .bl true from r)
    exact q H2 (g1.trans g2)
def spWanted (T : Tb) (K : PySem.W.Frag) : Sp := fun vs H Q _ => ∃ (l : Addr) (ws : List Str) (x : Str) (n : List Str), vs = [.ref l] ∧ H l = some (.lst (ws.map V.str)) ∧ Stands ws x n ∧ Tbs T H ∧ ∀ p H', H p = none → Gr T [] H H' → H' p = some (.lst (n.map V.str)) → Q (.ref p) H'
theorem ok_wanted (B : Bl mg) (a : At K mg "wanted_behind" s_wanted_behind ["words"] f fd) : Ok P w K mg base 1 "wanted_behind" ["words"] (spWanted T K) := by
  refine a.ok (a.F.ok (k := 0) sc_wanted_behind (fun vs H Q E ⟨_, _, _, _, e, _⟩ => by rw [e]; rfl) fun cdv A' outer s H vs Q E hr h => ⟨_, (pss_cons (ps_if (pt_cmpR op_eq (pe_ix ix_list (pv 0) pe_int (fun _ _ => rfl)) pe_str (nomark _)) (pss_one (ps_ret (pe_op op_rep (pe_lst (pa_cons pe_str pa_nil)) (pe_callTy call_int_str (by rfl) B.int (by decide +kernel) (pa_cons (pe_ix ix_list (pv 0) pe_int (fun _ _ => rfl)) pa_nil))))) pss_nil)
    (pss_cons (ps_if (pt_cmpR op_eq (pe_ix ix_list (pv 0) pe_int (fun _ _ => rfl)) pe_str (nomark _)) (pss_one (ps_ret (pe_lst (pa_cons pe_str pa_nil)))) pss_nil)
    (pss_one (ps_ret (pe_lst pa_nil))))), ?_⟩)
  obtain ⟨l, ws, x, n, rfl, hl, st, hT, q⟩ := h
  dsimp only [Cx.nox, Cx.wish, cxOf]
  suffices hR : Run K _ _ [some (.v (.ref l))] H from
    hR _ ⟨_, _, rfl, rfl, rfl⟩
  cases st with
  | out n o =>
    refine run_when hT ((et_test (ev_eqS (ev_ixW (w := "out") (ev_raw rfl) ev_int hl rfl) ev_str)).is n_or) (fun e => nomatch e) fun _ H1 g1 => ?_
    refine run_when g1.tbs ((et_test (ev_eqS (ev_ixW (w := "out") (ev_raw rfl) ev_int (g1.lst hl (by simp)) rfl) ev_str)).is n_od) (fun e => nomatch e) fun _ H2 g2 => ?_
    exact run_retL g2.tbs (ev_lst ea_nil (by simp)) fun p xs H3 np g3 e r => q p H3 (g1.dom p (g2.dom p np)) ((g1.trans g2).trans g3) (by rw [e, (Reps.strs (ws := []) r)])
  | room a b ha hb =>
    refine run_when hT ((et_test (ev_eqS (ev_ixW (w := "room") (ev_raw rfl) ev_int hl rfl) ev_str)).is (c := true) (by simp)) (fun _ H1 g1 => ?_) fun e => nomatch e
    have hl1 := g1.lst hl (by simp)
    exact run_retL g1.tbs (el_repS (ev_lst (ea_cons ev_str ea_nil) (by simp)) (ev_intS (ev_ixW (w := num b) (ev_raw rfl) ev_int hl1 rfl) hb) hb.1 (by have := hb.2; omega)) fun p xs H3 np g3 e r => q p H3 (g1.dom p np) (g1.trans g3) (by rw [e, r.strs])
  | door a b ha hb =>
    refine run_when hT ((et_test (ev_eqS (ev_ixW (w := "door") (ev_raw rfl) ev_int hl rfl) ev_str)).is n_dr) (fun e => nomatch e) fun _ H1 g1 => ?_
    refine run_when g1.tbs ((et_test (ev_eqS (ev_ixW (w := "door") (ev_raw rfl) ev_int (g1.lst hl (by simp)) rfl) ev_str)).is (c := true) (by simp)) (fun _ H2 g2 => ?_) fun e => nomatch e
    exact run_retL g2.tbs (ev_lst (ea_cons ev_str ea_nil) (by simp)) fun p xs H3 np g3 e r => q p H3 (g1.dom p (g2.dom p np)) ((g1.trans g2).trans g3) (by rw [e, (Reps.strs (ws := ["room"]) r)])
end
end Pd
namespace Pd
open PySem PySem.Spec PyProof.Rows L2
/-! ### lists of lists of texts, as they lie -/
def WR (S : List Addr) (H : Hp) : List (List Str) → List V → Prop
  | [], xs => xs = []
  | w :: ws, xs => ∃ p r, xs = .ref p :: r ∧ p ∉ S ∧ H p = some (.lst (w.map V.str)) ∧ WR S H ws r
section
variable {T : Tb} {S S' : List Addr} {K : PySem.W.Frag} {δ : List (Option SD)} {H H' : Hp} {te ta tb tl to : TE} {t u : TS} {B : Ends} {d : D} {l p : Addr} {xs ys : List V} {i : Int} {ws n : List Str} {ds es : List D} {wi : TI} {g : TG}
theorem WR.up : ∀ {ws : List (List Str)} {xs : List V}, WR S H ws xs → Gr T S H H' → WR S H' ws xs
  | [], _, h, _ => h
  | _ :: ws, _, ⟨p, r, e, n, h1, h2⟩, g => ⟨p, r, e, n, g.lst h1 n, WR.up (ws := ws) h2 g⟩
theorem WR.snoc {w : List Str} (n : p ∉ S) (hp : H p = some (.lst (w.map V.str))) : ∀ {ws : List (List Str)} {xs : List V}, WR S H ws xs → WR S H (ws ++ [w]) (xs ++ [.ref p])
  | [], _, h => by cases (show _ = [] from h); exact ⟨p, [], rfl, n, hp, rfl⟩
  | _ :: ws, _, ⟨p', r, e, n', h1, h2⟩ => by subst e; exact ⟨p', r ++ [.ref p], rfl, n', h1, WR.snoc n hp (ws := ws) h2⟩
theorem WR.rev : ∀ {ws : List (List Str)} {xs : List V}, WR S H ws xs → WR S H ws.reverse xs.reverse
  | [], _, h => by cases (show _ = [] from h); exact rfl
  | _ :: ws, _, ⟨p, r, e, n, h1, h2⟩ => by subst e; rw [List.reverse_cons, List.reverse_cons]; exact WR.snoc n h1 (WR.rev (ws := ws) h2)
theorem WR.get : ∀ {ws : List (List Str)} {xs : List V} {i : Nat} {x : V}, WR S H ws xs → xs[i]? = some x → ∃ w p, ws[i]? = some w ∧ x = .ref p ∧ p ∉ S ∧ H p = some (.lst (w.map V.str))
  | [], _, _, _, h, e => by cases (show _ = [] from h); simp at e
  | w :: _, _, 0, _, ⟨p, r, e, n, h1, h2⟩, q => by subst e; simp at q; subst q; exact ⟨w, p, rfl, rfl, n, h1⟩
  | _ :: ws, _, i + 1, _, ⟨p, r, e, n, h1, h2⟩, q => by subst e; simpa using WR.get (ws := ws) (i := i) h2 (by simpa using q)
theorem WR.off (hS : ∀ s ∈ S', H s = none) : ∀ {ws : List (List Str)} {xs : List V}, WR S H ws xs → WR S' H ws xs
  | [], _, h => h
  | _ :: ws, _, ⟨p, r, e, n, h1, h2⟩ => ⟨p, r, e, (fun z => by rw [hS p z] at h1; cases h1), h1, WR.off hS (ws := ws) h2⟩
theorem WR.all : ∀ {ws : List (List Str)} {xs : List V}, WR S H ws xs → WR [] H ws xs
  | [], _, h => h
  | _ :: ws, _, ⟨p, r, e, n, h1, h2⟩ => ⟨p, r, e, by simp, h1, WR.all (ws := ws) h2⟩
theorem WR.len : ∀ {ws : List (List Str)} {xs : List V}, WR S H ws xs → xs.length = ws.length
  | [], _, h => by cases (show _ = [] from h); rfl
  | _ :: ws, _, ⟨p, r, e, n, h1, h2⟩ => by subst e; exact congrArg (· + 1) (WR.len (ws := ws) h2)
theorem Reps.halves : ∀ {a b : List D} {ys : List V}, Reps K H (a ++ b) ys → ∃ y1 y2, ys = y1 ++ y2 ∧ Reps K H a y1 ∧ Reps K H b y2
  | [], _, ys, h => ⟨[], ys, rfl, rfl, h⟩
  | _ :: a, _, _, ⟨x, r, e, h1, h2⟩ => by
    obtain ⟨y1, y2, e2, h3, h4⟩ := Reps.halves (a := a) h2
    subst e; subst e2
    exact ⟨x :: y1, y2, rfl, ⟨x, y1, rfl, h1, h3⟩, h4⟩
theorem ev_ixD (ha : EvV T K ta δ H (.ref l)) (hb : EvD T K tb δ H (.int i)) (hl : H l = some (.lst xs)) (r : Reps K H ds xs) (h : atI ds i = some d) : EvD T K (tOp (rIxL K) ta tb) δ H d := fun σ H1 g s Q q =>
  ha σ H1 g s _ fun H2 g2 => hb σ H2 (g.trans g2) (s.up g2) _ fun w H3 g3 e => by
    have gg := (g.trans g2).trans g3
    obtain ⟨v, hv, rv⟩ := atI_rep (r.up gg) h
    exact ⟨l, xs, i, v, rfl, e, .inl (.inl (gg.lst hl (by simp))), hv, q v H3 (g2.trans g3) rv⟩
theorem el_slice {tlo thi : TO} {lo hi : Option Int} (ha : EvV T K ta δ H (.ref l)) (e : H l = some (.lst xs)) (r : Reps K H ds xs) (hl : EvO T K tlo δ H lo) (hh : EvO T K thi δ H hi) : EvL T K (L2.tSl (rSlL K) ta tlo thi) δ H (cutD ds lo hi) := fun σ H1 g s Q q =>
  ha σ H1 g s _ fun H2 g2 => hl σ H2 (g.trans g2) (s.up g2) _ fun H3 g3 => hh σ H3 ((g.trans g2).trans g3) ((s.up g2).up g3) _ fun H4 g4 => by
    have gg := ((g.trans g2).trans g3).trans g4
    refine ⟨l, xs, rfl, .inl (.inl (gg.lst e (by simp))), fun p np => ?_⟩
    have gn : Gr T [] H4 (upd H4 p (.lst (cutV xs lo hi))) := Gr.new g4.tbs np
    exact q p _ _ (g2.dom p (g3.dom p (g4.dom p np))) (((g2.trans g3).trans g4).trans gn) upd_same (((r.up gg).cut lo hi).up gn)
theorem cut_rest (ds : List D) (n : Nat) : cutD ds (some (n : Int)) none = ds.drop n := by
  unfold cutD
  rw [HT.sIx_none, HT.sIx_nat]
  by_cases h : n ≤ ds.length
  · rw [Nat.min_eq_left h, List.take_of_length_le (by rw [List.length_drop]; omega)]
  · rw [Nat.min_eq_right (by omega), List.drop_of_length_le (Nat.le_refl _), List.drop_of_length_le (by omega), List.take_nil]
/-- a for whose slots are told by a statement -/
theorem run_forS (hT : Tbs T H) (hi : EvI T K S wi δ H ds) (W : Nat → List (Option SD) → Hp → Prop) (h0 : ∀ H1, Gr T [] H H1 → W 0 δ H1) (hm : ∀ i δ H1 H2, Gr T [] H1 H2 → W i δ H1 → W i δ H2)
    (hs : ∀ i d δi H1 (N : L2.St → Hp → Prop), ds[i]? = some d → Gr T S H H1 → W i δi H1 → (∀ σ δ' H2, Gr T S H1 H2 → W (i + 1) δ' H2 → Slots K H2 δ' σ → N σ H2) → ∃ δ' js, EvG T K g d δi H1 δ' js ∧ Run K t { nx := N, rt := B.rt, bk := u B, ct := N } δ' H1)
    (hd : ∀ δe H1, Gr T S H H1 → W ds.length δe H1 → Run K u B δe H1) : Run K (tSeq (tFor wi g t) u) B δ H := fun σ s =>
  hi σ H (Gr.refl hT) s _ fun J H2 g2 Wk => by
    refine for_it Wk (fun i σ' H' => Gr T S H2 H' ∧ ∃ δi, W i δi H' ∧ Slots K H' δi σ') ⟨Gr.refl g2.tbs, δ, h0 H2 g2, s.up g2⟩ (fun i σ' H' _ p => p.1) (fun i x σ' Ha Hb hlt p y => ?_) (fun σ' H' p => ?_)
    · obtain ⟨p1, δi, p2, p3⟩ := p
      obtain ⟨ga, d, hd', rd⟩ := y
      have gb : Gr T S H Hb := (g2.any.trans p1).trans ga.any
      obtain ⟨δ', js, hg, hr⟩ := hs i d δi Hb (fun σ' H' => Gr T S H2 H' ∧ ∃ δi, W (i + 1) δi H' ∧ Slots K H' δi σ') hd' gb (hm i δi Ha Hb ga p2) fun σ2 δ2 H3 g3 i3 s3 => ⟨(p1.trans ga.any).trans g3, δ2, i3, s3⟩
      exact hg x σ' Hb (Gr.refl ga.tbs) rd (p3.up ga) _ fun σ2 s2 _ => hr σ2 s2
    · obtain ⟨p1, δi, p2, p3⟩ := p
      exact hd δi H' (g2.any.trans p1) p2 σ' p3
theorem el_catV (ha : EvV T K ta δ H (.ref l)) (e : H l = some (.lst xs)) (r : Reps K H ds xs) (hb : EvL T K tb δ H es) (hz : ds.length + es.length ≤ 10000) : EvL T K (tOp rCat ta tb) δ H (ds ++ es) := fun σ H1 g s Q q =>
  ha σ H1 g s _ fun H2 g2 => hb σ H2 (g.trans g2) (s.up g2) _ fun p ys H3 np g3 ep rp => by
    have gg := (g.trans g2).trans g3
    have rx := r.up gg
    refine ⟨l, p, xs, ys, rfl, rfl, gg.lst e (by simp), ep, sz (by rw [rx.len, rp.len]; omega), fun b hb => ?_⟩
    have gn : Gr T [] H3 (upd H3 b (.lst (xs ++ ys))) := Gr.new g3.tbs hb
    exact q b _ _ (g2.dom b (g3.dom b hb)) ((g2.trans g3).trans gn) upd_same ((rx.app rp).up gn)
theorem el_catL (ha : EvL T K ta δ H ds) (hb : EvL T K tb δ H es) (hz : ds.length + es.length ≤ 10000) : EvL T K (tOp rCat ta tb) δ H (ds ++ es) := fun σ H1 g s Q q =>
  ha σ H1 g s _ fun l xs H2 nl g2 e r => hb σ H2 (g.trans g2) (s.up g2) _ fun p ys H3 np g3 ep rp => by
    have rx := r.up g3
    refine ⟨l, p, xs, ys, rfl, rfl, g3.lst e (by simp), ep, sz (by rw [rx.len, rp.len]; omega), fun b hb => ?_⟩
    have gn : Gr T [] H3 (upd H3 b (.lst (xs ++ ys))) := Gr.new g3.tbs hb
    exact q b _ _ (g2.dom b (g3.dom b hb)) ((g2.trans g3).trans gn) upd_same ((rx.app rp).up gn)
theorem en_wanted {x : Str} {E : XK} (h : EvV T K ta δ H (.ref p)) (hp : H p = some (.lst (ws.map V.str))) (st : Stands ws x n) : EvN T K (tCall (spWanted T K) [] E (tCons ta tNil)) δ H (n.map V.str) := fun σ H1 g s Q q =>
  h σ H1 g s _ fun H2 g2 => ⟨p, ws, x, n, rfl, (g.trans g2).lst hp (by simp), st, g2.tbs, fun r H3 nr g3 e => q r H3 (g2.dom r nr) (g2.trans g3) e⟩
end
theorem Stands.len {ws n : List Str} {x : Str} (h : Stands ws x n) : n.length ≤ 99 := by
  cases h with
  | out _ _ => simp
  | room a b ha hb => have := hb.2; have := hb.1; simp; omega
  | door a b _ _ => simp
section
variable {P : Program} {w : World} {K : PySem.W.Frag} {mg : Str → Option Value} {base : Heap} {T : Tb} {f : Addr} {fd : FuncData}
def spWords (T : Tb) (K : PySem.W.Frag) : Sp := fun vs H Q _ => ∃ h : House, vs = [.str h.text] ∧ h.ok ∧ h.many ≤ 12 ∧ Tbs T H ∧ ∀ l xs H', H l = none → Gr T [] H H' → H' l = some (.lst xs) → WR [] H' h.words xs → Q (.ref l) H'
theorem ok_words (B : Bl mg) (a : At K mg "words_of_rows" s_words_of_rows ["text"] f fd) (G_can_stand : Ok P w K mg base 2 "can_stand" ["words", "wanted"] (spStand T K)) (G_wanted_behind : Ok P w K mg base 1 "wanted_behind" ["words"] (spWanted T K)) : Ok P w K mg base 3 "words_of_rows" ["text"] (spWords T K) := by
  refine a.ok (a.F.ok (k := 2) sc_words_of_rows (fun vs H Q E ⟨_, e, _⟩ => by rw [e]; rfl) fun cdv A' outer s H vs Q E hr h => ⟨_, (pss_cons (ps_set (i := 1) sc_words_of_rows.nd rfl (Or.inl rfl) (pe_lst pa_nil))
    (pss_cons (ps_set (i := 2) sc_words_of_rows.nd rfl (Or.inl rfl) (pe_lst (pa_cons pe_str pa_nil)))
    (pss_cons (ps_for PassesOwn.never rfl (pi_enum (by rfl) B.enumerate (pa_cons (pe_split (pv 0) pe_str) pa_nil)) (pg_tup (n := 2) rfl (pgs_cons (pg_name (i := 3) sc_words_of_rows.nd rfl (Or.inl rfl)) (pgs_cons (pg_name (i := 4) sc_words_of_rows.nd rfl (Or.inl rfl)) pgs_nil))) (pss_cons (ps_set (i := 5) sc_words_of_rows.nd rfl (Or.inl rfl) (pe_split (pv 4) pe_str))
    (pss_cons (ps_if (PW.pt (pw_or (pt_cmpR op_eq (pe_callB cr_len (by rfl) B.len (by decide +kernel) (pa_cons (pv 2) pa_nil)) pe_int (nomark _)) (pw_or1 (pt_not (pt_val (pe_own G_can_stand hr (by decide) (by rfl) (pa_cons (pv 5) (pa_cons (pe_bm0 PySem.F.plainAttrs_list PySem.F.slot_list_pop PySem.F.type_list_pop mt_pop (pv 2)) pa_nil)))))))) (pss_one ps_never) pss_nil)
    (pss_cons (ps_expr (pe_bm PySem.F.plainAttrs_list PySem.F.slot_list_extend PySem.F.type_list_extend mt_extend (pv 2) (pa_cons (pe_own G_wanted_behind hr (by decide) (by rfl) (pa_cons (pv 5) pa_nil)) pa_nil)))
    (pss_one (ps_expr (pe_bm PySem.F.plainAttrs_list PySem.F.slot_list_append PySem.F.type_list_append mt_append (pv 1) (pa_cons (pv 5) pa_nil))))))))
    (pss_cons (ps_if (pt_cmpR op_gt (pe_callB cr_len (by rfl) B.len (by decide +kernel) (pa_cons (pv 2) pa_nil)) pe_int (nomark _)) (pss_one ps_never) pss_nil)
    (pss_one (ps_ret (pv 1))))))), ?_⟩)
  obtain ⟨h, rfl, hok, h12, hT, q⟩ := h
  dsimp only [Cx.nox, Cx.wish, cxOf]
  suffices hR : Run K _ _ [some (.d (.str h.text)), none, none, none, none, none] H from
    hR _ ⟨_, _, rfl, rfl, _, _, rfl, trivial, _, _, rfl, trivial, _, _, rfl, trivial, _, _, rfl, trivial, _, _, rfl, trivial, rfl⟩
  refine run_asgL hT (ev_lst ea_nil (by simp)) fun tl_ xs0 H1 nt g1 et rt => ?_
  cases (show xs0 = [] from rt)
  refine run_asgL g1.tbs (ev_lst (ea_cons ev_str ea_nil) (by simp)) fun wl xs1 H2 nw g2 ew rw1 => ?_
  have ex1 : xs1 = ([("room" : Str)]).map V.str := Reps.strs (ws := ["room"]) rw1
  subst ex1
  have et2 := g2.lst et (by simp)
  have ne : tl_ ≠ wl := fun z => by subst z; rw [et] at nw; cases nw
  have nw0 : H wl = none := g1.dom wl nw
  have wlen := House.words_len h
  have hsp := text_split hok
  have hit : EvI T K [tl_, wl] _ _ H2 _ := ei_enumL (T := T) (K := K) (S := [tl_, wl]) (el_split (T := T) (K := K) (δ := [some (.d (.str h.text)), some (.v (.ref tl_)), some (.v (.ref wl)), none, none, none]) (H := H2) (to := tVar 0) (te := tC (.str "\n")) (ev_var rfl) ev_str (by decide +kernel) (by have := text_len hok; omega)) (fun s hs => by
    rcases (by simpa using hs : s = tl_ ∨ s = wl) with rfl | rfl
    · rw [et2]; simp
    · rw [ew]; simp)
  rw [hsp] at hit
  refine run_for (S := [tl_, wl]) g2.tbs hit (fun _ => [some (.d (.str h.text)), some (.v (.ref tl_)), some (.v (.ref wl)), none, none, none])
    (fun i H => ∃ (st : List Str) (told : List V), H wl = some (.lst (st.map V.str)) ∧ Goes st (h.words.drop i) [] ∧ st.length ≤ 1 + 99 * i ∧ H tl_ = some (.lst told) ∧ WR [tl_, wl] H (h.words.take i) told)
    (Less.refl _) (fun H3 g3 => ⟨["room"], [], g3.lst ew (by simp), House.goes h hok [], by simp, g3.lst et2 (by simp), rfl⟩)
    (fun i Ha Hb g ⟨st, told, a1, a2, a3, a4, a5⟩ => ⟨st, told, g.lst a1 (by simp), a2, a3, g.lst a4 (by simp), a5.up g.any⟩)
    (fun i d Ha N hdi ga ⟨st, told, a1, a2, a3, a4, a5⟩ hN => ?_) fun He ge ⟨st, told, a1, a2, a3, a4, a5⟩ => ?_
  · rw [withNo_get, List.getElem?_map, List.getElem?_map] at hdi
    cases hw : h.words[i]? with
    | none => rw [hw] at hdi; cases hdi
    | some ww =>
      rw [hw] at hdi; cases hdi
      have hlt : i < h.words.length := (List.getElem?_eq_some_iff.mp hw).1
      have hww : h.words[i] = ww := (List.getElem?_eq_some_iff.mp hw).2
      have rok := House.words_ok h hok ww (List.mem_of_getElem? hw)
      refine ⟨_, _, eg_tup rfl (eg_cons eg_name (eg_cons eg_name eg_nil)), ?_⟩
      refine run_asgL ga.tbs (el_split (ev_var rfl) ev_str (by decide +kernel) (by have := rok.signs.2.2.2; omega)) fun p xp Hb np gb ep rp => ?_
      rw [rok.split] at rp
      have exp := Reps.strs rp
      subst exp
      have npt : p ∉ [tl_, wl] := fun z => by
        rcases (by simpa using z : p = tl_ ∨ p = wl) with rfl | rfl
        · rw [a4] at np; cases np
        · rw [a1] at np; cases np
      rw [List.drop_eq_getElem_cons hlt, hww] at a2
      obtain ⟨st0, x, n, rfl, hst, a2'⟩ := a2
      have a1b := gb.lst a1 (by simp)
      rw [List.map_append] at a1b
      have a1b' : Hb wl = some (.lst (st0.map V.str ++ [.str x])) := a1b
      have a4b := gb.lst a4 (by simp)
      simp only [List.length_append, List.length_cons, List.length_nil] at a3
      have npw : p ∉ [wl] := fun z => npt (by simp at z; simp [z])
      refine run_can (sp := spStand T K) gb.tbs ((et_test (ev_eqI (ev_lenL (ev_raw rfl) a1b') ev_int)).is (by simp; omega)) (ev_raw rfl) (ev_raw rfl) a1b' (fun Hc gc Q' q' => ⟨p, ww, x, n, rfl, gc.lst ep npw, hst, gc.tbs, q'⟩) fun Hc gc ec _ => ?_
      have epc := gc.lst ep npw
      have tnw : tl_ ∉ [wl] := by simpa using ne
      have a4c := gc.lst a4b tnw
      refine run_extN gc.tbs (ev_raw rfl) (en_wanted (ev_raw rfl) epc hst) ec (by have := hst.len; simp only [List.length_map]; omega) fun Hd gd ed => ?_
      have gw : Gr T [wl] Hd (upd Hd wl (.lst (st0.map V.str ++ n.map V.str))) := (Gr.refl gd.tbs).put ed (.inl (by simp))
      have a4d : (upd Hd wl (.lst (st0.map V.str ++ n.map V.str))) tl_ = some (.lst told) := gw.lst (gd.lst a4c (by simp)) tnw
      have tlen := a5.len
      rw [List.length_take] at tlen
      refine run_last (run_app gw.tbs (ev_raw rfl) (ev_raw rfl) a4d (by omega) fun Hf gf ef => run_next fun σ sl => ?_)
      have gt : Gr T [tl_] Hf (upd Hf tl_ (.lst (told ++ [.ref p]))) := (Gr.refl gf.tbs).put ef (.inl (by simp))
      have m1 : ∀ x ∈ [wl], x ∈ [tl_, wl] := by simp
      have m2 : ∀ x ∈ [tl_], x ∈ [tl_, wl] := by simp
      have gall : Gr T [tl_, wl] Ha (upd Hf tl_ (.lst (told ++ [.ref p]))) := ((((gb.any.trans (gc.mono m1)).trans gd.any).trans (gw.mono m1)).trans gf.any).trans (gt.mono m2)
      have gall2 : Gr T [tl_, wl] Hb (upd Hf tl_ (.lst (told ++ [.ref p]))) := (((((gc.mono m1)).trans gd.any).trans (gw.mono m1)).trans gf.any).trans (gt.mono m2)
      have wnt : wl ∉ [tl_] := by simpa using fun z => ne z.symm
      refine hN σ _ gall ⟨st0 ++ n, told ++ [.ref p], ?_, a2', ?_, upd_same, ?_⟩ (Slots.less (.same _ (.same _ (.same _ (.drop _ (.drop _ (.drop _ .nil)))))) sl)
      · rw [List.map_append]; exact gt.lst (gf.lst upd_same (by simp)) wnt
      · have := hst.len; simp only [List.length_append]; omega
      · rw [List.take_succ, hw]
        exact WR.snoc npt (gall2.lst ep npt) (a5.up gall)
  · have eL : (withNo ((h.words.map rowT).map D.str) 0).length = h.words.length := by rw [withNo_len, List.length_map, List.length_map]
    rw [eL] at a2 a5
    rw [List.drop_length] at a2
    cases (show st = [] from a2)
    rw [List.take_length] at a5
    refine run_when ge.tbs ((et_test (ev_B0 (ev_lenL (ev_raw rfl) a1) ev_int)).is (c := false) (by simp)) (fun e => nomatch e) fun _ Hf gf => ?_
    refine run_retV gf.tbs (ev_raw rfl) fun Hg gg => ?_
    have gz : Gr T [tl_, wl] H2 Hg := (ge.trans gf.any).trans gg.any
    have g12 : Gr T [wl] H Hg := (g1.trans g2).any.drop gz nt
    exact q tl_ told Hg nt ((Gr.refl hT).drop g12 nw0) ((gf.trans gg).lst a4 (by simp)) (a5.up (gf.trans gg).any).all
end
end Pd
namespace Pd
open PySem PySem.Spec PyProof.Rows L2
section
variable {P : Program} {w : World} {K : PySem.W.Frag} {mg : Str → Option Value} {base : Heap} {T : Tb} {f : Addr} {fd : FuncData}
def spBuilt (T : Tb) (K : PySem.W.Frag) : Sp := fun vs H Q _ => ∃ (l : Addr) (xs : List V) (W : List (List Str)) (d : D), vs = [.ref l] ∧ H l = some (.lst xs) ∧ WR [] H W xs ∧ Comes W.reverse [] [d] ∧ W.length ≤ 100 ∧ Tbs T H ∧ ∀ v H', Gr T [] H H' → Rep K H' d v → Q v H'
theorem ok_built (B : Bl mg) (a : At K mg "built" s_built ["told"] f fd) : Ok P w K mg base 1 "built" ["told"] (spBuilt T K) := by
  refine a.ok (a.F.ok (k := 0) sc_built (fun vs H Q E ⟨_, _, _, _, e, _⟩ => by rw [e]; rfl) fun cdv A' outer s H vs Q E hr h => ⟨_, (pss_cons (ps_set (i := 1) sc_built.nd rfl (Or.inl rfl) (pe_lst pa_nil))
    (pss_cons (ps_for PassesOwn.never rfl (pi_list (pe_revL (pv 0))) (pg_name (i := 2) sc_built.nd rfl (Or.inl rfl)) (pss_one (ps_if (pt_cmpR op_eq (pe_ix ix_list (pv 2) pe_int (fun _ _ => rfl)) pe_str (nomark _)) (pss_one (ps_expr (pe_bm PySem.F.plainAttrs_list PySem.F.slot_list_append PySem.F.type_list_append mt_append (pv 1) (pa_cons (pe_ix ix_list (pv 2) pe_int (fun _ _ => rfl)) pa_nil)))) (pss_one (ps_if (pt_cmpR op_eq (pe_ix ix_list (pv 2) pe_int (fun _ _ => rfl)) pe_str (nomark _)) (pss_one (ps_expr (pe_bm PySem.F.plainAttrs_list PySem.F.slot_list_append PySem.F.type_list_append mt_append (pv 1) (pa_cons (pe_tup (pa_cons (pe_callTy call_int_str (by rfl) B.int (by decide +kernel) (pa_cons (pe_ix ix_list (pv 2) pe_int (fun _ _ => rfl)) pa_nil)) (pa_cons (pe_callTy call_int_str (by rfl) B.int (by decide +kernel) (pa_cons (pe_ix ix_list (pv 2) pe_int (fun _ _ => rfl)) pa_nil)) (pa_cons (pe_bm0 PySem.F.plainAttrs_list PySem.F.slot_list_pop PySem.F.type_list_pop mt_pop (pv 1)) pa_nil)))) pa_nil)))) (pss_cons (ps_set (i := 3) sc_built.nd rfl (Or.inl rfl) (pe_op op_sub (pe_callB cr_len (by rfl) B.len (by decide +kernel) (pa_cons (pv 1) pa_nil)) (pe_callTy call_int_str (by rfl) B.int (by decide +kernel) (pa_cons (pe_ix ix_list (pv 2) pe_int (fun _ _ => rfl)) pa_nil))))
    (pss_cons (ps_set (i := 4) sc_built.nd rfl (Or.inl rfl) (pe_callTy cr_tup (by rfl) B.tuple (by decide +kernel) (pa_cons (pe_revL (pe_slice sl_list (pv 1) (po_some (pv 3)) po_none)) pa_nil)))
    (pss_cons (ps_delS (pv 1) (po_some (pv 3)))
    (pss_one (ps_expr (pe_bm PySem.F.plainAttrs_list PySem.F.slot_list_append PySem.F.type_list_append mt_append (pv 1) (pa_cons (pe_tup (pa_cons (pe_callTy call_int_str (by rfl) B.int (by decide +kernel) (pa_cons (pe_ix ix_list (pv 2) pe_int (fun _ _ => rfl)) pa_nil)) (pa_cons (pv 4) pa_nil))) pa_nil))))))))))))
    (pss_one (ps_ret (pe_ix ix_list (pv 1) pe_int (fun _ _ => rfl)))))), ?_⟩)
  obtain ⟨l, xs, W, d, rfl, hl, hW, hC, hlen, hT, q⟩ := h
  dsimp only [Cx.nox, Cx.wish, cxOf]
  suffices hR : Run K _ _ [some (.v (.ref l)), none, none, none, none] H from
    hR _ ⟨_, _, rfl, rfl, _, _, rfl, trivial, _, _, rfl, trivial, _, _, rfl, trivial, _, _, rfl, trivial, rfl⟩
  refine run_asgL hT (ev_lst ea_nil (by simp)) fun rl xs0 H1 nr g1 er rr => ?_
  cases (show xs0 = [] from rr)
  have hW1 : WR [rl] H1 W xs := (WR.off (S' := [rl]) (fun s hs => by rw [(by simpa using hs : s = rl)]; exact nr) hW).up g1.any
  have hl1 := g1.lst hl (by simp)
  have hWl := hW.len
  refine run_forN (S := [rl]) g1.tbs (en_rev (ev_raw rfl) hl1) (fun s hs => by rw [(by simpa using hs : s = rl), er]; simp) (fun _ => [some (.v (.ref l)), some (.v (.ref rl)), none, none, none])
    (fun i H => ∃ (st : List D) (ys : List V), H rl = some (.lst ys) ∧ Reps K H st.reverse ys ∧ Comes (W.reverse.drop i) st [d] ∧ st.length ≤ i ∧ WR [rl] H W.reverse xs.reverse)
    (Less.refl _) (fun H2 g2 => ⟨[], [], g2.lst er (by simp), rfl, hC, Nat.le_refl _, hW1.rev.up g2.any⟩)
    (fun i Ha Hb g ⟨st, ys, a1, a2, a3, a4, a5⟩ => ⟨st, ys, g.lst a1 (by simp), a2.up g, a3, a4, a5.up g.any⟩)
    (fun i x Ha N hx ga ⟨st, ys, a1, a2, a3, a4, a5⟩ hN => ?_) fun He ge ⟨st, ys, a1, a2, a3, a4, a5⟩ => ?_
  · obtain ⟨ww, p, hw, rfl, np, ep⟩ := a5.get hx
    have hlt : i < W.reverse.length := (List.getElem?_eq_some_iff.mp hw).1
    have hww : W.reverse[i] = ww := (List.getElem?_eq_some_iff.mp hw).2
    rw [List.drop_eq_getElem_cons hlt, hww] at a3
    obtain ⟨st', hst, a3'⟩ := a3
    have hi : i < 100 := by rw [List.length_reverse] at hlt; omega
    have fin : ∀ Hb Hc σ v (st2 : List D) (ys2 : List V) (s3 s4 : Option SD), Gr T [rl] Ha Hc → Hc rl = some (.lst (ys2 ++ [v])) → Reps K Hc st2.reverse ys2 → Rep K Hc Hb v → st' = Hb :: st2 → st2.length ≤ i → Slots K Hc [some (.v (.ref l)), some (.v (.ref rl)), some (.v (.ref p)), s3, s4] σ → N σ Hc := fun dd Hc σ v st2 ys2 s3 s4 g e r rv est hl2 sl =>
      hN σ Hc g ⟨st', ys2 ++ [v], e, by rw [est, List.reverse_cons]; exact r.app ⟨v, [], rfl, rv, rfl⟩, a3', by rw [est, List.length_cons]; omega, a5.up g⟩ (Slots.less (.same _ (.same _ (.drop _ (.drop _ (.drop _ .nil))))) sl)
    have ysl := a2.len
    rw [List.length_reverse] at ysl
    cases hst with
    | out n st =>
      refine run_if ga.tbs ((et_test (ev_eqS (ev_ixW (w := "out") (ev_raw rfl) ev_int ep rfl) ev_str)).is (c := true) (by simp)) (fun _ Hb gb => ?_) fun e => nomatch e
      refine run_last (run_appD gb.tbs (ev_raw rfl) (ev_ixW (w := n) (ev_raw rfl) ev_int (gb.lst ep (by simp)) rfl) (gb.lst a1 (by simp)) (by omega) fun v Hc gc ec rc => run_next fun σ sl => ?_)
      have gp : Gr T [rl] Hc (upd Hc rl (.lst (ys ++ [v]))) := (Gr.refl gc.tbs).put ec (.inl (by simp))
      have gall : Gr T [rl] Ha _ := (gb.trans gc).any.trans gp
      exact fin (.str n) _ σ v st ys _ _ gall upd_same (a2.up gall) (Rep.up rc gp) rfl a4 sl
    | door aa bb y st fa fb =>
      rw [List.reverse_cons] at a2
      obtain ⟨y1, y2, rfl, r1, yv, yr, e2, r2, e3⟩ := a2.halves
      cases (show yr = [] from e3)
      subst e2
      simp only [List.length_append, List.length_cons, List.length_nil] at ysl a4
      refine run_if ga.tbs ((et_test (ev_eqS (ev_ixW (w := "door") (ev_raw rfl) ev_int ep rfl) ev_str)).is n_do) (fun e => nomatch e) fun _ Hb gb => ?_
      refine run_if gb.tbs ((et_test (ev_eqS (ev_ixW (w := "door") (ev_raw rfl) ev_int (gb.lst ep (by simp)) rfl) ev_str)).is (c := true) (by simp)) (fun _ Hc gc => ?_) fun e => nomatch e
      have gbc := gb.trans gc
      have ep2 := gbc.lst ep (by simp)
      refine run_last (run_appPop gc.tbs (ev_raw rfl) (ev_raw rfl) (ev_intS (ev_ixW (w := num aa) (ev_raw rfl) ev_int ep2 rfl) fa) (ev_intS (ev_ixW (w := num bb) (ev_raw rfl) ev_int ep2 rfl) fb) (gbc.lst a1 (by simp)) (Rep.up r2 gbc) (by omega) fun v Hd gd ed rd => run_next fun σ sl => ?_)
      have gall : Gr T [rl] Ha Hd := gbc.any.trans gd
      exact fin _ _ σ v st y1 _ _ gall ed (r1.up gall) rd rfl (by omega) sl
    | room aa ds st fa hds =>
      rw [List.reverse_append] at a2
      have fb : fig (ds.length : Int) := ⟨by omega, by omega⟩
      have a4' : ds.length + st.length ≤ i := by simpa using a4
      have ysl' : ys.length = ds.length + st.length := by simpa using ysl
      refine run_if ga.tbs ((et_test (ev_eqS (ev_ixW (w := "room") (ev_raw rfl) ev_int ep rfl) ev_str)).is n_ro) (fun e => nomatch e) fun _ Hb gb => ?_
      refine run_if gb.tbs ((et_test (ev_eqS (ev_ixW (w := "room") (ev_raw rfl) ev_int (gb.lst ep (by simp)) rfl) ev_str)).is n_rd) (fun e => nomatch e) fun _ Hc gc => ?_
      have gbc := gb.trans gc
      refine run_asg gc.tbs ((ev_I0 (ev_lenL (ev_raw rfl) (gbc.lst a1 (by simp))) (ev_intS (ev_ixW (w := num ds.length) (ev_raw rfl) ev_int (gbc.lst ep (by simp)) rfl) fb)).is (x := .int (st.length : Nat)) (by congr 1; omega)) fun Hd gd => ?_
      have gbd := gbc.trans gd
      refine run_asg gd.tbs ((ev_tupN (el_revL (el_slice (ev_raw rfl) (gbd.lst a1 (by simp)) (a2.up gbd) (eo_some (ev_var rfl)) eo_none))).is (x := .tup ds) (by rw [cut_rest, List.drop_left' (by simp), List.reverse_reverse])) fun He ge => ?_
      have gbe := gbd.trans ge
      refine run_delS ge.tbs (ev_raw rfl) (eo_some (ev_var rfl)) (gbe.lst a1 (by simp)) (by omega) fun Hf gf ef => ?_
      have gp : Gr T [rl] Hf (upd Hf rl (.lst (ys.take st.length))) := (Gr.refl gf.tbs).put ef (.inl (by simp))
      have gbf : Gr T [rl] Ha (upd Hf rl (.lst (ys.take st.length))) := (gbe.trans gf).any.trans gp
      have r2 := (a2.up gbf).take st.length
      rw [List.take_left' (by simp)] at r2
      refine run_last (run_appD gp.tbs (ev_raw rfl) (ev_tup (ea_cons (ev_intS (ev_ixW (w := num aa) (ev_raw rfl) ev_int (gbf.lst ep np) rfl) fa) (ea_cons (ev_var rfl) ea_nil)) (by simp)) upd_same (by rw [List.length_take]; omega) fun v Hg gg eg rg => run_next fun σ sl => ?_)
      have gq : Gr T [rl] Hg (upd Hg rl (.lst (ys.take st.length ++ [v]))) := (Gr.refl gg.tbs).put eg (.inl (by simp))
      have gall : Gr T [rl] Ha _ := (gbf.trans gg.any).trans gq
      exact fin _ _ σ v st _ _ _ gall upd_same ((r2.up gg).up gq) (Rep.up rg gq) rfl (by omega) sl
  · rw [List.drop_of_length_le (by rw [List.length_reverse, List.length_reverse]; omega)] at a3
    cases (show st = [d] from a3)
    have nr0 : H rl = none := nr
    exact run_ret ge.tbs (ev_ixD (ds := [d]) (ev_raw rfl) ev_int a1 a2 rfl) fun v Hf gf r => q v Hf (g1.drop (ge.trans gf.any) nr0) r
def RRead (ds : List D) (d : D) : Prop := ∃ h : House, ds = [.str h.text] ∧ h.ok ∧ h.many ≤ 12 ∧ d = h.toD
theorem ok_read (B : Bl mg) (a : At K mg "read" s_read ["text"] f fd) (G_built : Ok P w K mg base 1 "built" ["told"] (spBuilt T K)) (G_words_of_rows : Ok P w K mg base 3 "words_of_rows" ["text"] (spWords T K)) (G_check_house : Ok P w K mg base 3 "check_house" ["house"] (spR T K RCheck)) : Ok P w K mg base 4 "read" ["text"] (spR T K RRead) := by
  refine okR a sc_read (fun ds d ⟨_, e, _⟩ => by rw [e]; rfl) fun cdv A outer s H E ds d Q hr hR hT q => ⟨_, (pss_cons (ps_set (i := 1) sc_read.nd rfl (Or.inl rfl) (pe_own G_built hr (by decide) (by rfl) (pa_cons (pe_own G_words_of_rows hr (by decide) (by rfl) (pa_cons (pv 0) pa_nil)) pa_nil)))
    (pss_cons (ps_expr (pe_own G_check_house hr (by decide) (by rfl) (pa_cons (pv 1) pa_nil)))
    (pss_one (ps_ret (pv 1))))), ?_⟩
  obtain ⟨h, rfl, hok, h12, rfl⟩ := hR
  refine run_asg (d := h.toD) hT (fun σ H1 g s Q q => ?_) fun H1 g1 => ?_
  · refine (ev_var (T := T) (K := K) (δ := [some (.d (.str h.text)), none]) (H := H) (d := .str h.text) (n := 0) rfl) σ H1 g s _ fun v H2 g2 e => ?_
    refine ⟨h, by rw [(show v = .str h.text from e)]; rfl, hok, h12, g2.tbs, fun l xs H3 nl g3 el hw => ?_⟩
    exact ⟨l, xs, h.words, h.toD, rfl, el, hw, House.ends h hok [], by rw [House.words_len]; omega, g3.tbs, fun v' H4 g4 r => q v' H4 ((g2.trans g3).trans g4) r⟩
  · refine run_drop g1.tbs (ev_call (ea_cons (ev_var rfl) ea_nil) ⟨h, rfl, hok, h12, rfl⟩) fun H2 g2 => ?_
    exact run_ret g2.tbs (ev_var rfl) fun v H3 g3 r => q v H3 ((g1.trans g2).trans g3) r
/-! ### the law's own rows -/
theorem ok_lrows (B : Bl mg) (a : At K mg "_law_rows" s__law_rows ["_law_room_here"] f fd) : ∀ lv, Ok P w K mg base lv "_law_rows" ["_law_room_here"] (spRL T K (RRows lv)) := by
  intro lv
  induction lv with
  | zero => exact a.none fun vs H Q E ⟨_, _, ⟨_, _, _, h, _⟩, _⟩ => absurd h (Nat.not_lt_zero _)
  | succ lv G__law_rows =>
  refine okRL a sc__law_rows (fun ds d ⟨_, e, _⟩ => by rw [e]; rfl) fun cdv A outer s H E ds es Q hr hR hT q => ⟨_, (pss_cons (ps_if (pt_val (pe_callB call_isi (by rfl) B.isinstance (by decide +kernel) (pa_cons (pv 0) (pa_cons (pe_bltn (v := .ty "str") (by rfl) B.str (by decide +kernel) rfl) pa_nil)))) (pss_one (ps_ret (pe_lst (pa_cons (pe_op op_add_str pe_str (pv 0)) pa_nil)))) pss_nil)
    (pss_cons (ps_set (i := 1) sc__law_rows.nd rfl (Or.inl rfl) (pe_lst (pa_cons (pe_op op_add_str (pe_op op_add_str (pe_op op_add_str pe_str (pe_callTy call_str_int (by rfl) B.str (by decide +kernel) (pa_cons (pe_ix ix_tup (pv 0) pe_int (fun _ _ => rfl)) pa_nil))) pe_str) (pe_callTy call_str_int (by rfl) B.str (by decide +kernel) (pa_cons (pe_callB cr_len (by rfl) B.len (by decide +kernel) (pa_cons (pe_ix ix_tup (pv 0) pe_int (fun _ _ => rfl)) pa_nil)) pa_nil))) pa_nil)))
    (pss_cons (ps_for PassesOwn.never rfl (pi_tup (pe_ix ix_tup (pv 0) pe_int (fun _ _ => rfl))) (pg_tup (n := 3) rfl (pgs_cons (pg_name (i := 2) sc__law_rows.nd rfl (Or.inl rfl)) (pgs_cons (pg_name (i := 3) sc__law_rows.nd rfl (Or.inl rfl)) (pgs_cons (pg_name (i := 4) sc__law_rows.nd rfl (Or.inl rfl)) pgs_nil)))) (pss_one (ps_set (i := 1) sc__law_rows.nd rfl (Or.inl rfl) (pe_op op_cat (pe_op op_cat (pv 1) (pe_lst (pa_cons (pe_op op_add_str (pe_op op_add_str (pe_op op_add_str pe_str (pe_callTy call_str_int (by rfl) B.str (by decide +kernel) (pa_cons (pv 2) pa_nil))) pe_str) (pe_callTy call_str_int (by rfl) B.str (by decide +kernel) (pa_cons (pv 3) pa_nil))) pa_nil))) (pe_own G__law_rows hr (Nat.le_refl _) (by rfl) (pa_cons (pv 4) pa_nil))))))
    (pss_one (ps_ret (pv 1)))))), ?_⟩
  obtain ⟨h, rfl, hok, hd, h12, rfl⟩ := hR
  have lx : ∀ {a : Int}, fig a → ("room " : Str).length + (num a).length ≤ 100000 ∧ ("room " ++ num a).length + (" " : Str).length ≤ 100000 ∧ ("door " : Str).length + (num a).length ≤ 100000 ∧ ("door " ++ num a).length + (" " : Str).length ≤ 100000 ∧ ∀ {b : Int}, fig b → ("room " ++ num a ++ " ").length + (num b).length ≤ 100000 ∧ ("door " ++ num a ++ " ").length + (num b).length ≤ 100000 := fun {a} ha => by
    have := ha.len.2
    simp only [TL.len_tl] at this
    refine ⟨?_, ?_, ?_, ?_, fun {b} hb => ?_⟩
    · simp only [TL.len_tl, TL.tl_append, tl_room_, tl_door_, tl_sp, List.length_append, List.length_cons, List.length_nil]; omega
    · simp only [TL.len_tl, TL.tl_append, tl_room_, tl_door_, tl_sp, List.length_append, List.length_cons, List.length_nil]; omega
    · simp only [TL.len_tl, TL.tl_append, tl_room_, tl_door_, tl_sp, List.length_append, List.length_cons, List.length_nil]; omega
    · simp only [TL.len_tl, TL.tl_append, tl_room_, tl_door_, tl_sp, List.length_append, List.length_cons, List.length_nil]; omega
    · have t2 := hb.len.2
      simp only [TL.len_tl] at t2
      refine ⟨?_, ?_⟩ <;> (simp only [TL.len_tl, TL.tl_append, tl_room_, tl_door_, tl_sp, List.length_append, List.length_cons, List.length_nil]; omega)
  cases h with
  | out n =>
    have hn : n.length ≤ 6 := hok.2.1
    have eo : ("out " : Str).length = 4 := by decide +kernel
    refine run_when hT (et_B (ev_isStr (ev_var rfl))) (fun _ H1 g1 => ?_) fun e => nomatch e
    refine run_retL g1.tbs (ev_lst (ea_cons (ev_addS ev_str (ev_var rfl) (by rw [eo]; omega)) ea_nil) (by simp)) fun p xs H2 n1 g2 e r => q p xs H2 (g1.dom p n1) (g1.trans g2) e ?_
    rw [row_out] at r; exact r
  | room hand ds =>
    obtain ⟨o1, o2, o3, o4⟩ := hok
    have hdd : ds.deep < lv := by simp only [House.deep] at hd; omega
    have h12' : ds.many ≤ 12 := h12
    have fh : fig hand := ⟨o1, by omega⟩
    have fl : fig (ds.len : Int) := ⟨by omega, by omega⟩
    refine run_when hT (et_B (ev_isStr (ev_var rfl))) (fun e => nomatch e) fun _ H1 g1 => ?_
    refine run_asgL g1.tbs (ev_lst (ea_cons (ev_addS (ev_addS (ev_addS ev_str (ev_strI (ev_ixT (ev_var rfl) ev_int (atI_nat (j := 0) rfl)) fh) (lx fh).1) ev_str (lx fh).2.1) (ev_strI ((ev_lenT (ev_ixT (d := .tup ds.toDs) (ev_var rfl) ev_int (atI_nat (j := 1) rfl))).is (by rw [Doors.toDs_len])) fl) ((lx fh).2.2.2.2 fl).1) ea_nil) (by simp)) fun l xs H2 nl g2 el rl => ?_
    rw [row_room] at rl
    refine run_forS (S := []) g2.tbs (ei_tup (ds := ds.toDs) (ev_ixT (ev_var rfl) ev_int (atI_nat (j := 1) rfl)))
      (fun i δ H' => ∃ (pre : List (List Str)) (l : Addr) (xs : List V) (s2 s3 s4 : Option SD), δ = [some (.d (House.room hand ds).toD), some (.v (.ref l)), s2, s3, s4] ∧ H l = none ∧ H' l = some (.lst xs) ∧ Reps K H' ((pre.map rowT).map D.str) xs ∧ pre ++ (ds.skip i).words = (House.room hand ds).words)
      (fun H3 g3 => ⟨[["room", num hand, num ds.len]], l, xs, none, none, none, rfl, g1.dom l nl, g3.lst el (by simp), rl.up g3, by rw [Doors.skip_zero]; rfl⟩)
      (fun i δ H3 H4 g ⟨pre, l, xs, s2, s3, s4, e, n0, a1, a2, a3⟩ => ⟨pre, l, xs, s2, s3, s4, e, n0, g.lst a1 (by simp), a2.up g, a3⟩)
      (fun i d δi H3 N hdi g3 ⟨pre, l, xs, s2, s3, s4, e, n0, a1, a2, a3⟩ hN => ?_) fun δe H3 g3 ⟨pre, l, xs, s2, s3, s4, e, n0, a1, a2, a3⟩ => ?_
    · subst e
      rw [Doors.get_toDs] at hdi
      cases hg : ds.get? i with
      | none => rw [hg] at hdi; cases hdi
      | some tr =>
        obtain ⟨nn, ss, hh⟩ := tr
        rw [hg] at hdi; cases hdi
        obtain ⟨q1, q2, q3, q4, q5⟩ := Doors.get_ok ds i o4 hg
        have fn : fig nn := ⟨by omega, q2⟩
        have fs : fig ss := ⟨q3, by omega⟩
        have hskip := Doors.skip_get ds i hg
        have hdeep := Doors.get_deep ds i hg
        have hmany := Doors.get_many ds i hg
        have wl := House.words_len (House.room hand ds)
        rw [← a3, hskip] at wl
        simp only [Doors.words, List.length_append, List.length_cons, House.many] at wl
        refine ⟨_, _, eg_tup rfl (eg_cons eg_name (eg_cons eg_name (eg_cons eg_name eg_nil))), ?_⟩
        have e1 := row_door (num nn) (num ss)
        refine run_last (run_asgL g3.tbs (el_catL (el_catV (ev_raw rfl) a1 a2 (ev_lst (ea_cons (ev_addS (ev_addS (ev_addS ev_str (ev_strI (ev_var rfl) fn) (lx fn).2.2.1) ev_str (lx fn).2.2.2.1) (ev_strI (ev_var rfl) fs) ((lx fn).2.2.2.2 fs).2) ea_nil) (by simp)) (by simp only [List.length_map, List.length_cons, List.length_nil]; omega)) (ev_callL (ea_cons (ev_var rfl) ea_nil) ⟨hh, rfl, q5, by omega, by omega, rfl⟩) (by simp only [List.length_append, List.length_map, List.length_cons, List.length_nil]; omega)) fun l2 xs2 H4 nl2 g4 el2 rl2 => run_next fun σ sl => ?_)
        refine hN σ _ H4 g4 ⟨pre ++ ((["door", num nn, num ss] : List Str) :: hh.words), l2, xs2, _, _, _, rfl, g1.dom l2 (g2.dom l2 (g3.dom l2 nl2)), el2, ?_, ?_⟩ sl
        · rw [e1] at rl2; simpa using rl2
        · rw [← a3, hskip]; simp [Doors.words]
    · subst e
      rw [Doors.toDs_len, Doors.skip_len] at a3
      simp only [Doors.words, List.append_nil] at a3
      subst a3
      exact run_retV g3.tbs (ev_raw rfl) fun H5 g5 => q l xs H5 n0 (((g1.trans g2).trans g3).trans g5) (g5.lst a1 (by simp)) (a2.up g5)
end
end Pd
set_option maxHeartbeats 2000000
namespace Pd
open PySem PySem.Spec PyProof.Rows L2
/-- what a law draws from: the list at a, its cells at b -/
def HS (a b : Addr) (H : Hp) : Prop := ∃ (m p : Int) (cs : List Int), H a = some (.lst [.int m, .ref b, .int p]) ∧ H b = some (.lst (cs.map V.int)) ∧ 0 ≤ m ∧ m < 2147483647 ∧ cs.length ≤ 63
theorem HS.ne {a b : Addr} {H : Hp} (h : HS a b H) : a ≠ b := by
  obtain ⟨m, p, cs, h1, h2, _⟩ := h
  refine ne_of h1 h2 fun e => ?_
  injection e with e
  cases cs with
  | nil => cases e
  | cons c cs => cases cs with
    | nil => cases e
    | cons c2 cs => injection e with _ e; injection e with e _; cases e
theorem HS.stays {T : Tb} {a b : Addr} : ∀ H1 H2, Gr T [] H1 H2 → HS a b H1 → HS a b H2 := fun H1 H2 g ⟨m, p, cs, h1, h2, r⟩ => ⟨m, p, cs, g.lst h1 (by simp), g.lst h2 (by simp), r⟩
/-- other lists change -/
theorem HS.off {T : Tb} {a b : Addr} {S : List Addr} {H1 H2 : Hp} (g : Gr T S H1 H2) (ha : a ∉ S) (hb : b ∉ S) (h : HS a b H1) : HS a b H2 := by
  obtain ⟨m, p, cs, h1, h2, r⟩ := h
  exact ⟨m, p, cs, g.lst h1 ha, g.lst h2 hb, r⟩
def spNext (T : Tb) : Sp := fun vs H Q _ => ∃ (a b : Addr) (n : Int), vs = [.ref a, .int n] ∧ HS a b H ∧ Tbs T H ∧ 0 < n ∧ n ≤ 10 ^ 20 ∧ ∀ r H', 0 ≤ r → r < n → Gr T [a, b] H H' → HS a b H' → Q (.int r) H'
/-- the script is read, a new list is made, with a new list of its cells -/
def spMix (T : Tb) (K : PySem.W.Frag) : Sp := fun vs H Q _ => ∃ (c : Addr) (ns : List Int) (z : Int), vs = [.ref c, .int z] ∧ SqL K H c (ns.map V.int) ∧ ns.length ≤ 63 ∧ Tbs T H ∧ 0 ≤ z ∧ z < 2147483647 ∧ ∀ a b H', H a = none → H b = none → Gr T [] H H' → HS a b H' → Q (.ref a) H'
theorem emod_rng (x : Int) {n : Int} (h : 0 < n) : 0 ≤ x.fmod n ∧ x.fmod n < n := ⟨Int.fmod_nonneg_of_pos x h, Int.fmod_lt_of_pos x h⟩
theorem log2_small {n : Nat} (h : n ≠ 0) (h2 : n < 2 ^ 67) : n.log2 < 9000 := Nat.lt_trans ((Nat.log2_lt h).mpr h2) (by decide)
section
variable {P : Program} {w : World} {K : PySem.W.Frag} {mg : Str → Option Value} {base : Heap} {T : Tb} {f : Addr} {fd : FuncData}
theorem at0 {α : Type} {x : α} {r : List α} : atI (x :: r) 0 = some x := atI_nat (j := 0) rfl
theorem at1 {α : Type} {x y : α} {r : List α} : atI (x :: y :: r) 1 = some y := atI_nat (j := 1) rfl
theorem at2 {α : Type} {x y z : α} {r : List α} : atI (x :: y :: z :: r) 2 = some z := atI_nat (j := 2) rfl
theorem at_ints {cs : List Int} {i : Int} (h0 : 0 ≤ i) (h1 : i < cs.length) : ∃ c, atI (cs.map V.int) i = some (.int c) := by
  obtain ⟨n, rfl⟩ := Int.eq_ofNat_of_zero_le h0
  have hn : n < cs.length := by omega
  exact ⟨cs[n], atI_nat (by rw [List.getElem?_map, List.getElem?_eq_getElem hn]; rfl)⟩
theorem ixN_ok {n : Nat} {i : Int} (h0 : 0 ≤ i) (h1 : i < n) : ixN n i = some i.toNat := by
  unfold ixN
  rw [if_pos h0, if_pos h1]
theorem ok_next (B : Bl mg) (A : At K mg "_law_next" s__law_next ["_law_h", "_law_many"] f fd) : Ok P w K mg base 1 "_law_next" ["_law_h", "_law_many"] (spNext T) := by
  refine A.ok (A.F.ok sc__law_next (fun vs H Q E ⟨_, _, _, e, _⟩ => by rw [e]; rfl) fun cdv A outer s H vs Q E hr h => ⟨_, (pss_cons (ps_set (i := 2) sc__law_next.nd rfl (Or.inl rfl) (pe_ix ix_list (pe_op op_cat (pe_ix ix_list (pv 0) pe_int (fun _ _ => rfl)) (pe_lst (pa_cons pe_int pa_nil))) (pe_op op_modN (pe_ix ix_list (pv 0) pe_int (fun _ _ => rfl)) (pe_callB (cr_max rfl) (by rfl) B.max (by decide +kernel) (pa_cons pe_int (pa_cons (pe_callB cr_len (by rfl) B.len (by decide +kernel) (pa_cons (pe_ix ix_list (pv 0) pe_int (fun _ _ => rfl)) pa_nil)) pa_nil)))) (fun _ _ => rfl)))
    (pss_cons (ps_if (pt_cmpR op_ge (pv 2) (pe_op op_pow pe_int pe_int) (nomark _)) (pss_cons (ps_asg (pe_op op_fdivW (pv 2) (pv 1)) (pg_sub (pe_ix ix_list (pv 0) pe_int (fun _ _ => rfl)) (pe_op op_modN (pe_ix ix_list (pv 0) pe_int (fun _ _ => rfl)) (pe_callB cr_len (by rfl) B.len (by decide +kernel) (pa_cons (pe_ix ix_list (pv 0) pe_int (fun _ _ => rfl)) pa_nil))) set_list))
    (pss_one (ps_ret (pe_op op_modN (pv 2) (pv 1))))) pss_nil)
    (pss_cons (ps_asg (pe_op op_modN (pe_op op_add (pe_op op_add (pe_op op_mul (pe_ix ix_list (pv 0) pe_int (fun _ _ => rfl)) pe_int) (pe_op op_mul (pv 2) pe_int)) pe_int) pe_int) (pg_sub (pv 0) pe_int set_list))
    (pss_cons (ps_asg (pe_op op_add (pe_ix ix_list (pv 0) pe_int (fun _ _ => rfl)) pe_int) (pg_sub (pv 0) pe_int set_list))
    (pss_one (ps_ret (pe_op op_modN (pe_op op_fdivN (pe_ix ix_list (pv 0) pe_int (fun _ _ => rfl)) pe_int) (pv 1)))))))), ?_⟩)
  obtain ⟨a, b, n, rfl, hS, hT, hn0, hn1, q⟩ := h
  have nab := hS.ne
  obtain ⟨m, p, cs, h1, h2, m0, m1, hl⟩ := id hS
  dsimp only [Cx.nox, Cx.wish, cxOf]
  suffices hR : Run K _ _ [some (.v (.ref a)), some (.d (.int n)), none] H from hR _ ⟨_, _, rfl, rfl, _, _, rfl, rfl, _, _, rfl, trivial, rfl⟩
  -- the cell
  have hlen : (cs.map V.int).length = cs.length := List.length_map _
  have eb : EvV T K (tOp (rIxL K) (tVar 0) (tC (.int 1))) [some (.v (.ref a)), some (.d (.int n)), none] H (.ref b) := ev_ixV (ev_raw rfl) ev_int h1 at1
  have hmx : (0 : Int) < max 1 ((cs.map V.int).length : Int) := by omega
  have hi := emod_rng p hmx
  obtain ⟨c, hc⟩ : ∃ c, atI (cs.map V.int ++ [V.int 0]) (p.fmod (max 1 ((cs.map V.int).length : Int))) = some (.int c) := by
    have := at_ints (cs := cs ++ [0]) hi.1 (by rw [List.length_append, List.length_singleton]; have h9 := hi.2; rw [hlen] at h9 ⊢; omega)
    simpa using this
  refine run_asg hT (ev_ofV (ev_ixN (en_cat eb (en_one (ev_toV ev_int)) h2 (by simp; omega)) (ev_I (ev_ixI (ev_raw rfl) ev_int h1 at2) (ev_max2 ev_int (ev_lenL eb h2)) (by omega)) hc)) fun H1 g1 => ?_
  have h1' := g1.lst h1 (by simp)
  have h2' := g1.lst h2 (by simp)
  refine run_when g1.tbs (et_test (ev_B0 (ev_var rfl) (ev_I ev_int ev_int ⟨by decide, by decide, by decide⟩))) (fun hb H2 g2 => ?_) fun hb H2 g2 => ?_
  · -- a great cell
    have hc18 : (10 ^ 18 : Int) ≤ c := by have := of_decide_eq_true hb; simpa using this
    have hne : cs ≠ [] := fun z => by
      subst z
      have e0 : atI ([V.int 0] : List V) (p.fmod 1) = some (.int c) := hc
      have e1 : p.fmod 1 = 0 := by have := emod_rng p (show (0 : Int) < 1 by decide); omega
      rw [e1] at e0
      have : c = 0 := by have := at0.symm.trans e0; injection this with this; injection this with this; exact this.symm
      omega
    have hpos : 0 < cs.length := List.length_pos_iff.mpr hne
    have h1'' := g2.lst h1' (by simp)
    have h2'' := g2.lst h2' (by simp)
    have eb2 : EvV T K (tOp (rIxL K) (tVar 0) (tC (.int 1))) [some (.v (.ref a)), some (.d (.int n)), some (.d (.int c))] H2 (.ref b) := ev_ixV (ev_raw rfl) ev_int h1'' at1
    have hr2 := emod_rng p (show (0 : Int) < ((cs.map V.int).length : Int) by omega)
    refine run_setL g2.tbs (ev_toV (ev_I (ev_var rfl) (ev_var rfl) ⟨hn0, ?_⟩)) eb2 (ev_I (ev_ixI (ev_raw rfl) ev_int h1'' at2) (ev_lenL eb2 h2'') (by omega)) h2'' (ixN_ok hr2.1 hr2.2) fun H3 g3 h3 => ?_
    · exact log2_small (by omega) (by omega)
    have g13 : Gr T [] H H3 := (g1.trans g2).trans g3
    have gp : Gr T [a, b] H (upd H3 b (.lst ((cs.map V.int).set (p.fmod ((cs.map V.int).length : Int)).toNat (.int (c / n))))) := g13.any.put h3 (.inl (by simp))
    refine run_ret gp.tbs (ev_I (ev_var rfl) (ev_var rfl) (by omega)) fun v H4 g4 r => ?_
    cases (show v = _ from r)
    have hr3 := emod_rng c hn0
    have gp4 : Gr T [a, b] H H4 := gp.trans g4.any
    refine q _ H4 hr3.1 hr3.2 gp4 ⟨m, p, cs.set (p.fmod ((cs.map V.int).length : Int)).toNat (c / n), ?_, ?_, m0, m1, by simpa using hl⟩
    · exact g4.lst (by rw [upd_ne nab]; exact g13.lst h1 (by simp)) (by simp)
    · refine g4.lst ?_ (by simp)
      rw [upd_same, List.map_set]
  · -- a small one
    have h1'' := g2.lst h1' (by simp)
    have h2'' := g2.lst h2' (by simp)
    have hm := emod_rng (m * 48271 + c * 69621 + 11) (show (0 : Int) < 2147483647 by decide)
    refine run_setL g2.tbs (ev_toV (ev_I (ev_I0 (ev_I0 (ev_I (ev_ixI (ev_raw rfl) ev_int h1'' at0) ev_int (.inr ⟨by decide, by decide⟩)) (ev_I (ev_var rfl) ev_int (.inr ⟨by decide, by decide⟩))) ev_int) ev_int (by decide))) (ev_raw rfl) ev_int h1'' rfl fun H3 g3 h3 => ?_
    have g13 : Gr T [] H H3 := (g1.trans g2).trans g3
    have gp : Gr T [a, b] H (upd H3 a (.lst [.int ((m * 48271 + c * 69621 + 11).fmod 2147483647), .ref b, .int p])) := g13.any.put h3 (.inl (by simp))
    have h5 : (upd H3 a (.lst [.int ((m * 48271 + c * 69621 + 11).fmod 2147483647), .ref b, .int p])) a = some (.lst [.int ((m * 48271 + c * 69621 + 11).fmod 2147483647), .ref b, .int p]) := upd_same
    refine run_setL gp.tbs (ev_toV (ev_I0 (ev_ixI (ev_raw rfl) ev_int h5 at2) ev_int)) (ev_raw rfl) ev_int h5 rfl fun H4 g4 h6 => ?_
    have gp2 := (gp.trans g4.any).put (o := .lst [.int ((m * 48271 + c * 69621 + 11).fmod 2147483647), .ref b, .int (p + 1)]) h6 (.inl (by simp))
    have h7 : (upd H4 a (.lst [.int ((m * 48271 + c * 69621 + 11).fmod 2147483647), .ref b, .int (p + 1)])) a = some (.lst [.int ((m * 48271 + c * 69621 + 11).fmod 2147483647), .ref b, .int (p + 1)]) := upd_same
    refine run_ret gp2.tbs (ev_I (ev_I (ev_ixI (ev_raw rfl) ev_int h7 at0) ev_int ⟨by decide, by decide⟩) (ev_var rfl) (by omega)) fun v H5 g5 r => ?_
    cases (show v = _ from r)
    have hr3 := emod_rng (((m * 48271 + c * 69621 + 11).fmod 2147483647).fdiv 7) hn0
    refine q _ H5 hr3.1 hr3.2 (gp2.trans g5.any) ⟨_, p + 1, cs, g5.lst h7 (by simp), g5.lst ?_ (by simp), hm.1, hm.2, hl⟩
    rw [upd_ne nab.symm]
    refine g4.lst ?_ (by simp)
    rw [upd_ne nab.symm]
    exact g13.lst h2 (by simp)
def mixs (z : Int) (ns : List Int) : Int := ns.foldl (fun m c => (m * 48271 + c.fmod 2147483629 + 1).fmod 2147483647) z
theorem mixs_rng : ∀ (ns : List Int) (z : Int), 0 ≤ z → z < 2147483647 → 0 ≤ mixs z ns ∧ mixs z ns < 2147483647
  | [], z, h0, h1 => ⟨h0, h1⟩
  | c :: ns, z, _, _ => by
    have h := emod_rng (z * 48271 + c.fmod 2147483629 + 1) (show (0 : Int) < 2147483647 by decide)
    exact mixs_rng ns _ h.1 h.2
theorem ok_mix (B : Bl mg) (A : At K mg "_law_mix" s__law_mix ["_law_script", "_law_seed"] f fd) : Ok P w K mg base 1 "_law_mix" ["_law_script", "_law_seed"] (spMix T K) := by
  refine A.ok (A.F.ok sc__law_mix (fun vs H Q E ⟨_, _, _, e, _⟩ => by rw [e]; rfl) fun cdv A outer s H vs Q E hr h => ⟨_, (pss_cons (ps_set (i := 2) sc__law_mix.nd rfl (Or.inl rfl) (pv 1))
    (pss_cons (ps_for PassesOwn.never rfl (pi_list (pv 0)) (pg_name (i := 3) sc__law_mix.nd rfl (Or.inl rfl)) (pss_one (ps_set (i := 2) sc__law_mix.nd rfl (Or.inl rfl) (pe_op op_modN (pe_op op_add (pe_op op_add (pe_op op_mul (pv 2) pe_int) (pe_op op_modN (pv 3) pe_int)) pe_int) pe_int))))
    (pss_one (ps_ret (pe_lst (pa_cons (pv 2) (pa_cons (pe_callTy cr_list (by rfl) B.list (by decide +kernel) (pa_cons (pv 0) pa_nil)) (pa_cons pe_int pa_nil)))))))), ?_⟩)
  obtain ⟨c, ns, z, rfl, hs, hl, hT, z0, z1, q⟩ := h
  dsimp only [Cx.nox, Cx.wish, cxOf]
  suffices hR : Run K _ _ [some (.v (.ref c)), some (.d (.int z)), none, none] H from hR _ ⟨_, _, rfl, rfl, _, _, rfl, rfl, _, _, rfl, trivial, _, _, rfl, trivial, rfl⟩
  refine run_asg hT (ev_var rfl) fun H1 g1 => ?_
  refine run_for g1.tbs (ei_ints (ev_raw rfl) (g1.sqL hs)) (fun i => [some (.v (.ref c)), some (.d (.int z)), some (.d (.int (mixs z (ns.take i)))), none]) (fun _ _ => True) (Less.refl _) (fun _ _ => trivial) (fun _ _ _ _ _ => trivial) (fun i d H2 N hd g2 _ hN => ?_) (fun H2 g2 _ => ?_)
  · rw [List.getElem?_map] at hd
    cases e : ns[i]? with
    | none => rw [e] at hd; cases hd
    | some k =>
      rw [e] at hd; cases hd
      refine ⟨_, _, eg_name, run_last (run_asg g2.tbs (ev_I (ev_I0 (ev_I0 (ev_I (ev_var rfl) ev_int (.inr ⟨by decide, by decide⟩)) (ev_I (ev_var rfl) ev_int (by decide))) ev_int) ev_int (by decide)) fun H3 g3 => run_next fun σ s => hN σ H3 g3 trivial ?_)⟩
      have e2 : mixs z (ns.take (i + 1)) = (mixs z (ns.take i) * 48271 + k.fmod 2147483629 + 1).fmod 2147483647 := by
        unfold mixs
        rw [List.take_add_one, e, Option.toList_some, List.foldl_append]
        rfl
      rw [e2]
      exact Slots.less (.same _ (.same _ (.same _ (.drop _ .nil)))) s
  · have hr := mixs_rng ns z z0 z1
    rw [List.length_map, List.take_length]
    refine fun σ s => ?_
    obtain ⟨v0, e0, r0⟩ := s.dat (i := 2) rfl
    cases (show v0 = _ from r0)
    refine ⟨_, e0, _, s.raw (i := 0) rfl, c, ns.map V.int, rfl, .inl (g2.sqL (g1.sqL hs)), fun b hb => ⟨by show 3 ≤ sizeLine; decide, fun a ha => ?_⟩⟩
    have gb : Gr T [] H2 (upd H2 b (.lst (ns.map V.int))) := Gr.new g2.tbs hb
    have ga := gb.trans (Gr.new (S := []) (o := .lst [.int (mixs z ns), .ref b, .int 0]) gb.tbs ha)
    have nab : b ≠ a := fun e => by subst e; rw [upd_same] at ha; cases ha
    have g12 := g1.trans g2
    exact q a b _ (g12.dom a (gb.dom a ha)) (g12.dom b hb) (g12.trans ga) ⟨mixs z ns, 0, ns, upd_same, by rw [upd_ne nab, upd_same], hr.1, hr.2, hl⟩
end
end Pd
namespace Pd
open PySem PySem.Spec PyProof.Rows L2
section
variable {P : Program} {w : World} {K : PySem.W.Frag} {mg : Str → Option Value} {base : Heap} {T : Tb} {f : Addr} {fd : FuncData}
variable {S : List Addr} {J : Hp → Prop} {δ : List (Option SD)} {H : Hp} {ta tb : TE} {p : D → Prop} {a b : Addr}
/-- a draw below n -/
theorem ex_next {E : XK} {pn : Int → Prop} (ha : a ∈ S) (hb : b ∈ S) (hJ : Stays T J) (hJ1 : ∀ H, J H → HS a b H) (hJ2 : ∀ H1 H2, Gr T [a, b] H1 H2 → J H1 → HS a b H2 → J H2)
    (h1 : ∀ H1, Gr T S H H1 → EvV T K ta δ H1 (.ref a)) (h2 : EvX T K S J tb δ H p) (hp : ∀ d, p d → ∃ n, d = .int n ∧ 0 < n ∧ n ≤ 10 ^ 20 ∧ pn n) :
    EvX T K S J (tCall (spNext T) [] E (tCons ta (tCons tb tNil))) δ H (fun d => ∃ r n, d = .int r ∧ 0 ≤ r ∧ r < n ∧ pn n) := fun σ H1 g j s Q q =>
  h1 H1 g σ H1 g.self s _ fun H2 g2 => h2 σ H2 (g.trans g2.any) (hJ H1 H2 g2 j) (s.up g2) _ fun d v H3 pd g3 j3 r => by
    obtain ⟨n, rfl, n0, n1, pnn⟩ := hp d pd
    cases (show v = .int n from r)
    exact ⟨a, b, n, rfl, hJ1 H3 j3, g3.tbs, n0, n1, fun r H4 r0 r1 g4 hs => q (.int r) _ H4 ⟨r, n, rfl, r0, r1, pnn⟩ ((g2.any.trans g3).trans (g4.mono fun x hx => by rcases (by simpa using hx : x = a ∨ x = b) with rfl | rfl <;> assumption)) (hJ2 H3 H4 g4 j3 hs) rfl⟩
/-- below a written number -/
theorem ex_nextC {E : XK} {n : Int} (ha : a ∈ S) (hb : b ∈ S) (hJ : Stays T J) (hJ1 : ∀ H, J H → HS a b H) (hJ2 : ∀ H1 H2, Gr T [a, b] H1 H2 → J H1 → HS a b H2 → J H2)
    (h1 : ∀ H1, Gr T S H H1 → EvV T K ta δ H1 (.ref a)) (h2 : ∀ H1, Gr T S H H1 → EvD T K tb δ H1 (.int n)) (n0 : 0 < n) (n1 : n ≤ 10 ^ 20) :
    EvX T K S J (tCall (spNext T) [] E (tCons ta (tCons tb tNil))) δ H (fun d => ∃ r, d = .int r ∧ 0 ≤ r ∧ r < n) :=
  (ex_next (pn := fun k => k = n) ha hb hJ hJ1 hJ2 h1 (ex_pure hJ h2) (fun d e => ⟨n, e, n0, n1, rfl⟩)).imp fun d ⟨r, k, e, r0, r1, ek⟩ => ⟨r, e, r0, by rw [← ek]; exact r1⟩
/-- a door -/
def spDoor (T : Tb) (K : PySem.W.Frag) : Sp := fun vs H Q _ => ∃ (a b : Addr) (few : Int), vs = [.ref a, .int few] ∧ HS a b H ∧ Tbs T H ∧ 1 ≤ few ∧ few ≤ 99 ∧
  ∀ need stands v H', 1 ≤ need → need ≤ 99 → 0 ≤ stands → stands ≤ need → Gr T [a, b] H H' → HS a b H' → Rep K H' (.tup [.int need, .int stands]) v → Q v H'
theorem ok_door (B : Bl mg) (A : At K mg "_law_door" s__law_door ["_law_h", "_law_few"] f fd) (G__law_next : Ok P w K mg base 1 "_law_next" ["_law_h", "_law_many"] (spNext T)) : Ok P w K mg base 2 "_law_door" ["_law_h", "_law_few"] (spDoor T K) := by
  refine A.ok (A.F.ok sc__law_door (fun vs H Q E ⟨_, _, _, e, _⟩ => by rw [e]; rfl) fun cdv A outer s H vs Q E hr h => ⟨_, (pss_cons (ps_set (i := 2) sc__law_door.nd rfl (Or.inl rfl) (pe_op op_add pe_int (pe_own G__law_next hr (by decide) (by rfl) (pa_cons (pv 0) (pa_cons (pe_ix ix_list (pe_lst (pa_cons (pv 1) (pa_cons pe_int pa_nil))) (pe_op op_fdivN (pe_own G__law_next hr (by decide) (by rfl) (pa_cons (pv 0) (pa_cons pe_int pa_nil))) pe_int) (fun _ _ => rfl)) pa_nil)))))
    (pss_one (ps_ret (pe_tup (pa_cons (pv 2) (pa_cons (pe_ix ix_list (pe_lst (pa_cons pe_int (pa_cons (pv 2) (pa_cons (pe_own G__law_next hr (by decide) (by rfl) (pa_cons (pv 0) (pa_cons (pe_op op_add (pv 2) pe_int) pa_nil))) pa_nil)))) (pe_own G__law_next hr (by decide) (by rfl) (pa_cons (pv 0) (pa_cons pe_int pa_nil))) (fun _ _ => rfl)) pa_nil)))))), ?_⟩)
  obtain ⟨a, b, few, rfl, hS, hT, f0, f1, q⟩ := h
  dsimp only [Cx.nox, Cx.wish, cxOf]
  suffices hR : Run K _ _ [some (.v (.ref a)), some (.d (.int few)), none] H from hR _ ⟨_, _, rfl, rfl, _, _, rfl, rfl, _, _, rfl, trivial, rfl⟩
  have st : Stays T (HS a b) := HS.stays
  have j2 : ∀ H1 H2, Gr T [a, b] H1 H2 → HS a b H1 → HS a b H2 → HS a b H2 := fun _ _ _ _ h => h
  have hno : ∀ H1 l, HS a b H1 → l ∈ [a, b] → H1 l ≠ none := fun H1 l ⟨_, _, _, h1, h2, _⟩ hl z => by
    rcases (by simpa using hl : l = a ∨ l = b) with rfl | rfl
    · rw [h1] at z; cases z
    · rw [h2] at z; cases z
  refine runx_asg hT hS (p := fun d => ∃ need, d = .int need ∧ 1 ≤ need ∧ need ≤ 99) (ex_op st (ex_pure st fun H1 g => ev_int)
    (ex_next (pn := fun n => n ≤ 99) (by simp) (by simp) st (fun _ h => h) j2 (fun H1 g => ev_raw rfl)
      (ex_ixL (p := fun d => ∃ n, d = .int n ∧ 0 < n ∧ n ≤ 10 ^ 20 ∧ n ≤ 99) (pa := fun ds => ds = [.int few, .int 99]) (fun σ H1 g j s Q q => ex_lst st (xa_cons (ex_pure st fun H1 g => ev_var rfl) (xa_cons (ex_pure st fun H1 g => ev_int) xa_nil)) (fun ds ⟨d, r, e, _, d2, r2, e2, _, e3⟩ => by rw [e, e2, e3]; simp) σ H1 g j s Q fun ds l xs H2 ⟨d, r, e, e1, d2, r2, e2, e4, e3⟩ => q ds l xs H2 (by rw [e, e1, e2, e4, e3]))
        (ex_op (p := fun d => ∃ r, d = .int r ∧ (r = 0 ∨ r = 1)) st (ex_nextC (by simp) (by simp) st (fun _ h => h) j2 (fun H1 g => ev_raw rfl) (fun H1 g => ev_int) (by decide) (by decide)) (ex_pure st fun H1 g => ev_int) fun x y ⟨r, e, r0, r1⟩ e2 => by
          subst e; subst e2
          refine ⟨_, ⟨r.fdiv 3, rfl, ?_⟩, os_I ⟨by decide, by decide⟩⟩
          have : r = 0 ∨ r = 1 ∨ r = 2 ∨ r = 3 := by omega
          rcases this with rfl | rfl | rfl | rfl <;> decide)
        (fun ds y e ⟨r, e2, e3⟩ => by
          subst e; subst e2
          rcases e3 with rfl | rfl
          · exact ⟨0, .int few, rfl, at0, few, rfl, by omega, by omega, f1⟩
          · exact ⟨1, .int 99, rfl, at1, 99, rfl, by decide, by decide, by decide⟩) hno) (fun d ⟨n, e, n0, n1, n2⟩ => ⟨n, e, n0, n1, n2⟩))
    (fun x y e ⟨r, n, e2, r0, r1, r2⟩ => by subst e; subst e2; exact ⟨_, ⟨1 + r, rfl, by omega, by omega⟩, os_I0⟩)) fun d H1 hd g1 j1 => ?_
  obtain ⟨need, rfl, n0, n1⟩ := hd
  refine runx_ret g1.tbs j1 (p := fun d => ∃ stands, d = .tup [.int need, .int stands] ∧ 0 ≤ stands ∧ stands ≤ need) (ex_tup st (xa_cons (ex_pure st fun H1 g => ev_var rfl) (xa_cons
    (ex_ixL (p := fun d => ∃ stands, d = .int stands ∧ 0 ≤ stands ∧ stands ≤ need) (pa := fun ds => ∃ r, ds = [.int 0, .int need, .int r] ∧ 0 ≤ r ∧ r ≤ need)
      (fun σ H1 g j s Q q => ex_lst st (xa_cons (ex_pure st fun H1 g => ev_int) (xa_cons (ex_pure st fun H1 g => ev_var rfl) (xa_cons (ex_nextC (n := need + 1) (by simp) (by simp) st (fun _ h => h) j2 (fun H1 g => ev_raw rfl) (fun H1 g => ev_I0 (ev_var rfl) ev_int) (by omega) (by omega)) xa_nil))) (fun ds ⟨d, r, e, _, d2, r2, e2, _, d3, r3, e3, _, e4⟩ => by rw [e, e2, e3, e4]; simp) σ H1 g j s Q
        fun ds l xs H2 ⟨d, r, e, e1, d2, r2, e2, e4, d3, r3, e5, ⟨k, ek, k0, k1⟩, e6⟩ => q ds l xs H2 ⟨k, by rw [e, e1, e2, e4, e5, ek, e6], k0, by omega⟩)
      (ex_nextC (by simp) (by simp) st (fun _ h => h) j2 (fun H1 g => ev_raw rfl) (fun H1 g => ev_int) (by decide) (by decide))
      (fun ds y ⟨r, e, r0, r1⟩ ⟨i, e2, i0, i1⟩ => by
        subst e; subst e2
        have : i = 0 ∨ i = 1 ∨ i = 2 := by omega
        rcases this with rfl | rfl | rfl
        · exact ⟨0, _, rfl, at0, 0, rfl, by omega, by omega⟩
        · exact ⟨1, _, rfl, at1, need, rfl, by omega, by omega⟩
        · exact ⟨2, _, rfl, at2, r, rfl, r0, r1⟩) hno) xa_nil)) fun ds ⟨d, r, e, e1, d2, r2, e2, ⟨k, ek, k0, k1⟩, e3⟩ => by
      rw [e, e1, e2, ek, e3]; exact ⟨by simp, k, rfl, k0, k1⟩) fun d v H2 ⟨k, e, k0, k1⟩ g2 j3 r => ?_
  subst e
  exact q need k v H2 n0 n1 k0 k1 (g1.trans g2) j3 r
end
end Pd
namespace Pd
open PySem PySem.Spec PyProof.Rows L2
section
variable {P : Program} {w : World} {K : PySem.W.Frag} {mg : Str → Option Value} {base : Heap} {T : Tb} {f : Addr} {fd : FuncData}
theorem run_parDL {S : List Addr} {δ : List (Option SD)} {H : Hp} {ta tb : TE} {u : TS} {B : Ends} {d : D} {ds : List D} {i j : Nat} (hT : Tbs T H) (ha : EvD T K ta δ H d) (hb : EvL T K tb δ H ds)
    (k : ∀ p xs H1, H p = none → Gr T [] H H1 → H1 p = some (.lst xs) → Reps K H1 ds xs → Run K u B ((δ.set i (some (.d d))).set j (some (.v (.ref p)))) H1) : Run K (tSeq (tPar i j (tCons ta (tCons tb tNil))) u) B δ H := fun σ s =>
  ha σ H (Gr.refl hT) s _ fun v H1 g1 r => hb σ H1 g1 (s.up g1) _ fun p xs H2 n1 g2 e rs => ⟨v, .ref p, rfl, k p xs H2 (g1.dom p n1) (g1.trans g2) e rs _ (((s.up (g1.trans g2)).set i (show SlotOk K H2 (some (.d d)) (some v) from r.up g2)).set j (show SlotOk K H2 (some (.v (.ref p))) (some (.ref p)) from rfl))⟩
/-- a walker by the law's own step: the lists are written where they stand -/
def spStep (T : Tb) (K : PySem.W.Frag) : Sp := fun vs H Q _ => ∃ t : LH, vs = [t.val] ∧ CAt H t.cells ∧ (fps t.cells).Nodup ∧ t.house.ok ∧ t.house.deep < 100 ∧ Tbs T H ∧
  ∀ (t' : LH) v H', t'.house = t.house.step.2 → t'.val = t.val → fps t'.cells = fps t.cells → CAt H' t'.cells → Gr T (fps t.cells) H H' → Rep K H' (toldD [] t.house.step.1) v → Q v H'
theorem mem_at {H : Hp} {C : Cells} (h : CAt H C) {a : Addr} {xs : List V} (m : (a, xs) ∈ C) : H a = some (.lst xs) := h _ m
end
end Pd
namespace Pd
open PySem PySem.Spec PyProof.Rows L2
/-- a comprehension, turn by turn: P tells of what was made; Dl is the list that is made -/
theorem lc_raw {T : Tb} {K : PySem.W.Frag} {δ : List (Option SD)} {H : Hp} {wi : TI} {g : TG} {te : TE} {es : List D} {vs : List Nat} (hi : EvI T K [] wi δ H es) (hz : es.length ≤ 50000) (P : Addr → Nat → List V → Hp → Prop)
    (h0 : ∀ Dl H1, Gr T [] H H1 → H1 Dl = none → P Dl 0 [] (upd H1 Dl (.lst []))) (hm : ∀ Dl i acc H1 H2, Gr T [] H1 H2 → P Dl i acc H1 → P Dl i acc H2) (hl : ∀ Dl i acc H1, P Dl i acc H1 → acc.length ≤ i)
    (hs : ∀ Dl i e acc H1, es[i]? = some e → H Dl = none → Gr T [] H H1 → P Dl i acc H1 → H1 Dl = some (.lst acc) → ∃ δ' js, EvG T K g e (wipeD δ vs) H1 δ' js ∧ (∀ j ∈ js, j ∈ vs) ∧
      ∀ σ, Slots K H1 δ' σ → ∀ Q : VK, (∀ v H2, Gr T [] H1 H2 → P Dl (i + 1) (acc ++ [v]) (upd H2 Dl (.lst (acc ++ [v]))) → Q v H2) → te σ H1 Q) :
    ∀ σ H1, Gr T [] H H1 → Slots K H1 δ σ → ∀ Q : VK, (∀ Dl xs H2, H1 Dl = none → Gr T [] H1 H2 → H2 Dl = some (.lst xs) → P Dl es.length xs H2 → Q (.ref Dl) H2) → tLc wi g tYes te vs σ H1 Q := fun σ H1 g1 s Q q =>
  hi σ H1 g1 s _ fun J H2 g2 W Dl hD => by
    have hD0 : H Dl = none := g1.dom Dl (g2.dom Dl hD)
    refine lc_it W (fun i H' => Gr T [] H2 H' ∧ ∃ acc, H' Dl = some (.lst acc) ∧ P Dl i acc H') ⟨Gr.new g2.tbs hD, [], upd_same, h0 Dl H2 (g1.trans g2) hD⟩ (fun i H' _ pv => pv.1) (fun i x Ha Hb hlt pv y => ?_) (fun H' pv => ?_)
    · obtain ⟨p1, acc, p2, p3⟩ := pv
      obtain ⟨ga, d, hd, rd⟩ := y
      have p3b := hm Dl i acc Ha Hb ga p3
      have p2b := ga.lst p2 (by simp)
      obtain ⟨δ', js, hg, hj, he⟩ := hs Dl i d acc Hb hd hD0 ((g1.trans g2).trans (p1.trans ga)) p3b p2b
      refine hg x (L2.wipe σ vs) Hb (Gr.refl ga.tbs) rd (((s.up g2).up (p1.trans ga)).wipe vs) _ fun σ2 s2 o2 => ⟨o2.wipe hj, ?_⟩
      show te σ2 Hb _
      refine he σ2 s2 _ fun v H4 g4 p4 => ?_
      have eD := g4.lst p2b (by simp)
      refine ⟨acc, eD, ?_, (((p1.trans ga).trans g4)).put eD (.inr hD), acc ++ [v], upd_same, p4⟩
      have := hl Dl i acc Hb p3b
      exact Nat.lt_of_le_of_lt (by omega : acc.length ≤ 50000) (by decide)
    · obtain ⟨p1, acc, p2, p3⟩ := pv
      exact q Dl acc H' (g2.dom Dl hD) (g2.trans p1) p2 p3
def LD.app : LD → LD → LD
  | .nil, b => b
  | .cons c n s h r, b => .cons c n s h (r.app b)
theorem LD.doors_app : ∀ a b : LD, (a.app b).doors = a.doors.app b.doors
  | .nil, _ => rfl
  | .cons _ _ _ _ r, b => by simp only [LD.app, LD.doors, Doors.app, LD.doors_app r b]
theorem LD.refs_app : ∀ a b : LD, (a.app b).refs = a.refs ++ b.refs
  | .nil, _ => rfl
  | .cons c _ _ _ r, b => congrArg (V.ref c :: ·) (LD.refs_app r b)
theorem LD.cells_app : ∀ a b : LD, (a.app b).cells = a.cells ++ b.cells
  | .nil, _ => rfl
  | .cons _ _ _ _ r, b => by simp only [LD.app, LD.cells, LD.cells_app r b, List.cons_append, List.append_assoc]
/-- the first i doors -/
def Doors.takeD : Doors → Nat → Doors
  | _, 0 => .nil
  | .nil, _ + 1 => .nil
  | .cons n s h r, i + 1 => .cons n s h (r.takeD i)
theorem Doors.takeD_zero (ds : Doors) : ds.takeD 0 = .nil := by cases ds <;> rfl
theorem Doors.takeD_succ : ∀ (ds : Doors) (i : Nat) {n s : Int} {h : House}, ds.get? i = some (n, s, h) → ds.takeD (i + 1) = (ds.takeD i).app (.cons n s h .nil)
  | .nil, _, _, _, _, e => nomatch e
  | .cons _ _ _ r, 0, _, _, _, e => by cases e; cases r <;> rfl
  | .cons n s h r, i + 1, _, _, _, e => congrArg (Doors.cons n s h) (Doors.takeD_succ r i e)
theorem Doors.takeD_all : ∀ ds : Doors, ds.takeD ds.len = ds
  | .nil => rfl
  | .cons n s h r => congrArg (Doors.cons n s h) (Doors.takeD_all r)
theorem Doors.len_takeD : ∀ (ds : Doors) (i : Nat), (ds.takeD i).len ≤ i
  | ds, 0 => by rw [Doors.takeD_zero]; exact Nat.le_refl _
  | .nil, _ + 1 => Nat.zero_le _
  | .cons _ _ _ r, i + 1 => Nat.succ_le_succ (Doors.len_takeD r i)
section
variable {P : Program} {w : World} {K : PySem.W.Frag} {mg : Str → Option Value} {base : Heap} {T : Tb} {f : Addr} {fd : FuncData}
/-- a house as lists, all of them new -/
def spThaw (T : Tb) (K : PySem.W.Frag) (lv : Nat) : Sp := fun vs H Q _ => ∃ (h : House) (v : V), vs = [v] ∧ Rep K H h.toD v ∧ h.ok ∧ h.deep < lv ∧ Tbs T H ∧
  ∀ (t : LH) H', t.house = h → CAt H' t.cells → (fps t.cells).Nodup → (∀ x ∈ fps t.cells, H x = none) → Gr T [] H H' → Q t.val H'
end
end Pd
namespace Pd
open PySem PySem.Spec PyProof.Rows L2
/-- [e for x, y, z in a list of lists of three] -/
theorem ev_lcU3 {T : Tb} {K : PySem.W.Frag} {δ : List (Option SD)} {H : Hp} {tl te : TE} {l : Addr} {refs : List V} {ds : List D} {n1 n2 n3 : Nat} (hl : EvV T K tl δ H (.ref l)) (e : H l = some (.lst refs)) (hz : refs.length ≤ 50000) (hlen : ds.length = refs.length)
    (hs : ∀ (i : Nat) (c : V) (y : D) (H1 : Hp), refs[i]? = some c → ds[i]? = some y → Gr T [] H H1 → ∃ a x1 x2 x3, c = V.ref a ∧ H1 a = some (.lst [x1, x2, x3]) ∧ EvD T K te ((((wipeD δ [n1, n2, n3]).set n1 (some (.v x1))).set n2 (some (.v x2))).set n3 (some (.v x3))) H1 y) :
    EvL T K (tLc (iList K tl) (gUnl K 3 (gCons (gName n1) (gCons (gName n2) (gCons (gName n3) gNil)))) tYes te [n1, n2, n3]) δ H ds := fun σ H1 g1 s Q q =>
  hl σ H1 g1 s _ fun H2 g2 => by
    have e2 := (g1.trans g2).lst e (by simp)
    refine ⟨l, rfl, ⟨refs, .inl (.inl e2)⟩, fun Dl hD => ?_⟩
    have W : Walk (Itl K l) refs.length (fun H' => Gr T [] H2 H') (fun i Ha x Hb => Ha = Hb ∧ refs[i]? = some x) := (walk_list (K := K) (a := l) (xs := refs)).mono (fun H' g => .inl (.inl (Gr.lst g e2 (by simp)))) fun i Ha x Hb hi g q => ⟨q.1.symm, q.2⟩
    refine lc_it W (fun i H' => Gr T [] H2 H' ∧ ∃ acc, H' Dl = some (.lst acc) ∧ Reps K H' (ds.take i) acc) ⟨Gr.new g2.tbs hD, [], upd_same, by rw [List.take_zero]; exact rfl⟩ (fun i H' _ pv => pv.1) (fun i x Ha Hb hlt pv y => ?_) (fun H' pv => ?_)
    · obtain ⟨p1, acc, p2, p3⟩ := pv
      obtain ⟨rfl, hx⟩ := y
      have hlt' : i < ds.length := by rw [hlen]; exact (List.getElem?_eq_some_iff.mp hx).1
      obtain ⟨a, x1, x2, x3, rfl, ha, he⟩ := hs i x ds[i] Ha hx (List.getElem?_eq_getElem hlt') ((g1.trans g2).trans p1)
      have s2 := (((s.up g2).up p1).wipe [n1, n2, n3])
      refine ⟨a, [x1, x2, x3], rfl, .inl (.inl ha), rfl, x1, _, rfl, x2, _, rfl, x3, _, rfl, rfl, ?_⟩
      have s3 := ((s2.set n1 (show SlotOk K Ha (some (.v x1)) (some x1) from rfl)).set n2 (show SlotOk K Ha (some (.v x2)) (some x2) from rfl)).set n3 (show SlotOk K Ha (some (.v x3)) (some x3) from rfl)
      refine ⟨(Off.wipe (js := [n1, n2, n3]) ⟨by simp, fun j hj => ?_⟩ (fun j hj => hj)), ?_⟩
      · have h1 : n1 ≠ j := fun z => hj (by simp [z])
        have h2 : n2 ≠ j := fun z => hj (by simp [z])
        have h3 : n3 ≠ j := fun z => hj (by simp [z])
        rw [List.getElem?_set_ne h3, List.getElem?_set_ne h2, List.getElem?_set_ne h1]
      · show te _ Ha _
        refine he _ Ha (Gr.refl p1.tbs) s3 _ fun v H4 g4 r4 => ?_
        have eD := g4.lst p2 (by simp)
        have gu : Gr T [Dl] H4 (upd H4 Dl (.lst (acc ++ [v]))) := (Gr.refl g4.tbs).put eD (.inl (by simp))
        refine ⟨acc, eD, ?_, (p1.trans g4).put eD (.inr hD), acc ++ [v], upd_same, ?_⟩
        · have l1 := p3.len
          rw [List.length_take] at l1
          exact Nat.lt_of_le_of_lt (by omega : acc.length ≤ 50000) (by decide)
        · rw [take_succ' (List.getElem?_eq_getElem hlt')]
          exact ((p3.up g4).app (es := [ds[i]]) ⟨v, [], rfl, r4, rfl⟩).up gu
    · obtain ⟨p1, acc, p2, p3⟩ := pv
      rw [← hlen, List.take_length] at p3
      exact q Dl acc H' (g2.dom Dl hD) (g2.trans p1) p2 p3
section
variable {P : Program} {w : World} {K : PySem.W.Frag} {mg : Str → Option Value} {base : Heap} {T : Tb} {f : Addr} {fd : FuncData}
/-- a house of lists as a house -/
def spFroz (T : Tb) (K : PySem.W.Frag) (lv : Nat) : Sp := fun vs H Q _ => ∃ t : LH, vs = [t.val] ∧ CAt H t.cells ∧ t.house.ok ∧ t.house.deep < lv ∧ Tbs T H ∧ ∀ v H', Gr T [] H H' → Rep K H' t.house.toD v → Q v H'
theorem ev_froz {δ : List (Option SD)} {H : Hp} {ta : TE} {E : XK} {lv : Nat} {t : LH} (ha : EvV T K ta δ H t.val) (hC : CAt H t.cells) (ok : t.house.ok) (hd : t.house.deep < lv) : EvD T K (tCall (spFroz T K lv) [] E (tCons ta tNil)) δ H t.house.toD := fun σ H1 g s Q q =>
  ha σ H1 g s _ fun H2 g2 => ⟨t, rfl, (hC.up g (by simp)).up g2 (by simp), ok, hd, g2.tbs, fun v H3 g3 r => q v H3 (g2.trans g3) r⟩
end
end Pd
namespace Pd
open PySem PySem.Spec PyProof.Rows L2
/-! ### the same, and of the same kinds -/
mutual
/-- ints, texts, short tuples of these, nested less deep than k -/
def D.fit (k : Nat) : D → Prop
  | .int _ => 0 < k
  | .str _ => 0 < k
  | .tup ds => ds.length ≤ 1000 ∧ D.fits (k - 1) ds ∧ 0 < k
  | _ => False
def D.fits (k : Nat) : List D → Prop
  | [] => True
  | d :: ds => d.fit k ∧ D.fits k ds
end
theorem D.fits_get {k : Nat} : ∀ {ds : List D} {i : Nat} {d : D}, D.fits k ds → ds[i]? = some d → d.fit k
  | [], _, _, _, e => by simp at e
  | _ :: _, 0, _, h, e => by simp at e; subst e; exact h.1
  | _ :: ds, i + 1, _, h, e => D.fits_get (ds := ds) (i := i) h.2 (by simpa using e)
theorem D.fits_app {k : Nat} : ∀ {a b : List D}, D.fits k a → D.fits k b → D.fits k (a ++ b)
  | [], _, _, h => h
  | _ :: a, _, ⟨h1, h2⟩, h => ⟨h1, D.fits_app (a := a) h2 h⟩
theorem D.fits_all {k : Nat} : ∀ {ds : List D}, (∀ d ∈ ds, d.fit k) → D.fits k ds
  | [], _ => trivial
  | d :: ds, h => ⟨h d (by simp), D.fits_all fun x hx => h x (by simp [hx])⟩
/-- a datum, or a list of data -/
inductive AV where
  | d (x : D) | l (ds : List D)
def AVRep (K : PySem.W.Frag) (H : Hp) : AV → V → Prop
  | .d x, v => Rep K H x v
  | .l ds, v => ∃ p xs, v = .ref p ∧ H p = some (.lst xs) ∧ Reps K H ds xs
def AV.ty : AV → String
  | .d (.int _) => "int"
  | .d (.str _) => "str"
  | .d (.tup _) => "tuple"
  | .d (.bl _) => "bool"
  | .d .non => "NoneType"
  | .l _ => "list"
def AV.items : AV → List D
  | .d (.tup ds) => ds
  | .l ds => ds
  | _ => []
section
variable {T : Tb} {K : PySem.W.Frag} {δ : List (Option SD)} {H H' : Hp} {ta tb : TE} {x : AV} {v : V}
theorem AVRep.up (h : AVRep K H x v) (g : Gr T [] H H') : AVRep K H' x v := by
  cases x with
  | d x => exact Rep.up h g
  | l ds =>
    obtain ⟨p, xs, e, h1, h2⟩ := h
    exact ⟨p, xs, e, g.lst h1 (by simp), h2.up g⟩
theorem AVRep.ty (h : AVRep K H x v) : TyX K H v (.type x.ty) := by
  cases x with
  | d x => cases x with
    | non => cases (show v = .non from h); exact .base .non
    | bl b => cases (show v = .bl b from h); exact .base (.bl b)
    | int i => cases (show v = .int i from h); exact .base (.int i)
    | str z => cases (show v = .str z from h); exact .base (.str z)
    | tup ds =>
      obtain ⟨a, xs, e, hs, _⟩ := h
      subst e
      exact tyx_tup hs
  | l ds =>
    obtain ⟨p, xs, e, h1, _⟩ := h
    subst e
    exact .base (.lst h1)
theorem ev_isA {n : String} {b : Bool} (h : EvV T K ta δ H v) (hv : AVRep K H x v) (e : kitB x.ty n = some b) : EvD T K (tCB (rIsi K) (tCons ta (tCons (tC (.ty n)) tNil))) δ H (.bl b) := fun σ H1 g s Q q =>
  h σ H1 g s _ fun H2 g2 => ⟨v, .ty n, .type x.ty, .type n, b, rfl, .ty _, (hv.up (g.trans g2)).ty, kit_ty e, q _ H2 g2 rfl⟩
theorem ev_isTL {b1 b2 : Bool} (h : EvV T K ta δ H v) (hv : AVRep K H x v) (e1 : kitB x.ty "tuple" = some b1) (e2 : kitB x.ty "list" = some b2) : EvD T K (tCB (rIsiT K) (tCons ta (tCons (tTup (tCons (tC (.ty "tuple")) (tCons (tC (.ty "list")) tNil))) tNil))) δ H (.bl (b1 || b2)) := fun σ H1 g s Q q =>
  h σ H1 g s _ fun H2 g2 => ⟨(by show 2 ≤ sizeLine; decide), fun p hp => by
    have gn : Gr T [] H2 (upd H2 p (.tup [.ty "tuple", .ty "list"])) := Gr.new g2.tbs hp
    have g3 := g2.trans gn
    refine ⟨v, p, [.ty "tuple", .ty "list"], .type x.ty, [.type "tuple", .type "list"], b1 || b2, rfl, upd_same, .cons (.ty _) (.cons (.ty _) .nil), (hv.up (g.trans g3)).ty, ?_, q _ _ g3 rfl⟩
    refine kitAny_cons (kit_ty e1) (fun hb => ?_) fun hb => by rw [hb]; rfl
    rw [hb, Bool.false_or]
    exact kitAny_cons (kit_ty e2) (fun hb2 => by rw [hb2]; rfl) fun hb2 => hb2⟩
theorem ev_lenA (h : EvV T K ta δ H v) (hv : AVRep K H x v) (hi : (∃ ds, x = .d (.tup ds)) ∨ ∃ ds, x = .l ds) : EvD T K (tCB (rLenS K) (tCons ta tNil)) δ H (.int x.items.length) := fun σ H1 g s Q q =>
  h σ H1 g s _ fun H2 g2 => by
    rcases hi with ⟨ds, rfl⟩ | ⟨ds, rfl⟩
    · obtain ⟨a, xs, e, hs, rs⟩ := hv.up (g.trans g2)
      exact ⟨a, xs, by rw [e], .inr hs, by rw [rs.len]; exact q _ H2 g2 rfl⟩
    · obtain ⟨a, xs, e, hs, rs⟩ := hv.up (g.trans g2)
      exact ⟨a, xs, by rw [e], .inl (.inl (.inl hs)), by rw [rs.len]; exact q _ H2 g2 rfl⟩
/-- an item of a list or of a tuple -/
def rIxA (K : PySem.W.Frag) : R2 := fun x y H Q => rIxL K x y H Q ∨ rIxT K x y H Q
theorem ixAny {X : Cx} (hK : X.K = K := by rfl) : IxR X (rIxA K) := fun value slice pins s σ H x y v u Q I rx ry h hs => h.elim (fun h => ixLst hK value slice pins s σ H x y v u Q I rx ry h hs) fun h => ixTup hK value slice pins s σ H x y v u Q I rx ry h hs
theorem ev_ixA {i : Int} {d : D} (h : EvV T K ta δ H v) (hv : AVRep K H x v) (hi : (∃ ds, x = .d (.tup ds)) ∨ ∃ ds, x = .l ds) (hb : EvD T K tb δ H (.int i)) (e : atI x.items i = some d) : EvD T K (tOp (rIxA K) ta tb) δ H d := fun σ H1 g s Q q =>
  h σ H1 g s _ fun H2 g2 => hb σ H2 (g.trans g2) (s.up g2) _ fun w H3 g3 ew => by
    rcases hi with ⟨ds, rfl⟩ | ⟨ds, rfl⟩
    · obtain ⟨a, xs, ea, hs, rs⟩ := hv.up ((g.trans g2).trans g3)
      obtain ⟨y, hy, ry⟩ := atI_rep rs e
      exact .inr ⟨a, xs, i, y, ea, ew, hs, hy, q y H3 (g2.trans g3) ry⟩
    · obtain ⟨a, xs, ea, hs, rs⟩ := hv.up ((g.trans g2).trans g3)
      obtain ⟨y, hy, ry⟩ := atI_rep rs e
      exact .inl ⟨a, xs, i, y, ea, ew, .inl (.inl hs), hy, q y H3 (g2.trans g3) ry⟩
/-- two new empty lists -/
theorem ev_eqNil (ha : EvL T K ta δ H []) (hb : EvL T K tb δ H []) : EvD T K (tOp (rEqD K) ta tb) δ H (.bl true) := fun σ H1 g s Q q =>
  ha σ H1 g s _ fun a xs H2 na g2 ea ra => hb σ H2 (g.trans g2) (s.up g2) _ fun b ys H3 nb g3 eb rb => by
    cases (show xs = [] from ra); cases (show ys = [] from rb)
    exact ⟨.list [], .list [], .lst (.inl (.inl (g3.lst ea (by simp)))) .nil, .lst (.inl (.inl eb)) .nil, by decide, by decide, q _ H3 (g2.trans g3) rfl⟩
def spAlike (T : Tb) (K : PySem.W.Frag) (lv : Nat) : Sp := fun vs H Q _ => ∃ (x : AV) (u v : V), vs = [u, v] ∧ AVRep K H x u ∧ AVRep K H x v ∧ ((∃ d, x = .d d ∧ d.fit lv) ∨ ∃ ds, x = .l ds ∧ ds.length ≤ 1000 ∧ D.fits (lv - 1) ds ∧ 0 < lv) ∧ Tbs T H ∧ ∀ H', Gr T [] H H' → Q (.bl true) H'
theorem ev_alike {E : XK} {lv : Nat} {t : TA} {d : D} (h : EvA T K t δ H [d, d]) (hd : d.fit lv) : EvD T K (tCall (spAlike T K lv) [] E t) δ H (.bl true) := fun σ H1 g s Q q =>
  h σ H1 g s _ fun vs H2 g2 r => by
    obtain ⟨u, r1, e1, h1, v, r2, e2, h2, e3⟩ := r
    cases (show r2 = [] from e3)
    subst e2; subst e1
    exact ⟨.d d, u, v, rfl, h1, h2, .inl ⟨d, rfl, hd⟩, g2.tbs, fun H3 g3 => q _ H3 (g2.trans g3) rfl⟩
end
theorem ev_isN {T : Tb} {K : PySem.W.Frag} {δ : List (Option SD)} {H : Hp} {ta : TE} {x : D} (h : EvD T K ta δ H x) (hx : ∀ H v, Rep K H x v → v ≠ .non) : EvD T K (tOp (fun x y H Q => y = .non ∧ Q (.bl (decide (x = .non))) H) ta (tC .non)) δ H (.bl false) := fun σ H1 g s Q q =>
  h σ H1 g s _ fun v H2 g2 r => ⟨rfl, by rw [decide_eq_false (hx H2 v r)]; exact q _ H2 g2 rfl⟩
theorem hu64 {A : Around} {k : Nat} (hr : Room k A) : A.units + 64 < cLine := by have := hr.un; omega
theorem kb_tuple_tuple : kitB "tuple" "tuple" = some true := by decide +kernel
theorem kb_tuple_list : kitB "tuple" "list" = some false := by decide +kernel
theorem kb_list_tuple : kitB "list" "tuple" = some false := by decide +kernel
theorem kb_list_list : kitB "list" "list" = some true := by decide +kernel
theorem kb_int_tuple : kitB "int" "tuple" = some false := by decide +kernel
theorem kb_int_list : kitB "int" "list" = some false := by decide +kernel
theorem kb_int_int : kitB "int" "int" = some true := by decide +kernel
theorem kb_int_bool : kitB "int" "bool" = some false := by decide +kernel
theorem kb_int_str : kitB "int" "str" = some false := by decide +kernel
theorem kb_str_tuple : kitB "str" "tuple" = some false := by decide +kernel
theorem kb_str_list : kitB "str" "list" = some false := by decide +kernel
theorem kb_str_str : kitB "str" "str" = some true := by decide +kernel
theorem madeD_none (f : Nat → D) (n : Nat) : madeD (fun _ => false) f n = [] := by
  unfold madeD
  simp
section
variable {P : Program} {w : World} {K : PySem.W.Frag} {mg : Str → Option Value} {base : Heap} {T : Tb} {f : Addr} {fd : FuncData}
theorem ok_alike (B : Bl mg) (A : At K mg "_law_alike" s__law_alike ["_law_found", "_law_due"] f fd) : ∀ lv : Nat, Ok P w K mg base lv "_law_alike" ["_law_found", "_law_due"] (spAlike T K lv) := by
  intro lv
  induction lv with
  | zero =>
    refine A.none fun vs H Q E ⟨x, _, _, _, _, _, h, _⟩ => ?_
    rcases h with ⟨d, _, hd⟩ | ⟨_, _, _, _, h⟩
    · cases d with
      | int i => exact absurd (show 0 < 0 from hd) (by decide)
      | str z => exact absurd (show 0 < 0 from hd) (by decide)
      | tup ds => exact absurd hd.2.2 (by decide)
      | non => exact hd
      | bl b => exact hd
    · omega
  | succ lv G__law_alike =>
  refine A.ok (A.F.ok (k := lv) sc__law_alike (fun vs H Q E ⟨_, _, _, e, _⟩ => by rw [e]; rfl) fun cdv A outer s H vs Q E hr h => ⟨_, (pss_cons (ps_if (pt_val (pe_callB call_isiT (by rfl) B.isinstance (by decide +kernel) (pa_cons (pv 1) (pa_cons (pe_tup (pa_cons (pe_bltn (v := .ty "tuple") (by rfl) B.tuple (by decide +kernel) rfl) (pa_cons (pe_bltn (v := .ty "list") (by rfl) B.list (by decide +kernel) rfl) pa_nil))) pa_nil)))) (pss_cons (ps_if (PW.pt (pw_or (pt_not (pt_val (pe_callB call_isiT (by rfl) B.isinstance (by decide +kernel) (pa_cons (pv 0) (pa_cons (pe_tup (pa_cons (pe_bltn (v := .ty "tuple") (by rfl) B.tuple (by decide +kernel) rfl) (pa_cons (pe_bltn (v := .ty "list") (by rfl) B.list (by decide +kernel) rfl) pa_nil))) pa_nil))))) (pw_or1 (pt_cmpR op_ne (pe_callB call_isi (by rfl) B.isinstance (by decide +kernel) (pa_cons (pv 0) (pa_cons (pe_bltn (v := .ty "list") (by rfl) B.list (by decide +kernel) rfl) pa_nil))) (pe_callB call_isi (by rfl) B.isinstance (by decide +kernel) (pa_cons (pv 1) (pa_cons (pe_bltn (v := .ty "list") (by rfl) B.list (by decide +kernel) rfl) pa_nil))) (nomark _))))) (pss_one (ps_ret pe_bl)) pss_nil)
    (pss_cons (ps_if (pt_cmpR op_ne (pe_callB cr_len (by rfl) B.len (by decide +kernel) (pa_cons (pv 0) pa_nil)) (pe_callB cr_len (by rfl) B.len (by decide +kernel) (pa_cons (pv 1) pa_nil)) (nomark _)) (pss_one (ps_ret pe_bl)) pss_nil)
    (pss_one (ps_ret (pe_cmpR (op_eqD (hu64 hr)) (pe_lc (own := [("_law_k", 2)]) rfl sc__law_alike.nd (pi_range1 (by rfl) B.range (pa_cons (pe_callB cr_len (by rfl) B.len (by decide +kernel) (pa_cons (pv 1) pa_nil)) pa_nil)) (blkOk_by (N := ["_law_found", "_law_due", "_law_k"]) (sc := defScope s__law_alike) (by decide +kernel)) (fun _ _ _ _ _ => (pg_name (i := 2) sc__law_alike.nd rfl (Or.inl rfl))) (fun _ _ _ _ _ => (pts_one (pt_not (pt_val (pe_own G__law_alike hr (Nat.le_refl _) (by rfl) (pa_cons (pe_ix ixAny (pv 0) (pv 2) (fun _ _ => rfl)) (pa_cons (pe_ix ixAny (pv 1) (pv 2) (fun _ _ => rfl)) pa_nil))))))) (fun _ _ _ _ _ => (pv 2))) (pe_lst pa_nil) (nomark _)))))) pss_nil)
    (pss_cons (ps_if (PW.pt (pw_or (pt_cmpR op_isN (pv 1) pe_non (nomark _)) (pw_or1 (pt_val (pe_callB call_isi (by rfl) B.isinstance (by decide +kernel) (pa_cons (pv 1) (pa_cons (pe_bltn (v := .ty "str") (by rfl) B.str (by decide +kernel) rfl) pa_nil))))))) (pss_one (ps_ret (pe_and (pe_cmpR op_eq (pv 0) (pv 1) (nomark _)) (pe_one (pe_cmpR op_eq (pe_callB call_isi (by rfl) B.isinstance (by decide +kernel) (pa_cons (pv 0) (pa_cons (pe_bltn (v := .ty "str") (by rfl) B.str (by decide +kernel) rfl) pa_nil))) (pe_callB call_isi (by rfl) B.isinstance (by decide +kernel) (pa_cons (pv 1) (pa_cons (pe_bltn (v := .ty "str") (by rfl) B.str (by decide +kernel) rfl) pa_nil))) (nomark _)))))) pss_nil)
    (pss_one (ps_ret (pe_and (pe_callB call_isi (by rfl) B.isinstance (by decide +kernel) (pa_cons (pv 0) (pa_cons (pe_bltn (v := .ty "int") (by rfl) B.int (by decide +kernel) rfl) pa_nil))) (pe_and (pe_cmpR op_eq (pe_callB call_isi (by rfl) B.isinstance (by decide +kernel) (pa_cons (pv 0) (pa_cons (pe_bltn (v := .ty "bool") (by rfl) B.bool (by decide +kernel) rfl) pa_nil))) (pe_callB call_isi (by rfl) B.isinstance (by decide +kernel) (pa_cons (pv 1) (pa_cons (pe_bltn (v := .ty "bool") (by rfl) B.bool (by decide +kernel) rfl) pa_nil))) (nomark _)) (pe_one (pe_cmpR op_eq (pv 0) (pv 1) (nomark _))))))))), ?_⟩)
  obtain ⟨x, u, v, rfl, ru, rv, hx, hT, q⟩ := h
  dsimp only [Cx.nox, Cx.wish, cxOf]
  suffices hR : Run K _ _ [some (.v u), some (.v v), none] H from
    hR _ ⟨_, _, rfl, rfl, _, _, rfl, rfl, _, _, rfl, trivial, rfl⟩
  have cls : (∃ b1 b2, ((∃ ds, x = .d (.tup ds)) ∨ ∃ ds, x = .l ds) ∧ x.items.length ≤ 1000 ∧ D.fits lv x.items ∧ kitB x.ty "tuple" = some b1 ∧ kitB x.ty "list" = some b2 ∧ (b1 || b2) = true) ∨ (∃ i, x = .d (.int i)) ∨ ∃ z, x = .d (.str z) := by
    rcases hx with ⟨d, rfl, hd⟩ | ⟨ds, rfl, hlen, hfit, _⟩
    · cases d with
      | non => exact hd.elim
      | bl b => exact hd.elim
      | tup ds => exact .inl ⟨true, false, .inl ⟨ds, rfl⟩, hd.1, hd.2.1, kb_tuple_tuple, kb_tuple_list, rfl⟩
      | int i => exact .inr (.inl ⟨i, rfl⟩)
      | str z => exact .inr (.inr ⟨z, rfl⟩)
    · exact .inl ⟨false, true, .inr ⟨ds, rfl⟩, hlen, hfit, kb_list_tuple, kb_list_list, rfl⟩
  clear hx
  rcases cls with ⟨b1, b2, hi, hlen, hfit, k1, k2, kb⟩ | ⟨i, rfl⟩ | ⟨z, rfl⟩
  · -- a tuple or a list
    refine run_ifS hT (et_B (ev_isTL (ev_raw rfl) rv k1 k2)) (fun _ H1 g1 => ?_) fun e => by rw [kb] at e; cases e
    have ru1 := ru.up g1
    have rv1 := rv.up g1
    refine run_when g1.tbs ((et_or (a := false) ((et_not (et_B (ev_isTL (ev_raw rfl) ru1 k1 k2))).is (by rw [kb]; rfl)) fun _ => (et_test (ev_neB (ev_isA (ev_raw rfl) ru1 k2) (ev_isA (ev_raw rfl) rv1 k2))).is (c := false) (by simp)).is rfl) (fun e => nomatch e) fun _ H2 g2 => ?_
    have ru2 := ru1.up g2
    have rv2 := rv1.up g2
    refine run_when g2.tbs ((et_test (ev_neI (ev_lenA (ev_raw rfl) ru2 hi) (ev_lenA (ev_raw rfl) rv2 hi))).is (c := false) (by simp)) (fun e => nomatch e) fun _ H3 g3 => ?_
    have ru3 := ru2.up g3
    have rv3 := rv2.up g3
    refine run_last (run_ret g3.tbs (ev_eqNil ((ev_lc (fun _ => false) (fun _ => .non) (ei_range (ea_cons (ev_lenA (ev_raw rfl) rv3 hi) ea_nil) (by omega) (by omega)) (by simp; omega) fun i e H4 he g4 => ?_).is (madeD_none _ _)) (ev_lst ea_nil (by decide))) fun v' H4 g4 r => by
      cases (show v' = .bl true from r)
      exact q H4 (((g1.trans g2).trans g3).trans g4))
    rw [List.getElem?_map] at he
    have hlt : i < x.items.length := by
      cases hr : (List.range (x.items.length : Int).toNat)[i]? with
      | none => rw [hr] at he; cases he
      | some j => have := (List.getElem?_eq_some_iff.mp hr).1; rw [List.length_range] at this; omega
    rw [List.getElem?_range (by omega)] at he
    cases he
    have hat : atI x.items ((i : Nat) : Int) = some x.items[i] := atI_nat (List.getElem?_eq_getElem hlt)
    refine ⟨_, _, eg_name, by decide, (et_not (et_B (ev_alike (d := x.items[i]) (ea_cons (ev_ixA (ev_raw rfl) (ru3.up g4) hi (ev_var rfl) hat) (ea_cons (ev_ixA (ev_raw rfl) (rv3.up g4) hi (ev_var rfl) hat) ea_nil)) (D.fits_get hfit (List.getElem?_eq_getElem hlt))))).is rfl, fun e => nomatch e⟩
  · have eu : EvD T K (tVar 0) [some (.v u), some (.v v), none] H (.int i) := by cases (show u = .int i from ru); exact ev_ofV (ev_raw rfl)
    have ev : EvD T K (tVar 1) [some (.v u), some (.v v), none] H (.int i) := by cases (show v = .int i from rv); exact ev_ofV (ev_raw rfl)
    refine run_when hT (et_B (ev_isTL (ev_raw rfl) rv kb_int_tuple kb_int_list)) (fun e => nomatch e) fun _ H1 g1 => ?_
    refine run_when g1.tbs ((et_or (a := false) (et_test (ev_isN (ev.up g1) fun H v e => by cases (show v = .int i from e); simp)) fun _ => et_B (ev_isA (ev_raw rfl) (rv.up g1) kb_int_str)).is rfl) (fun e => nomatch e) fun _ H2 g2 => ?_
    · have ru2 := (ru.up g1).up g2
      have rv2 := (rv.up g1).up g2
      refine run_last (run_ret g2.tbs (ev_andV (ev_isA (ev_raw rfl) ru2 kb_int_int) fun _ => ev_andV (ev_eqB (ev_isA (ev_raw rfl) ru2 kb_int_bool) (ev_isA (ev_raw rfl) rv2 kb_int_bool)) fun _ => ev_eqI (eu.up (g1.trans g2)) (ev.up (g1.trans g2))) fun v' H4 g4 r => ?_)
      cases (show v' = .bl _ from r)
      have := q H4 ((g1.trans g2).trans g4)
      simpa using this
  · have eu : EvD T K (tVar 0) [some (.v u), some (.v v), none] H (.str z) := by cases (show u = .str z from ru); exact ev_ofS (ev_raw rfl)
    have ev : EvD T K (tVar 1) [some (.v u), some (.v v), none] H (.str z) := by cases (show v = .str z from rv); exact ev_ofS (ev_raw rfl)
    refine run_when hT (et_B (ev_isTL (ev_raw rfl) rv kb_str_tuple kb_str_list)) (fun e => nomatch e) fun _ H1 g1 => ?_
    refine run_when g1.tbs ((et_or (a := false) (et_test (ev_isN (ev.up g1) fun H v e => by cases (show v = .str z from e); simp)) fun _ => et_B (ev_isA (ev_raw rfl) (rv.up g1) kb_str_str)).is rfl) (fun _ H2 g2 => ?_) fun e => nomatch e
    · have ru2 := (ru.up g1).up g2
      have rv2 := (rv.up g1).up g2
      refine run_ret g2.tbs (ev_andV (ev_eqS (eu.up (g1.trans g2)) (ev.up (g1.trans g2))) fun _ => ev_eqB (ev_isA (ev_raw rfl) ru2 kb_str_str) (ev_isA (ev_raw rfl) rv2 kb_str_str)) fun v' H4 g4 r => ?_
      cases (show v' = .bl _ from r)
      have := q H4 ((g1.trans g2).trans g4)
      simpa using this
end
end Pd
namespace Pd
open PySem PySem.Spec PyProof.Rows L2
/-- a room of at most s doors, deep at most lv; behind it s' are left -/
def spRoom (T : Tb) (K : PySem.W.Frag) (lv : Nat) : Sp := fun vs H Q _ => ∃ (a b e : Addr) (s deep few : Int), vs = [.ref a, .ref e, .int deep, .int few] ∧ HS a b H ∧ H e = some (.lst [.int s]) ∧ e ≠ a ∧ e ≠ b ∧ 0 ≤ s ∧ s ≤ 12 ∧ 0 ≤ deep ∧ deep < lv ∧ 1 ≤ few ∧ few ≤ 99 ∧ Tbs T H ∧
  ∀ (h : House) (s' : Int) v H', h.ok → 0 ≤ s' → (h.many : Int) + s' = s → Gr T [a, b, e] H H' → HS a b H' → H' e = some (.lst [.int s']) → Rep K H' h.toD v → Q v H'
theorem okName_a : okName "a" := by decide +kernel
theorem okName_b : okName "b" := by decide +kernel
theorem okName_ab : okName "ab" := by decide +kernel
theorem okName_z : okName "zzzzzz" := by decide +kernel
theorem Doors.ok1 {n s : Int} {h : House} (h1 : 1 ≤ n) (h2 : n ≤ 99) (h3 : 0 ≤ s) (h4 : s ≤ n) (h5 : h.ok) : (Doors.cons n s h .nil).ok := ⟨h1, h2, h3, h4, h5, trivial⟩
section
variable {P : Program} {w : World} {K : PySem.W.Frag} {mg : Str → Option Value} {base : Heap} {T : Tb} {f : Addr} {fd : FuncData}
theorem ok_room (B : Bl mg) (A : At K mg "_law_room" s__law_room ["_law_h", "_law_spare", "_law_deep", "_law_few"] f fd) (G__law_next : Ok P w K mg base 1 "_law_next" ["_law_h", "_law_many"] (spNext T)) (G__law_door : Ok P w K mg base 2 "_law_door" ["_law_h", "_law_few"] (spDoor T K)) :
    ∀ lv : Nat, Ok P w K mg base (2 + lv) "_law_room" ["_law_h", "_law_spare", "_law_deep", "_law_few"] (spRoom T K lv) := by
  intro lv
  induction lv with
  | zero => exact A.none fun vs H Q E ⟨_, _, _, _, deep, _, _, _, _, _, _, _, _, d0, d1, _⟩ => by omega
  | succ lv G__law_room =>
  have hk1 : 1 ≤ 2 + lv := by omega
  have hk2 : 2 ≤ 2 + lv := by omega
  refine A.ok (A.F.ok (k := 2 + lv) sc__law_room (fun vs H Q E ⟨_, _, _, _, _, _, e, _⟩ => by rw [e]; rfl) fun cdv A outer s H vs Q E hr h => ⟨_, (pss_cons (ps_if (PW.pt (pw_or (pt_cmpR op_eq (pv 2) pe_int (nomark _)) (pw_or1 (pt_cmpR op_eq (pe_ix ix_list (pv 1) pe_int (fun _ _ => rfl)) pe_int (nomark _))))) (pss_one (ps_ret (pe_ix ix_list (pe_lst (pa_cons pe_str (pa_cons pe_str (pa_cons pe_str (pa_cons pe_str pa_nil))))) (pe_own G__law_next hr hk1 (by rfl) (pa_cons (pv 0) (pa_cons pe_int pa_nil))) (fun _ _ => rfl)))) pss_nil)
    (pss_cons (ps_set (i := 4) sc__law_room.nd rfl (Or.inl rfl) (pe_callB (cr_min rfl) (by rfl) B.min (by decide +kernel) (pa_cons (pe_ix ix_list (pv 1) pe_int (fun _ _ => rfl)) (pa_cons (pe_op op_add pe_int (pe_own G__law_next hr hk1 (by rfl) (pa_cons (pv 0) (pa_cons pe_int pa_nil)))) pa_nil))))
    (pss_cons (ps_asg (pe_op op_sub (pe_ix ix_list (pv 1) pe_int (fun _ _ => rfl)) (pv 4)) (pg_sub (pv 1) pe_int set_list))
    (pss_cons (ps_set (i := 5) sc__law_room.nd rfl (Or.inl rfl) (pe_lst pa_nil))
    (pss_cons (ps_for PassesOwn.never rfl (pi_range1 (by rfl) B.range (pa_cons (pv 4) pa_nil)) (pg_name (i := 6) sc__law_room.nd rfl (Or.inl rfl)) (pss_cons (ps_asg (pe_own G__law_door hr hk2 (by rfl) (pa_cons (pv 0) (pa_cons (pv 3) pa_nil))) (pg_tup rfl (pgs_cons (pg_name (i := 7) sc__law_room.nd rfl (Or.inl rfl)) (pgs_cons (pg_name (i := 8) sc__law_room.nd rfl (Or.inl rfl)) pgs_nil))))
    (pss_cons (ps_set (i := 9) sc__law_room.nd rfl (Or.inl rfl) (pe_ifExp (pt_cmpR op_eq (pe_own G__law_next hr hk1 (by rfl) (pa_cons (pv 0) (pa_cons pe_int pa_nil))) pe_int (nomark _)) (pe_op op_sub (pv 2) pe_int) pe_int))
    (pss_one (ps_expr (pe_bm PySem.F.plainAttrs_list PySem.F.slot_list_append PySem.F.type_list_append mt_append (pv 5) (pa_cons (pe_tup (pa_cons (pv 7) (pa_cons (pv 8) (pa_cons (pe_own G__law_room hr (Nat.le_refl _) (by rfl) (pa_cons (pv 0) (pa_cons (pv 1) (pa_cons (pv 9) (pa_cons (pv 3) pa_nil))))) pa_nil)))) pa_nil)))))))
    (pss_one (ps_ret (pe_tup (pa_cons (pe_own G__law_next hr hk1 (by rfl) (pa_cons (pv 0) (pa_cons (pv 4) pa_nil))) (pa_cons (pe_callTy cr_tup (by rfl) B.tuple (by decide +kernel) (pa_cons (pv 5) pa_nil)) pa_nil)))))))))), ?_⟩)
  obtain ⟨a, b, e, s0, deep, few, rfl, hS, he, nea, neb, s00, s012, d0, d1, f0, f1, hT, q⟩ := h
  dsimp only [Cx.nox, Cx.wish, cxOf]
  suffices hR : Run K _ _ [some (.v (.ref a)), some (.v (.ref e)), some (.d (.int deep)), some (.d (.int few)), none, none, none, none, none, none] H from
    hR _ ⟨_, _, rfl, rfl, _, _, rfl, rfl, _, _, rfl, rfl, _, _, rfl, rfl, _, _, rfl, trivial, _, _, rfl, trivial, _, _, rfl, trivial, _, _, rfl, trivial, _, _, rfl, trivial, _, _, rfl, trivial, rfl⟩
  -- what stands, while spare holds s
  let JS : Int → Hp → Prop := fun s H => HS a b H ∧ H e = some (.lst [.int s])
  have st : ∀ s, Stays T (JS s) := fun s H1 H2 g ⟨h1, h2⟩ => ⟨HS.stays H1 H2 g h1, g.lst h2 (by simp)⟩
  have jh : ∀ s H, JS s H → HS a b H := fun _ _ h => h.1
  have j2 : ∀ s H1 H2, Gr T [a, b] H1 H2 → JS s H1 → HS a b H2 → JS s H2 := fun s H1 H2 g h h2 => ⟨h2, g.lst h.2 (by simp [nea, neb])⟩
  have hno : ∀ s H1 l, JS s H1 → l ∈ [a, b] → H1 l ≠ none := fun s H1 l ⟨⟨_, _, _, h1, h2, _⟩, _⟩ hl z => by
    rcases (by simpa using hl : l = a ∨ l = b) with rfl | rfl
    · rw [h1] at z; cases z
    · rw [h2] at z; cases z
  have ab3 : ∀ x ∈ [a, b], x ∈ [a, b, e] := fun x hx => by rcases (by simpa using hx : x = a ∨ x = b) with rfl | rfl <;> simp
  refine run_when hT (et_or (et_test (ev_eqI (ev_var rfl) ev_int)) fun _ => et_test (ev_eqI (ev_ixI (ev_raw rfl) ev_int he at0) ev_int)) (fun hb H1 g1 => ?_) fun hb H1 g1 => ?_
  · -- a way out
    have j1 : JS s0 H1 := st s0 H H1 g1 ⟨hS, he⟩
    refine runx_ret (S := [a, b]) g1.tbs j1 (p := fun d => ∃ n, d = .str n ∧ okName n) (ex_ixL (pa := fun ds => ds = [.str "a", .str "b", .str "ab", .str "zzzzzz"])
      (fun σ H1 g j s Q q => ex_lst (st s0) (xa_cons (ex_pure (st s0) fun H1 g => ev_str) (xa_cons (ex_pure (st s0) fun H1 g => ev_str) (xa_cons (ex_pure (st s0) fun H1 g => ev_str) (xa_cons (ex_pure (st s0) fun H1 g => ev_str) xa_nil)))) (fun ds ⟨d, r, e, _, d2, r2, e2, _, d3, r3, e3, _, d4, r4, e4, _, e5⟩ => by rw [e, e2, e3, e4, e5]; simp) σ H1 g j s Q
        fun ds l xs H2 ⟨d, r, e, e1, d2, r2, e2, e3, d3, r3, e4, e5, d4, r4, e6, e7, e8⟩ => q ds l xs H2 (by rw [e, e1, e2, e3, e4, e5, e6, e7, e8]))
      (ex_nextC (by simp) (by simp) (st s0) (jh s0) (j2 s0) (fun H1 g => ev_raw rfl) (fun H1 g => ev_int) (by decide) (by decide))
      (fun ds y e1 ⟨i, e2, i0, i1⟩ => by
        subst e1; subst e2
        have : i = 0 ∨ i = 1 ∨ i = 2 ∨ i = 3 := by omega
        rcases this with rfl | rfl | rfl | rfl
        · exact ⟨0, _, rfl, at0, _, rfl, okName_a⟩
        · exact ⟨1, _, rfl, at1, _, rfl, okName_b⟩
        · exact ⟨2, _, rfl, at2, _, rfl, okName_ab⟩
        · exact ⟨3, _, rfl, atI_nat (j := 3) rfl, _, rfl, okName_z⟩) (hno s0)) fun d v H2 ⟨n, e1, hn⟩ g2 jj r => ?_
    subst e1
    exact q (.out n) s0 v H2 hn s00 (by show ((0 : Nat) : Int) + s0 = s0; omega) (g1.any.trans (g2.mono ab3)) jj.1 jj.2 r
  · -- doors
    have hb1 : ¬ (deep = 0 ∨ s0 = 0) := by simpa using hb
    have hd : 1 ≤ deep := by omega
    have hs : 1 ≤ s0 := by omega
    have j1 : JS s0 H1 := st s0 H H1 g1 ⟨hS, he⟩
    refine runx_asg (S := [a, b]) g1.tbs j1 (p := fun d => ∃ m, d = .int m ∧ 1 ≤ m ∧ m ≤ 4 ∧ m ≤ s0) (ex_min2 (p1 := fun d => d = .int s0) (p2 := fun d => ∃ r, d = .int r ∧ 1 ≤ r ∧ r ≤ 4) (st s0)
      (fun σ H2 g j s Q q => (ev_ixI (ev_raw rfl) ev_int j.2 at0) σ H2 g.self s Q fun v H3 g3 r => q _ v H3 rfl g3.any (st s0 _ _ g3 j) r)
      (ex_op (st s0) (ex_pure (st s0) fun H1 g => ev_int) (ex_nextC (by simp) (by simp) (st s0) (jh s0) (j2 s0) (fun H1 g => ev_raw rfl) (fun H1 g => ev_int) (by decide) (by decide)) fun x y e1 ⟨r, e2, r0, r1⟩ => by subst e1; subst e2; exact ⟨_, ⟨1 + r, rfl, by omega, by omega⟩, os_I0⟩)
      fun x y e1 ⟨r, e2, r0, r1⟩ => ⟨s0, r, e1, e2, _, rfl, by omega, by omega, by omega⟩) fun d H2 hd2 g2 jb => ?_
    obtain ⟨m, rfl, m1, m4, ms⟩ := hd2
    refine run_setL g2.tbs (ev_toV (ev_I0 (ev_ixI (ev_raw rfl) ev_int jb.2 at0) (ev_var rfl))) (ev_raw rfl) ev_int jb.2 rfl fun H3 g3 he3 => ?_
    have g03 : Gr T [a, b, e] H H3 := (g1.any.trans (g2.mono ab3)).trans g3.any
    have g04 : Gr T [a, b, e] H (upd H3 e (.lst [.int (s0 - m)])) := g03.put he3 (.inl (by simp))
    have j4 : JS (s0 - m) (upd H3 e (.lst [.int (s0 - m)])) := ⟨by
      obtain ⟨x, y, z, z1, z2, z3⟩ := HS.stays H2 H3 g3 jb.1
      exact ⟨x, y, z, by rw [upd_ne nea.symm]; exact z1, by rw [upd_ne neb.symm]; exact z2, z3⟩, upd_same⟩
    refine run_asgL g04.tbs (ev_lst ea_nil (by decide)) fun l xs H5 nl g5 hl5 rl5 => ?_
    cases (show xs = [] from rl5)
    have nl0 : H l = none := g04.dom l nl
    have g05 : Gr T [a, b, e] H H5 := g04.trans g5.any
    have j5 := st _ _ _ g5 j4
    have nla : l ≠ a := fun z => by subst z; obtain ⟨_, _, _, h1, _⟩ := hS; rw [h1] at nl0; cases nl0
    have nlb : l ≠ b := fun z => by subst z; obtain ⟨_, _, _, _, h1, _⟩ := hS; rw [h1] at nl0; cases nl0
    have nle : l ≠ e := fun z => by subst z; rw [he] at nl0; cases nl0
    refine run_for (S := [l, a, b, e]) g05.tbs (ei_range (ea_cons (ev_var rfl) ea_nil) (by omega) (by omega))
      (fun _ => [some (.v (.ref a)), some (.v (.ref e)), some (.d (.int deep)), some (.d (.int few)), some (.d (.int m)), some (.v (.ref l)), none, none, none, none])
      (fun i H => ∃ (ds : Doors) (s : Int) (xs : List V), ds.len = i ∧ ds.ok ∧ (ds.many : Int) - i + s = s0 - m ∧ 0 ≤ s ∧ HS a b H ∧ H e = some (.lst [.int s]) ∧ H l = some (.lst xs) ∧ Reps K H ds.toDs xs)
      (Less.refl _) (fun H6 g6 => ⟨.nil, s0 - m, [], rfl, trivial, by show ((0 : Nat) : Int) - (0 : Nat) + (s0 - m) = s0 - m; omega, by omega, HS.stays _ _ g6 j5.1, g6.lst j5.2 (by simp), g6.lst hl5 (by simp), rfl⟩)
      (fun i Ha Hb g ⟨ds, s, xs, h1, h2, h3, h4, h5, h6, h7, h8⟩ => ⟨ds, s, xs, h1, h2, h3, h4, HS.stays _ _ g h5, g.lst h6 (by simp), g.lst h7 (by simp), h8.up g⟩)
      (fun i d H6 N hd6 g6 hI hN => ?_) (fun H6 g6 hI => ?_)
    · obtain ⟨ds, s, xs, h1, h2, h3, h4, h5, h6, h7, h8⟩ := hI
      have hi4 : i < 4 := by
        have := (List.getElem?_eq_some_iff.mp hd6).1
        rw [List.length_map, List.length_range] at this
        omega
      have hxs : xs.length = i := by rw [h8.len, Doors.toDs_len]; exact h1
      have hs12 : s ≤ 12 := by have := Doors.len_le ds; omega
      let JL : Hp → Prop := fun H => HS a b H ∧ H e = some (.lst [.int s]) ∧ H l = some (.lst xs) ∧ Reps K H ds.toDs xs
      have stL : Stays T JL := fun Ha Hb g ⟨x1, x2, x3, x4⟩ => ⟨HS.stays _ _ g x1, g.lst x2 (by simp), g.lst x3 (by simp), x4.up g⟩
      have jL2 : ∀ Ha Hb, Gr T [a, b] Ha Hb → JL Ha → HS a b Hb → JL Hb := fun Ha Hb g ⟨x1, x2, x3, x4⟩ y => ⟨y, g.lst x2 (by simp [nea, neb]), g.lst x3 (by simp [nla, nlb]), x4.up g⟩
      have j6 : JL H6 := ⟨h5, h6, h7, h8⟩
      refine ⟨_, _, eg_name, ?_⟩
      -- need, stands = ..
      refine runx_asgG (S := [a, b]) (J := JL) (p := fun d => ∃ need stands, d = .tup [.int need, .int stands] ∧ 1 ≤ need ∧ need ≤ 99 ∧ 0 ≤ stands ∧ stands ≤ need) g6.tbs j6
        (fun σ Ha g j s Q q => ⟨_, s.raw (i := 0) rfl, by
          obtain ⟨v3, e3, r3⟩ := s.dat (i := 3) rfl
          cases (show v3 = _ from r3)
          exact ⟨_, e3, a, b, few, rfl, j.1, g.tbs, f0, f1, fun need stands v Hb n1 n2 n3 n4 gb hb r => q _ v Hb ⟨need, stands, rfl, n1, n2, n3, n4⟩ gb (jL2 _ _ gb j hb) r⟩⟩) fun d H7 hd7 g7 j7 => ?_
      obtain ⟨need, stands, rfl, n1, n2, n3, n4⟩ := hd7
      refine ⟨_, _, eg_tup rfl (eg_cons eg_name (eg_cons eg_name eg_nil)), ?_⟩
      -- deeper
      refine runx_asg (S := [a, b]) (J := JL) (p := fun d => ∃ k, d = .int k ∧ 0 ≤ k ∧ k < lv) g7.tbs j7 (ex_if (pb := fun _ => True)
        (ext_test (p := fun d => ∃ b, d = .bl b) (ex_op stL (ex_nextC (by simp) (by simp) stL (fun _ h => h.1) jL2 (fun H1 g => ev_raw rfl) (fun H1 g => ev_int) (by decide) (by decide)) (ex_pure stL fun H1 g => ev_int) fun x y ⟨r, e1, _⟩ e2 => by subst e1; subst e2; exact ⟨_, ⟨_, rfl⟩, os_eqI⟩) fun d ⟨b, e⟩ => ⟨b, e, trivial⟩)
        ((ex_pure stL fun H1 g => ev_I0 (ev_var rfl) ev_int).imp fun d e1 => ⟨deep - 1, e1, by omega, by omega⟩)
        ((ex_pure stL fun H1 g => ev_int).imp fun d e1 => ⟨0, e1, by omega, by omega⟩)) fun d H8 hd8 g8 j8 => ?_
      obtain ⟨k, rfl, k0, k1⟩ := hd8
      -- doors.append
      refine fun σ sl => ?_
      obtain ⟨v7, e7, r7⟩ := sl.dat (i := 7) rfl
      obtain ⟨v8, e8, r8⟩ := sl.dat (i := 8) rfl
      obtain ⟨v9, e9, r9⟩ := sl.dat (i := 9) rfl
      obtain ⟨v3, e3, r3⟩ := sl.dat (i := 3) rfl
      cases (show v7 = _ from r7); cases (show v8 = _ from r8); cases (show v9 = _ from r9); cases (show v3 = _ from r3)
      obtain ⟨x1, x2, x3, x4⟩ := j8
      refine ⟨_, sl.raw (i := 5) rfl, .inl ⟨rfl, xs, .inl (.inl x3)⟩, _, e7, _, e8, _, sl.raw (i := 0) rfl, _, sl.raw (i := 1) rfl, _, e9, _, e3, ?_⟩
      refine ⟨a, b, e, s, k, few, rfl, x1, x2, nea, neb, h4, hs12, k0, k1, f0, f1, g8.tbs, fun h s' v H9 hok s0' hm g9 hs9 he9 rv => ⟨(by show 3 ≤ sizeLine; decide), fun p np => ?_⟩⟩
      have nlS : l ∉ [a, b, e] := by simp [nla, nlb, nle]
      have hl9 : H9 l = some (.lst xs) := g9.lst x3 nlS
      have gp : Gr T [] H9 (upd H9 p (.tup [.int need, .int stands, v])) := Gr.new g9.tbs np
      have hlp := gp.lst hl9 (by simp)
      refine ⟨l, xs, .ref p, rfl, rfl, hlp, Nat.lt_of_lt_of_le (by omega : xs.length < 100) (by decide), ?_⟩
      have up3 : ∀ x ∈ [a, b, e], x ∈ [l, a, b, e] := fun x hx => List.mem_cons_of_mem _ hx
      have gX : Gr T [l, a, b, e] H6 (upd H9 p (.tup [.int need, .int stands, v])) := (((g7.mono fun x hx => up3 x (ab3 x hx)).trans (g8.mono fun x hx => up3 x (ab3 x hx))).trans (g9.mono up3)).trans gp.any
      have gl : Gr T [l, a, b, e] (upd H9 p (.tup [.int need, .int stands, v])) (upd (upd H9 p (.tup [.int need, .int stands, v])) l (.lst (xs ++ [.ref p]))) := (Gr.refl gp.tbs).put hlp (.inl (by simp))
      have rD : Rep K (upd H9 p (.tup [.int need, .int stands, v])) (.tup [.int need, .int stands, h.toD]) (.ref p) := ⟨p, _, rfl, .inl (.inl upd_same), _, _, rfl, rfl, _, _, rfl, rfl, _, _, rfl, rv.up gp, rfl⟩
      refine hN _ _ (gX.trans gl) ⟨ds.app (.cons need stands h .nil), s', xs ++ [.ref p], ?_, Doors.ok_app _ _ h2 (Doors.ok1 n1 n2 n3 n4 hok), ?_, s0', ?_, ?_, upd_same, ?_⟩ ?_
      · rw [Doors.len_app, h1]; rfl
      · rw [Doors.many_app]; simp only [Doors.many]; omega
      · obtain ⟨y1, y2, y3, y4, y5, y6⟩ := HS.stays _ _ gp hs9
        exact ⟨y1, y2, y3, by rw [upd_ne nla.symm]; exact y4, by rw [upd_ne nlb.symm]; exact y5, y6⟩
      · rw [upd_ne nle.symm]; exact gp.lst he9 (by simp)
      · rw [Doors.toDs_app]
        exact ((x4.up g9).up gp |>.app (es := [.tup [.int need, .int stands, h.toD]]) ⟨_, [], rfl, rD, rfl⟩).up gl
      · exact (Slots.less (.same _ (.same _ (.same _ (.same _ (.same _ (.same _ (.drop _ (.drop _ (.drop _ (.drop _ .nil)))))))))) ((sl.up g9).up gp)).up gl
    · obtain ⟨ds, s, xs, h1, h2, h3, h4, h5, h6, h7, h8⟩ := hI
      rw [List.length_map, List.length_range] at h1 h3
      let JL : Hp → Prop := fun H => HS a b H ∧ H e = some (.lst [.int s]) ∧ H l = some (.lst xs) ∧ Reps K H ds.toDs xs
      have stL : Stays T JL := fun Ha Hb g ⟨x1, x2, x3, x4⟩ => ⟨HS.stays _ _ g x1, g.lst x2 (by simp), g.lst x3 (by simp), x4.up g⟩
      have jL2 : ∀ Ha Hb, Gr T [a, b] Ha Hb → JL Ha → HS a b Hb → JL Hb := fun Ha Hb g ⟨x1, x2, x3, x4⟩ y => ⟨y, g.lst x2 (by simp [nea, neb]), g.lst x3 (by simp [nla, nlb]), x4.up g⟩
      have g06 : Gr T [a, b, e] H H6 := g05.drop g6 nl0
      refine runx_ret (S := [a, b]) (J := JL) g6.tbs ⟨h5, h6, h7, h8⟩ (p := fun d => ∃ hand, d = .tup [.int hand, .tup ds.toDs] ∧ 0 ≤ hand ∧ hand < m) (ex_tup (pa := fun es => ∃ hand, es = [.int hand, .tup ds.toDs] ∧ 0 ≤ hand ∧ hand < m) stL (fun σ Ha g j s Q q => xa_cons (ex_nextC (by simp) (by simp) stL (fun _ h => h.1) jL2 (fun H1 g => ev_raw rfl) (fun H1 g => ev_var rfl) (by omega) (by omega))
        (xa_cons (p := fun d => d = .tup ds.toDs) (fun σ Ha g j s Q q => (ev_tupL (ev_raw rfl) j.2.2.1 j.2.2.2) σ Ha g.self s Q fun v Hb g3 r => q _ v Hb rfl g3.any (stL _ _ g3 j) r) xa_nil) σ Ha g j s Q
          fun es vs Hb ⟨d, r, e1, ⟨k, ek, k0, k1⟩, d2, r2, e2, e3, e4⟩ => q es vs Hb ⟨k, by rw [e1, ek, e2, e3, e4], k0, k1⟩) fun es ⟨k, e1, k0, k1⟩ => ⟨by rw [e1]; simp, k, by rw [e1], k0, k1⟩) fun d v H7 ⟨hand, e1, k0, k1⟩ g7 j7 r => ?_
      subst e1
      have hmi : (m.toNat : Int) = m := by omega
      exact q (.room hand ds) s v H7 ⟨k0, by omega, by omega, h2⟩ h4 (by show ((ds.many : Nat) : Int) + s = s0; omega) (g06.trans (g7.mono ab3)) j7.1 j7.2.1 r
end
end Pd
namespace Pd
open PySem PySem.Spec PyProof.Rows L2
/-- a drawn house -/
def spHouse (T : Tb) (K : PySem.W.Frag) : Sp := fun vs H Q _ => ∃ (a b : Addr) (few : Int), vs = [.ref a, .int few] ∧ HS a b H ∧ Tbs T H ∧ 1 ≤ few ∧ few ≤ 99 ∧ ∀ (h : House) v H', h.ok → h.many ≤ 12 → Gr T [a, b] H H' → HS a b H' → Rep K H' h.toD v → Q v H'
theorem HS.there {a b : Addr} {H : Hp} (h : HS a b H) {l : Addr} (n : H l = none) : l ≠ a ∧ l ≠ b := by
  obtain ⟨_, _, _, h1, h2, _⟩ := h
  exact ⟨fun z => (by subst z; rw [h1] at n; cases n), fun z => (by subst z; rw [h2] at n; cases n)⟩
section
variable {P : Program} {w : World} {K : PySem.W.Frag} {mg : Str → Option Value} {base : Heap} {T : Tb} {f : Addr} {fd : FuncData}
theorem ok_house (B : Bl mg) (A : At K mg "_law_house" s__law_house ["_law_h", "_law_few"] f fd) (G__law_next : Ok P w K mg base 1 "_law_next" ["_law_h", "_law_many"] (spNext T)) (G__law_room : Ok P w K mg base 9 "_law_room" ["_law_h", "_law_spare", "_law_deep", "_law_few"] (spRoom T K 7)) :
    Ok P w K mg base 10 "_law_house" ["_law_h", "_law_few"] (spHouse T K) := by
  refine A.ok (A.F.ok sc__law_house (fun vs H Q E ⟨_, _, _, e, _⟩ => by rw [e]; rfl) fun cdv A outer s H vs Q E hr h => ⟨_, (pss_one (ps_ret (pe_own G__law_room hr (by decide) (by rfl) (pa_cons (pv 0) (pa_cons (pe_lst (pa_cons (pe_op op_add pe_int (pe_own G__law_next hr (by decide) (by rfl) (pa_cons (pv 0) (pa_cons pe_int pa_nil)))) pa_nil)) (pa_cons (pe_own G__law_next hr (by decide) (by rfl) (pa_cons (pv 0) (pa_cons pe_int pa_nil))) (pa_cons (pv 1) pa_nil))))))), ?_⟩)
  obtain ⟨a, b, few, rfl, hS, hT, f0, f1, q⟩ := h
  refine ⟨_, rfl, _, rfl, a, b, 12, rfl, hS, hT, by decide, by decide, fun r H1 r0 r1 g1 hs1 => ?_⟩
  refine ⟨1, r, rfl, rfl, (by show 1 ≤ sizeLine; decide), fun e ne => ?_⟩
  have g2 : Gr T [] H1 (upd H1 e (.lst [.int (1 + r)])) := Gr.new g1.tbs ne
  have hs2 := HS.stays _ _ g2 hs1
  obtain ⟨nea, neb⟩ := hs1.there ne
  refine ⟨_, rfl, a, b, 7, rfl, hs2, g2.tbs, by decide, by decide, fun d H3 d0 d1 g3 hs3 => ?_⟩
  have he3 : H3 e = some (.lst [.int (1 + r)]) := g3.lst upd_same (by simp [nea, neb])
  refine ⟨_, rfl, a, b, e, 1 + r, d, few, rfl, hs3, he3, nea, neb, by omega, by omega, d0, d1, f0, f1, g3.tbs, fun h s' v H4 hok s0 hm g4 hs4 he4 rv => ?_⟩
  have g23 : Gr T [a, b] H H3 := (g1.trans g2.any).trans g3
  have e0 : H e = none := g1.dom e ne
  refine q h v H4 hok (by omega) ?_ hs4 rv
  refine g23.drop (l := e) (g4.mono fun x hx => ?_) e0
  rcases (by simpa using hx : x = a ∨ x = b ∨ x = e) with rfl | rfl | rfl <;> simp
end
end Pd
namespace Pd
open PySem PySem.Spec PyProof.Rows L2
mutual
theorem House.deep_step' : ∀ h : House, h.step.2.deep = h.deep
  | .out _ => rfl
  | .room hand ds => congrArg (· + 1) (Doors.deep_step' ds hand.toNat)
theorem Doors.deep_step' : ∀ (ds : Doors) (i : Nat), (ds.step i).2.deep = ds.deep
  | .nil, _ => rfl
  | .cons n s h r, 0 => by
    unfold Doors.step
    split
    · rfl
    · simp only [Doors.deep, House.deep_step' h]
  | .cons n s h r, i + 1 => by simp only [Doors.step, Doors.deep, Doors.deep_step' r i]
end
mutual
theorem House.told_len' : ∀ h : House, h.step.1.1.length ≤ h.deep
  | .out _ => Nat.le_refl _
  | .room hand ds => Nat.succ_le_succ (Doors.told_len' ds hand.toNat)
theorem Doors.told_len' : ∀ (ds : Doors) (i : Nat), (ds.step i).1.1.length ≤ ds.deep
  | .nil, _ => Nat.le_refl _
  | .cons n s h r, 0 => by
    unfold Doors.step
    split
    · exact Nat.zero_le _
    · exact Nat.le_trans (House.told_len' h) (Nat.le_max_left _ _)
  | .cons n s h r, i + 1 => Nat.le_trans (Doors.told_len' r i) (Nat.le_max_right _ _)
end
theorem Gr.dropL {T : Tb} {S L : List Addr} {H H' H2 : Hp} (a : Gr T S H H') (b : Gr T (L ++ S) H' H2) (h : ∀ x ∈ L, H x = none) : Gr T S H H2 :=
  ⟨fun c o n e q => b.keep c o (fun z => (List.mem_append.mp z).elim (fun z => by rw [h c z] at e; cases e) n) (a.keep c o n e q) q, fun c o e q => b.fast c o (a.fast c o e q) q, fun c e => a.dom c (b.dom c e), b.tbs⟩
section
variable {T : Tb} {K : PySem.W.Frag} {δ : List (Option SD)} {H : Hp} {a b : Addr} {E : XK} {S : List Addr} {ta tv tn tl tm : TE} {u : TS} {B : Ends}
/-- a house is drawn -/
theorem ex_house {ts : TA} {few : Int → Prop} (h : ExS T K [a, b] (HS a b) ts δ H (fun ss => ∃ n, ss = [.v (.ref a), .d (.int n)] ∧ few n)) (hf : ∀ n, few n → 1 ≤ n ∧ n ≤ 99) : EvX T K [a, b] (HS a b) (tCall (spHouse T K) [] E ts) δ H (fun d => ∃ h : House, d = h.toD ∧ h.ok ∧ h.many ≤ 12) := fun σ H1 g j s Q q =>
  h σ H1 g j s _ fun ss vs H2 ⟨n, e, fn⟩ g2 j2 r => by
    subst e
    obtain ⟨x1, r1, e1, h1, x2, r2, e2, h2, e3⟩ := r
    cases (show r2 = [] from e3)
    cases (show some x1 = some (.ref a) from h1); cases (show x2 = .int n from h2)
    subst e2; subst e1
    rw [List.append_nil]
    obtain ⟨f0, f1⟩ := hf n fn
    exact ⟨a, b, n, rfl, j2, g2.tbs, f0, f1, fun hh v H3 ok m g3 j3 rv => q hh.toD v H3 ⟨hh, rfl, ok, m⟩ (g2.trans g3) j3 rv⟩
/-- what is drawn from -/
theorem run_mix {c : Addr} {ns : List Int} {z : Int} {n : Nat} (hT : Tbs T H) (ha : EvV T K ta δ H (.ref c)) (hb : EvD T K tv δ H (.int z)) (hs : SqL K H c (ns.map V.int)) (hl : ns.length ≤ 63) (z0 : 0 ≤ z) (z1 : z < 2147483647)
    (k : ∀ a b H1, H a = none → H b = none → Gr T [] H H1 → HS a b H1 → Run K u B (δ.set n (some (.v (.ref a)))) H1) : Run K (tSeq (tAsg (tCall (spMix T K) [] E (tCons ta (tCons tv tNil))) (gName n)) u) B δ H := fun σ s =>
  ha σ H (Gr.refl hT) s _ fun H1 g1 => hb σ H1 g1 (s.up g1) _ fun v H2 g2 r => by
    cases (show v = .int z from r)
    have g12 := g1.trans g2
    exact ⟨c, ns, z, rfl, g12.sqL hs, hl, g12.tbs, z0, z1, fun a b H3 na nb g3 h3 => k a b H3 (g12.dom a na) (g12.dom b nb) (g12.trans g3) h3 _ ((s.up (g12.trans g3)).set n (show SlotOk K H3 (some (.v (.ref a))) (some (.ref a)) from rfl))⟩
end
end Pd
set_option maxHeartbeats 4000000
namespace Pd
open PySem PySem.Spec PyProof.Rows L2
mutual
theorem House.fit11 : ∀ (h : House) (k : Nat), h.ok → 3 * h.deep + 1 ≤ k → h.toD.fit k
  | .out n, k, _, hk => by show 0 < k; omega
  | .room hand ds, k, ⟨_, _, h2, h3⟩, hk => by
    have hk' : 3 * (ds.deep + 1) + 1 ≤ k := hk
    refine ⟨by simp, ⟨by show 0 < k - 1; omega, ⟨by rw [Doors.toDs_len]; omega, Doors.fit11 ds (k - 1 - 1) h3 (by omega), by omega⟩, trivial⟩, by omega⟩
theorem Doors.fit11 : ∀ (ds : Doors) (k : Nat), ds.ok → 3 * ds.deep + 2 ≤ k → D.fits k ds.toDs
  | .nil, _, _, _ => trivial
  | .cons n s h r, k, ⟨_, _, _, _, h5, h6⟩, hk => by
    have a : h.deep ≤ (Doors.cons n s h r).deep := Nat.le_max_left _ _
    have b : r.deep ≤ (Doors.cons n s h r).deep := Nat.le_max_right _ _
    refine ⟨⟨by simp, ⟨by show 0 < k - 1; omega, by show 0 < k - 1; omega, House.fit11 h (k - 1) h5 (by omega), trivial⟩, by omega⟩, Doors.fit11 r k h6 (by omega)⟩
end
section
variable {P : Program} {w : World} {K : PySem.W.Frag} {mg : Str → Option Value} {base : Heap} {T : Tb} {f : Addr} {fd : FuncData}
/-- the law holds of every script -/
def spLaw (T : Tb) (K : PySem.W.Frag) : Sp := fun vs H Q _ => ∃ (a : Addr) (ns : List Int), vs = [.ref a] ∧ SqL K H a (ns.map V.int) ∧ ns.length ≤ 63 ∧ Tbs T H ∧ ∀ H', Q (.bl true) H'
theorem ok_law (B : Bl mg) (A : At K mg "law" s_law ["_law_script"] f fd)
    (G__law_mix : Ok P w K mg base 1 "_law_mix" ["_law_script", "_law_seed"] (spMix T K)) (G__law_house : Ok P w K mg base 10 "_law_house" ["_law_h", "_law_few"] (spHouse T K))
    (G__law_alike : Ok P w K mg base 60 "_law_alike" ["_law_found", "_law_due"] (spAlike T K 60)) (G__law_rows : Ok P w K mg base 13 "_law_rows" ["_law_room_here"] (spRL T K (RRows 13)))
    (G_written : Ok P w K mg base 15 "written" ["house"] (spR T K RWritten)) (G_read : Ok P w K mg base 4 "read" ["text"] (spR T K RRead)) : FnOk P w K mg base CX0 62 f fd ["_law_script"] (spLaw T K) := by
  refine A.F.ok (k := 61) sc_law (fun vs H Q E ⟨_, _, e, _⟩ => by rw [e]; rfl) fun cdv A' outer s H vs Q E hr h => ⟨_, (pss_cons (ps_set (i := 1) sc_law.nd rfl (Or.inl rfl) (pe_own G__law_mix hr (by decide) (by rfl) (pa_cons (pv 0) (pa_cons pe_int pa_nil))))
    (pss_cons (ps_for PassesOwn.never rfl (pi_range1 (by rfl) B.range (pa_cons pe_int pa_nil)) (pg_name (i := 2) sc_law.nd rfl (Or.inl rfl)) (pss_cons (ps_set (i := 3) sc_law.nd rfl (Or.inl rfl) (pe_own G__law_house hr (by decide) (by rfl) (pa_cons (pv 1) (pa_cons pe_int pa_nil))))
    (pss_cons (ps_set (i := 4) sc_law.nd rfl (Or.inl rfl) (pe_join pe_str (pe_own G__law_rows hr (by decide) (by rfl) (pa_cons (pv 3) pa_nil))))
    (pss_one (ps_if (PW.pt (pw_or (pt_cmpR op_ne (pe_own G_written hr (by decide) (by rfl) (pa_cons (pv 3) pa_nil)) (pv 4) (nomark _)) (pw_or1 (pt_not (pt_val (pe_own G__law_alike hr (by decide) (by rfl) (pa_cons (pe_own G_read hr (by decide) (by rfl) (pa_cons (pv 4) pa_nil)) (pa_cons (pv 3) pa_nil)))))))) (pss_one ps_never) pss_nil)))))
    (pss_one (ps_ret pe_bl)))), ?_⟩
  obtain ⟨a0, ns, rfl, hsq, hlen, hT, q⟩ := h
  dsimp only [Cx.nox, Cx.wish, cxOf]
  suffices hR : Run K _ _ [some (.v (.ref a0)), none, none, none, none] H from
    hR _ ⟨_, _, rfl, rfl, _, _, rfl, trivial, _, _, rfl, trivial, _, _, rfl, trivial, _, _, rfl, trivial, rfl⟩
  refine run_mix hT (ev_raw rfl) ev_int hsq hlen (by decide) (by decide) fun a b H1 na nb g1 hs1 => ?_
  have st : Stays T (HS a b) := HS.stays
  refine run_for (S := [a, b]) g1.tbs (ei_range (ea_cons ev_int ea_nil) (by decide) (by decide)) (fun _ => [some (.v (.ref a0)), some (.v (.ref a)), none, none, none]) (fun _ H => HS a b H) (Less.refl _) (fun H2 g2 => HS.stays _ _ g2 hs1) (fun i H2 H3 g hs => HS.stays _ _ g hs) (fun i d H2 N hd0 g2 hs2 hN => ?_) (fun H2 g2 hs2 => run_last (run_ret g2.tbs ev_bl fun v H3 g3 r => by cases (show v = .bl true from r); exact q H3))
  refine ⟨_, _, eg_name, ?_⟩
  refine runx_asg (S := [a, b]) (J := HS a b) g2.tbs hs2 (ex_house (few := fun n => n = 99) ((xs_v st (fun _ _ => ev_raw rfl) (xs_d (ex_pure st fun _ _ => ev_int) xs_nil)).imp (by rintro ss ⟨_, rfl, _, _, rfl, rfl, rfl⟩; exact ⟨99, rfl, rfl⟩)) (by rintro n rfl; omega)) fun d0 H3 ⟨h, e0, hok, h12⟩ g3 hs3 => ?_
  subst e0
  have hd := House.deep_le h hok
  refine run_asg g3.tbs (ev_joinN ev_str (ev_callL (ea_cons (ev_var rfl) ea_nil) ⟨h, rfl, hok, by omega, h12, rfl⟩) (Nat.le_trans (text_fits hok h12) (by decide))) fun H4 g4 => ?_
  refine run_last (run_when g4.tbs ((et_or (a := false) (b := false) ((et_test (ev_neS (a := h.text) (b := h.text) (ev_call (ea_cons (ev_var rfl) ea_nil) ⟨h, rfl, hok, h12, rfl⟩) (ev_var rfl))).is (by simp)) fun _ => (et_not (et_B (ev_alike (d := h.toD) (ea_cons (ev_call (ea_cons (ev_var rfl) ea_nil) ⟨h, rfl, hok, h12, rfl⟩) (ea_cons (ev_var rfl) ea_nil)) (House.fit11 h 60 hok (by omega))))).is rfl).is rfl) (fun e => nomatch e) fun _ H5 g5 => run_next fun σ s => ?_)
  have gg := g4.trans g5
  exact hN σ H5 (g3.trans gg.any) (HS.stays _ _ gg hs3) (Slots.less (.same _ (.same _ (.drop _ (.drop _ (.drop _ .nil))))) s)
end
end Pd
set_option maxHeartbeats 2000000
namespace Pd
open PySem PySem.Spec PyProof.Rows L2
/-- the defs as they stand -/
structure Defs (K : PySem.W.Frag) (mg : Str → Option Value) (c1 c2 c3 : Addr) : Prop where
  d_is_way_out : ∃ f fd, At K mg "is_way_out" s_is_way_out ["room"] f fd
  d_is_name : ∃ f fd, AtC K mg "is_name" s_is_name ["text"] f fd c1
  d_is_door : ∃ f fd, At K mg "is_door" s_is_door ["door"] f fd
  d_can_be : ∃ f fd, AtC K mg "can_be" s_can_be ["room"] f fd c2
  d_rooms_behind : ∃ f fd, At K mg "rooms_behind" s_rooms_behind ["room", "path"] f fd
  d_check_house : ∃ f fd, At K mg "check_house" s_check_house ["house"] f fd
  d_rows_of : ∃ f fd, At K mg "rows_of" s_rows_of ["room"] f fd
  d_written : ∃ f fd, At K mg "written" s_written ["house"] f fd
  d_is_number : ∃ f fd, AtC K mg "is_number" s_is_number ["word"] f fd c3
  d_can_stand : ∃ f fd, At K mg "can_stand" s_can_stand ["words", "wanted"] f fd
  d_wanted_behind : ∃ f fd, At K mg "wanted_behind" s_wanted_behind ["words"] f fd
  d_words_of_rows : ∃ f fd, At K mg "words_of_rows" s_words_of_rows ["text"] f fd
  d_built : ∃ f fd, At K mg "built" s_built ["told"] f fd
  d_read : ∃ f fd, At K mg "read" s_read ["text"] f fd
  d__law_mix : ∃ f fd, At K mg "_law_mix" s__law_mix ["_law_script", "_law_seed"] f fd
  d__law_next : ∃ f fd, At K mg "_law_next" s__law_next ["_law_h", "_law_many"] f fd
  d__law_alike : ∃ f fd, At K mg "_law_alike" s__law_alike ["_law_found", "_law_due"] f fd
  d__law_door : ∃ f fd, At K mg "_law_door" s__law_door ["_law_h", "_law_few"] f fd
  d__law_room : ∃ f fd, At K mg "_law_room" s__law_room ["_law_h", "_law_spare", "_law_deep", "_law_few"] f fd
  d__law_house : ∃ f fd, At K mg "_law_house" s__law_house ["_law_h", "_law_few"] f fd
  d__law_rows : ∃ f fd, At K mg "_law_rows" s__law_rows ["_law_room_here"] f fd
  d_law : ∃ f fd, At K mg "law" s_law ["_law_script"] f fd
theorem asm {P : Program} {w : World} {K : PySem.W.Frag} {mg : Str → Option Value} {base : Heap} {c1 c2 c3 P1 P2 P3 : Addr} (B : Bl mg) (D : Defs K mg c1 c2 c3)
    (T1 : LamX.TabB base mg c1 P1) (T2 : LamX.TabB base mg c2 P2) (T3 : LamX.TabB base mg c3 P3)  :
    ∃ f fd, At K mg "law" s_law ["_law_script"] f fd ∧ FnOk P w K mg base CX0 62 f fd ["_law_script"] (spLaw ⟨[P1, P2, P3], []⟩ K) := by
  obtain ⟨f_is_way_out, fd_is_way_out, A_is_way_out⟩ := D.d_is_way_out
  obtain ⟨f_is_name, fd_is_name, A_is_name⟩ := D.d_is_name
  obtain ⟨f_is_door, fd_is_door, A_is_door⟩ := D.d_is_door
  obtain ⟨f_can_be, fd_can_be, A_can_be⟩ := D.d_can_be
  obtain ⟨f_rooms_behind, fd_rooms_behind, A_rooms_behind⟩ := D.d_rooms_behind
  obtain ⟨f_check_house, fd_check_house, A_check_house⟩ := D.d_check_house
  obtain ⟨f_rows_of, fd_rows_of, A_rows_of⟩ := D.d_rows_of
  obtain ⟨f_written, fd_written, A_written⟩ := D.d_written
  obtain ⟨f_is_number, fd_is_number, A_is_number⟩ := D.d_is_number
  obtain ⟨f_can_stand, fd_can_stand, A_can_stand⟩ := D.d_can_stand
  obtain ⟨f_wanted_behind, fd_wanted_behind, A_wanted_behind⟩ := D.d_wanted_behind
  obtain ⟨f_words_of_rows, fd_words_of_rows, A_words_of_rows⟩ := D.d_words_of_rows
  obtain ⟨f_built, fd_built, A_built⟩ := D.d_built
  obtain ⟨f_read, fd_read, A_read⟩ := D.d_read
  obtain ⟨f__law_mix, fd__law_mix, A__law_mix⟩ := D.d__law_mix
  obtain ⟨f__law_next, fd__law_next, A__law_next⟩ := D.d__law_next
  obtain ⟨f__law_alike, fd__law_alike, A__law_alike⟩ := D.d__law_alike
  obtain ⟨f__law_door, fd__law_door, A__law_door⟩ := D.d__law_door
  obtain ⟨f__law_room, fd__law_room, A__law_room⟩ := D.d__law_room
  obtain ⟨f__law_house, fd__law_house, A__law_house⟩ := D.d__law_house
  obtain ⟨f__law_rows, fd__law_rows, A__law_rows⟩ := D.d__law_rows
  obtain ⟨f_law, fd_law, A_law⟩ := D.d_law
  generalize hT : (⟨[P1, P2, P3], []⟩ : Tb) = T
  have hg1 : P1 ∈ T.g := by rw [← hT]; simp
  have hl1 : ∀ p ∈ T.l, p.1 ≠ P1 := by rw [← hT]; simp
  have hg2 : P2 ∈ T.g := by rw [← hT]; simp
  have hl2 : ∀ p ∈ T.l, p.1 ≠ P2 := by rw [← hT]; simp
  have hg3 : P3 ∈ T.g := by rw [← hT]; simp
  have hl3 : ∀ p ∈ T.l, p.1 ≠ P3 := by rw [← hT]; simp
  clear hT
  have G_way : Ok P w K mg base 1 "is_way_out" ["room"] (spR T K RWay) := ok_way B A_is_way_out
  have G_isname : Ok P w K mg base 1 "is_name" ["text"] (spR T K RName) := ok_isname B ⟨T1.code, T1.bm, T1.gP⟩ hg1 hl1 A_is_name
  have G_canbe : Ok P w K mg base 2 "can_be" ["room"] (spR T K RCan) := ok_canbe B ⟨T2.code, T2.bm, T2.gP⟩ hg2 hl2 A_can_be A_is_door G_way G_isname
  have G_behind : Ok P w K mg base 2 "rooms_behind" ["room", "path"] (spRL T K RBehind) := ok_behind B A_rooms_behind G_way
  have G_check : Ok P w K mg base 3 "check_house" ["house"] (spR T K RCheck) := ok_check B A_check_house G_canbe G_behind
  have G_next : Ok P w K mg base 1 "_law_next" ["_law_h", "_law_many"] (spNext T) := ok_next B A__law_next
  have G_door : Ok P w K mg base 2 "_law_door" ["_law_h", "_law_few"] (spDoor T K) := ok_door B A__law_door G_next
  have G_room : Ok P w K mg base 9 "_law_room" ["_law_h", "_law_spare", "_law_deep", "_law_few"] (spRoom T K 7) := ok_room B A__law_room G_next G_door 7
  have G_house : Ok P w K mg base 10 "_law_house" ["_law_h", "_law_few"] (spHouse T K) := ok_house B A__law_house G_next G_room
  have G_isnum : Ok P w K mg base 1 "is_number" ["word"] (spR T K RNum) := ok_isnum B ⟨T3.code, T3.bm, T3.gP⟩ hg3 hl3 A_is_number
  refine ⟨f_law, fd_law, A_law, ok_law (P := P) (w := w) (base := base) (T := T) B A_law (ok_mix B A__law_mix) G_house (ok_alike B A__law_alike 60) (ok_lrows B A__law_rows 13) (ok_written B A_written G_check (ok_rows B A_rows_of G_way 13)) (ok_read B A_read (ok_built B A_built) (ok_words B A_words_of_rows (ok_stand B A_can_stand G_isname G_isnum) (ok_wanted B A_wanted_behind)) G_check)⟩
end Pd
set_option maxHeartbeats 0
namespace Pd
open PySem PySem.Spec PyProof.Rows L2
def dd (x : Str) (st : Stmt) : He.DefD := ⟨(x, none), x, x, defArgs st, defBody st, defScope st, [], []⟩
def fnL : List He.DefD := [dd "is_way_out" s_is_way_out, dd "is_name" s_is_name, dd "is_door" s_is_door, dd "can_be" s_can_be, dd "rooms_behind" s_rooms_behind, dd "check_house" s_check_house, dd "rows_of" s_rows_of, dd "written" s_written, dd "is_number" s_is_number, dd "can_stand" s_can_stand, dd "wanted_behind" s_wanted_behind, dd "words_of_rows" s_words_of_rows, dd "built" s_built, dd "read" s_read, dd "_law_mix" s__law_mix, dd "_law_next" s__law_next, dd "_law_alike" s__law_alike, dd "_law_door" s__law_door, dd "_law_room" s__law_room, dd "_law_house" s__law_house, dd "_law_rows" s__law_rows, dd "law" s_law]
def faL0 : List He.Fa := [.glo "is_way_out", .glo "is_name", .glo "is_door", .glo "can_be", .glo "rooms_behind", .glo "check_house", .glo "rows_of", .glo "written", .glo "is_number", .glo "can_stand", .glo "wanted_behind", .glo "words_of_rows", .glo "built", .glo "read", .glo "_law_mix", .glo "_law_next", .glo "_law_alike", .glo "_law_door", .glo "_law_room", .glo "_law_house", .glo "_law_rows", .glo "law", .free "all", .free "bool", .free "enumerate", .free "int", .free "isinstance", .free "len", .free "list", .free "max"]
def faL1 : List He.Fa := [.free "min", .free "range", .free "str", .free "tuple", .int "LONGEST_NAME" 6, .int "MOST_DOORS_OF_A_ROOM" 4, .int "MOST_DOORS_OF_A_HOUSE" 12, .int "MOST_NEED" 99, .int "MOST_FIGURES" 2, .str "LETTERS" "abcdefghijklmnopqrstuvwxyz", .str "FIGURES" "0123456789"]
def faL : List He.Fa := faL0 ++ faL1
def tfL : List He.Defn := [("is_name", none), ("can_be", none), ("is_number", none)]
def kit1 (K : PySem.W.Frag) (x : Str) (b : Bool) : Bool := decide (PySem.W.kitOne K (.ref (He.ga K "BadCount")) (.ref (He.ga K x)) = some b)
def exL (K : PySem.W.Frag) : Bool := true
where tb (K : PySem.W.Frag) (i j : Nat) : Bool := decide ((tfL.map fun p => (He.cT K p).2)[i]? ≠ (tfL.map fun p => (He.cT K p).2)[j]?)
abbrev R : PySem.W.OpenRow := PySem.W.OpenLaw.row PySem.Challenge.rw_pushdoors_k11_houses_written_and_read
abbrev qV : Program := PySem.W.view R.prog [35]
abbrev hk : PySem.W.Hook := He.hookX 4 faL fnL [] tfL exL
def ob (s : PySem.W.SharedT) : He.AlX := He.obsX 4 faL fnL [] tfL exL (HandSHeadRun.getT s)
theorem ob_eq (s : PySem.W.SharedT) : ob s = hk.obs s.abs := He.obsX_eq (HandSHeadRun.getT_eq s)
def loose0 : List PySem.Str := ["DoorError", "BadHouse", "BadText", "LETTERS", "LONGEST_NAME", "MOST_DOORS_OF_A_ROOM", "MOST_DOORS_OF_A_HOUSE", "MOST_NEED", "FIGURES", "MOST_FIGURES", "is_way_out", "is_name", "is_door", "can_be", "rooms_behind", "check_house", "rows_of", "written", "is_number", "can_stand", "wanted_behind", "words_of_rows", "built", "read", "_law_mix"]
def loose1 : List PySem.Str := ["_law_next", "_law_alike", "_law_door", "_law_room", "_law_house", "_law_rows"]
def loose : List PySem.Str := loose0 ++ loose1
theorem run (w : World) : HandSHeadRun.RunEq R qV hk ob 3000 loose w := by
  intro os
  kernel_rfl
end Pd
namespace Pd
open PySem PySem.Spec PyProof.Rows L2
section
variable {K : PySem.W.Frag} {h : Heap} {mg : Str → Option Value}
theorem fun_of {x : Str} {st : Stmt} {f : Addr} {fd : FuncData} (F : FunD K x x (defArgs st) (defBody st) (defScope st) [] [] f fd) : Fun K x x st f fd := by
  obtain ⟨oc, od, dV, kV, doc, pm, an, cdv, ct, osl, e, lk, hc, hd, _⟩ := F.ex
  rcases hd with ⟨_, hd⟩ | ⟨hd, _⟩
  · subst hd
    exact ⟨⟨oc, od, kV, doc, pm, an, cdv, ct, osl, e, lk, hc⟩, F.kp⟩
  · exact absurd rfl hd
theorem at_of {x : Str} {st : Stmt} {ps : List Str} (X : K.In h) (G : h.Ns mainGlobals mg) (c : He.SaysD faL fnL K) (hd : dd x st ∈ fnL) (hg : He.Fa.glo x ∈ faL)
    (hb : ∀ (kV doc pm : Value) (an : Option Addr) (cdv ct : Value) (us : List Value), us.length = ps.length → bindArgs (PySem.W.fnOf x x (defArgs st) (defBody st) (defScope st) .none kV doc pm an cdv ct) ⟨us, []⟩ = pure (ps.zip us)) : ∃ f fd, At K mg x st ps f fd := by
  obtain ⟨fd, F⟩ := c.defs hd
  have F2 : Fun K x x st (He.ga K x) fd := fun_of F
  exact ⟨_, fd, F2, F2.binds hb, He.glo_ok X G (c.facts hg)⟩
theorem atC_of {x : Str} {st : Stmt} {ps : List Str} (X : K.In h) (G : h.Ns mainGlobals mg) (c : He.SaysD faL fnL K) (hd : dd x st ∈ fnL) (hg : He.Fa.glo x ∈ faL)
    (hb : ∀ (kV doc pm : Value) (an : Option Addr) (cdv ct : Value) (us : List Value), us.length = ps.length → bindArgs (PySem.W.fnOf x x (defArgs st) (defBody st) (defScope st) .none kV doc pm an cdv ct) ⟨us, []⟩ = pure (ps.zip us)) : ∃ f fd, AtC K mg x st ps f fd (He.cT K (x, none)).1 := by
  obtain ⟨fd, F⟩ := c.defs hd
  have F2 : Fun K x x st (He.ga K x) fd := fun_of F
  have hB := F2.binds hb
  obtain ⟨oc, od, kV, doc, pm, an, cdv, ct, osl, e, lk, hc⟩ := F2.ex
  obtain ⟨cc, rfl⟩ := He.codeIn_ref hc
  have ec : (He.cT K (x, none)).1 = cc := He.codeOf_eq (p := (x, none)) lk (by rw [e])
  rw [ec]
  exact ⟨_, fd, ⟨⟨oc, od, kV, doc, pm, an, ct, osl, e, lk, hc⟩, F2.kp⟩, hB, He.glo_ok X G (c.facts hg)⟩
theorem mem_fn (d : He.DefD) (i : Nat) (h : fnL[i]? = some d) : d ∈ fnL := List.mem_of_getElem? h
theorem mem_fa (d : He.Fa) (i : Nat) (h : faL[i]? = some d) : d ∈ faL := List.mem_of_getElem? h
theorem defs_of (X : K.In h) (G : h.Ns mainGlobals mg) (c : He.SaysD faL fnL K) : Defs K mg (He.cT K ("is_name", none)).1 (He.cT K ("can_be", none)).1 (He.cT K ("is_number", none)).1 where
  d_is_way_out := at_of X G c (mem_fn _ 0 rfl) (mem_fa _ 0 rfl) fun _ _ _ _ _ _ us hl => match us, hl with | [_], _ => rfl
  d_is_name := atC_of X G c (mem_fn _ 1 rfl) (mem_fa _ 1 rfl) fun _ _ _ _ _ _ us hl => match us, hl with | [_], _ => rfl
  d_is_door := at_of X G c (mem_fn _ 2 rfl) (mem_fa _ 2 rfl) fun _ _ _ _ _ _ us hl => match us, hl with | [_], _ => rfl
  d_can_be := atC_of X G c (mem_fn _ 3 rfl) (mem_fa _ 3 rfl) fun _ _ _ _ _ _ us hl => match us, hl with | [_], _ => rfl
  d_rooms_behind := at_of X G c (mem_fn _ 4 rfl) (mem_fa _ 4 rfl) fun _ _ _ _ _ _ us hl => match us, hl with | [_, _], _ => rfl
  d_check_house := at_of X G c (mem_fn _ 5 rfl) (mem_fa _ 5 rfl) fun _ _ _ _ _ _ us hl => match us, hl with | [_], _ => rfl
  d_rows_of := at_of X G c (mem_fn _ 6 rfl) (mem_fa _ 6 rfl) fun _ _ _ _ _ _ us hl => match us, hl with | [_], _ => rfl
  d_written := at_of X G c (mem_fn _ 7 rfl) (mem_fa _ 7 rfl) fun _ _ _ _ _ _ us hl => match us, hl with | [_], _ => rfl
  d_is_number := atC_of X G c (mem_fn _ 8 rfl) (mem_fa _ 8 rfl) fun _ _ _ _ _ _ us hl => match us, hl with | [_], _ => rfl
  d_can_stand := at_of X G c (mem_fn _ 9 rfl) (mem_fa _ 9 rfl) fun _ _ _ _ _ _ us hl => match us, hl with | [_, _], _ => rfl
  d_wanted_behind := at_of X G c (mem_fn _ 10 rfl) (mem_fa _ 10 rfl) fun _ _ _ _ _ _ us hl => match us, hl with | [_], _ => rfl
  d_words_of_rows := at_of X G c (mem_fn _ 11 rfl) (mem_fa _ 11 rfl) fun _ _ _ _ _ _ us hl => match us, hl with | [_], _ => rfl
  d_built := at_of X G c (mem_fn _ 12 rfl) (mem_fa _ 12 rfl) fun _ _ _ _ _ _ us hl => match us, hl with | [_], _ => rfl
  d_read := at_of X G c (mem_fn _ 13 rfl) (mem_fa _ 13 rfl) fun _ _ _ _ _ _ us hl => match us, hl with | [_], _ => rfl
  d__law_mix := at_of X G c (mem_fn _ 14 rfl) (mem_fa _ 14 rfl) fun _ _ _ _ _ _ us hl => match us, hl with | [_, _], _ => rfl
  d__law_next := at_of X G c (mem_fn _ 15 rfl) (mem_fa _ 15 rfl) fun _ _ _ _ _ _ us hl => match us, hl with | [_, _], _ => rfl
  d__law_alike := at_of X G c (mem_fn _ 16 rfl) (mem_fa _ 16 rfl) fun _ _ _ _ _ _ us hl => match us, hl with | [_, _], _ => rfl
  d__law_door := at_of X G c (mem_fn _ 17 rfl) (mem_fa _ 17 rfl) fun _ _ _ _ _ _ us hl => match us, hl with | [_, _], _ => rfl
  d__law_room := at_of X G c (mem_fn _ 18 rfl) (mem_fa _ 18 rfl) fun _ _ _ _ _ _ us hl => match us, hl with | [_, _, _, _], _ => rfl
  d__law_house := at_of X G c (mem_fn _ 19 rfl) (mem_fa _ 19 rfl) fun _ _ _ _ _ _ us hl => match us, hl with | [_, _], _ => rfl
  d__law_rows := at_of X G c (mem_fn _ 20 rfl) (mem_fa _ 20 rfl) fun _ _ _ _ _ _ us hl => match us, hl with | [_], _ => rfl
  d_law := at_of X G c (mem_fn _ 21 rfl) (mem_fa _ 21 rfl) fun _ _ _ _ _ _ us hl => match us, hl with | [_], _ => rfl
theorem bl_of (X : K.In h) (G : h.Ns mainGlobals mg) (c : He.SaysD faL fnL K) : Bl mg where
  all := He.free_ok X G (c.facts (mem_fa _ 22 rfl))
  bool := He.free_ok X G (c.facts (mem_fa _ 23 rfl))
  enumerate := He.free_ok X G (c.facts (mem_fa _ 24 rfl))
  int := He.free_ok X G (c.facts (mem_fa _ 25 rfl))
  isinstance := He.free_ok X G (c.facts (mem_fa _ 26 rfl))
  len := He.free_ok X G (c.facts (mem_fa _ 27 rfl))
  list := He.free_ok X G (c.facts (mem_fa _ 28 rfl))
  max := He.free_ok X G (c.facts (mem_fa _ 29 rfl))
  min := He.free_ok X G (c.facts (mem_fa _ 30 rfl))
  range := He.free_ok X G (c.facts (mem_fa _ 31 rfl))
  str := He.free_ok X G (c.facts (mem_fa _ 32 rfl))
  tuple := He.free_ok X G (c.facts (mem_fa _ 33 rfl))
  LONGEST_NAME := He.int_ok X G (c.facts (mem_fa _ 34 rfl))
  MOST_DOORS_OF_A_ROOM := He.int_ok X G (c.facts (mem_fa _ 35 rfl))
  MOST_DOORS_OF_A_HOUSE := He.int_ok X G (c.facts (mem_fa _ 36 rfl))
  MOST_NEED := He.int_ok X G (c.facts (mem_fa _ 37 rfl))
  MOST_FIGURES := He.int_ok X G (c.facts (mem_fa _ 38 rfl))
  LETTERS := He.str_ok X G (c.facts (mem_fa _ 39 rfl))
  FIGURES := He.str_ok X G (c.facts (mem_fa _ 40 rfl))
theorem law_at {w : World} {fa : Addr} (X : K.In h) (G : h.Ns mainGlobals mg) (hfa : mg ("law" : Str) = some (.ref fa)) (c : He.SaysX faL fnL [] tfL exL w h K) :
    LamX.LawAtS PySem.Challenge.rw_pushdoors_k11_houses_written_and_read w K CX0 62 63 "_law_script" mg fa h := by
  have D := defs_of X G c.t.d
  have B := bl_of X G c.t.d
  have ne : ∀ {x y : Addr}, decide (some x ≠ some y) = true → x ≠ y := fun h z => of_decide_eq_true h (by rw [z])
  have hs := fun base (hb : ∀ p ∈ tfL.map (He.cT K), LamX.TabB base mg p.1 p.2) => asm (P := (PySem.Challenge.rw_pushdoors_k11_houses_written_and_read).prog) (w := w) (base := base) B D  (hb _ (List.mem_map.mpr ⟨("is_name", none), by simp [tfL], rfl⟩)) (hb _ (List.mem_map.mpr ⟨("can_be", none), by simp [tfL], rfl⟩)) (hb _ (List.mem_map.mpr ⟨("is_number", none), by simp [tfL], rfl⟩)) 
  obtain ⟨fl, fdl, Al⟩ := D.d_law
  have el : fl = fa := by have := Al.m.symm.trans hfa; cases this; rfl
  subst el
  refine ⟨fdl, tfL.map (He.cT K), spLaw ⟨[(He.cT K ("is_name", none)).2, (He.cT K ("can_be", none)).2, (He.cT K ("is_number", none)).2], []⟩ K, ?_, ?_, ?_, ?_, ?_, ?_⟩
  · intro p hp
    obtain ⟨x, hx, rfl⟩ := List.mem_map.mp hp
    exact c.empty x hx
  · intro p hp
    obtain ⟨x, hx, rfl⟩ := List.mem_map.mp hp
    exact c.out x hx
  · intro p hp
    obtain ⟨x, hx, rfl⟩ := List.mem_map.mp hp
    exact PySem.W.codeHd_of_K X (c.hd x hx)
  · obtain ⟨oc, od, kV, doc, pm, an, cdv, ct, osl, e, lk, hc⟩ := Al.F.ex
    subst e
    exact fun s u => .of_eq rfl
  · intro H a ns hl _ hT hS
    have tb : ∀ x : He.Defn, x ∈ tfL → H (He.cT K x).2 = some (.tbl #[]) := fun x hx => hT _ (List.mem_map.mpr ⟨x, hx, rfl⟩)
    refine ⟨a, ns, rfl, hS, hl, ⟨fun P hP => ?_, fun p hp => ?_⟩, fun _ => rfl⟩
    · rcases (by simpa using hP : P = (He.cT K ("is_name", none)).2 ∨ P = (He.cT K ("can_be", none)).2 ∨ P = (He.cT K ("is_number", none)).2) with rfl | rfl | rfl
      · exact ⟨#[], tb _ (by simp [tfL]), trivial⟩
      · exact ⟨#[], tb _ (by simp [tfL]), trivial⟩
      · exact ⟨#[], tb _ (by simp [tfL]), trivial⟩
    · simp at hp
  · intro base _ _ hb
    obtain ⟨f2, fd2, A2, G2⟩ := hs base hb
    have e2 : f2 = fl := by have := A2.m.symm.trans Al.m; cases this; rfl
    subst e2
    obtain ⟨oc, od, kV, doc, pm, an, cdv, ct, osl, e, lk, hc⟩ := Al.F.ex
    obtain ⟨oc2, od2, kV2, doc2, pm2, an2, cdv2, ct2, osl2, e2, lk2, hc2⟩ := A2.F.ex
    have e3 : fd2 = fdl := by
      rw [lk] at lk2
      have z := congrArg Obj.data (Option.some.inj lk2)
      injection z with z
      exact z.symm
    rw [← e3]
    exact G2
end
end Pd
open PySem PySem.W PySem.Calls PyProof.Rows
theorem PySem.Challenge.cw_pushdoors_k11_houses_written_and_read_holds : PySem.Challenge.rw_pushdoors_k11_houses_written_and_read.Holds := by
  w_on; o_law
  refine HandSHeadRun.head_any (r := OpenLaw.row PySem.Challenge.rw_pushdoors_k11_houses_written_and_read) (q := view (OpenLaw.row PySem.Challenge.rw_pushdoors_k11_houses_written_and_read).prog [35]) (H := Pd.hk) (ob := Pd.ob) (M := 3000) (loose := Pd.loose) (d := HandSHeadRun.topDef (OpenLaw.row PySem.Challenge.rw_pushdoors_k11_houses_written_and_read).prog 35) (kwd := []) Pd.ob_eq
    (by kernel_rfl) (fun s => by kernel_rfl) Pd.run (by kernel_rfl) (by kernel_rfl) (by kernel_rfl) (by rfl) (by first | assumption | decide +kernel) (by decide +kernel) ⟨rfl, rfl, rfl, rfl, rfl, by decide +kernel⟩ ?hw ?hc
  case hw => w_witness2
  case hc =>
    refine LamX.walk_ofTsE (l := PySem.Challenge.rw_pushdoors_k11_houses_written_and_read) (n := 63) (k := 62) (x := "_law_script") (CX := fun _ => L2.CX0) rfl (by decide) (by kernel_rfl) ⟨rfl, by decide, by decide⟩ ?F (fun _ _ _ _ _ z => z)
    intro w mg fa h Y G hmg0
    obtain ⟨K, KX, c⟩ := Y
    have hmg : mg ("law" : PySem.Str) = some (.ref fa) := by
      have e : (HandSHeadRun.topDef (OpenLaw.row PySem.Challenge.rw_pushdoors_k11_houses_written_and_read).prog 35).name = ("law" : PySem.Str) := by kernel_rfl
      rw [← e]
      exact hmg0
    exact ⟨K, KX, Pd.law_at KX G hmg c⟩
