import PyProof.Rows.All
import Wide.All
import OpenK.AllK
import Wide.FinOn
import HandS.ForMost
import HandS.Evl
import HandS.Walk
import HandS.Deep
import HandS.TupAny
import HandS.IsInst
import HandS.Conv
import HandS.GenList
import HandS.AnyAll
import HandS.More
import HandS.TupMul
import KE.GoesEnum
import HandS.Iter
import KE.DataFind
import KE.DataEq
import HandS.ForExc
import HandS.TryOnly
import HandS.WordsExc
import HandS.SortInts
import HandS.TupSets
import HandS.Call
import HandS.SetFor
import HandS.Strs
import HandS.Text
import KE.SortData
import HandS.TryMany
import HandS.Style
import KE.KeyNested
import PyProof.ReprLen
import PyProof.Rows.ReprShort
import PyProof.Rows.ReprOcc
import HandS.Words
import HandS.HeadHook3
import PySem.Challenge.RW_kindsunder_k40_steps
set_option Elab.async false
set_option linter.all false
set_option maxRecDepth 100000
set_option maxHeartbeats 4000000
namespace Dl
open PySem PySem.Spec PyProof.Rows L2
open Evl (Ex sz_of sz_lt)
/-- what a slot holds: nothing, data, the pen, the i-th of the lists that change -/
inductive Sl where
  | no | val (d : PyData) | pen | sh (i : Nat)
abbrev Env := List Sl
/-- the pen: its list, its cells' list; the lists that change; the tables of code objects -/
structure Pe where
  pen : Option (Addr × Addr)
  sh : List Addr
  tabs : List Addr
/-- the draws left, the lists that change as they are (none: it changes no more) -/
structure Ws where
  n : Nat
  os : List (Option (List PyData))
/-- what calls may change -/
def Pe.Own (pe : Pe) (b : Addr) : Prop := (∃ c, pe.pen = some (b, c)) ∨ b ∈ pe.sh ∨ b ∈ pe.tabs
/-- F the frozen part of H before, F' of H' after -/
structure Fr (pe : Pe) (F H F' H' : Hp) : Prop where
  ff : Ex F F'
  fh : Ex F' H'
  hh : ∀ b o, ¬ pe.Own b → H b = some o → H' b = some o
  dom : ∀ b, H b ≠ none → H' b ≠ none
  new : ∀ b, H b ≠ none → F b = none → F' b = none
theorem Fr.refl {pe : Pe} {F H : Hp} (h : Ex F H) : Fr pe F H F H := ⟨fun _ _ z => z, h, fun _ _ _ z => z, fun _ z => z, fun _ _ z => z⟩
theorem Fr.trans {pe : Pe} {F H F1 H1 F2 H2 : Hp} (a : Fr pe F H F1 H1) (b : Fr pe F1 H1 F2 H2) : Fr pe F H F2 H2 :=
  ⟨fun x o z => b.ff x o (a.ff x o z), b.fh, fun x o n z => b.hh x o n (a.hh x o n z), fun x z => b.dom x (a.dom x z), fun x z y => b.new x (a.dom x z) (a.new x z y)⟩
/-- pe tells more lists than pe0: such as were made behind H0 -/
structure Ext (pe0 pe : Pe) (H0 : Hp) : Prop where
  pen : pe.pen = pe0.pen
  tabs : pe.tabs = pe0.tabs
  sh : ∃ ex, pe.sh = pe0.sh ++ ex ∧ ∀ p ∈ ex, H0 p = none
theorem Ext.refl (pe : Pe) (H : Hp) : Ext pe pe H := ⟨rfl, rfl, [], by simp, fun _ h => nomatch h⟩
theorem Ext.own {pe0 pe : Pe} {H0 : Hp} (e : Ext pe0 pe H0) {b : Addr} (h : pe.Own b) : pe0.Own b ∨ H0 b = none := by
  obtain ⟨ex, e1, e2⟩ := e.sh
  rcases h with ⟨c, h⟩ | h | h
  · exact .inl (.inl ⟨c, e.pen ▸ h⟩)
  · rw [e1] at h
    rcases List.mem_append.mp h with h | h
    · exact .inl (.inr (.inl h))
    · exact .inr (e2 b h)
  · exact .inl (.inr (.inr (e.tabs ▸ h)))
/-- from the caller's sight -/
theorem Fr.up {pe0 pe : Pe} {F0 H0 F H F' H' : Hp} (a : Fr pe0 F0 H0 F H) (e : Ext pe0 pe H0) (b : Fr pe F H F' H') : Fr pe0 F0 H0 F' H' := by
  refine ⟨a.ff.trans b.ff, b.fh, fun x o n z => b.hh x o (fun h => ?_) (a.hh x o n z), fun x z => b.dom x (a.dom x z), fun x z y => b.new x (a.dom x z) (a.new x z y)⟩
  rcases e.own h with h | h
  · exact n h
  · rw [h] at z
    cases z
/-- a new frozen object -/
theorem Fr.put {pe : Pe} {F H : Hp} {p : Addr} {o : HO} (h : Ex F H) (np : H p = none) : Fr pe F H (upd F p o) (upd H p o) := by
  have nF : F p = none := Evl.fresh_back h np
  refine ⟨Ex.new nF, fun x u z => ?_, fun x u _ z => Ex.new np x u z, fun x z y => ?_, fun x z y => ?_⟩
  · by_cases e : x = p
    · rw [e, upd_same] at z ⊢
      exact z
    · rw [upd_ne e] at z ⊢
      exact h x u z
  · by_cases e : x = p
    · rw [e, upd_same] at y
      cases y
    · rw [upd_ne e] at y
      exact z y
  · by_cases e : x = p
    · exact absurd (e ▸ np) z
    · rw [upd_ne e]
      exact y
/-- a new object that may change -/
theorem Fr.mine {pe : Pe} {F H : Hp} {p : Addr} {o : HO} (h : Ex F H) (np : H p = none) : Fr pe F H F (upd H p o) :=
  ⟨fun _ _ z => z, fun x u z => Ex.new np x u (h x u z), fun x u _ z => Ex.new np x u z, fun x z y => by
    by_cases e : x = p
    · rw [e, upd_same] at y
      cases y
    · rw [upd_ne e] at y
      exact z y, fun _ _ z => z⟩
/-- it changes -/
theorem Fr.wr {pe : Pe} {F H : Hp} {p : Addr} {o : HO} (h : Ex F H) (nF : F p = none) (own : pe.Own p ∨ H p = none) : Fr pe F H F (upd H p o) := by
  refine ⟨fun _ _ z => z, fun x u z => ?_, fun x u n z => ?_, fun x z y => ?_, fun _ _ z => z⟩
  · rw [upd_ne (ne_of_none z nF)]
    exact h x u z
  · by_cases e : x = p
    · rcases own with w | w
      · exact absurd (e ▸ w) n
      · rw [e, w] at z
        cases z
    · rw [upd_ne e]
      exact z
  · by_cases e : x = p
    · rw [e, upd_same] at y
      cases y
    · rw [upd_ne e] at y
      exact z y
mutual
/-- v is data: lists are tracked as such, tuples may be written ones -/
inductive Dq (K : PySem.W.Frag) (H : Hp) : V → PyData → Prop
  | non : Dq K H .non .none
  | bl (b : Bool) : Dq K H (.bl b) (.bool b)
  | int (i : Int) : Dq K H (.int i) (.int i)
  | str (x : Str) : Dq K H (.str x) (.str x)
  | lst {a : Addr} {xs : List V} {ds : List PyData} : H a = some (.lst xs) → DqAll K H xs ds → Dq K H (.ref a) (.list ds)
  | tup {a : Addr} {xs : List V} {ds : List PyData} : SqT K H a xs → DqAll K H xs ds → Dq K H (.ref a) (.tuple ds)
inductive DqAll (K : PySem.W.Frag) (H : Hp) : List V → List PyData → Prop
  | nil : DqAll K H [] []
  | cons {v : V} {vs : List V} {d : PyData} {ds : List PyData} : Dq K H v d → DqAll K H vs ds → DqAll K H (v :: vs) (d :: ds)
end
mutual
theorem Dq.dp {K : PySem.W.Frag} {H : Hp} : ∀ {v : V} {d : PyData}, Dq K H v d → Dp K H v d
  | _, _, .non => .non
  | _, _, .bl b => .bl b
  | _, _, .int i => .int i
  | _, _, .str x => .str x
  | _, _, .lst h a => .lst (SqL.of h) (DqAll.dps a)
  | _, _, .tup h a => .tup h (DqAll.dps a)
theorem DqAll.dps {K : PySem.W.Frag} {H : Hp} : ∀ {v : List V} {d : List PyData}, DqAll K H v d → DpAll K H v d
  | _, _, .nil => .nil
  | _, _, .cons a b => .cons (Dq.dp a) (DqAll.dps b)
end
mutual
theorem dp_ex {K : PySem.W.Frag} {H H' : Hp} (e : Ex H H') : ∀ {v : V} {d : PyData}, Dq K H v d → Dq K H' v d
  | _, _, .non => .non
  | _, _, .bl b => .bl b
  | _, _, .int i => .int i
  | _, _, .str x => .str x
  | _, _, .lst h a => .lst (e _ _ h) (dp_exs e a)
  | _, _, .tup h a => .tup (Evl.ex_t e h) (dp_exs e a)
theorem dp_exs {K : PySem.W.Frag} {H H' : Hp} (e : Ex H H') : ∀ {v : List V} {d : List PyData}, DqAll K H v d → DqAll K H' v d
  | _, _, .nil => .nil
  | _, _, .cons a b => .cons (dp_ex e a) (dp_exs e b)
end
theorem dps_len {K : PySem.W.Frag} {H : Hp} : ∀ {vs : List V} {ds : List PyData}, DqAll K H vs ds → vs.length = ds.length
  | _, _, .nil => rfl
  | _, _, .cons _ b => congrArg (· + 1) (dps_len b)
theorem dps_get {K : PySem.W.Frag} {H : Hp} : ∀ {vs : List V} {ds : List PyData} {i : Nat} {d : PyData}, DqAll K H vs ds → ds[i]? = some d → ∃ v, vs[i]? = some v ∧ Dq K H v d
  | _, _, _, _, .nil, h => by simp at h
  | _, _, 0, _, .cons a _, h => by
    cases h
    exact ⟨_, rfl, a⟩
  | _ :: vs, _ :: ds, i + 1, d, .cons _ b, h => dps_get (i := i) b (show ds[i]? = some d from h)
theorem dps_get' {K : PySem.W.Frag} {H : Hp} : ∀ {vs : List V} {ds : List PyData} {i : Nat} {v : V}, DqAll K H vs ds → vs[i]? = some v → ∃ d, ds[i]? = some d ∧ Dq K H v d
  | _, _, _, _, .nil, h => by simp at h
  | _, _, 0, _, .cons a _, h => by
    cases h
    exact ⟨_, rfl, a⟩
  | _ :: vs, _ :: ds, i + 1, v, .cons _ b, h => dps_get' (i := i) b (show vs[i]? = some v from h)
theorem dps_app {K : PySem.W.Frag} {H : Hp} : ∀ {vs ws : List V} {ds es : List PyData}, DqAll K H vs ds → DqAll K H ws es → DqAll K H (vs ++ ws) (ds ++ es)
  | _, _, _, _, .nil, h => h
  | _, _, _, _, .cons a b, h => .cons a (dps_app b h)
theorem dps_take {K : PySem.W.Frag} {H : Hp} : ∀ {vs : List V} {ds : List PyData} (n : Nat), DqAll K H vs ds → DqAll K H (vs.take n) (ds.take n)
  | _, _, 0, _ => .nil
  | _, _, _ + 1, .nil => .nil
  | _, _, n + 1, .cons a b => .cons a (dps_take n b)
theorem dps_drop {K : PySem.W.Frag} {H : Hp} : ∀ {vs : List V} {ds : List PyData} (n : Nat), DqAll K H vs ds → DqAll K H (vs.drop n) (ds.drop n)
  | _, _, 0, h => h
  | _, _, _ + 1, .nil => .nil
  | _, _, n + 1, .cons _ b => dps_drop n b
theorem dps_set {K : PySem.W.Frag} {H : Hp} : ∀ {vs : List V} {ds : List PyData} {v : V} {d : PyData} (i : Nat), DqAll K H vs ds → Dq K H v d → DqAll K H (vs.set i v) (ds.set i d)
  | _, _, _, _, _, .nil, _ => .nil
  | _, _, _, _, 0, .cons _ b, h => .cons h b
  | _, _, _, _, i + 1, .cons a b, h => .cons a (dps_set i b h)
/-- the pen, the lists that change and the tables as the state tells them -/
structure PenAt (K : PySem.W.Frag) (pe : Pe) (F H : Hp) (w : Ws) : Prop where
  pen : ∀ p c, pe.pen = some (p, c) → ∃ (cs : List Int) (t r : Int), H p = some (.lst [.ref c, .int t, .int r]) ∧ H c = some (.lst (cs.map V.int)) ∧ 0 ≤ t ∧ t + w.n ≤ 2147483648 ∧ F p = none ∧ p ≠ c ∧ p ∉ pe.sh ∧ c ∉ pe.sh
  len : w.os.length = pe.sh.length
  nd : pe.sh.Nodup
  sh : ∀ (i : Nat) (p : Addr) (xs : List PyData), pe.sh[i]? = some p → w.os[i]? = some (some xs) → ∃ vs, H p = some (.lst vs) ∧ DqAll K F vs xs ∧ F p = none
  at_ : ∀ p ∈ pe.sh, ∃ vs, H p = some (.lst vs)
  tab : ∀ P ∈ pe.tabs, F P = none ∧ ∃ ps : Array Value, H P = some (.tbl ps) ∧ TriplesOk ps.toList
/-- a step that touches none -/
theorem PenAt.pure {K : PySem.W.Frag} {pe : Pe} {F H F' H' : Hp} {w : Ws} (h : PenAt K pe F H w) (ef : Ex F F') (e : Ex H H') (f : ∀ b, H b ≠ none → F b = none → F' b = none) : PenAt K pe F' H' w := by
  refine ⟨fun p c z => ?_, h.len, h.nd, fun i p xs h1 h2 => ?_, fun p hp => ?_, fun P hP => ?_⟩
  · obtain ⟨cs, t, r, h1, h2, h3, h4, h5, h6⟩ := h.pen p c z
    exact ⟨cs, t, r, e _ _ h1, e _ _ h2, h3, h4, f p (by rw [h1]; simp) h5, h6⟩
  · obtain ⟨vs, h3, h4, h5⟩ := h.sh i p xs h1 h2
    exact ⟨vs, e _ _ h3, dp_exs ef h4, f p (by rw [h3]; simp) h5⟩
  · obtain ⟨vs, h1⟩ := h.at_ p hp
    exact ⟨vs, e _ _ h1⟩
  · obtain ⟨h1, ps, h2, h3⟩ := h.tab P hP
    exact ⟨f P (by rw [h2]; simp) h1, ps, e _ _ h2, h3⟩
/-- fewer draws left -/
theorem PenAt.less {K : PySem.W.Frag} {pe : Pe} {F H : Hp} {w : Ws} {m : Nat} (h : PenAt K pe F H w) (hm : m ≤ w.n) : PenAt K pe F H ⟨m, w.os⟩ := by
  refine ⟨fun p c z => ?_, h.len, h.nd, h.sh, h.at_, h.tab⟩
  obtain ⟨cs, t, r, h1, h2, h3, h4, h5⟩ := h.pen p c z
  exact ⟨cs, t, r, h1, h2, h3, by show t + (m : Int) ≤ _; omega, h5⟩
/-- D is none of what the state tells of -/
def Far (pe : Pe) (D : Addr) : Prop := ¬ pe.Own D ∧ ∀ p c, pe.pen = some (p, c) → c ≠ D
theorem PenAt.far {K : PySem.W.Frag} {pe : Pe} {F H : Hp} {w : Ws} {D : Addr} (h : PenAt K pe F H w) (hD : H D = none) : Far pe D := by
  refine ⟨?_, fun p c z => ?_⟩
  · rintro (⟨c, z⟩ | z | z)
    · obtain ⟨cs, t, r, h1, _⟩ := h.pen D c z
      rw [hD] at h1
      cases h1
    · obtain ⟨vs, h1⟩ := h.at_ D z
      rw [hD] at h1
      cases h1
    · obtain ⟨_, ps, h2, _⟩ := h.tab D z
      rw [hD] at h2
      cases h2
  · obtain ⟨cs, t, r, _, h2, _⟩ := h.pen p c z
    exact ne_of_none h2 hD
theorem PenAt.mut {K : PySem.W.Frag} {pe : Pe} {F H : Hp} {w : Ws} {D : Addr} {o : HO} (h : PenAt K pe F H w) (hd : Far pe D) : PenAt K pe F (upd H D o) w := by
  have n2 : ∀ p ∈ pe.sh, p ≠ D := fun p hp e => hd.1 (.inr (.inl (e ▸ hp)))
  refine ⟨fun p c z => ?_, h.len, h.nd, fun i p xs z1 z2 => ?_, fun p hp => ?_, fun P hP => ?_⟩
  · obtain ⟨cs, t, r, h1, h2, h3⟩ := h.pen p c z
    have n1 : p ≠ D := fun e => hd.1 (.inl ⟨c, e ▸ z⟩)
    exact ⟨cs, t, r, by rw [upd_ne n1]; exact h1, by rw [upd_ne (hd.2 p c z)]; exact h2, h3⟩
  · obtain ⟨vs, h1, h2⟩ := h.sh i p xs z1 z2
    exact ⟨vs, by rw [upd_ne (n2 p (List.mem_of_getElem? z1))]; exact h1, h2⟩
  · obtain ⟨vs, h1⟩ := h.at_ p hp
    exact ⟨vs, by rw [upd_ne (n2 p hp)]; exact h1⟩
  · obtain ⟨h1, ps, h2, h3⟩ := h.tab P hP
    have n1 : P ≠ D := fun e => hd.1 (.inr (.inr (e ▸ hP)))
    exact ⟨h1, ps, by rw [upd_ne n1]; exact h2, h3⟩
def SlotR (K : PySem.W.Frag) (pe : Pe) (F : Hp) (x : Option (Option V)) : Sl → Prop
  | .no => True
  | .val d => ∃ v, x = some (some v) ∧ Dq K F v d
  | .pen => ∃ p c, pe.pen = some (p, c) ∧ x = some (some (.ref p))
  | .sh i => ∃ p, pe.sh[i]? = some p ∧ x = some (some (.ref p))
structure EnvR (K : PySem.W.Frag) (pe : Pe) (F : Hp) (σ : L2.St) (env : Env) : Prop where
  len : σ.length = env.length
  sl : ∀ (i : Nat) (s : Sl), env[i]? = some s → SlotR K pe F σ[i]? s
theorem SlotR.ff {K : PySem.W.Frag} {pe : Pe} {F F1 : Hp} {x : Option (Option V)} {s : Sl} (f : Ex F F1) (h : SlotR K pe F x s) : SlotR K pe F1 x s := by
  cases s with
  | no => trivial
  | val d =>
    obtain ⟨v, h1, h2⟩ := h
    exact ⟨v, h1, dp_ex f h2⟩
  | pen => exact h
  | sh i => exact h
theorem EnvR.ff {K : PySem.W.Frag} {pe : Pe} {F F1 : Hp} {σ : L2.St} {env : Env} (f : Ex F F1) (h : EnvR K pe F σ env) : EnvR K pe F1 σ env := ⟨h.len, fun i s e => (h.sl i s e).ff f⟩
/-- a slot is filled -/
theorem EnvR.set {K : PySem.W.Frag} {pe : Pe} {F : Hp} {σ : L2.St} {env : Env} (R : EnvR K pe F σ env) (i : Nat) {v : Option V} {s : Sl} (h : SlotR K pe F (some v) s) : EnvR K pe F (σ.set i v) (env.set i s) := by
  refine ⟨by rw [List.length_set, List.length_set]; exact R.len, fun j t e => ?_⟩
  by_cases z : i = j
  · subst z
    by_cases l : i < env.length
    · rw [List.getElem?_set_self l] at e
      cases e
      rw [List.getElem?_set_self (by rw [R.len]; exact l)]
      exact h
    · rw [List.getElem?_eq_none (by rw [List.length_set]; omega)] at e
      cases e
  · rw [List.getElem?_set_ne z] at e ⊢
    exact R.sl j t e
/-- the state as it runs -/
structure Lv (K : PySem.W.Frag) (T : List Addr) (pe : Pe) (F H : Hp) (σ : L2.St) (env : Env) (w : Ws) : Prop where
  er : EnvR K pe F σ env
  ex : Ex F H
  pn : PenAt K pe F H w
  tb : pe.tabs = T
theorem Lv.step {K : PySem.W.Frag} {T : List Addr} {pe : Pe} {F H F1 H1 : Hp} {σ : L2.St} {env : Env} {w w1 : Ws} (R : Lv K T pe F H σ env w) (f : Fr pe F H F1 H1) (p : PenAt K pe F1 H1 w1) : Lv K T pe F1 H1 σ env w1 := ⟨R.er.ff f.ff, f.fh, p, R.tb⟩
abbrev DTE := Env → Ws → (PyData → Ws → Prop) → Prop
abbrev DTX := Env → Ws → (Sl → Ws → Prop) → Prop
abbrev DTT := Env → Ws → (Bool → Ws → Prop) → Prop
abbrev DTA := Env → Ws → (List Sl → Ws → Prop) → Prop
/-- an expression whose value is data -/
structure DE (K : PySem.W.Frag) (T : List Addr) (te : TE) (m : DTE) : Prop where
  run : ∀ (pe : Pe) (F H : Hp) (σ : L2.St) (env : Env) (n : Ws) (P : PyData → Ws → Prop) (Q : VK), Lv K T pe F H σ env n → m env n P →
    (∀ v F' H' d n', Fr pe F H F' H' → PenAt K pe F' H' n' → Dq K F' v d → P d n' → Q v H') → te σ H Q
structure DT (K : PySem.W.Frag) (T : List Addr) (tt : TT) (m : DTT) : Prop where
  run : ∀ (pe : Pe) (F H : Hp) (σ : L2.St) (env : Env) (n : Ws) (P : Bool → Ws → Prop) (Q : Bool → Hp → Prop), Lv K T pe F H σ env n → m env n P →
    (∀ b F' H' n', Fr pe F H F' H' → PenAt K pe F' H' n' → P b n' → Q b H') → tt σ H Q
/-- a value: data, the pen, a list that changes -/
def ArgR (K : PySem.W.Frag) (pe : Pe) (F : Hp) (v : V) : Sl → Prop
  | .no => False
  | .val d => Dq K F v d
  | .pen => ∃ p c, pe.pen = some (p, c) ∧ v = .ref p
  | .sh i => ∃ p, pe.sh[i]? = some p ∧ v = .ref p
theorem ArgR.ex {K : PySem.W.Frag} {pe : Pe} {F F' : Hp} {v : V} (e : Ex F F') : ∀ {s : Sl}, ArgR K pe F v s → ArgR K pe F' v s
  | .no, h => h
  | .val _, h => dp_ex e h
  | .pen, h => h
  | .sh _, h => h
theorem ArgR.slot {K : PySem.W.Frag} {pe : Pe} {F : Hp} {v : V} : ∀ {s : Sl}, ArgR K pe F v s → SlotR K pe F (some (some v)) s
  | .no, h => h.elim
  | .val _, h => ⟨v, rfl, h⟩
  | .pen, ⟨p, c, h, e⟩ => ⟨p, c, h, by rw [e]⟩
  | .sh _, ⟨p, h, e⟩ => ⟨p, h, by rw [e]⟩
/-- an expression of any value -/
structure DX (K : PySem.W.Frag) (T : List Addr) (te : TE) (m : DTX) : Prop where
  run : ∀ (pe : Pe) (F H : Hp) (σ : L2.St) (env : Env) (n : Ws) (P : Sl → Ws → Prop) (Q : VK), Lv K T pe F H σ env n → m env n P →
    (∀ v F' H' d n', Fr pe F H F' H' → PenAt K pe F' H' n' → ArgR K pe F' v d → P d n' → Q v H') → te σ H Q
/-- what a value tells when it is looked at -/
def see (w : Ws) : Sl → Option PyData
  | .val d => some d
  | .sh i => (w.os[i]?.join).map PyData.list
  | _ => none
/-- v is d in the heap H -/
inductive Dz (K : PySem.W.Frag) (F H : Hp) : V → PyData → Prop
  | fz {v : V} {d : PyData} : Dq K F v d → Dz K F H v d
  | ls {p : Addr} {vs : List V} {xs : List PyData} : H p = some (.lst vs) → DqAll K F vs xs → Dz K F H (.ref p) (.list xs)
theorem Dz.dp {K : PySem.W.Frag} {F H : Hp} {v : V} {d : PyData} (e : Ex F H) : Dz K F H v d → Dp K H v d
  | .fz h => (dp_ex e h).dp
  | .ls h a => .lst (SqL.of h) (DqAll.dps (dp_exs e a))
theorem see_dz {K : PySem.W.Frag} {pe : Pe} {F H : Hp} {w : Ws} {v : V} {s : Sl} {d : PyData} (pn : PenAt K pe F H w) (h : ArgR K pe F v s) (e : see w s = some d) : Dz K F H v d := by
  cases s with
  | no => cases e
  | val x =>
    cases e
    exact .fz h
  | pen => cases e
  | sh i =>
    obtain ⟨p, h1, rfl⟩ := h
    have e : (w.os[i]?.join).map PyData.list = some d := e
    cases q : w.os[i]? with
    | none =>
      rw [q] at e
      cases e
    | some o =>
      rw [q] at e
      cases o with
      | none => cases e
      | some xs =>
        cases e
        obtain ⟨vs, h2, h3, h4⟩ := pn.sh i p xs h1 q
        exact .ls h2 h3
section
variable {K : PySem.W.Frag} {T : List Addr} {ta tb te : TE} {ma mb m : DTE} {mx my : DTX} {tt tu : TT} {mt mu : DTT}
theorem dx_of (h : DE K T te m) : DX K T te (fun env n P => m env n fun d n1 => P (.val d) n1) := by
  constructor
  intro pe F H σ env n P Q R p q
  exact h.run pe F H σ env n _ _ R p fun v F' H' d n' f pn hd g => q v F' H' (.val d) n' f pn hd g
theorem dx_var {i : Nat} : DX K T (tVar i) (fun env n P => ∃ s, env[i]? = some s ∧ s ≠ .no ∧ P s n) := by
  constructor
  intro pe F H σ env n P Q R ⟨s, e, ne, p⟩ q
  have h := R.er.sl i s e
  cases s with
  | no => exact (ne rfl).elim
  | val d =>
    obtain ⟨v, hv, hd⟩ := h
    exact ⟨v, hv, q v F H (.val d) n (.refl R.ex) R.pn hd p⟩
  | pen =>
    obtain ⟨a, c, h1, h2⟩ := h
    exact ⟨_, h2, q _ F H .pen n (.refl R.ex) R.pn ⟨a, c, h1, rfl⟩ p⟩
  | sh j =>
    obtain ⟨a, h1, h2⟩ := h
    exact ⟨_, h2, q _ F H (.sh j) n (.refl R.ex) R.pn ⟨a, h1, rfl⟩ p⟩
theorem de_var {i : Nat} : DE K T (tVar i) (fun env n P => ∃ d, env[i]? = some (.val d) ∧ P d n) := by
  constructor
  intro pe F H σ env n P Q R ⟨d, e, p⟩ q
  obtain ⟨v, hv, hd⟩ := R.er.sl i _ e
  exact ⟨v, hv, q v F H d n (.refl R.ex) R.pn hd p⟩
theorem de_c {v : V} {d : PyData} (h : ∀ F, Dq K F v d) : DE K T (tC v) (fun _ n P => P d n) := by
  constructor
  intro pe F H σ env n P Q R p q
  exact q v F H d n (.refl R.ex) R.pn (h F) p
theorem de_int {i : Int} : DE K T (tC (.int i)) (fun _ n P => P (.int i) n) := de_c fun _ => .int i
theorem de_str {x : Str} : DE K T (tC (.str x)) (fun _ n P => P (.str x) n) := de_c fun _ => .str x
theorem de_bl {b : Bool} : DE K T (tC (.bl b)) (fun _ n P => P (.bool b) n) := de_c fun _ => .bl b
theorem de_non : DE K T (tC .non) (fun _ n P => P .none n) := de_c fun _ => .non
/-- an operation on data -/
structure DR (K : PySem.W.Frag) (r : R2) (mr : PyData → PyData → (PyData → Prop) → Prop) : Prop where
  run : ∀ (pe : Pe) (F H : Hp) (x y : V) (d e : PyData) (P : PyData → Prop) (Q : VK), Ex F H → Dz K F H x d → Dz K F H y e → mr d e P →
    (∀ v F' H' z, Fr pe F H F' H' → Ex H H' → Dq K F' v z → P z → Q v H') → r x y H Q
theorem de_op {r : R2} {mr : PyData → PyData → (PyData → Prop) → Prop} (hr : DR K r mr) (ha : DX K T ta mx) (hb : DX K T tb my) :
    DE K T (tOp r ta tb) (fun env n P => mx env n fun s n1 => my env n1 fun t n2 => ∃ d e, see n2 s = some d ∧ see n2 t = some e ∧ mr d e fun z => P z n2) := by
  constructor
  intro pe F H σ env n P Q R p q
  refine ha.run pe F H σ env n _ _ R p fun x F1 H1 s n1 f1 p1 h1 g1 => ?_
  refine hb.run pe F1 H1 σ env n1 _ _ (R.step f1 p1) g1 fun y F2 H2 t n2 f2 p2 h2 ⟨d, e, s1, s2, g2⟩ => ?_
  refine hr.run pe F2 H2 x y d e _ _ f2.fh (see_dz p2 (h1.ex f2.ff) s1) (see_dz p2 h2 s2) g2 fun v F3 H3 z f3 e3 h3 g3 => ?_
  exact q v F3 H3 z n2 ((f1.trans f2).trans f3) (p2.pure f3.ff e3 f3.new) h3 g3
theorem dp_int {F : Hp} {x : V} {i : Int} (h : Dq K F x (.int i)) : x = .int i := by
  cases h
  rfl
theorem dp_str {F : Hp} {x : V} {i : Str} (h : Dq K F x (.str i)) : x = .str i := by
  cases h
  rfl
theorem dp_bl {F : Hp} {x : V} {i : Bool} (h : Dq K F x (.bool i)) : x = .bl i := by
  cases h
  rfl
theorem dz_int {F H : Hp} {x : V} {i : Int} (h : Dz K F H x (.int i)) : x = .int i := by
  cases h with
  | fz h => exact dp_int h
theorem dz_str {F H : Hp} {x : V} {i : Str} (h : Dz K F H x (.str i)) : x = .str i := by
  cases h with
  | fz h => exact dp_str h
theorem dz_bl {F H : Hp} {x : V} {i : Bool} (h : Dz K F H x (.bool i)) : x = .bl i := by
  cases h with
  | fz h => exact dp_bl h
theorem dz_list {F H : Hp} {x : V} {xs : List PyData} (e : Ex F H) (h : Dz K F H x (.list xs)) : ∃ a vs, x = .ref a ∧ H a = some (.lst vs) ∧ DqAll K F vs xs := by
  cases h with
  | fz h =>
    cases h with
    | lst h a => exact ⟨_, _, rfl, e _ _ h, a⟩
  | ls h a => exact ⟨_, _, rfl, h, a⟩
theorem dz_tup {F H : Hp} {x : V} {xs : List PyData} (h : Dz K F H x (.tuple xs)) : ∃ a vs, x = .ref a ∧ SqT K F a vs ∧ DqAll K F vs xs := by
  cases h with
  | fz h =>
    cases h with
    | tup h a => exact ⟨_, _, rfl, h, a⟩
/-- on two ints -/
theorem dr_i0 {g : Int → Int → V} {h : Int → Int → PyData} (e : ∀ i j F, Dq K F (g i j) (h i j)) : DR K (rI0 g) (fun d e P => ∃ i j, d = .int i ∧ e = .int j ∧ P (h i j)) := by
  constructor
  rintro pe F H x y d e' P Q ex hx hy ⟨i, j, rfl, rfl, p⟩ q
  exact ⟨i, j, dz_int hx, dz_int hy, q _ F H _ (.refl ex) (fun _ _ z => z) (e i j F) p⟩
theorem dr_i {C : Int → Int → Prop} {g : Int → Int → V} {h : Int → Int → PyData} (e : ∀ i j F, Dq K F (g i j) (h i j)) : DR K (rI C g) (fun d e P => ∃ i j, d = .int i ∧ e = .int j ∧ C i j ∧ P (h i j)) := by
  constructor
  rintro pe F H x y d e' P Q ex hx hy ⟨i, j, rfl, rfl, c, p⟩ q
  exact ⟨i, j, dz_int hx, dz_int hy, c, q _ F H _ (.refl ex) (fun _ _ z => z) (e i j F) p⟩
end
end Dl

namespace Dl
open PySem PySem.Spec PyProof.Rows L2
open Evl (Ex sz_of sz_lt)
section
variable {K : PySem.W.Frag} {T : List Addr} {ta tb te : TE} {tas : TA} {ma mb m : DTE} {tt tu : TT} {mt mu : DTT}
theorem dr_add : DR K (rI0 fun i j => .int (i + j)) (fun d e P => ∃ i j, d = .int i ∧ e = .int j ∧ P (.int (i + j))) := dr_i0 fun _ _ _ => .int _
theorem dr_sub : DR K (rI0 fun i j => .int (i - j)) (fun d e P => ∃ i j, d = .int i ∧ e = .int j ∧ P (.int (i - j))) := dr_i0 fun _ _ _ => .int _
theorem dr_mul : DR K (rI CMul fun i j => .int (i * j)) (fun d e P => ∃ i j, d = .int i ∧ e = .int j ∧ CMul i j ∧ P (.int (i * j))) := dr_i fun _ _ _ => .int _
theorem dr_mod : DR K (rI (fun _ j => 0 < j) fun i j => .int (i % j)) (fun d e P => ∃ i j, d = .int i ∧ e = .int j ∧ 0 < j ∧ P (.int (i % j))) := dr_i (C := fun _ j => 0 < j) fun _ _ _ => .int _
theorem dr_fdiv : DR K (rI CDiv fun i j => .int (i / j)) (fun d e P => ∃ i j, d = .int i ∧ e = .int j ∧ CDiv i j ∧ P (.int (i / j))) := dr_i fun _ _ _ => .int _
theorem dr_lt : DR K (rI0 fun i j => .bl (decide (i < j))) (fun d e P => ∃ i j, d = .int i ∧ e = .int j ∧ P (.bool (decide (i < j)))) := dr_i0 fun _ _ _ => .bl _
theorem dr_le : DR K (rI0 fun i j => .bl (decide (i ≤ j))) (fun d e P => ∃ i j, d = .int i ∧ e = .int j ∧ P (.bool (decide (i ≤ j)))) := dr_i0 fun _ _ _ => .bl _
theorem dr_gt : DR K (rI0 fun i j => .bl (decide (j < i))) (fun d e P => ∃ i j, d = .int i ∧ e = .int j ∧ P (.bool (decide (j < i)))) := dr_i0 fun _ _ _ => .bl _
theorem dr_ge : DR K (rI0 fun i j => .bl (decide (j ≤ i))) (fun d e P => ∃ i j, d = .int i ∧ e = .int j ∧ P (.bool (decide (j ≤ i)))) := dr_i0 fun _ _ _ => .bl _
theorem dr_addS : DR K (fun x y H Q => ∃ i j, x = .str i ∧ y = .str j ∧ i.length + j.length ≤ sizeLine ∧ Q (.str (i ++ j)) H) (fun d e P => ∃ i j, d = .str i ∧ e = .str j ∧ i.length + j.length ≤ sizeLine ∧ P (.str (i ++ j))) := by
  constructor
  rintro pe F H x y d e P Q ex hx hy ⟨i, j, rfl, rfl, c, p⟩ q
  exact ⟨i, j, dz_str hx, dz_str hy, c, q _ F H _ (.refl ex) (fun _ _ z => z) (.str _) p⟩
theorem dr_eq : DR K (rEqD K) (fun d e P => SeqAt.shaped d = true ∧ SeqAt.shaped e = true ∧ P (.bool (PyData.eqv d e))) := by
  constructor
  rintro pe F H x y d e P Q ex hx hy ⟨s1, s2, p⟩ q
  exact ⟨d, e, hx.dp ex, hy.dp ex, s1, s2, q _ F H _ (.refl ex) (fun _ _ z => z) (.bl _) p⟩
theorem dr_ne : DR K (rNeD K) (fun d e P => SeqAt.shaped d = true ∧ SeqAt.shaped e = true ∧ P (.bool (!PyData.eqv d e))) := by
  constructor
  rintro pe F H x y d e P Q ex hx hy ⟨s1, s2, p⟩ q
  exact ⟨d, e, hx.dp ex, hy.dp ex, s1, s2, q _ F H _ (.refl ex) (fun _ _ z => z) (.bl _) p⟩
/-- is it None -/
def isNone : PyData → Bool
  | .none => true
  | _ => false
theorem none_iff {F H : Hp} {x : V} {d : PyData} (h : Dz K F H x d) : decide (x = .non) = isNone d := by
  cases h with
  | fz h => cases h <;> rfl
  | ls => rfl
theorem dz_non {F H : Hp} {x : V} (h : Dz K F H x .none) : x = .non := by
  cases h with
  | fz h =>
    cases h
    rfl
theorem dr_isN : DR K (fun x y H Q => y = .non ∧ Q (.bl (decide (x = .non))) H) (fun d e P => e = .none ∧ P (.bool (isNone d))) := by
  constructor
  rintro pe F H x y d e P Q ex hx hy ⟨rfl, p⟩ q
  refine ⟨?_, ?_⟩
  · exact dz_non hy
  · rw [none_iff hx]
    exact q _ F H _ (.refl ex) (fun _ _ z => z) (.bl _) p
theorem dr_notN : DR K (fun x y H Q => y = .non ∧ Q (.bl (!decide (x = .non))) H) (fun d e P => e = .none ∧ P (.bool (!isNone d))) := by
  constructor
  rintro pe F H x y d e P Q ex hx hy ⟨rfl, p⟩ q
  refine ⟨?_, ?_⟩
  · exact dz_non hy
  · rw [none_iff hx]
    exact q _ F H _ (.refl ex) (fun _ _ z => z) (.bl _) p
/-- list + list -/
theorem dr_catL : DR K rCat (fun d e P => ∃ ds es, d = .list ds ∧ e = .list es ∧ ds.length + es.length ≤ 100000 ∧ P (.list (ds ++ es))) := by
  constructor
  rintro pe F H x y d e P Q ex hx hy ⟨ds, es, rfl, rfl, l, p⟩ q
  obtain ⟨A, xs, rfl, h1, a1⟩ := dz_list ex hx
  obtain ⟨B, ys, rfl, h2, a2⟩ := dz_list ex hy
  refine ⟨_, _, _, _, rfl, rfl, h1, h2, by rw [dps_len a1, dps_len a2]; exact sz_of l, fun r nr => ?_⟩
  have f := Fr.put (pe := pe) (o := .lst (xs ++ ys)) ex nr
  exact q _ _ _ _ f (Ex.new nr) (.lst upd_same (dp_exs f.ff (dps_app a1 a2))) p
theorem all_nil {F : Hp} {vs : List V} (h : DqAll K F vs []) : vs = [] := by
  cases h
  rfl
/-- tuple + tuple -/
theorem dr_catT : DR K (rCatA K) (fun d e P => ∃ ds es, d = .tuple ds ∧ e = .tuple es ∧ ds.length + es.length ≤ 100000 ∧ P (.tuple (ds ++ es))) := by
  constructor
  rintro pe F H x y d e P Q ex hx hy ⟨ds, es, rfl, rfl, l, p⟩ q
  obtain ⟨A, xs, rfl, h1, a1⟩ := dz_tup hx
  obtain ⟨B, ys, rfl, h2, a2⟩ := dz_tup hy
  refine ⟨_, _, _, _, rfl, rfl, Evl.ex_t ex h1, Evl.ex_t ex h2, by rw [dps_len a1, dps_len a2]; exact sz_of l, fun z => ?_, fun _ z => ?_, fun _ _ r nr => ?_⟩
  · subst z
    cases a1
    exact q _ F H _ (.refl ex) (fun _ _ z => z) (.tup h2 a2) p
  · subst z
    cases a2
    rw [List.append_nil] at p
    exact q _ F H _ (.refl ex) (fun _ _ z => z) (.tup h1 a1) p
  · have f := Fr.put (pe := pe) (o := .tup (xs ++ ys)) ex nr
    exact q _ _ _ _ f (Ex.new nr) (.tup (SqT.of upd_same) (dp_exs f.ff (dps_app a1 a2))) p
/-- a list's or a tuple's items -/
def items : PyData → Option (List PyData)
  | .list ds => some ds
  | .tuple ds => some ds
  | _ => none
theorem atI_data {F : Hp} {vs : List V} {ds : List PyData} {i : Int} {z : PyData} (a : DqAll K F vs ds) (h : atI ds i = some z) : ∃ v, atI vs i = some v ∧ Dq K F v z := by
  unfold atI at h ⊢
  rw [dps_len a]
  cases e : ixN ds.length i with
  | none =>
    rw [e] at h
    cases h
  | some j =>
    rw [e] at h
    exact dps_get a (show ds[j]? = some z from h)
/-- xs[i] -/
theorem dr_ix : DR K (fun x y H Q => rIxL K x y H Q ∨ rIxT K x y H Q) (fun d e P => ∃ ds i z, items d = some ds ∧ e = .int i ∧ atI ds i = some z ∧ P z) := by
  constructor
  rintro pe F H x y d e P Q ex hx hy ⟨ds, i, z, h1, rfl, h2, p⟩ q
  have ey := dz_int hy
  subst ey
  cases d with
  | list xs =>
    cases h1
    obtain ⟨A, vs, rfl, h, a⟩ := dz_list ex hx
    obtain ⟨v, e1, e2⟩ := atI_data a h2
    exact .inl ⟨_, _, i, v, rfl, rfl, SqL.of h, e1, q _ F H _ (.refl ex) (fun _ _ z => z) e2 p⟩
  | tuple xs =>
    cases h1
    obtain ⟨A, vs, rfl, h, a⟩ := dz_tup hx
    obtain ⟨v, e1, e2⟩ := atI_data a h2
    exact .inr ⟨_, _, i, v, rfl, rfl, Evl.ex_t ex h, e1, q _ F H _ (.refl ex) (fun _ _ z => z) e2 p⟩
  | _ => cases h1
abbrev DTV := Env → Ws → (List PyData → Ws → Prop) → Prop
structure DV (K : PySem.W.Frag) (T : List Addr) (ta : TA) (m : DTV) : Prop where
  run : ∀ (pe : Pe) (F H : Hp) (σ : L2.St) (env : Env) (n : Ws) (P : List PyData → Ws → Prop) (Q : List V → Hp → Prop), Lv K T pe F H σ env n → m env n P →
    (∀ vs F' H' ds n', Fr pe F H F' H' → PenAt K pe F' H' n' → DqAll K F' vs ds → P ds n' → Q vs H') → ta σ H Q
theorem dv_nil : DV K T tNil (fun _ n P => P [] n) := by
  constructor
  intro pe F H σ env n P Q R p q
  exact q [] F H [] n (.refl R.ex) R.pn .nil p
theorem dv_cons {mv : DTV} (h : DE K T te m) (g : DV K T tas mv) : DV K T (tCons te tas) (fun env n P => m env n fun d n1 => mv env n1 fun ds n2 => P (d :: ds) n2) := by
  constructor
  intro pe F H σ env n P Q R p q
  refine h.run pe F H σ env n _ _ R p fun x F1 H1 d n1 f1 p1 h1 g1 => ?_
  refine g.run pe F1 H1 σ env n1 _ _ (R.step f1 p1) g1 fun vs F2 H2 ds n2 f2 p2 h2 g2 => ?_
  exact q _ F2 H2 _ n2 (f1.trans f2) p2 (.cons (dp_ex f2.ff h1) h2) g2
theorem de_tup {mv : DTV} (h : DV K T tas mv) : DE K T (tTup tas) (fun env n P => mv env n fun ds n1 => ds.length ≤ 100000 ∧ P (.tuple ds) n1) := by
  constructor
  intro pe F H σ env n P Q R p q
  refine h.run pe F H σ env n _ _ R p fun vs F1 H1 ds n1 f1 p1 h1 ⟨l, g1⟩ => ⟨by rw [dps_len h1]; exact sz_of l, fun r nr => ?_⟩
  have f := Fr.put (pe := pe) (o := .tup vs) f1.fh nr
  exact q _ _ _ _ n1 (f1.trans f) (p1.pure f.ff (Ex.new nr) f.new) (.tup (SqT.of upd_same) (dp_exs f.ff h1)) g1
theorem de_lst {mv : DTV} (h : DV K T tas mv) : DE K T (tLst tas) (fun env n P => mv env n fun ds n1 => ds.length ≤ 100000 ∧ P (.list ds) n1) := by
  constructor
  intro pe F H σ env n P Q R p q
  refine h.run pe F H σ env n _ _ R p fun vs F1 H1 ds n1 f1 p1 h1 ⟨l, g1⟩ => ⟨by rw [dps_len h1]; exact sz_of l, fun r nr => ?_⟩
  have f := Fr.put (pe := pe) (o := .lst vs) f1.fh nr
  exact q _ _ _ _ n1 (f1.trans f) (p1.pure f.ff (Ex.new nr) f.new) (.lst upd_same (dp_exs f.ff h1)) g1
theorem dt_test (h : DE K T te m) : DT K T (tTest te) (fun env n P => m env n fun d n1 => ∃ b, d = .bool b ∧ P b n1) := by
  constructor
  intro pe F H σ env n P Q R p q
  refine h.run pe F H σ env n _ _ R p fun x F1 H1 d n1 f1 p1 h1 ⟨b, e, g1⟩ => ?_
  subst e
  exact ⟨b, dp_bl h1, q b F1 H1 n1 f1 p1 g1⟩
theorem dt_B (h : DE K T te m) : DT K T (tB te) (fun env n P => m env n fun d n1 => ∃ b, d = .bool b ∧ P b n1) := by
  constructor
  intro pe F H σ env n P Q R p q
  refine h.run pe F H σ env n _ _ R p fun x F1 H1 d n1 f1 p1 h1 ⟨b, e, g1⟩ => ?_
  subst e
  exact ⟨b, dp_bl h1, q b F1 H1 n1 f1 p1 g1⟩
theorem dt_and (h : DT K T tt mt) (g : DT K T tu mu) : DT K T (tAnd tt tu) (fun env n P => mt env n fun b n1 => if b = true then mu env n1 P else P false n1) := by
  constructor
  intro pe F H σ env n P Q R p q
  refine h.run pe F H σ env n _ _ R p fun b F1 H1 n1 f1 p1 g1 => ?_
  cases b with
  | true =>
    rw [if_pos rfl] at g1 ⊢
    exact g.run pe F1 H1 σ env n1 _ _ (R.step f1 p1) g1 fun b F2 H2 n2 f2 p2 g2 => q b F2 H2 n2 (f1.trans f2) p2 g2
  | false =>
    rw [if_neg Bool.false_ne_true] at g1 ⊢
    exact q false F1 H1 n1 f1 p1 g1
theorem dt_or (h : DT K T tt mt) (g : DT K T tu mu) : DT K T (tOr tt tu) (fun env n P => mt env n fun b n1 => if b = true then P true n1 else mu env n1 P) := by
  constructor
  intro pe F H σ env n P Q R p q
  refine h.run pe F H σ env n _ _ R p fun b F1 H1 n1 f1 p1 g1 => ?_
  cases b with
  | true =>
    rw [if_pos rfl] at g1 ⊢
    exact q true F1 H1 n1 f1 p1 g1
  | false =>
    rw [if_neg Bool.false_ne_true] at g1 ⊢
    exact g.run pe F1 H1 σ env n1 _ _ (R.step f1 p1) g1 fun b F2 H2 n2 f2 p2 g2 => q b F2 H2 n2 (f1.trans f2) p2 g2
theorem dt_not (h : DT K T tt mt) : DT K T (tNot tt) (fun env n P => mt env n fun b n1 => P (!b) n1) := by
  constructor
  intro pe F H σ env n P Q R p q
  exact h.run pe F H σ env n _ _ R p fun b F1 H1 n1 f1 p1 g1 => q _ F1 H1 n1 f1 p1 g1
theorem de_if (h : DT K T tt mt) (ha : DE K T ta ma) (hb : DE K T tb mb) : DE K T (tIf tt ta tb) (fun env n P => mt env n fun b n1 => if b = true then ma env n1 P else mb env n1 P) := by
  constructor
  intro pe F H σ env n P Q R p q
  refine h.run pe F H σ env n _ _ R p fun b F1 H1 n1 f1 p1 g1 => ?_
  cases b with
  | true =>
    rw [if_pos rfl] at g1 ⊢
    exact ha.run pe F1 H1 σ env n1 _ _ (R.step f1 p1) g1 fun v F2 H2 d n2 f2 p2 h2 g2 => q v F2 H2 d n2 (f1.trans f2) p2 h2 g2
  | false =>
    rw [if_neg Bool.false_ne_true] at g1 ⊢
    exact hb.run pe F1 H1 σ env n1 _ _ (R.step f1 p1) g1 fun v F2 H2 d n2 f2 p2 h2 g2 => q v F2 H2 d n2 (f1.trans f2) p2 h2 g2
/-- not, and, or as values -/
theorem de_not (h : DE K T te m) : DE K T (tNotV te) (fun env n P => m env n fun d n1 => ∃ b, d = .bool b ∧ P (.bool (!b)) n1) := by
  constructor
  intro pe F H σ env n P Q R p q
  refine h.run pe F H σ env n _ _ R p fun x F1 H1 d n1 f1 p1 h1 ⟨b, e, g1⟩ => ?_
  subst e
  exact ⟨b, dp_bl h1, q _ F1 H1 _ n1 f1 p1 (.bl _) g1⟩
theorem de_and (ha : DE K T ta ma) (hb : DE K T tb mb) : DE K T (tAndV ta tb) (fun env n P => ma env n fun d n1 => ∃ b, d = .bool b ∧ if b = true then mb env n1 P else P (.bool false) n1) := by
  constructor
  intro pe F H σ env n P Q R p q
  refine ha.run pe F H σ env n _ _ R p fun x F1 H1 d n1 f1 p1 h1 ⟨b, e, g1⟩ => ?_
  subst e
  refine ⟨b, dp_bl h1, ?_⟩
  cases b with
  | true =>
    rw [if_pos rfl] at g1 ⊢
    exact hb.run pe F1 H1 σ env n1 _ _ (R.step f1 p1) g1 fun v F2 H2 d n2 f2 p2 h2 g2 => q v F2 H2 d n2 (f1.trans f2) p2 h2 g2
  | false =>
    rw [if_neg Bool.false_ne_true] at g1 ⊢
    exact q _ F1 H1 _ n1 f1 p1 (.bl _) g1
theorem de_or (ha : DE K T ta ma) (hb : DE K T tb mb) : DE K T (tOrV ta tb) (fun env n P => ma env n fun d n1 => ∃ b, d = .bool b ∧ if b = true then P (.bool true) n1 else mb env n1 P) := by
  constructor
  intro pe F H σ env n P Q R p q
  refine ha.run pe F H σ env n _ _ R p fun x F1 H1 d n1 f1 p1 h1 ⟨b, e, g1⟩ => ?_
  subst e
  refine ⟨b, dp_bl h1, ?_⟩
  cases b with
  | true =>
    rw [if_pos rfl] at g1 ⊢
    exact q _ F1 H1 _ n1 f1 p1 (.bl _) g1
  | false =>
    rw [if_neg Bool.false_ne_true] at g1 ⊢
    exact hb.run pe F1 H1 σ env n1 _ _ (R.step f1 p1) g1 fun v F2 H2 d n2 f2 p2 h2 g2 => q v F2 H2 d n2 (f1.trans f2) p2 h2 g2
def ArgsR (K : PySem.W.Frag) (pe : Pe) (F : Hp) : List V → List Sl → Prop
  | [], [] => True
  | v :: vs, s :: ss => ArgR K pe F v s ∧ ArgsR K pe F vs ss
  | _, _ => False
theorem ArgsR.len {pe : Pe} {F : Hp} : ∀ {vs : List V} {ss : List Sl}, ArgsR K pe F vs ss → vs.length = ss.length
  | [], [], _ => rfl
  | _ :: _, _ :: _, ⟨_, b⟩ => congrArg (· + 1) (ArgsR.len b)
structure DA (K : PySem.W.Frag) (T : List Addr) (ta : TA) (m : DTA) : Prop where
  run : ∀ (pe : Pe) (F H : Hp) (σ : L2.St) (env : Env) (n : Ws) (P : List Sl → Ws → Prop) (Q : List V → Hp → Prop), Lv K T pe F H σ env n → m env n P →
    (∀ vs F' H' ss n', Fr pe F H F' H' → PenAt K pe F' H' n' → ArgsR K pe F' vs ss → P ss n' → Q vs H') → ta σ H Q
theorem da_nil : DA K T tNil (fun _ n P => P [] n) := by
  constructor
  intro pe F H σ env n P Q R p q
  exact q [] F H [] n (.refl R.ex) R.pn trivial p
theorem da_cons {mv : DTA} {mx : DTX} (h : DX K T te mx) (g : DA K T tas mv) : DA K T (tCons te tas) (fun env n P => mx env n fun s n1 => mv env n1 fun ss n2 => P (s :: ss) n2) := by
  constructor
  intro pe F H σ env n P Q R p q
  refine h.run pe F H σ env n _ _ R p fun x F1 H1 d n1 f1 p1 h1 g1 => ?_
  refine g.run pe F1 H1 σ env n1 _ _ (R.step f1 p1) g1 fun vs F2 H2 ss n2 f2 p2 h2 g2 => ?_
  exact q (x :: vs) F2 H2 (d :: ss) n2 (f1.trans f2) p2 ⟨h1.ex f2.ff, h2⟩ g2
/-- what a def does with its arguments -/
abbrev DF := List Sl → Ws → (PyData → Ws → Prop) → Prop
def spD (K : PySem.W.Frag) (T : List Addr) (mf : DF) : Sp := fun vs H Q _ => ∃ (pe : Pe) (F : Hp) (ss : List Sl) (n : Ws) (P : PyData → Ws → Prop), pe.tabs = T ∧ Ex F H ∧ PenAt K pe F H n ∧ ArgsR K pe F vs ss ∧ mf ss n P ∧
  ∀ v F' H' d n', Fr pe F H F' H' → PenAt K pe F' H' n' → Dq K F' v d → P d n' → Q v H'
def tCallD (sp : Sp) (t : TA) : TE := fun σ H Q => t σ H fun vs H1 => sp vs H1 Q E0
theorem de_call {mv : DTA} {mf : DF} (h : DA K T tas mv) : DE K T (tCallD (spD K T mf) tas) (fun env n P => mv env n fun ss n1 => mf ss n1 P) := by
  constructor
  intro pe F H σ env n P Q R p q
  refine h.run pe F H σ env n _ _ R p fun vs F1 H1 ss n1 f1 p1 h1 g1 => ?_
  exact ⟨pe, F1, ss, n1, P, R.tb, f1.fh, p1, h1, g1, fun v F2 H2 d n2 f2 p2 h2 g2 => q v F2 H2 d n2 (f1.trans f2) p2 h2 g2⟩
end
end Dl

namespace Dl
open PySem PySem.Spec PyProof.Rows L2
open Evl (Ex sz_of sz_lt)
/-- base: how many lists that change the caller has -/
structure DEnds where
  base : Nat
  nx : Env → Ws → Prop
  rt : PyData → Ws → Prop
  bk : Env → Ws → Prop
  ct : Env → Ws → Prop
abbrev DTS := DEnds → Env → Ws → Prop
/-- the state as it runs, and what it is from the caller's sight -/
structure Rl (K : PySem.W.Frag) (T : List Addr) (pe0 : Pe) (F0 H0 : Hp) (pe : Pe) (F H : Hp) (σ : L2.St) (env : Env) (w : Ws) : Prop where
  lv : Lv K T pe F H σ env w
  fr : Fr pe0 F0 H0 F H
  ext : Ext pe0 pe H0
theorem Rl.step {K : PySem.W.Frag} {T : List Addr} {pe0 pe : Pe} {F0 H0 F H F1 H1 : Hp} {σ : L2.St} {env : Env} {w w1 : Ws} (R : Rl K T pe0 F0 H0 pe F H σ env w) (f : Fr pe F H F1 H1) (p : PenAt K pe F1 H1 w1) : Rl K T pe0 F0 H0 pe F1 H1 σ env w1 :=
  ⟨R.lv.step f p, R.fr.up R.ext f, R.ext⟩
theorem Rl.env {K : PySem.W.Frag} {T : List Addr} {pe0 pe : Pe} {F0 H0 F H : Hp} {σ σ' : L2.St} {env env' : Env} {w : Ws} (R : Rl K T pe0 F0 H0 pe F H σ env w) (h : EnvR K pe F σ' env') : Rl K T pe0 F0 H0 pe F H σ' env' w :=
  ⟨⟨h, R.lv.ex, R.lv.pn, R.lv.tb⟩, R.fr, R.ext⟩
/-- how a block's ends are met, from the frozen part F on -/
structure Meets (K : PySem.W.Frag) (T : List Addr) (pe0 : Pe) (F0 H0 F : Hp) (D : Ends) (d : DEnds) : Prop where
  bs : pe0.sh.length = d.base
  nx : ∀ pe' σ' env' F' H' n', Ex F F' → Rl K T pe0 F0 H0 pe' F' H' σ' env' n' → d.nx env' n' → D.nx σ' H'
  rt : ∀ pe' v F' H' x n', Fr pe0 F0 H0 F' H' → Ext pe0 pe' H0 → PenAt K pe' F' H' n' → Dq K F' v x → d.rt x n' → D.rt v H'
  bk : ∀ pe' σ' env' F' H' n', Ex F F' → Rl K T pe0 F0 H0 pe' F' H' σ' env' n' → d.bk env' n' → D.bk σ' H'
  ct : ∀ pe' σ' env' F' H' n', Ex F F' → Rl K T pe0 F0 H0 pe' F' H' σ' env' n' → d.ct env' n' → D.ct σ' H'
theorem Meets.later {K : PySem.W.Frag} {T : List Addr} {pe0 : Pe} {F0 H0 F F1 : Hp} {D : Ends} {d : DEnds} (M : Meets K T pe0 F0 H0 F D d) (e : Ex F F1) : Meets K T pe0 F0 H0 F1 D d :=
  ⟨M.bs, fun z a b c x n h => M.nx z a b c x n (e.trans h), M.rt, fun z a b c x n h => M.bk z a b c x n (e.trans h), fun z a b c x n h => M.ct z a b c x n (e.trans h)⟩
structure DS (K : PySem.W.Frag) (T : List Addr) (ts : TS) (m : DTS) : Prop where
  run : ∀ (pe0 : Pe) (F0 H0 : Hp) (pe : Pe) (F H : Hp) (σ : L2.St) (env : Env) (n : Ws) (D : Ends) (d : DEnds), Rl K T pe0 F0 H0 pe F H σ env n → m d env n → Meets K T pe0 F0 H0 F D d → ts D σ H
section
variable {K : PySem.W.Frag} {T : List Addr} {ta tb te : TE} {tas : TA} {ma mb m : DTE} {mx my : DTX} {tt tu : TT} {mt mu : DTT} {t1 t2 : TS} {m1 m2 : DTS}
theorem ds_seq (h : DS K T t1 m1) (g : DS K T t2 m2) : DS K T (tSeq t1 t2) (fun d env n => m1 { d with nx := m2 d } env n) := by
  constructor
  intro pe0 F0 H0 pe F H σ env n D d R p M
  exact h.run pe0 F0 H0 pe F H σ env n _ _ R p ⟨M.bs, fun pe' σ' env' F' H' n' e R' q => g.run pe0 F0 H0 pe' F' H' σ' env' n' D d R' q (M.later e), M.rt, M.bk, M.ct⟩
theorem ds_next : DS K T tNext (fun d env n => d.nx env n) := by
  constructor
  intro pe0 F0 H0 pe F H σ env n D d R p M
  exact M.nx pe σ env F H n (Evl.Ex.refl F) R p
theorem ds_brk : DS K T tBreak (fun d env n => d.bk env n) := by
  constructor
  intro pe0 F0 H0 pe F H σ env n D d R p M
  exact M.bk pe σ env F H n (Evl.Ex.refl F) R p
theorem ds_cont : DS K T tCont (fun d env n => d.ct env n) := by
  constructor
  intro pe0 F0 H0 pe F H σ env n D d R p M
  exact M.ct pe σ env F H n (Evl.Ex.refl F) R p
theorem ds_ret (h : DE K T te m) : DS K T (tRet te) (fun d env n => m env n d.rt) := by
  constructor
  intro pe0 F0 H0 pe F H σ env n D d R p M
  exact h.run pe F H σ env n _ _ R.lv p fun v F1 H1 x n1 f1 p1 h1 g1 => M.rt pe v F1 H1 x n1 (R.fr.up R.ext f1) R.ext p1 h1 g1
theorem ds_retN : DS K T tRetN (fun d env n => d.rt .none n) := by
  constructor
  intro pe0 F0 H0 pe F H σ env n D d R p M
  exact M.rt pe .non F H .none n R.fr R.ext R.lv.pn .non p
theorem ds_if (c : DT K T tt mt) (h : DS K T t1 m1) (g : DS K T t2 m2) : DS K T (tIfS tt t1 t2) (fun d env n => mt env n fun b n1 => if b = true then m1 d env n1 else m2 d env n1) := by
  constructor
  intro pe0 F0 H0 pe F H σ env n D d R p M
  refine c.run pe F H σ env n _ _ R.lv p fun b F1 H1 n1 f1 p1 g1 => ?_
  cases b with
  | true =>
    rw [if_pos rfl] at g1 ⊢
    exact h.run pe0 F0 H0 pe F1 H1 σ env n1 D d (R.step f1 p1) g1 (M.later f1.ff)
  | false =>
    rw [if_neg Bool.false_ne_true] at g1 ⊢
    exact g.run pe0 F0 H0 pe F1 H1 σ env n1 D d (R.step f1 p1) g1 (M.later f1.ff)
theorem ds_drop (h : DE K T te m) : DS K T (tDrop te) (fun d env n => m env n fun _ n1 => d.nx env n1) := by
  constructor
  intro pe0 F0 H0 pe F H σ env n D d R p M
  exact h.run pe F H σ env n _ _ R.lv p fun v F1 H1 x n1 f1 p1 h1 g1 => M.nx pe σ env F1 H1 n1 f1.ff (R.step f1 p1) g1
abbrev DTG := Sl → Env → (Env → Prop) → Prop
structure DG (K : PySem.W.Frag) (g : TG) (mg : DTG) : Prop where
  run : ∀ (pe : Pe) (F H : Hp) (σ : L2.St) (env : Env) (v : V) (d : Sl) (P : Env → Prop) (Q : L2.St → Hp → Prop), EnvR K pe F σ env → Ex F H → ArgR K pe F v d → mg d env P →
    (∀ σ' env', EnvR K pe F σ' env' → P env' → Q σ' H) → g v σ H Q
theorem dg_name {i : Nat} : DG K (gName i) (fun d env P => P (env.set i d)) := by
  constructor
  intro pe F H σ env v d P Q R ex h p q
  exact q _ _ (R.set i h.slot) p
abbrev DTGs := List PyData → Env → (Env → Prop) → Prop
structure DGs (K : PySem.W.Frag) (g : TGs) (mg : DTGs) : Prop where
  run : ∀ (pe : Pe) (F H : Hp) (σ : L2.St) (env : Env) (vs : List V) (ds : List PyData) (P : Env → Prop) (Q : L2.St → Hp → Prop), EnvR K pe F σ env → Ex F H → DqAll K F vs ds → mg ds env P →
    (∀ σ' env', EnvR K pe F σ' env' → P env' → Q σ' H) → g vs σ H Q
theorem dgs_nil : DGs K gNil (fun ds env P => ds = [] ∧ P env) := by
  constructor
  rintro pe F H σ env vs ds P Q R ex h ⟨rfl, p⟩ q
  exact ⟨all_nil h, q _ _ R p⟩
theorem dgs_cons {g : TG} {mg : DTG} {gs : TGs} {mgs : DTGs} (h : DG K g mg) (hs : DGs K gs mgs) : DGs K (gCons g gs) (fun ds env P => ∃ d es, ds = d :: es ∧ mg (.val d) env fun env' => mgs es env' P) := by
  constructor
  rintro pe F H σ env vs ds P Q R ex a ⟨d, es, rfl, p⟩ q
  cases a with
  | cons a1 a2 => exact ⟨_, _, rfl, h.run pe F H σ env _ (.val d) _ _ R ex a1 p fun σ' env' R' p' => hs.run pe F H σ' env' _ es _ _ R' ex a2 p' q⟩
theorem dg_tup {k : Nat} {gs : TGs} {mgs : DTGs} (hs : DGs K gs mgs) : DG K (gTup K k gs) (fun d env P => ∃ ds, d = .val (.tuple ds) ∧ ds.length = k ∧ mgs ds env P) := by
  constructor
  rintro pe F H σ env v d P Q R ex a ⟨ds, rfl, l, p⟩ q
  cases (show Dq K F v (.tuple ds) from a) with
  | tup h a => exact ⟨_, _, rfl, Evl.ex_t ex h, by rw [dps_len a]; exact l, hs.run pe F H σ env _ ds _ _ R ex a p q⟩
theorem ds_asg {g : TG} {mg : DTG} (h : DX K T te mx) (hg : DG K g mg) : DS K T (tAsg te g) (fun d env n => mx env n fun x n1 => mg x env fun env' => d.nx env' n1) := by
  constructor
  intro pe0 F0 H0 pe F H σ env n D d R p M
  refine h.run pe F H σ env n _ _ R.lv p fun v F1 H1 x n1 f1 p1 h1 g1 => ?_
  have R1 := R.step f1 p1
  exact hg.run pe F1 H1 σ env v x _ _ R1.lv.er R1.lv.ex h1 g1 fun σ' env' R' p' => M.nx pe σ' env' F1 H1 n1 f1.ff (R1.env R') p'
theorem get_app {α : Type} {xs : List α} {x : α} {i : Nat} {y : α} (h : xs[i]? = some y) : (xs ++ [x])[i]? = some y := by
  have l : i < xs.length := by
    rcases Nat.lt_or_ge i xs.length with l | l
    · exact l
    · rw [List.getElem?_eq_none l] at h
      cases h
  rw [List.getElem?_append_left l]
  exact h
theorem EnvR.more {pe : Pe} {F : Hp} {σ : L2.St} {env : Env} {p : Addr} (h : EnvR K pe F σ env) : EnvR K { pe with sh := pe.sh ++ [p] } F σ env := by
  refine ⟨h.len, fun i s e => ?_⟩
  have q := h.sl i s e
  cases s with
  | no => trivial
  | val d => exact q
  | pen => exact q
  | sh j =>
    obtain ⟨a, h1, h2⟩ := q
    exact ⟨a, get_app h1, h2⟩
/-- one more list that changes -/
theorem PenAt.more {pe : Pe} {F H : Hp} {w : Ws} {p : Addr} {vs : List V} {xs : List PyData} (h : PenAt K pe F H w) (far : Far pe p) (hp : H p = some (.lst vs)) (nF : F p = none) (a : DqAll K F vs xs) : PenAt K { pe with sh := pe.sh ++ [p] } F H ⟨w.n, w.os ++ [some xs]⟩ := by
  have np : p ∉ pe.sh := fun z => far.1 (.inr (.inl z))
  refine ⟨fun q c z => ?_, ?_, ?_, fun i q ys h1 h2 => ?_, fun q hq => ?_, h.tab⟩
  · obtain ⟨cs, t, r, h1, h2, h3, h4, h5, h6, h7, h8⟩ := h.pen q c z
    refine ⟨cs, t, r, h1, h2, h3, h4, h5, h6, fun z1 => ?_, fun z1 => ?_⟩
    · rcases List.mem_append.mp z1 with z1 | z1
      · exact h7 z1
      · have e : q = p := by simpa using z1
        exact far.1 (.inl ⟨c, e ▸ z⟩)
    · rcases List.mem_append.mp z1 with z1 | z1
      · exact h8 z1
      · have e : c = p := by simpa using z1
        exact far.2 q c z e
  · show (w.os ++ [some xs]).length = (pe.sh ++ [p]).length
    rw [List.length_append, List.length_append, h.len]
    rfl
  · show (pe.sh ++ [p]).Nodup
    rw [List.nodup_append]
    refine ⟨h.nd, by simp, fun a ha b hb e => ?_⟩
    have e2 : b = p := by simpa using hb
    exact np (by rw [← e2, ← e]; exact ha)
  · have h1 : (pe.sh ++ [p])[i]? = some q := h1
    have h2 : (w.os ++ [some xs])[i]? = some (some ys) := h2
    rcases Nat.lt_or_ge i pe.sh.length with l | l
    · rw [List.getElem?_append_left l] at h1
      rw [List.getElem?_append_left (by rw [h.len]; exact l)] at h2
      exact h.sh i q ys h1 h2
    · rw [List.getElem?_append_right l] at h1
      rw [List.getElem?_append_right (by rw [h.len]; exact l), h.len] at h2
      cases e : i - pe.sh.length with
      | zero =>
        rw [e] at h1 h2
        cases h1
        cases h2
        exact ⟨vs, hp, a, nF⟩
      | succ k =>
        rw [e] at h1
        cases h1
  · rcases List.mem_append.mp hq with z | z
    · exact h.at_ q z
    · have e : q = p := by simpa using z
      exact ⟨vs, by rw [e]; exact hp⟩
abbrev DTN := Env → Ws → (List PyData → Ws → Prop) → Prop
/-- an expression whose value is a new list -/
structure DN (K : PySem.W.Frag) (T : List Addr) (te : TE) (m : DTN) : Prop where
  run : ∀ (pe : Pe) (F H : Hp) (σ : L2.St) (env : Env) (n : Ws) (P : List PyData → Ws → Prop) (Q : VK), Lv K T pe F H σ env n → m env n P →
    (∀ p F' H' vs xs n', Fr pe F H F' H' → PenAt K pe F' H' n' → H p = none → H' p = some (.lst vs) → F' p = none → DqAll K F' vs xs → P xs n' → Q (.ref p) H') → te σ H Q
/-- it is kept as one that changes -/
theorem ds_own {mn : DTN} {i : Nat} (h : DN K T te mn) : DS K T (tAsg te (gName i)) (fun d env n => mn env n fun xs n1 => d.nx (env.set i (.sh n1.os.length)) ⟨n1.n, n1.os ++ [some xs]⟩) := by
  constructor
  intro pe0 F0 H0 pe F H σ env n D d R p M
  refine h.run pe F H σ env n _ _ R.lv p fun a F1 H1 vs xs n1 f1 p1 np hp nF ha g1 => ?_
  have far := R.lv.pn.far np
  have R1 := R.step f1 p1
  have p2 := p1.more far hp nF ha
  have e2 : Ext pe0 { pe with sh := pe.sh ++ [a] } H0 := by
    obtain ⟨ex, e1, e2⟩ := R.ext.sh
    refine ⟨R.ext.pen, R.ext.tabs, ex ++ [a], by show pe.sh ++ [a] = _; rw [e1, List.append_assoc], fun q hq => ?_⟩
    rcases List.mem_append.mp hq with z | z
    · exact e2 q z
    · have e : q = a := by simpa using z
      rw [e]
      cases z : H0 a with
      | none => rfl
      | some u => exact absurd np (R.fr.dom a (by rw [z]; simp))
  refine M.nx { pe with sh := pe.sh ++ [a] } _ _ F1 H1 _ f1.ff ⟨⟨?_, f1.fh, p2, R.lv.tb⟩, R1.fr, e2⟩ g1
  refine (R1.lv.er.more).set i ⟨a, ?_, rfl⟩
  show (pe.sh ++ [a])[n1.os.length]? = some a
  rw [p1.len, List.getElem?_append_right (Nat.le_refl _), Nat.sub_self]
  rfl
/-- it is data -/
theorem Fr.frz {pe : Pe} {F H F' H' : Hp} {p : Addr} {vs : List V} (f : Fr pe F H F' H') (np : H p = none) (hp : H' p = some (.lst vs)) (nF : F' p = none) : Fr pe F H (upd F' p (.lst vs)) H' := by
  refine ⟨fun b u z => Ex.new nF b u (f.ff b u z), fun b u z => ?_, f.hh, f.dom, fun b z1 z2 => ?_⟩
  · by_cases e : b = p
    · rw [e, upd_same] at z
      rw [e, hp]
      exact z
    · rw [upd_ne e] at z
      exact f.fh b u z
  · by_cases e : b = p
    · exact absurd (e ▸ np) z1
    · rw [upd_ne e]
      exact f.new b z1 z2
theorem PenAt.frz {pe : Pe} {F H : Hp} {w : Ws} {p : Addr} {vs : List V} (h : PenAt K pe F H w) (far : Far pe p) (nF : F p = none) : PenAt K pe (upd F p (.lst vs)) H w := by
  refine ⟨fun q c z => ?_, h.len, h.nd, fun i q ys h1 h2 => ?_, h.at_, fun P hP => ?_⟩
  · obtain ⟨cs, t, r, h1, h2, h3, h4, h5, h6⟩ := h.pen q c z
    have n1 : q ≠ p := fun e => far.1 (.inl ⟨c, e ▸ z⟩)
    exact ⟨cs, t, r, h1, h2, h3, h4, by rw [upd_ne n1]; exact h5, h6⟩
  · obtain ⟨us, h3, h4, h5⟩ := h.sh i q ys h1 h2
    have n1 : q ≠ p := fun e => far.1 (.inr (.inl (e ▸ List.mem_of_getElem? h1)))
    exact ⟨us, h3, dp_exs (Ex.new nF) h4, by rw [upd_ne n1]; exact h5⟩
  · obtain ⟨h1, h2⟩ := h.tab P hP
    have n1 : P ≠ p := fun e => far.1 (.inr (.inr (e ▸ hP)))
    exact ⟨by rw [upd_ne n1]; exact h1, h2⟩
theorem de_new {mn : DTN} (h : DN K T te mn) : DE K T te (fun env n P => mn env n fun xs n1 => P (.list xs) n1) := by
  constructor
  intro pe F H σ env n P Q R p q
  refine h.run pe F H σ env n _ _ R p fun a F1 H1 vs xs n1 f1 p1 np hp nF ha g1 => ?_
  exact q _ _ _ _ n1 (f1.frz np hp nF) (p1.frz (R.pn.far np) nF) (.lst upd_same (dp_exs (Ex.new nF) ha)) g1
theorem dn_lst {mv : DTV} (h : DV K T tas mv) : DN K T (tLst tas) (fun env n P => mv env n fun ds n1 => ds.length ≤ 100000 ∧ P ds n1) := by
  constructor
  intro pe F H σ env n P Q R p q
  refine h.run pe F H σ env n _ _ R p fun vs F1 H1 ds n1 f1 p1 h1 ⟨l, g1⟩ => ⟨by rw [dps_len h1]; exact sz_of l, fun r nr => ?_⟩
  have nr0 : H r = none := by
    cases z : H r with
    | none => rfl
    | some u => exact absurd nr (f1.dom r (by rw [z]; simp))
  exact q r F1 _ vs ds n1 (f1.trans (Fr.mine f1.fh nr)) (p1.mut (p1.far nr)) nr0 upd_same (Evl.fresh_back f1.fh nr) h1 g1
/-- from now on it changes no more -/
theorem ds_frz (k : Nat) (h : DS K T t1 m1) : DS K T t1 (fun d env n => ∃ i xs, env[k]? = some (.sh i) ∧ n.os[i]? = some (some xs) ∧ d.base ≤ i ∧ m1 d (env.set k (.val (.list xs))) ⟨n.n, n.os.set i none⟩) := by
  constructor
  rintro pe0 F0 H0 pe F H σ env n D d R ⟨i, xs, e1, e2, hb, p⟩ M
  obtain ⟨a, h1, h2⟩ := R.lv.er.sl k _ e1
  obtain ⟨vs, h3, h4, nF⟩ := R.lv.pn.sh i a xs h1 e2
  have na0 : H0 a = none := by
    obtain ⟨ex, e3, e4⟩ := R.ext.sh
    refine e4 a ?_
    rw [e3, List.getElem?_append_right (by rw [M.bs]; exact hb)] at h1
    exact List.mem_of_getElem? h1
  have fx := Ex.new (o := .lst vs) nF
  have ex' : Ex (upd F a (.lst vs)) H := fun b u z => by
    by_cases e : b = a
    · rw [e, upd_same] at z
      rw [e, h3]
      exact z
    · rw [upd_ne e] at z
      exact R.lv.ex b u z
  have pn' : PenAt K pe (upd F a (.lst vs)) H ⟨n.n, n.os.set i none⟩ := by
    refine ⟨fun q c z => ?_, by show (n.os.set i none).length = _; rw [List.length_set]; exact R.lv.pn.len, R.lv.pn.nd, fun j q ys z1 z2 => ?_, R.lv.pn.at_, fun P hP => ?_⟩
    · obtain ⟨cs, t, r, z1, z2, z3, z4, z5, z6, z7, z8⟩ := R.lv.pn.pen q c z
      have n1 : q ≠ a := fun e => z7 (e ▸ List.mem_of_getElem? h1)
      exact ⟨cs, t, r, z1, z2, z3, z4, by rw [upd_ne n1]; exact z5, z6, z7, z8⟩
    · have z2 : (n.os.set i none)[j]? = some (some ys) := z2
      by_cases e : i = j
      · subst e
        rw [List.getElem?_set_self (by
          rcases Nat.lt_or_ge i n.os.length with l | l
          · exact l
          · rw [List.getElem?_eq_none l] at e2
            cases e2)] at z2
        cases z2
      · rw [List.getElem?_set_ne e] at z2
        obtain ⟨us, z3, z4, z5⟩ := R.lv.pn.sh j q ys z1 z2
        have n1 : q ≠ a := fun e' => by
          rw [e'] at z1
          refine e ((List.getElem?_inj (i := i) (j := j) ?_ R.lv.pn.nd).mp (h1.trans z1.symm))
          rcases Nat.lt_or_ge i pe.sh.length with l | l
          · exact l
          · rw [List.getElem?_eq_none l] at h1
            cases h1
        exact ⟨us, z3, dp_exs fx z4, by rw [upd_ne n1]; exact z5⟩
    · obtain ⟨z1, ps, z2, z3⟩ := R.lv.pn.tab P hP
      have n1 : P ≠ a := fun e => by
        rw [e, h3] at z2
        cases z2
      exact ⟨by rw [upd_ne n1]; exact z1, ps, z2, z3⟩
  refine h.run pe0 F0 H0 pe (upd F a (.lst vs)) H σ (env.set k (.val (.list xs))) ⟨n.n, n.os.set i none⟩ D d ⟨⟨?_, ex', pn', R.lv.tb⟩, ?_, R.ext⟩ p (M.later fx)
  · have er := R.lv.er.ff fx
    have hk : σ.set k (some (.ref a)) = σ := by
      refine List.ext_getElem? fun j => ?_
      by_cases e : k = j
      · subst e
        rw [h2, List.getElem?_set_self (by
          rcases Nat.lt_or_ge k σ.length with l | l
          · exact l
          · rw [List.getElem?_eq_none l] at h2
            cases h2)]
      · rw [List.getElem?_set_ne e]
    rw [← hk]
    exact er.set k ⟨.ref a, rfl, .lst upd_same (dp_exs fx h4)⟩
  · refine ⟨R.fr.ff.trans fx, ex', R.fr.hh, R.fr.dom, fun b z1 z2 => ?_⟩
    by_cases e : b = a
    · exact absurd (e ▸ na0) z1
    · rw [upd_ne e]
      exact R.fr.new b z1 z2
end
end Dl

namespace Dl
open PySem PySem.Spec PyProof.Rows L2
open Evl (Ex sz_of sz_lt)
section
variable {K : PySem.W.Frag} {T : List Addr} {ta tb te : TE} {tas : TA} {ma mb m : DTE} {mx my : DTX} {tt tu : TT} {mt mu : DTT} {t1 t2 : TS} {m1 m2 : DTS}
/-- J walks the data ds, whatever comes to be, as long as the frozen part F stands -/
def WalkD (K : PySem.W.Frag) (J : It) (F : Hp) (ds : List PyData) : Prop := ∀ (pe : Pe) (F1 H1 : Hp), Ex F F1 → Ex F1 H1 →
  (∀ i, i < ds.length → J.go i H1 ∧ ∀ x H2, J.yld i H1 x H2 → ∃ F2 d, Fr pe F1 H1 F2 H2 ∧ Ex H1 H2 ∧ Dq K F2 x d ∧ ds[i]? = some d) ∧ J.stop ds.length H1
structure DI (K : PySem.W.Frag) (T : List Addr) (wi : TI) (mi : DTV) : Prop where
  run : ∀ (pe : Pe) (F H : Hp) (σ : L2.St) (env : Env) (n : Ws) (P : List PyData → Ws → Prop) (R : It → Hp → Prop), Lv K T pe F H σ env n → mi env n P →
    (∀ J F' H' ds n', Fr pe F H F' H' → PenAt K pe F' H' n' → WalkD K J F' ds → P ds n' → R J H') → wi σ H R
theorem walkD_of {J : It} {F : Hp} {ds : List PyData} {vs : List V} {G : Hp → Prop} (w : Walk J vs.length G (YAt vs)) (a : DqAll K F vs ds) (g : ∀ H1, Ex F H1 → G H1) : WalkD K J F ds := by
  intro pe F1 H1 e1 e2
  have hg := g H1 (e1.trans e2)
  have l := dps_len a
  refine ⟨fun i hi => ⟨w.goes i H1 (by rw [l]; exact hi) hg, fun x H2 y => ?_⟩, by rw [← l]; exact w.stops H1 hg⟩
  obtain ⟨rfl, hx⟩ := w.yields i H1 x H2 (by rw [l]; exact hi) hg y
  obtain ⟨d, h1, h2⟩ := dps_get' a hx
  exact ⟨F1, d, .refl e2, fun _ _ z => z, dp_ex e1 h2, h1⟩
/-- over a list, over a tuple -/
theorem di_list (h : DE K T te m) : DI K T (iList K te) (fun env n P => m env n fun d n1 => ∃ ds, d = .list ds ∧ P ds n1) := by
  constructor
  intro pe F H σ env n P R' R p q
  refine h.run pe F H σ env n _ _ R p fun v F1 H1 x n1 f1 p1 h1 ⟨ds, e, g1⟩ => ?_
  subst e
  cases h1 with
  | lst h a => exact ⟨_, rfl, ⟨_, SqL.of (f1.fh _ _ h)⟩, q _ F1 H1 ds n1 f1 p1 (walkD_of walk_list a fun H2 e => SqL.of (e _ _ h)) g1⟩
theorem di_tup (h : DE K T te m) : DI K T (iTup K te) (fun env n P => m env n fun d n1 => ∃ ds, d = .tuple ds ∧ P ds n1) := by
  constructor
  intro pe F H σ env n P R' R p q
  refine h.run pe F H σ env n _ _ R p fun v F1 H1 x n1 f1 p1 h1 ⟨ds, e, g1⟩ => ?_
  subst e
  cases h1 with
  | tup h a => exact ⟨_, rfl, ⟨_, Evl.ex_t f1.fh h⟩, q _ F1 H1 ds n1 f1 p1 (walkD_of walk_tup a fun H2 e => Evl.ex_t e h) g1⟩
/-- range(k) -/
def upTo (k : Nat) : List PyData := (List.range k).map fun (i : Nat) => PyData.int i
theorem di_range (h : DE K T te m) : DI K T (iRng1 (tCons te tNil)) (fun env n P => m env n fun d n1 => ∃ j : Int, d = .int j ∧ -(2 ^ 62) ≤ j ∧ j < 2 ^ 62 ∧ P (upTo j.toNat) n1) := by
  constructor
  intro pe F H σ env n P R' R p q
  refine h.run pe F H σ env n _ _ R p fun v F1 H1 x n1 f1 p1 h1 ⟨j, e, b1, b2, g1⟩ => ?_
  subst e
  have ev := dp_int h1
  subst ev
  refine ⟨j, rfl, b1, b2, q _ F1 H1 _ n1 f1 p1 (fun pe F2 H2 e1 e2 => ⟨fun i hi => ?_, ?_⟩) g1⟩
  · unfold upTo at hi
    rw [List.length_map, List.length_range] at hi
    refine ⟨walk_range.goes i H2 hi trivial, fun x H3 y => ?_⟩
    obtain ⟨rfl, rfl⟩ := walk_range.yields i H2 x H3 hi trivial y
    refine ⟨F2, .int i, .refl e2, fun _ _ z => z, ?_, ?_⟩
    · show Dq K F2 (.int (0 + (i : Int))) (.int (i : Int))
      rw [Int.zero_add]
      exact .int _
    · unfold upTo
      rw [List.getElem?_map, List.getElem?_range hi]
      rfl
  · unfold upTo
    rw [List.length_map, List.length_range]
    exact walk_range.stops H2 trivial
def wFor (mg : DTG) (mb : DTS) (d : DEnds) : List PyData → Env → Ws → Prop
  | [], env, n => d.nx env n
  | x :: xs, env, n => mg (.val x) env fun env' => mb { d with nx := wFor mg mb d xs, ct := wFor mg mb d xs, bk := d.nx } env' n
theorem drop_at {α : Type} {xs : List α} {i : Nat} {x : α} (h : xs[i]? = some x) : xs.drop i = x :: xs.drop (i + 1) := by
  obtain ⟨hl, rfl⟩ := List.getElem?_eq_some_iff.mp h
  exact List.drop_eq_getElem_cons hl
theorem ds_for {wi : TI} {mi : DTV} {g : TG} {mg : DTG} (hi : DI K T wi mi) (hg : DG K g mg) (h : DS K T t1 m1) : DS K T (tFor wi g t1) (fun d env n => mi env n fun ds n1 => wFor mg m1 d ds env n1) := by
  constructor
  intro pe0 F0 H0 pe F H σ env n D d R p M
  refine hi.run pe F H σ env n _ _ R.lv p fun J F1 H1 ds n1 f1 p1 W g1 => ?_
  refine ⟨fun i k σ' H' => k = ds.length - i ∧ i ≤ ds.length ∧ ∃ pe' env' F' n', Ex F1 F' ∧ Rl K T pe0 F0 H0 pe' F' H' σ' env' n' ∧ wFor mg m1 d (ds.drop i) env' n',
    ⟨_, rfl, Nat.zero_le _, pe, env, F1, n1, Evl.Ex.refl _, R.step f1 p1, g1⟩, ?_⟩
  rintro i k σ' H' ⟨rfl, hil, pe', env', F', n', e1, R1, w⟩
  have wk := W pe' F' H' e1 R1.lv.ex
  by_cases hlt : i < ds.length
  · obtain ⟨go, yl⟩ := wk.1 i hlt
    refine .inr ⟨go, fun σ2 H2 => i + 1 ≤ ds.length ∧ ∃ pe' env' F' n', Ex F1 F' ∧ Rl K T pe0 F0 H0 pe' F' H2 σ2 env' n' ∧ wFor mg m1 d (ds.drop (i + 1)) env' n', fun σ2 H2 h2 => ⟨ds.length - (i + 1), by omega, rfl, h2.1, h2.2⟩, fun x H2 y => ?_⟩
    obtain ⟨F2, z, f2, e2, hz, hd⟩ := yl x H2 y
    rw [drop_at hd] at w
    have R2 := R1.step f2 (R1.lv.pn.pure f2.ff e2 f2.new)
    refine hg.run pe' F2 H2 σ' env' x (.val z) _ _ R2.lv.er R2.lv.ex hz w fun σ3 env3 R3 w3 => ?_
    refine h.run pe0 F0 H0 pe' F2 H2 σ3 env3 n' _ _ (R2.env R3) w3 ⟨M.bs, ?_, M.rt, ?_, ?_⟩
    · intro pe4 σ4 env4 F4 H4 n4 e4 R4 w4
      exact ⟨hlt, pe4, env4, F4, n4, (e1.trans f2.ff).trans e4, R4, w4⟩
    · intro pe4 σ4 env4 F4 H4 n4 e4 R4 w4
      exact M.nx pe4 σ4 env4 F4 H4 n4 (((f1.ff.trans e1).trans f2.ff).trans e4) R4 w4
    · intro pe4 σ4 env4 F4 H4 n4 e4 R4 w4
      exact ⟨hlt, pe4, env4, F4, n4, (e1.trans f2.ff).trans e4, R4, w4⟩
  · have e : i = ds.length := by omega
    subst e
    rw [List.drop_length] at w
    exact .inl ⟨wk.2, M.nx pe' σ' env' F' H' n' (f1.ff.trans e1) R1 w⟩
def wWhile (mc : DTT) (mb : DTS) (d : DEnds) : Nat → Env → Ws → Prop
  | 0, _, _ => False
  | k + 1, env, n => mc env n fun b n1 => if b = true then mb { d with nx := wWhile mc mb d k, ct := wWhile mc mb d k, bk := d.nx } env n1 else d.nx env n1
theorem ds_while (c : DT K T tt mt) (h : DS K T t1 m1) : DS K T (tWhile tt t1) (fun d env n => ∃ k, wWhile mt m1 d k env n) := by
  constructor
  rintro pe0 F0 H0 pe F H σ env n D d R ⟨k, p⟩ M
  refine ⟨fun k σ' H' => ∃ pe' env' F' n', Ex F F' ∧ Rl K T pe0 F0 H0 pe' F' H' σ' env' n' ∧ wWhile mt m1 d k env' n', ⟨k, pe, env, F, n, Evl.Ex.refl _, R, p⟩, ?_⟩
  rintro k σ' H' ⟨pe', env', F', n', e1, R1, w⟩
  cases k with
  | zero => exact w.elim
  | succ k =>
    refine c.run pe' F' H' σ' env' n' _ _ R1.lv w fun b F2 H2 n2 f2 p2 g2 => ?_
    have R2 := R1.step f2 p2
    cases b with
    | false =>
      rw [if_neg Bool.false_ne_true] at g2 ⊢
      exact M.nx pe' σ' env' F2 H2 n2 (e1.trans f2.ff) R2 g2
    | true =>
      rw [if_pos rfl] at g2 ⊢
      refine ⟨fun σ3 H3 => ∃ pe' env' F' n', Ex F F' ∧ Rl K T pe0 F0 H0 pe' F' H3 σ3 env' n' ∧ wWhile mt m1 d k env' n', fun σ3 H3 h3 => ⟨k, Nat.lt_succ_self k, h3⟩, ?_⟩
      have ee := e1.trans f2.ff
      refine h.run pe0 F0 H0 pe' F2 H2 σ' env' n2 _ _ R2 g2 ⟨M.bs, ?_, M.rt, ?_, ?_⟩
      · intro pe4 σ4 env4 F4 H4 n4 e4 R4 w4
        exact ⟨pe4, env4, F4, n4, ee.trans e4, R4, w4⟩
      · intro pe4 σ4 env4 F4 H4 n4 e4 R4 w4
        exact M.nx pe4 σ4 env4 F4 H4 n4 (ee.trans e4) R4 w4
      · intro pe4 σ4 env4 F4 H4 n4 e4 R4 w4
        exact ⟨pe4, env4, F4, n4, ee.trans e4, R4, w4⟩
def wipeE (env : Env) : List Nat → Env
  | [] => env
  | v :: vs => (wipeE env vs).set v .no
theorem EnvR.wipe {pe : Pe} {F : Hp} {σ : L2.St} {env : Env} (R : EnvR K pe F σ env) : ∀ vs : List Nat, EnvR K pe F (L2.wipe σ vs) (wipeE env vs)
  | [] => R
  | v :: vs => (EnvR.wipe R vs).set v (s := .no) trivial
theorem dt_yes : DT K T tYes (fun _ n P => P true n) := by
  constructor
  intro pe F H σ env n P Q R p q
  exact q true F H n (.refl R.ex) R.pn p
/-- targets leave the wiped slots alone but for their own -/
def Keeps (g : TG) (vs : List Nat) : Prop := ∀ (v : V) (σ : L2.St) (H : Hp) (Q : L2.St → Hp → Prop), g v (wipe σ vs) H Q → g v (wipe σ vs) H fun σ2 H2 => wipe σ2 vs = wipe σ vs ∧ Q σ2 H2
theorem wipe_set {σ : L2.St} {i : Nat} {x : Option V} : ∀ {vs : List Nat}, i ∈ vs → wipe (σ.set i x) vs = wipe σ vs
  | v :: vs, h => by
    show (wipe (σ.set i x) vs).set v none = (wipe σ vs).set v none
    by_cases z : i ∈ vs
    · rw [wipe_set z]
    · rcases List.mem_cons.mp h with rfl | h
      · have c : ∀ {vs : List Nat}, i ∉ vs → wipe (σ.set i x) vs = (wipe σ vs).set i x := by
          intro vs
          induction vs with
          | nil => intro _; rfl
          | cons a vs ih =>
            intro hn
            have h1 : i ≠ a := fun e => hn (e ▸ List.mem_cons_self)
            show (wipe (σ.set i x) vs).set a none = ((wipe σ vs).set a none).set i x
            rw [ih (fun e => hn (List.mem_cons_of_mem _ e)), List.set_comm _ _ h1]
        rw [c z, List.set_set]
      · exact absurd h z
theorem wipe_wipe {σ : L2.St} : ∀ {vs ws : List Nat}, (∀ v ∈ vs, v ∈ ws) → wipe (wipe σ vs) ws = wipe σ ws
  | [], _, _ => rfl
  | v :: vs, ws, h => by
    show wipe ((wipe σ vs).set v none) ws = wipe σ ws
    rw [wipe_set (h v List.mem_cons_self), wipe_wipe fun x hx => h x (List.mem_cons_of_mem _ hx)]
theorem keeps_name {i : Nat} {vs : List Nat} (h : i ∈ vs) : Keeps (gName i) vs := by
  intro v σ H Q q
  exact ⟨by rw [wipe_set h, wipe_wipe fun _ z => z], q⟩
def wLc (mg : DTG) (mt : DTT) (me : DTE) (env : Env) (P : List PyData → Ws → Prop) : List PyData → List PyData → Ws → Prop
  | acc, [], n => P acc n
  | acc, x :: xs, n => mg (.val x) env fun env' => mt env' n fun b n1 => if b = true then me env' n1 fun y n2 => acc.length < 100000 ∧ wLc mg mt me env P (acc ++ [y]) xs n2 else wLc mg mt me env P acc xs n1
theorem dn_lc {wi : TI} {mi : DTV} {g : TG} {mg : DTG} {vs : List Nat} (hi : DI K T wi mi) (hg : DG K g mg) (kg : Keeps g vs) (ht : DT K T tt mt) (h : DE K T te m) :
    DN K T (tLc wi g tt te vs) (fun env n P => mi env n fun ds n1 => wLc mg mt m (wipeE env vs) P [] ds n1) := by
  constructor
  intro pe F H σ env n P Q R p q
  refine hi.run pe F H σ env n _ _ R p fun J F1 H1 ds n1 f1 p1 W g1 D nD => ?_
  have far := p1.far nD
  have nF1 : F1 D = none := Evl.fresh_back f1.fh nD
  have nD0 : H D = none := by
    cases z : H D with
    | none => rfl
    | some u => exact absurd nD (f1.dom D (by rw [z]; simp))
  refine ⟨fun i k H' => k = ds.length - i ∧ i ≤ ds.length ∧ ∃ F' n' acc accV, Fr pe F1 H1 F' H' ∧ PenAt K pe F' H' n' ∧ F' D = none ∧ H' D = some (.lst accV) ∧ DqAll K F' accV acc ∧ wLc mg mt m (wipeE env vs) P acc (ds.drop i) n',
    ⟨_, rfl, Nat.zero_le _, F1, n1, [], [], Fr.mine f1.fh nD, p1.mut far, nF1, upd_same, .nil, g1⟩, ?_⟩
  rintro i k H' ⟨rfl, hil, F', n', acc, accV, f2, p2, nF, hD, hA, w⟩
  have wk := W pe F' H' f2.ff f2.fh
  by_cases hlt : i < ds.length
  · obtain ⟨go, yl⟩ := wk.1 i hlt
    refine .inr ⟨go, fun H2 => i + 1 ≤ ds.length ∧ ∃ F' n' acc accV, Fr pe F1 H1 F' H2 ∧ PenAt K pe F' H2 n' ∧ F' D = none ∧ H2 D = some (.lst accV) ∧ DqAll K F' accV acc ∧ wLc mg mt m (wipeE env vs) P acc (ds.drop (i + 1)) n',
      fun H2 h2 => ⟨ds.length - (i + 1), by omega, rfl, h2.1, h2.2⟩, fun x H2 y => ?_⟩
    obtain ⟨F2, z, f3, e2, hz, hd⟩ := yl x H2 y
    rw [drop_at hd] at w
    have f4 := f2.trans f3
    have er2 : EnvR K pe F2 (wipe σ vs) (wipeE env vs) := ((R.er.ff f1.ff).ff f4.ff).wipe vs
    refine kg x σ H2 _ ?_
    refine hg.run pe F2 H2 _ (wipeE env vs) x (.val z) _ _ er2 f3.fh hz w fun σ3 env3 R3 w3 => ?_
    have p3 : PenAt K pe F2 H2 n' := p2.pure f3.ff e2 f3.new
    have L3 : Lv K T pe F2 H2 σ3 env3 n' := ⟨R3, f3.fh, p3, R.tb⟩
    refine ht.run pe F2 H2 σ3 env3 n' _ _ L3 w3 fun b F5 H5 n5 f5 p5 w5 => ?_
    have nF2 : F2 D = none := f3.new D (by rw [hD]; simp) nF
    have hD2 : H2 D = some (.lst accV) := e2 _ _ hD
    have keepD : ∀ {Fa Ha Fb Hb : Hp}, Fr pe Fa Ha Fb Hb → Ha D = some (.lst accV) → Fa D = none → Hb D = some (.lst accV) ∧ Fb D = none := fun {Fa Ha Fb Hb} f h1 h2 =>
      ⟨f.hh D _ far.1 h1, f.new D (by rw [h1]; simp) h2⟩
    obtain ⟨hD5, nF5⟩ := keepD f5 hD2 nF2
    cases b with
    | false =>
      rw [if_neg Bool.false_ne_true] at w5 ⊢
      exact ⟨hlt, F5, n5, acc, accV, f4.trans f5, p5, nF5, hD5, dp_exs (f3.ff.trans f5.ff) hA, w5⟩
    | true =>
      rw [if_pos rfl] at w5 ⊢
      refine h.run pe F5 H5 σ3 env3 n5 _ _ (L3.step f5 p5) w5 fun v F6 H6 y n6 f6 p6 h6 ⟨l6, w6⟩ => ?_
      obtain ⟨hD6, nF6⟩ := keepD f6 hD5 nF5
      have aV := dps_app (dp_exs (f6.ff) (dp_exs (f3.ff.trans f5.ff) hA)) (.cons h6 .nil)
      have f7 : Fr pe F1 H1 F6 (upd H6 D (.lst (accV ++ [v]))) := by
        have f8 := (f4.trans f5).trans f6
        refine ⟨f8.ff, fun b u z => ?_, fun b u n z => ?_, fun b z y => ?_, f8.new⟩
        · rw [upd_ne (ne_of_none z nF6)]
          exact f8.fh b u z
        · rw [upd_ne (ne_of_none z nD)]
          exact f8.hh b u n z
        · by_cases e : b = D
          · rw [e, upd_same] at y
            cases y
          · rw [upd_ne e] at y
            exact f8.dom b z y
      refine ⟨accV, hD6, by rw [dps_len hA]; exact sz_lt l6, hlt, F6, n6, acc ++ [y], accV ++ [v], f7, p6.mut far, nF6, upd_same, aV, w6⟩
  · have e : i = ds.length := by omega
    subst e
    rw [List.drop_length] at w
    exact .inl ⟨wk.2, q D F' H' accV acc n' (f1.trans f2) p2 nD0 hD nF hA w⟩
end
end Dl

namespace Dl
open PySem PySem.Spec PyProof.Rows L2
open Evl (Ex sz_of sz_lt)
/-- a def's promise, told of calls within which no repr runs -/
structure FnG (P : Program) (w : World) (K : PySem.W.Frag) (mg : Str → Option Value) (base : Heap) (k : Nat) (f : Addr) (fd : FuncData) (ps : List Str) (sp : Sp) : Prop where
  len : ∀ vs H Q E, sp vs H Q E → vs.length = ps.length
  run : ∀ (A : Around) (outer : List PySem.Env) (s : Shared) (H : Hp) (args : Args) (us : List Value) (vs : List V) (Q : VK) (E : XK), A.guards = some [] → Room k A → Env0 P w K mg base A outer s H →
    BindsTo s fd args (ps.zip us) → Vals vs us → sp vs H Q E → codeAny (model P w) A (.call (.ref f) args) (CR CX0 outer P w H s Q E) s
theorem FnG.of {P : Program} {w : World} {K : PySem.W.Frag} {mg : Str → Option Value} {base : Heap} {k : Nat} {f : Addr} {fd : FuncData} {ps : List Str} {sp : Sp}
    (F : FnOk P w K mg base CX0 k f fd ps sp) : FnG P w K mg base k f fd ps sp :=
  ⟨F.len, fun A outer s H args us vs Q E _ => F.run A outer s H args us vs Q E⟩
section
variable {X : Cx} {k : Nat} {f : Addr} {fd : FuncData} {ps : List Str} {sp : Sp} {x : Str} {p pos : Pos} {e : Expr} {es : List Expr} {t : TA}
theorem runG {pins : List (Addr × Obj)} {σ : L2.St} {H : Hp} {s : Shared} {Q : VK} {us : List Value} {vs : List V} (F : FnG X.prog X.w X.K X.mg X.base k f fd ps sp) (g : X.A.guards = some [])
    (hr : Room k X.A) (hb : Binds X.K fd ps []) (I : Inv X pins σ H s) (r : Vals vs us) (h : sp vs H Q E0) :
    wpAny (model X.prog X.w) X.A (call (.ref f) us) (EP X pins σ Q) X.xe s := by
  have hl : us.length = ps.length := r.length.symm.trans (F.len vs H Q E0 h)
  have b : BindsTo s fd ⟨us, []⟩ (ps.zip us) := by
    have b0 := hb s us I.kIn (by rw [List.append_nil]; exact hl)
    rwa [List.append_nil] at b0
  have run := F.run X.A X.stack s H ⟨us, []⟩ us vs Q E0 g hr I.env0 b r h
  refine wpAny_call (codeAny_mono run ?_)
  intro res s2 hq
  match res, hq with
  | .error _, hq => exact hq.elim
  | .ok (.ret u), hq => exact I.after hq
  | .ok .next, hq => exact hq.elim
  | .ok .brk, hq => exact hq.elim
  | .ok .cont, hq => exact hq.elim
/-- f(a, ..) -/
theorem pe_callG (F : FnG X.prog X.w X.K X.mg X.base k f fd ps sp) (g : X.A.guards = some []) (hr : Room k X.A) (hg : Gl X x) (hm : X.mg x = some (.ref f))
    (hk : PySem.W.keepIn X.K (.ref f) = true) (hb : Binds X.K fd ps []) (ha : PA X (e :: es) t) (hdb : (x == ("__debug__" : Str)) = false := by decide)
    (he : starEach (e :: es) X.env = (false, eval e X.env) :: starEach es X.env := by rfl)
    (hpl : (backTo pos (starEach es X.env)).any (·.1) = false := by rfl) : PE X (.Call (.Name x p) (e :: es) [] pos) (tCallD sp t) := by
  constructor
  intro pins s σ H Q I h
  refine wpAny_Call_Name_kw (ld_glob I hg hm ?_ hdb)
  have args := ha.run pos pins s σ H _ I h
  refine PySem.W.callWith_K (h₀ := X.base) I.ok.mod.kin hk (thn args ?_) he hpl
  rintro us s1 ⟨vs, H1, I1, r, q⟩
  exact ⟨I1.kIn, runG F g hr hb I1 r q⟩
end
theorem FnG.weak {P : Program} {w : World} {K : PySem.W.Frag} {mg : Str → Option Value} {base : Heap} {k : Nat} {f : Addr} {fd : FuncData} {ps : List Str} {sp sp' : Sp} (F : FnG P w K mg base k f fd ps sp) (h : ∀ vs H Q E, sp' vs H Q E → sp vs H Q E) : FnG P w K mg base k f fd ps sp' :=
  ⟨fun vs H Q E z => F.len vs H Q E (h vs H Q E z), fun A outer s H args us vs Q E g r e b v z => F.run A outer s H args us vs Q E g r e b v (h vs H Q E z)⟩
theorem spD_weak {K : PySem.W.Frag} {T : List Addr} {mf mf' : DF} (h : ∀ ss w P, mf' ss w P → mf ss w P) (vs : List V) (H : Hp) (Q : VK) (E : XK) (z : spD K T mf' vs H Q E) : spD K T mf vs H Q E := by
  obtain ⟨pe, F, ss, n, P, z1, z2, z3, z4, z5, z6⟩ := z
  exact ⟨pe, F, ss, n, P, z1, z2, z3, z4, h _ _ _ z5, z6⟩
/-- a def with the code object cd -/
def FunV (K : PySem.W.Frag) (x qual : Str) (st : Stmt) (f : Addr) (fd : FuncData) (cdv : Value) : Prop := ∃ (oc : Value) (od : Option Addr) (kV doc pm : Value) (an : Option Addr) (ct : Value) (osl : Array (Option Value)),
    fd = PySem.W.fnOf x qual (defArgs st) (defBody st) (defScope st) .none kV doc pm an cdv ct ∧ K.lookup f = some ⟨oc, od, .func fd, osl⟩ ∧ PySem.W.codeIn K cdv qual = true
theorem Fun.v {K : PySem.W.Frag} {x qual : Str} {st : Stmt} {f : Addr} {fd : FuncData} (F : Fun K x qual st f fd) : ∃ cdv, FunV K x qual st f fd cdv := by
  obtain ⟨oc, od, kV, doc, pm, an, cdv, ct, osl, h⟩ := F.ex
  exact ⟨cdv, oc, od, kV, doc, pm, an, ct, osl, h⟩
def cut (w0 w : Ws) : Ws := ⟨w.n, w.os.take w0.os.length⟩
theorem PenAt.cut {K : PySem.W.Frag} {pe0 pe : Pe} {F H H0 : Hp} {w0 w : Ws} (h : PenAt K pe F H w) (e : Ext pe0 pe H0) (l : w0.os.length = pe0.sh.length) : PenAt K pe0 F H (cut w0 w) := by
  obtain ⟨ex, e1, e2⟩ := e.sh
  have sub : ∀ p ∈ pe0.sh, p ∈ pe.sh := fun p hp => by
    rw [e1]
    exact List.mem_append_left _ hp
  refine ⟨fun p c z => ?_, ?_, ?_, fun i p xs z1 z2 => ?_, fun p hp => h.at_ p (sub p hp), fun P hP => h.tab P (by rw [e.tabs]; exact hP)⟩
  · obtain ⟨cs, t, r, h1, h2, h3, h4, h5, h6, h7, h8⟩ := h.pen p c (by rw [e.pen]; exact z)
    exact ⟨cs, t, r, h1, h2, h3, h4, h5, h6, fun z => h7 (sub _ z), fun z => h8 (sub _ z)⟩
  · show (w.os.take w0.os.length).length = _
    rw [List.length_take, h.len, e1, List.length_append, l]
    omega
  · have nd := h.nd
    rw [e1, List.nodup_append] at nd
    exact nd.1
  · have z2 : (w.os.take w0.os.length)[i]? = some (some xs) := z2
    have hi : i < pe0.sh.length := by
      rcases Nat.lt_or_ge i pe0.sh.length with l | l
      · exact l
      · rw [List.getElem?_eq_none l] at z1
        cases z1
    rw [List.getElem?_take, if_pos (by rw [l]; exact hi)] at z2
    exact h.sh i p xs (by rw [e1, List.getElem?_append_left hi]; exact z1) z2
/-- what a def does by its body's reading -/
def mfOf (np nN : Nat) (m : DTS) : DF := fun ss w P => ss.length = np ∧ m ⟨w.os.length, fun _ w' => P .none (cut w w'), fun d w' => P d (cut w w'), fun _ _ => False, fun _ _ => False⟩ (ss ++ List.replicate (nN - np) .no) w
theorem args_env {K : PySem.W.Frag} {pe : Pe} {F : Hp} (r : Nat) : ∀ {vs : List V} {ss : List Sl}, ArgsR K pe F vs ss → EnvR K pe F (vs.map some ++ List.replicate r none) (ss ++ List.replicate r .no)
  | [], [], _ => by
    refine ⟨by simp, fun i s e => ?_⟩
    have e : (List.replicate r Sl.no)[i]? = some s := e
    have z := List.eq_of_mem_replicate (List.mem_of_getElem? e)
    subst z
    trivial
  | v :: vs, s :: ss, ⟨a, b⟩ => by
    have ih := args_env r b
    refine ⟨by show _ + 1 = _ + 1; exact congrArg (· + 1) ih.len, fun i t e => ?_⟩
    cases i with
    | zero =>
      cases e
      exact a.slot
    | succ i => exact ih.sl i t e
section
variable {P : Program} {w : World} {K : PySem.W.Frag} {mg : Str → Option Value} {base : Heap} {T : List Addr}
theorem guards_deeper {A : Around} {env : PySem.Env} (g : A.guards = some []) : (A.deeper env).guards = some [] := g
/-- THE RULE for a def -/
theorem okD {x qual : Str} {st : Stmt} {f : Addr} {fd : FuncData} {cdv : Value} {N ps : List Str} {k : Nat} {m : DTS} (F : FunV K x qual st f fd cdv) (S : FnScope N ps (defScope st))
    (hbody : ∀ (A : Around) (outer : List PySem.Env) (s : Shared) (H : Hp) (E : XK), (A.deeper (envOfC qual (defScope st) s.heap.objs.size f cdv)).guards = some [] →
      Room k (A.deeper (envOfC qual (defScope st) s.heap.objs.size f cdv)) → ∃ t, PSs (cxOf CX0 P w K mg base N qual (defScope st) f cdv A outer s H E).nox (defBody st) t ∧ DS K T t m) :
    FnG P w K mg base (k + 1) f fd ps (spD K T (mfOf ps.length N.length m)) := by
  obtain ⟨oc, od, kV, doc, pm, an, ct, osl, rfl, lk, hcd⟩ := F
  have len : ∀ vs H Q E, spD K T (mfOf ps.length N.length m) vs H Q E → vs.length = ps.length := by
    rintro vs H Q E ⟨pe, F, ss, n, P, z1, z2, z3, z4, ⟨z5, z6⟩, z7⟩
    rw [z4.len, z5]
  constructor
  · exact len
  intro A outer s H args us vs Q E g r e0 hb rv hsp
  have grow : ∀ b o, base.get? b = some o → s.heap.get? b = some o := fun b o e => (e0.bs b o e).1
  have inK := e0.mod.kin.keeps grow
  have kinds : ∀ y ∈ ps.zip us, (defScope st).names.lookup y.1 = some .local ∨
      ((defScope st).names.lookup y.1 = some .cell ∧ ((cellsFrom (s.heap.objs.size + 1) (defScope st).names []).lookup y.1).isSome = true) := by
    intro y hy
    have q := S.par y.1 (List.of_mem_zip (show (y.1, y.2) ∈ ps.zip us from hy)).1
    exact q.imp_right fun c => ⟨c, PySem.W.cellsFrom_some _ _ _ (.inl c)⟩
  have code := PySem.W.codeRec_of inK hcd
  refine codeAny_call_function r.depth (inK _ _ lk) rfl S.co S.gen rfl code (hb _ _ _ _ (wpAny_newFunctionEnv_cells S.kind kinds ?_))
  intro env he s1 hc
  subst he
  refine ⟨(e0.mod.nolimit.keeps grow).keeps hc.toInCall.keep, codeAny_func ?_⟩
  obtain ⟨t, ht, ds⟩ := hbody A outer s H E (guards_deeper g) (r.deeper _)
  have hl := len _ _ _ _ hsp
  have I := inv_start (E := E) (CX := CX0) S r.hd e0 hl rv hc
  obtain ⟨pe, Fz, ss, n, Pz, z1, z2, z3, z4, ⟨z5, z6⟩, z7⟩ := hsp
  have hq : t { nx := fun _ H' => Q .non H', rt := Q } (L2.start N vs) H := by
    have er : EnvR K pe Fz (L2.start N vs) (ss ++ List.replicate (N.length - ps.length) .no) := by
      unfold L2.start
      rw [hl]
      exact args_env _ z4
    refine ds.run pe Fz H pe Fz H _ _ n _ _ ⟨⟨er, z2, z3, z1⟩, Fr.refl z2, Ext.refl pe H⟩ z6 ⟨z3.len.symm, ?_, ?_, ?_, ?_⟩
    · intro pe' σ' env' F' H' n' e R q
      exact z7 _ F' H' .none _ R.fr (R.lv.pn.cut R.ext z3.len) .non q
    · intro pe' v F' H' y n' f e p h q
      exact z7 v F' H' y _ f (p.cut e z3.len) h q
    · intro pe' σ' env' F' H' n' e R q
      exact q.elim
    · intro pe' σ' env' F' H' n' e R q
      exact q.elim
  have body := ht.nox.run [] s1 (L2.start N vs) H _ I hq
  refine wpAny_mono body ?_ fun e s' hs => hs
  intro fl s' hs
  match fl, hs with
  | .ret u, ⟨v, σ', H', J, rv, q⟩ => exact ⟨v, H', J.os, J.bare, J.base, J.hok, rv, q⟩
  | .next, ⟨σ', H', J, q⟩ => exact ⟨V.non, H', J.os, J.bare, J.base, J.hok, rfl, q⟩
  | .brk, ⟨_, _, _, q⟩ => exact q.elim
  | .cont, ⟨_, _, _, q⟩ => exact q.elim
end
/-- repr(x), x data without dicts -/
def rRepr (K : PySem.W.Frag) : List V → Hp → VK → Prop := fun xs H Q => ∃ (x : V) (d : PyData), xs = [x] ∧ Dp K H x d ∧ d.showable = true ∧ d.hasDict = false ∧ d.depth ≤ 60 ∧ d.shown.length ≤ sizeLine ∧ Q (.str d.shown) H
theorem call_repr {X : Cx} (g : X.A.guards = some []) (hu : X.A.units + 64 < cLine) : CallR X (.builtin "repr") (rRepr X.K) := by
  intro pins s σ H xs us Q I r h
  obtain ⟨x, d, rfl, hd, sh, nd, dp, sz, q⟩ := h
  cases r with
  | cons rx rn =>
    rename_i u us
    cases rn
    obtain ⟨as, hr⟩ := Dp.reads I d x u hd rx
    have fin : ∀ (h' : Heap) (t tk : Nat), (∀ b o, s.heap.get? b = some o → h'.get? b = some o) → EP X pins σ Q (.str d.shown t) { s with heap := h', toks := tk } :=
      fun h' t tk hk => ⟨.str d.shown, H, I.kept hk, ⟨t, rfl⟩, q⟩
    cases hd with
    | non =>
      cases (show u = Value.none from rx)
      exact PySem.P.repr_of_none (fin _ _ _ fun _ _ e => e)
    | bl b =>
      cases (show u = Value.bool b from rx)
      exact PySem.P.repr_of_bool (fin _ _ _ fun _ _ e => e)
    | int i =>
      obtain ⟨t, rfl⟩ := (show ∃ t, u = Value.int i t from rx)
      exact PySem.P.repr_of_int (by simpa [PyData.showable] using sh) (fin _ _ _ fun _ _ e => e)
    | str z =>
      obtain ⟨t, rfl⟩ := (show ∃ t, u = Value.str z t from rx)
      exact PySem.P.repr_of_str (fin _ _ _ fun _ _ e => e) (by simpa [PyData.shown] using sz)
    | lst hs ha =>
      cases (show u = Value.ref _ from rx)
      exact repr_of_reads' hr sh (fun z => by rw [nd] at z; cases z) g (by omega) (fun _ _ e => e) (fun h' t tk hk => fin h' t tk hk) sz
    | tup hs ha =>
      cases (show u = Value.ref _ from rx)
      exact repr_of_reads' hr sh (fun z => by rw [nd] at z; cases z) g (by omega) (fun _ _ e => e) (fun h' t tk hk => fin h' t tk hk) sz


end Dl

namespace Dl
open PySem PySem.Spec PyProof.Rows L2
open Evl (Ex sz_of sz_lt)
section
variable {K : PySem.W.Frag} {T : List Addr} {ta tb te : TE} {tas : TA} {ma mb m : DTE} {mx my : DTX} {mv : DTA} {tt tu : TT} {mt mu : DTT} {t1 t2 : TS} {m1 m2 : DTS}
/-- a built-in function on values that are looked at -/
structure DC (K : PySem.W.Frag) (r : List V → Hp → VK → Prop) (mr : List PyData → (PyData → Prop) → Prop) : Prop where
  run : ∀ (pe : Pe) (F H : Hp) (xs : List V) (ds : List PyData) (P : PyData → Prop) (Q : VK), Ex F H → Paired (Dz K F H) xs ds → mr ds P →
    (∀ v F' H' z, Fr pe F H F' H' → Ex H H' → Dq K F' v z → P z → Q v H') → r xs H Q
/-- .. whose value is a new list -/
structure DCN (K : PySem.W.Frag) (r : List V → Hp → VK → Prop) (mr : List PyData → (List PyData → Prop) → Prop) : Prop where
  run : ∀ (F H : Hp) (xs : List V) (ds : List PyData) (P : List PyData → Prop) (Q : VK), Ex F H → Paired (Dz K F H) xs ds → mr ds P →
    (∀ p vs zs, H p = none → DqAll K F vs zs → P zs → Q (.ref p) (upd H p (.lst vs))) → r xs H Q
def seeAll (w : Ws) (ss : List Sl) : Option (List PyData) := ss.mapM (see w)
theorem see_all {pe : Pe} {F H : Hp} {w : Ws} (pn : PenAt K pe F H w) : ∀ {vs : List V} {ss : List Sl} {ds : List PyData}, ArgsR K pe F vs ss → seeAll w ss = some ds → Paired (Dz K F H) vs ds
  | [], [], ds, _, e => by
    cases e
    exact .nil
  | v :: vs, s :: ss, ds, ⟨a, b⟩, e => by
    have e : (s :: ss).mapM (see w) = some ds := e
    rw [List.mapM_cons] at e
    cases h1 : see w s with
    | none =>
      rw [h1] at e
      cases e
    | some d =>
      rw [h1] at e
      cases h2 : ss.mapM (see w) with
      | none =>
        rw [h2] at e
        cases e
      | some es =>
        rw [h2] at e
        cases e
        exact .cons (see_dz pn a h1) (see_all pn b h2)
theorem de_cb {r : List V → Hp → VK → Prop} {mr : List PyData → (PyData → Prop) → Prop} (hr : DC K r mr) (ha : DA K T tas mv) : DE K T (tCB r tas) (fun env n P => mv env n fun ss n1 => ∃ ds, seeAll n1 ss = some ds ∧ mr ds fun z => P z n1) := by
  constructor
  intro pe F H σ env n P Q R p q
  refine ha.run pe F H σ env n _ _ R p fun vs F1 H1 ss n1 f1 p1 h1 ⟨ds, e, g1⟩ => ?_
  refine hr.run pe F1 H1 vs ds _ _ f1.fh (see_all p1 h1 e) g1 fun v F3 H3 z f3 e3 h3 g3 => ?_
  exact q v F3 H3 z n1 (f1.trans f3) (p1.pure f3.ff e3 f3.new) h3 g3
theorem dn_cb {r : List V → Hp → VK → Prop} {mr : List PyData → (List PyData → Prop) → Prop} (hr : DCN K r mr) (ha : DA K T tas mv) : DN K T (tCB r tas) (fun env n P => mv env n fun ss n1 => ∃ ds, seeAll n1 ss = some ds ∧ mr ds fun z => P z n1) := by
  constructor
  intro pe F H σ env n P Q R p q
  refine ha.run pe F H σ env n _ _ R p fun vs F1 H1 ss n1 f1 p1 h1 ⟨ds, e, g1⟩ => ?_
  refine hr.run F1 H1 vs ds _ _ f1.fh (see_all p1 h1 e) g1 fun a us zs na h3 g3 => ?_
  have nr0 : H a = none := by
    cases z : H a with
    | none => rfl
    | some u => exact absurd na (f1.dom a (by rw [z]; simp))
  exact q a F1 _ us zs n1 (f1.trans (Fr.mine f1.fh na)) (p1.mut (p1.far na)) nr0 upd_same (Evl.fresh_back f1.fh na) h3 g3
theorem one1 {α β : Type} {R : α → β → Prop} {xs : List α} {d : β} (h : Paired R xs [d]) : ∃ x, xs = [x] ∧ R x d := by
  cases h with
  | cons a b =>
    cases b
    exact ⟨_, rfl, a⟩
theorem two2 {α β : Type} {R : α → β → Prop} {xs : List α} {d e : β} (h : Paired R xs [d, e]) : ∃ x y, xs = [x, y] ∧ R x d ∧ R y e := by
  cases h with
  | cons a b =>
    cases b with
    | cons b c =>
      cases c
      exact ⟨_, _, rfl, a, b⟩
/-- items of a list or a tuple in the heap -/
theorem dz_items {F H : Hp} {x : V} {d : PyData} {ds : List PyData} (ex : Ex F H) (h : Dz K F H x d) (e : items d = some ds) : ∃ a vs, x = .ref a ∧ (SqL K H a vs ∨ SqT K H a vs) ∧ DqAll K F vs ds := by
  cases d with
  | list xs =>
    cases e
    obtain ⟨a, vs, rfl, h, z⟩ := dz_list ex h
    exact ⟨a, vs, rfl, .inl (SqL.of h), z⟩
  | tuple xs =>
    cases e
    obtain ⟨a, vs, rfl, h, z⟩ := dz_tup h
    exact ⟨a, vs, rfl, .inr (Evl.ex_t ex h), z⟩
  | _ => cases e
theorem dc_len : DC K (fun xs H Q => ∃ p ys, xs = [.ref p] ∧ (SqL K H p ys ∨ SqT K H p ys) ∧ Q (.int ys.length) H) (fun ds P => ∃ d es, ds = [d] ∧ items d = some es ∧ P (.int es.length)) := by
  constructor
  rintro pe F H xs ds P Q ex h ⟨d, es, rfl, e, p⟩ q
  obtain ⟨x, rfl, hx⟩ := one1 h
  obtain ⟨a, vs, rfl, h1, h2⟩ := dz_items ex hx e
  refine ⟨a, vs, rfl, h1, ?_⟩
  rw [dps_len h2]
  exact q _ F H _ (.refl ex) (fun _ _ z => z) (.int _) p
theorem dc_lenS : DC K (fun xs H Q => ∃ z, xs = [.str z] ∧ z.length ≤ sizeLine ∧ Q (.int z.length) H) (fun ds P => ∃ z, ds = [.str z] ∧ z.length ≤ sizeLine ∧ P (.int z.length)) := by
  constructor
  rintro pe F H xs ds P Q ex h ⟨z, rfl, l, p⟩ q
  obtain ⟨x, rfl, hx⟩ := one1 h
  have e := dz_str hx
  subst e
  exact ⟨z, rfl, l, q _ F H _ (.refl ex) (fun _ _ z => z) (.int _) p⟩
theorem dc_int : DC K (fun xs H Q => ∃ i, xs = [.int i] ∧ Q (.int i) H) (fun ds P => ∃ i, ds = [.int i] ∧ P (.int i)) := by
  constructor
  rintro pe F H xs ds P Q ex h ⟨i, rfl, p⟩ q
  obtain ⟨x, rfl, hx⟩ := one1 h
  have e := dz_int hx
  subst e
  exact ⟨i, rfl, q _ F H _ (.refl ex) (fun _ _ z => z) (.int _) p⟩
theorem dc_max2 : DC K (fun xs H Q => ∃ i j, xs = [.int i, .int j] ∧ Q (.int (if j > i then j else i)) H) (fun ds P => ∃ i j, ds = [.int i, .int j] ∧ P (.int (if j > i then j else i))) := by
  constructor
  rintro pe F H xs ds P Q ex h ⟨i, j, rfl, p⟩ q
  obtain ⟨x, y, rfl, h1, h2⟩ := two2 h
  have e1 := dz_int h1
  have e2 := dz_int h2
  subst e1 e2
  exact ⟨i, j, rfl, q _ F H _ (.refl ex) (fun _ _ z => z) (.int _) p⟩
theorem dc_min2 : DC K (fun xs H Q => ∃ i j, xs = [.int i, .int j] ∧ Q (.int (if j < i then j else i)) H) (fun ds P => ∃ i j, ds = [.int i, .int j] ∧ P (.int (if j < i then j else i))) := by
  constructor
  rintro pe F H xs ds P Q ex h ⟨i, j, rfl, p⟩ q
  obtain ⟨x, y, rfl, h1, h2⟩ := two2 h
  have e1 := dz_int h1
  have e2 := dz_int h2
  subst e1 e2
  exact ⟨i, j, rfl, q _ F H _ (.refl ex) (fun _ _ z => z) (.int _) p⟩
theorem dc_tuple : DC K (fun xs H Q => ∃ p ys, xs = [.ref p] ∧ ((SqL K H p ys ∧ ∀ l, H l = none → Q (.ref l) (upd H l (.tup ys))) ∨ (SqT K H p ys ∧ Q (.ref p) H))) (fun ds P => ∃ d es, ds = [d] ∧ items d = some es ∧ P (.tuple es)) := by
  constructor
  rintro pe F H xs ds P Q ex h ⟨d, es, rfl, e, p⟩ q
  obtain ⟨x, rfl, hx⟩ := one1 h
  cases d with
  | list zs =>
    cases e
    obtain ⟨a, vs, rfl, h, z⟩ := dz_list ex hx
    refine ⟨a, vs, rfl, .inl ⟨SqL.of h, fun l nl => ?_⟩⟩
    have f := Fr.put (pe := pe) (o := .tup vs) ex nl
    exact q _ _ _ _ f (Ex.new nl) (.tup (SqT.of upd_same) (dp_exs f.ff z)) p
  | tuple zs =>
    cases e
    obtain ⟨a, vs, rfl, h, z⟩ := dz_tup hx
    exact ⟨a, vs, rfl, .inr ⟨Evl.ex_t ex h, q _ F H _ (.refl ex) (fun _ _ z => z) (.tup h z) p⟩⟩
  | _ => cases e
theorem dcn_list : DCN K (fun xs H Q => ∃ p ys, xs = [.ref p] ∧ (SqL K H p ys ∨ SqT K H p ys) ∧ ∀ l, H l = none → Q (.ref l) (upd H l (.lst ys))) (fun ds P => ∃ d es, ds = [d] ∧ items d = some es ∧ P es) := by
  constructor
  rintro F H xs ds P Q ex h ⟨d, es, rfl, e, p⟩ q
  obtain ⟨x, rfl, hx⟩ := one1 h
  obtain ⟨a, vs, rfl, h1, h2⟩ := dz_items ex hx e
  exact ⟨a, vs, rfl, h1, fun l nl => q l vs es nl h2 p⟩
def tyOf : PyData → String
  | .none => "NoneType"
  | .bool _ => "bool"
  | .int _ => "int"
  | .str _ => "str"
  | .list _ => "list"
  | .tuple _ => "tuple"
  | .dict _ => "dict"
def subTy (a b : String) : Bool := a == b || (a == "bool" && b == "int")
/-- what K tells of the built-in types -/
def KTy (K : PySem.W.Frag) : Prop := ∀ a b : String, a ∈ ["NoneType", "bool", "int", "str", "list", "tuple"] → b ∈ ["bool", "int", "str", "list", "tuple"] → PySem.W.kitOne K (.type a) (.type b) = some (subTy a b)
theorem sqt_ty {H : Hp} {a : Addr} {xs : List V} (h : SqT K H a xs) : TyX K H (.ref a) (.type "tuple") := by
  rcases h with (h | ⟨o, h⟩) | ⟨o, its, n, h1, h2, _⟩
  · exact .base (.tup h)
  · exact .fTuple h
  · exact .kTuple h1 h2
theorem dz_ty {F H : Hp} {x : V} {d : PyData} (ex : Ex F H) (h : Dz K F H x d) : TyX K H x (.type (tyOf d)) ∧ tyOf d ∈ ["NoneType", "bool", "int", "str", "list", "tuple"] := by
  cases h with
  | fz h =>
    cases h with
    | non => exact ⟨.base .non, by decide⟩
    | bl b => exact ⟨.base (.bl b), by simp [tyOf]⟩
    | int i => exact ⟨.base (.int i), by simp [tyOf]⟩
    | str z => exact ⟨.base (.str z), by simp [tyOf]⟩
    | lst h a => exact ⟨.base (.lst (ex _ _ h)), by simp [tyOf]⟩
    | tup h a => exact ⟨sqt_ty (Evl.ex_t ex h), by simp [tyOf]⟩
  | ls h a => exact ⟨.base (.lst h), by simp [tyOf]⟩
theorem de_isi {n : String} (h : DX K T te mx) (hk : KTy K) (hn : n ∈ ["bool", "int", "str", "list", "tuple"]) : DE K T (tCB (rIsi K) (tCons te (tCons (tC (.ty n)) tNil))) (fun env w P => mx env w fun s w1 => ∃ d, see w1 s = some d ∧ P (.bool (subTy (tyOf d) n)) w1) := by
  constructor
  intro pe F H σ env n' P Q R p q
  refine h.run pe F H σ env n' _ _ R p fun x F1 H1 s n1 f1 p1 h1 ⟨d, e, g1⟩ => ?_
  have hz := see_dz p1 h1 e
  obtain ⟨t1, t2⟩ := dz_ty f1.fh hz
  exact ⟨x, .ty n, _, _, _, rfl, .ty n, t1, hk _ _ t2 hn, q _ F1 H1 _ n1 f1 p1 (.bl _) g1⟩
end
end Dl

namespace GenA
open PySem PySem.Spec PyProof.Rows L2
open Sem (wp)
theorem over_genStart {A : Around} {elt : Expr} {cs : List Comprehension} {scope : Scope} {pos : Pos} {it acc : Value} {env : Env} : A.over (.compStart (.GeneratorExp elt cs scope pos) 0 it acc env) [] = A.deeper env := by
  obtain ⟨hd, d, fr, gs, u⟩ := A
  simp [Around.over, Around.deeper, marksOver, frameCount, unitsOf, envsOf, guardsOf, pushEnvs, pushGuards, Code.envs, Code.env?, Code.isFrame, Code.guards, Code.isGuard, Code.weight, Code.frames, Code.isCreation, Code.isCaller, Code.cUnits]
theorem over_genLoop {A : Around} {elt : Expr} {cs : List Comprehension} {scope : Scope} {pos : Pos} {it acc : Value} {env : Env} : A.over (.compLoop (.GeneratorExp elt cs scope pos) 0 it acc env) [] = A.deeper env := by
  obtain ⟨hd, d, fr, gs, u⟩ := A
  simp [Around.over, Around.deeper, marksOver, frameCount, unitsOf, envsOf, guardsOf, pushEnvs, pushGuards, Code.envs, Code.env?, Code.isFrame, Code.guards, Code.isGuard, Code.weight, Code.frames, Code.isCreation, Code.isCaller, Code.cUnits]
abbrev FE : Value → Shared → Prop := fun _ _ => False
abbrev wg (s : Shared) (g : Array GenState) : Shared := { s with gens := g }
/-- what one turn does: J m s: at the loop's head with at most m turns to go; Ev b s: b is handed out; En s: at its end. After b the walk goes on where b is go. -/
structure Turns (prog : Program) (w : World) (A : Around) (it : Addr) (elt tg : Expr) (cenv : Env) (go : Bool) (J : Nat → Shared → Prop) (Ev : Bool → Shared → Prop) (En : Shared → Prop) : Prop where
  turn : ∀ m s, J m s → wpAny (model prog w) A (pyNext (.ref it)) (fun o s1 => match o with
    | none => En s1
    | some v => wpAny (model prog w) A (letOwnedTupleGo tg (.ref it) v) (fun _ s2 => wpAny (model prog w) A (assign tg cenv v) (fun _ s3 =>
        wpAny (model prog w) A (eval elt cenv) (fun y s4 => ∃ b, y = .bool b ∧ Ev b s4 ∧ (b = go → ∃ m', m' < m ∧ ∀ g, AllBare g → J m' (wg s4 g))) FE s3) FE s2) FE s1) FE s
def AY (go : Bool) (Ev : Bool → Shared → Prop) : Protocol := fun _ _ v s kap => ∃ b, v = .bool b ∧ Ev b s ∧ (b = go → ∀ g, AllBare g → kap (.send .none) (wg s g))
abbrev AR (En : Shared → Prop) : GenEnd := fun n s₀ r s => r = .ok .next ∧ En s
section
variable {prog : Program} {w : World} {A : Around} {it : Addr} {elt tg iter : Expr} {scope : Scope} {pos : Pos} {cenv : Env} {go : Bool} {J : Nat → Shared → Prop} {Ev : Bool → Shared → Prop} {En : Shared → Prop}
theorem seg_loop (hco : cenv.scope.isCoroutine = false) (T : Turns prog w (A.deeper cenv) it elt tg cenv go J Ev En) :
    ∀ (m n : Nat) (s₀ s : Shared), m < n → J m s → Seg (model prog w) A (AR En) (AY go Ev) n s₀ (.compLoop (.GeneratorExp elt [⟨tg, iter, [], 0⟩] scope pos) 0 (.ref it) .none cenv)
        ((model prog w).den (.compLoop (.GeneratorExp elt [⟨tg, iter, [], 0⟩] scope pos) 0 (.ref it) .none cenv)) [] s := by
  intro m
  induction m using Nat.strongRecOn with
  | ind m ih =>
    intro n s₀ s hn hJ
    show Seg _ A _ _ _ s₀ _ ((compTurn (.GeneratorExp elt [⟨tg, iter, [], 0⟩] scope pos) 0 (.ref it) .none cenv).onRaise (leaving cenv)) [] s
    rw [compTurn_gen, Sem.onRaise_eq_wrap]
    refine seg_bind_wrap (wpAny_standAt ?_)
    refine seg_bind_wrap ?_
    rw [over_genLoop]
    refine wpAny_mono (T.turn m s hJ) (fun o s1 h1 => ?_) fun _ _ e => e.elim
    cases o with
    | none => exact seg_end (.ok .next) ⟨rfl, h1⟩
    | some v =>
      refine seg_bind_wrap ?_
      rw [over_genLoop]
      refine wpAny_mono h1 (fun _ s2 h2 => ?_) fun _ _ e => e.elim
      refine seg_bind_wrap ?_
      rw [over_genLoop]
      refine wpAny_mono h2 (fun _ s3 h3 => ?_) fun _ _ e => e.elim
      refine seg_bind_wrap (wpAny_tests_nil ?_)
      simp only [if_true]
      have hy : ∀ v, yieldOut cenv v = yieldValue v := fun v => by simp only [yieldOut, hco, Bool.false_eq_true, if_false]
      simp only [hy]
      rw [Sem.bind_eq_wrap', Sem.bind_eq_wrap', Sem.wrap_wrap, Sem.wrap_wrap]
      refine seg_wrap ?_
      rw [over_genLoop]
      refine wpAny_mono h3 (fun y s4 h4 => ?_) fun _ _ e => e.elim
      obtain ⟨b, rfl, ev, hb⟩ := h4
      obtain ⟨n, rfl⟩ : ∃ k, n = k + 1 := ⟨n - 1, by omega⟩
      refine seg_at (seg_yield rfl rfl rfl ⟨b, rfl, ev, fun e g hg => ?_⟩)
      obtain ⟨m', hm, hJ'⟩ := hb e
      exact seg_again rfl (ih m' hm n _ _ (by omega) (hJ' g hg))
theorem seg_start (hco : cenv.scope.isCoroutine = false) (T : Turns prog w (A.deeper cenv) it elt tg cenv go J Ev En) (m n : Nat) (s₀ s : Shared) (hm : m < n) (hJ : J m s)
    (self : ∀ (A' : Around) (Q : Value → Shared → Prop) (E : Value → Shared → Prop), Q (.ref it) s → wpAny (model prog w) A' (pyIter (.ref it)) Q E s) :
    Seg (model prog w) A (AR En) (AY go Ev) n s₀ (.compStart (.GeneratorExp elt [⟨tg, iter, [], 0⟩] scope pos) 0 (.ref it) .none cenv)
        ((model prog w).den (.compStart (.GeneratorExp elt [⟨tg, iter, [], 0⟩] scope pos) 0 (.ref it) .none cenv)) [] s := by
  have loop := seg_loop (iter := iter) (scope := scope) (pos := pos) hco T m n s₀ s hm hJ
  show Seg _ A _ _ _ s₀ _ ((compStart (.GeneratorExp elt [⟨tg, iter, [], 0⟩] scope pos) 0 (.ref it) .none cenv).onRaise (leaving cenv)) [] s
  unfold compStart
  rw [Sem.onRaise_eq_wrap]
  show Seg _ A _ _ _ s₀ _ ((ask >>= _).wrap _ _ _ _) [] s
  refine seg_bind_wrap (wpAny_askSetting ?_)
  split
  · exact seg_again rfl loop
  · first
      | exact seg_bind_wrap (wpAny_rule (seg_bind_wrap (wpAny_standAt (seg_bind_wrap (self _ _ _ (seg_again rfl loop))))))
      | (refine seg_bind_wrap (wpAny_rule ?_); show Seg _ A _ _ _ s₀ _ ((standAt iter.pos >>= _).wrap _ _ _ _) [] s; exact seg_bind_wrap (wpAny_standAt (seg_bind_wrap (self _ _ _ (seg_again rfl loop)))))
/-- what stands while the walk goes on -/
structure Holds (a : Addr) (s : Shared) : Prop where
  gen : ∃ g, s.heap.IsGen a g
  lim : s.heap.NoLimit
  bare : AllBare s.gens
theorem bare_set {s : Shared} {g : Nat} {x : GenState} (h : AllBare s.gens) (hx : x.bare = true) : AllBare (s.setGen g x).gens := L2.allBare_setGen h hx
/-- all.loop over the generator at a -/
theorem all_loop {a : Addr} {g : Nat} {R : Result → Shared → Prop} (hh : A.handled = none) (hroom : A.depth < recursionLimit) (hEv : ∀ b s, Ev b s → s.heap.IsGen a g ∧ s.heap.NoLimit ∧ AllBare s.gens) (hEn : ∀ s, En s → AllBare s.gens)
    (hF : ∀ s gg, Ev false s → AllBare gg → R (.ok (.ret (.bool false))) (wg s gg)) (hT : ∀ s gg h', En s → AllBare gg → (∀ b o, s.heap.get? b = some o → h'.get? b = some o) → R (.ok (.ret (.bool true))) { wg s gg with heap := h' }) :
    ∀ (n : Nat) (gs : GenState) (s : Shared), s.heap.IsGen a g → s.heap.NoLimit → s.gens[g]? = some gs → AllBare s.gens →
      gs.Goes (model prog w) A.in1.in1 (AR En) (AY true Ev) n (.send .none) (s.setGen g .running) → codeAny (model prog w) A (.builtin "all.loop" ⟨[.ref a], []⟩) R s := by
  intro n
  induction n with
  | zero =>
    intro gs s hg hl hgs hb hgo
    refine codeAny_builtin F.entry_all_loop ?_
    rw [Around.under_plainId F.plain_all_loop _]
    show wpAny _ A.in1 (pyNext (.ref a) >>= _) _ _ s
    refine wpAny_bind (wpAny_pyNext_genexpQ (A := A.in1) (P := fun _ _ s₁ => En s₁) hh hl hroom hg hgs hgo (fun v s₁ gs' hb' hv => ?_) fun s₁ hp h' hk => ?_)
    · obtain ⟨b, rfl, ev, hgo'⟩ := hv
      obtain ⟨e1, e2, e3⟩ := hEv b s₁ ev
      refine wpAny_bind (wpAny_holding (wpAny_truthy_bool ?_))
      refine wpAny_bind (wpAny_letGo ?_)
      cases b with
      | false =>
        simp only [Bool.false_eq_true, if_false]
        exact wpAny_bind (wpAny_rule (wpAny_pure (hF s₁ _ ev (bare_set e3 hb'))))
      | true => exact (hgo' rfl s₁.gens e3).elim
    · exact wpAny_bind (wpAny_rule (wpAny_pure (hT s₁ _ h' hp (bare_set (hEn s₁ hp) rfl) hk)))
  | succ n ih =>
    intro gs s hg hl hgs hb hgo
    have hlt : g + 1 ≤ s.gens.size := by
      rcases Nat.lt_or_ge g s.gens.size with h | h
      · exact h
      · rw [Array.getElem?_eq_none h] at hgs
        cases hgs
    refine codeAny_builtin F.entry_all_loop ?_
    rw [Around.under_plainId F.plain_all_loop _]
    show wpAny _ A.in1 (pyNext (.ref a) >>= _) _ _ s
    refine wpAny_bind (GenW.wpAny_gsz hlt (wpAny_pyNext_genexpQ (A := A.in1) (P := fun _ _ s₁ => En s₁) hh hl hroom hg hgs hgo (fun v s₁ gs' hb' hv hsz => ?_) fun s₁ hp h' hk _ => ?_))
    · obtain ⟨b, rfl, ev, hgo'⟩ := hv
      obtain ⟨e1, e2, e3⟩ := hEv b s₁ ev
      refine wpAny_bind (wpAny_holding (wpAny_truthy_bool ?_))
      refine wpAny_bind (wpAny_letGo ?_)
      cases b with
      | false =>
        simp only [Bool.false_eq_true, if_false]
        exact wpAny_bind (wpAny_rule (wpAny_pure (hF s₁ _ ev (bare_set e3 hb'))))
      | true =>
        simp only [if_true]
        refine wpAny_pure ⟨plainId_quiet F.plain_all_loop _, ih gs' (s₁.setGen g gs') e1 e2 (L2.setGen_at ?_) (bare_set e3 hb') ?_⟩
        · rw [GenW.setGen_size] at hsz
          exact hsz
        · exact hgo' rfl _ (bare_set (bare_set e3 hb') rfl)
    · exact wpAny_bind (wpAny_rule (wpAny_pure (hT s₁ _ h' hp (bare_set (hEn s₁ hp) rfl) hk)))
/-- any.loop over the generator at a -/
theorem any_loop {a : Addr} {g : Nat} {R : Result → Shared → Prop} (hh : A.handled = none) (hroom : A.depth < recursionLimit) (hEv : ∀ b s, Ev b s → s.heap.IsGen a g ∧ s.heap.NoLimit ∧ AllBare s.gens) (hEn : ∀ s, En s → AllBare s.gens)
    (hF : ∀ s gg, Ev true s → AllBare gg → R (.ok (.ret (.bool true))) (wg s gg)) (hT : ∀ s gg h', En s → AllBare gg → (∀ b o, s.heap.get? b = some o → h'.get? b = some o) → R (.ok (.ret (.bool false))) { wg s gg with heap := h' }) :
    ∀ (n : Nat) (gs : GenState) (s : Shared), s.heap.IsGen a g → s.heap.NoLimit → s.gens[g]? = some gs → AllBare s.gens →
      gs.Goes (model prog w) A.in1.in1 (AR En) (AY false Ev) n (.send .none) (s.setGen g .running) → codeAny (model prog w) A (.builtin "any.loop" ⟨[.ref a], []⟩) R s := by
  intro n
  induction n with
  | zero =>
    intro gs s hg hl hgs hb hgo
    refine codeAny_builtin F.entry_any_loop ?_
    rw [Around.under_plainId F.plain_any_loop _]
    show wpAny _ A.in1 (pyNext (.ref a) >>= _) _ _ s
    refine wpAny_bind (wpAny_pyNext_genexpQ (A := A.in1) (P := fun _ _ s₁ => En s₁) hh hl hroom hg hgs hgo (fun v s₁ gs' hb' hv => ?_) fun s₁ hp h' hk => ?_)
    · obtain ⟨b, rfl, ev, hgo'⟩ := hv
      obtain ⟨e1, e2, e3⟩ := hEv b s₁ ev
      refine wpAny_bind (wpAny_holding (wpAny_truthy_bool ?_))
      refine wpAny_bind (wpAny_letGo ?_)
      cases b with
      | true =>
        simp only [if_true]
        exact wpAny_bind (wpAny_rule (wpAny_pure (hF s₁ _ ev (bare_set e3 hb'))))
      | false => exact (hgo' rfl s₁.gens e3).elim
    · exact wpAny_bind (wpAny_rule (wpAny_pure (hT s₁ _ h' hp (bare_set (hEn s₁ hp) rfl) hk)))
  | succ n ih =>
    intro gs s hg hl hgs hb hgo
    have hlt : g + 1 ≤ s.gens.size := by
      rcases Nat.lt_or_ge g s.gens.size with h | h
      · exact h
      · rw [Array.getElem?_eq_none h] at hgs
        cases hgs
    refine codeAny_builtin F.entry_any_loop ?_
    rw [Around.under_plainId F.plain_any_loop _]
    show wpAny _ A.in1 (pyNext (.ref a) >>= _) _ _ s
    refine wpAny_bind (GenW.wpAny_gsz hlt (wpAny_pyNext_genexpQ (A := A.in1) (P := fun _ _ s₁ => En s₁) hh hl hroom hg hgs hgo (fun v s₁ gs' hb' hv hsz => ?_) fun s₁ hp h' hk _ => ?_))
    · obtain ⟨b, rfl, ev, hgo'⟩ := hv
      obtain ⟨e1, e2, e3⟩ := hEv b s₁ ev
      refine wpAny_bind (wpAny_holding (wpAny_truthy_bool ?_))
      refine wpAny_bind (wpAny_letGo ?_)
      cases b with
      | true =>
        simp only [if_true]
        exact wpAny_bind (wpAny_rule (wpAny_pure (hF s₁ _ ev (bare_set e3 hb'))))
      | false =>
        simp only [Bool.false_eq_true, if_false]
        refine wpAny_pure ⟨plainId_quiet F.plain_any_loop _, ih gs' (s₁.setGen g gs') e1 e2 (L2.setGen_at ?_) (bare_set e3 hb') ?_⟩
        · rw [GenW.setGen_size] at hsz
          exact hsz
        · exact hgo' rfl _ (bare_set (bare_set e3 hb') rfl)
    · exact wpAny_bind (wpAny_rule (wpAny_pure (hT s₁ _ h' hp (bare_set (hEn s₁ hp) rfl) hk)))
end
end GenA

namespace GenA
open PySem PySem.Spec PyProof.Rows L2 GxR
open Sem (wp)
/-- the context of a generator expression's frame, made at s -/
abbrev gcx (X : Cx) (s : Shared) (H : Hp) (cenv : Env) (fp : List Addr) : Cx :=
  { X with A := X.A.in1.in1.deeper cenv, s_0 := s, H_0 := H, env := cenv, outer := X.stack, stack := cenv :: X.stack, ex := fp, fn := fun _ => false, pn := [], xe := fun _ _ => False }
/-- the scope of a generator expression: the walked thing, its own names with their slots, captured names -/
structure GScp (N : List Str) (sc scope : Scope) (own : List (Str × Nat)) : Prop where
  blk : BlkOk N sc scope own
  co : scope.isCoroutine = false
  cell : ∀ y ∈ scope.names, y.2 ≠ .cell
  dot : scope.names.lookup (".0" : Str) = some NameKind.local
section
variable {X : Cx} {pins : List (Addr × Obj)} {σ : L2.St} {H : Hp} {s : Shared}
theorem gen_start {scope : Scope} {own : List (Str × Nat)} {fp : List Addr} {code : Value} {gs : GenState} {h' : Heap} {o : Obj} {tk : Nat} {m0 : Str → Option Value} (I : Inv X pins σ H s) (ok : GScp X.N X.env.scope scope own) (hN : X.N.Nodup)
    (hfp : ∀ b ∈ fp, FpOk X pins H b ∧ b < s.heap.objs.size) (hgs : gs.bare = true) (hns : h'.Ns s.heap.objs.size m0) (hkeep : ∀ b u, s.heap.get? b = some u → h'.get? b = some u) (hsz : h'.objs.size = s.heap.objs.size + 1) (hd : ∀ v, o.data ≠ .cell v) (hfr : Obj.isFreed o = false) :
    Inv (gcx X s H (genEnv scope (cloFrom X.env.cells scope.names []) s.heap.objs.size code builtinsNs X.env) fp) [(h'.objs.size, o)] (wipe σ (own.map (·.2))) H { s with gens := s.gens.push gs, toks := tk, heap := h'.push o } := by
  have hfree : ∀ y ∈ scope.names, y.2 = .free → ∃ c, X.env.cells.lookup y.1 = some c := fun y hy e => by
    rcases ok.blk.free y hy e with k | k
    · exact I.ok.has _ (.inl k)
    · exact I.ok.has _ (.inr k)
  generalize hcenv : genEnv scope (cloFrom X.env.cells scope.names []) s.heap.objs.size code builtinsNs X.env = cenv
  have kp : ∀ b u, s.heap.get? b = some u → (h'.push o).get? b = some u := fun b u e => Heap.get?_push_of_some _ (hkeep b u e)
  have hL : cenv.locals = s.heap.objs.size := by rw [← hcenv]; rfl
  have hcl : cenv.cells = cloFrom X.env.cells scope.names [] := by rw [← hcenv]; rfl
  have hsc : cenv.scope = scope := by rw [← hcenv]; rfl
  have cm : ∀ {y c}, cenv.cells.lookup y = some c → X.env.cells.lookup y = some c ∧ c < s.heap.objs.size := fun {y c} e => by
    rw [hcl] at e
    rcases cloFrom_mem (PySem.mem_of_lookup e) with hm | ⟨h1, rfl⟩
    · cases hm
    · obtain ⟨c, hc⟩ := hfree _ h1 rfl
      rw [hc]
      obtain ⟨w, z⟩ := I.cell _ _ hc
      exact ⟨rfl, z.lt⟩
  have look : ∀ {y}, scope.names.lookup y = some .free → ∃ c, cenv.cells.lookup y = some c := fun {y} hl => by
    have hy : (y, NameKind.free) ∈ scope.names := PySem.mem_of_lookup hl
    obtain ⟨c', e'⟩ := mem_lookup (cloFrom_has (cells := X.env.cells) (acc := []) hy)
    exact ⟨c', by rw [hcl]; exact e'⟩
  have okB : (gcx X s H cenv fp).Ok := by
    refine ⟨I.ok.mod, by show cenv.scope.kind = _; rw [hsc]; exact ok.blk.kind, by show cenv.globals = _; rw [← hcenv]; exact I.ok.glob, by show cenv.builtins = _; rw [← hcenv]; rfl, by show s.heap.objs.size ≤ cenv.locals; rw [hL]; exact Nat.le_refl _,
      fun y z c e1 e2 => I.ok.inj y z c (cm e1).1 (cm e2).1, fun y hy => ?_, fun y c z => (nomatch z), I.ok.hd, ?_, .inr ⟨rfl, ?_⟩, fun b hb => ⟨?_, fun y c e z => ?_⟩, I.bs, Nat.le_trans I.ok.bsz I.sz, fun b u e hb => ?_, fun b hb z => ?_, I.stack, I.stkFree⟩
    · have hy : cenv.scope.names.lookup y = some .cell ∨ cenv.scope.names.lookup y = some .free := hy
      rw [hsc] at hy
      rcases hy with hy | hy
      · exact absurd rfl (ok.cell _ (PySem.mem_of_lookup hy))
      · exact look hy
    · show X.A.frames.map (cenv :: ·) = some (cenv :: X.stack)
      rw [I.ok.frames]
      rfl
    · show cenv.frame = some cenv.locals
      rw [← hcenv]
      rfl
    · show b ≠ cenv.locals
      rw [hL]; exact Nat.ne_of_lt (hfp b hb).2
    · exact (hfp b hb).1.2.2.2.2.1 y c (cm e).1 z
    · rcases (hfp b hb).1.2.2.2.1 with z | z
      · exact I.ok.noex b u e z
      · exact absurd (Nat.lt_of_lt_of_le (Heap.lt_size e) (Nat.le_trans I.ok.bsz z)) (Nat.lt_irrefl _)
    · rcases List.mem_cons.mp (I.stkSub b z) with z | z
      · exact (hfp b hb).1.2.1 z
      · exact (hfp b hb).1.2.2.1 z
  have fsLt : ∀ b ∈ frs X.stack, b < s.heap.objs.size := fun b hb => by
    obtain ⟨_, u, hu, _⟩ := I.stack.mem hb
    exact Heap.lt_size hu
  refine ⟨okB, rfl, ?_, Un.kept kp, ⟨m0, ?_, fun i y av e1 e2 e3 => ?_⟩, fun y c e => ?_, ?_, fun y c e => ?_, fun p hp => ?_, I.hok.kept kp, by rw [wipe_length]; exact I.len⟩
  · exact I.bare.push hgs
  · show Heap.Ns _ cenv.locals _
    rw [hL]
    exact hns.push _
  · obtain ⟨e2, hne⟩ := wipe_some e2
    have e3 : Vis cenv.scope y := e3
    rw [hsc] at e3
    have hfr : scope.names.lookup y = some .free := by
      have no : ∀ k, scope.names.lookup y = some k → k = .local ∨ k = .cell → False := fun k e hh => by
        rcases ok.blk.own _ (PySem.mem_of_lookup e) hh with e' | e'
        · obtain ⟨p, hp, hpy⟩ := List.mem_map.mp e'
          have e3 := ok.blk.ix p hp
          have : p.1 = y := hpy
          rw [this] at e3
          exact hne (List.mem_map.mpr ⟨p, hp, nodup_ix hN e3 e1⟩)
        · exact e' (List.mem_of_getElem? e1)
      rcases e3 with e3 | e3 | e3
      · exact (no _ e3 (.inl rfl)).elim
      · exact (no _ e3 (.inr rfl)).elim
      · exact e3
    obtain ⟨m, hn, hl⟩ := I.loc
    have hvis : Vis X.env.scope y := (ok.blk.free _ (PySem.mem_of_lookup hfr) rfl).elim (fun k => .inr (.inl k)) (fun k => .inr (.inr k))
    obtain ⟨w, r, q⟩ := hl i y av e1 e2 hvis
    refine ⟨w, r, .inr ⟨.inr (by show cenv.scope.names.lookup y = _; rw [hsc]; exact hfr), ?_⟩⟩
    obtain ⟨c, h1⟩ := look hfr
    rcases q with ⟨k, _⟩ | ⟨_, c', e', z⟩
    · have k : X.env.scope.names.lookup y = some .local := k
      rcases ok.blk.free _ (PySem.mem_of_lookup hfr) rfl with k' | k' <;> rw [show X.env.scope.names.lookup y = _ from k'] at k <;> cases k
    · rw [(cm h1).1] at e'; cases e'
      exact ⟨c, h1, z.keeps kp⟩
  · have e : cenv.cells.lookup y = some c := e
    obtain ⟨w, z⟩ := I.cell y c (cm e).1
    exact ⟨w, z.keeps kp⟩
  · show H cenv.locals = none
    rw [hL]; exact I.hok.fresh (Nat.le_refl _)
  · have e : cenv.cells.lookup y = some c := e
    exact I.freeC y c (cm e).1
  · have hp : p = (h'.objs.size, o) := by
      have z : p ∈ ([] : List (Addr × Obj)) ++ [(h'.objs.size, o)] := hp
      simpa using z
    subst hp
    refine ⟨Heap.get?_push_size _ hfr, I.hok.fresh (by rw [hsz]; exact Nat.le_succ _), ?_, fun z => ?_, hd⟩
    · show h'.objs.size ≠ cenv.locals
      rw [hL, hsz]
      exact Nat.succ_ne_self _
    · have q := fsLt _ z
      rw [hsz] at q
      exact absurd (Nat.lt_trans (Nat.lt_succ_self _) (show s.heap.objs.size + 1 < s.heap.objs.size from q)) (Nat.lt_irrefl _)
end
end GenA

namespace GenA
open PySem PySem.Spec PyProof.Rows L2 GxR
open Sem (wp)
/-- go: all; not go: any. P: the running def's table, which may grow. te: the test's value -/
def tGen (go : Bool) (P : Addr) (wi : TI) (g : TG) (te : TE) (vs : List Nat) : TE := fun σ H Q => wi σ H fun J H1 => ∃ ps : Array Value, H1 P = some (.tbl ps) ∧ TriplesOk ps.toList ∧ ∀ ps' : Array Value, TriplesOk ps'.toList →
  ∃ W : Nat → Nat → Hp → Prop, (∃ m, W 0 m (upd H1 P (.tbl ps'))) ∧ ∀ i m H, W i m H →
    (J.stop i H ∧ Q (.bl go) H) ∨ (J.go i H ∧ ∃ Nx : Hp → Prop, (∀ H', Nx H' → ∃ m', m' < m ∧ W (i + 1) m' H') ∧ ∀ x H', J.yld i H x H' → g x (wipe σ vs) H' fun σ2 H2 => wipe σ2 vs = wipe σ vs ∧
      te σ2 H2 fun y H3 => ∃ b, y = .bl b ∧ if b = go then Nx H3 else Q (.bl (!go)) H3)
/-- the generator at a is made, and may be walked -/
def Ready (go : Bool) (X : Cx) (pins : List (Addr × Obj)) (σ : L2.St) (Q : VK) (a : Addr) (s6 : Shared) : Prop :=
  ∃ (gi n : Nat) (gs : GenState) (Ev : Bool → Shared → Prop) (En : Shared → Prop), s6.heap.IsGen a gi ∧ s6.heap.NoLimit ∧ s6.gens[gi]? = some gs ∧ AllBare s6.gens ∧
    gs.Goes (model X.prog X.w) X.A.in1.in1 (AR En) (AY go Ev) n (.send .none) (s6.setGen gi .running) ∧ (∀ b s, Ev b s → s.heap.IsGen a gi ∧ s.heap.NoLimit ∧ AllBare s.gens) ∧ (∀ s, En s → AllBare s.gens) ∧
    (∀ s gg, Ev (!go) s → AllBare gg → EP X pins σ Q (.bool (!go)) (wg s gg)) ∧ (∀ s gg h', En s → AllBare gg → (∀ b o, s.heap.get? b = some o → h'.get? b = some o) → EP X pins σ Q (.bool go) { wg s gg with heap := h' })
section
variable {X : Cx} {pins : List (Addr × Obj)} {σ : L2.St} {H : Hp} {s : Shared}
theorem inv_gens {g : Array GenState} (I : Inv X pins σ H s) (hg : AllBare g) : Inv X pins σ H (wg s g) := ⟨I.ok, I.os, hg, I.base, I.loc, I.cell, I.free, I.freeC, I.pin, I.hok, I.len⟩
theorem gen_make {go : Bool} {c P : Addr} {elt tg iter : Expr} {gpos : Pos} {scope : Scope} {own : List (Str × Nat)} {wi : TI} {g : TG} {te : TE} {Q : VK} {Q' : Value → Shared → Prop} (hroom : X.A.depth < recursionLimit) (hc : X.calm = true) (hN : X.N.Nodup)
    (TB : TabB X.base X.mg c P) (hcode : X.env.code = .ref c) (S : GScp X.N X.env.scope scope own) (hi : PI X tg iter wi)
    (hg : ∀ (s : Shared) (H : Hp) (C : Addr) (cl : List (Str × Addr)) (code : Value) (fp : List Addr), PG (gcx X s H (genEnv scope cl C code builtinsNs X.env) fp) tg g)
    (he : ∀ (s : Shared) (H : Hp) (C : Addr) (cl : List (Str × Addr)) (code : Value) (fp : List Addr), PE (gcx X s H (genEnv scope cl C code builtinsNs X.env) fp) elt te)
    (hs : ∀ v, genFold iter X.env v = pure v) (I : Inv X pins σ H s) (h : tGen go P wi g te (own.map (·.2)) σ H Q) (hQ : ∀ a s6, Ready go X pins σ Q a s6 → Q' (.ref a) s6) :
    wpAny (model X.prog X.w) X.A (eval (.GeneratorExp elt [⟨tg, iter, [], 0⟩] scope gpos) X.env) Q' X.xe s := by
  have hfree : ∀ y ∈ scope.names, y.2 = .free → ∃ c, X.env.cells.lookup y.1 = some c := fun y hy e => by
    rcases S.blk.free y hy e with k | k
    · exact I.ok.has _ (.inl k)
    · exact I.ok.has _ (.inr k)
  refine wpAny_GeneratorExp_make S.co (closure_ok hfree) S.cell S.dot S.blk.kind hroom (thn (hi.run pins s σ H _ I h) fun xv s1 hx => thn hx fun itv s2 h2 => ?_) hs
  obtain ⟨it, fp, tn, J, H2, e, I2, T, st2, f2, ps, hP, ht, q⟩ := h2
  subst e
  have hPs : s2.heap.get? P = some { cls := .none, data := .fields ps } := I2.hok P _ hP
  have cd : PySem.W.CodeHd s2.heap c P := TB.code.keeps fun b u e => I2.bk b u e
  have sz : ∀ b ∈ fp, b < s2.heap.objs.size := fun b hb => by
    obtain ⟨o, e, _⟩ := T.obj _ _ st2 b hb
    exact Heap.lt_size e
  have cont : ∀ (code : Value) (h3 : Heap) (tk : Nat) (ps' : Array Value), Heap.ExtBut P s2.heap h3 → h3.get? P = some { cls := .none, data := .fields ps' } → (∃ more, ps' = ps ++ more) → TriplesOk ps'.toList →
      wpAny (model X.prog X.w) X.A (builtinsFor X.env.globals X.env.builtins) (fun bi s₄ => ∀ h', h'.Ns s₄.heap.objs.size (fun y => if y = ".0" then some (.ref it) else none) → Heap.SameBut s₄.heap.objs.size (s₄.heap.push { cls := .type "frame", data := .dict #[] }) h' →
          Q' (.ref h'.objs.size) { s₄ with
            gens := s₄.gens.push (.fresh (.compStart (.GeneratorExp elt [⟨tg, iter, [], 0⟩] scope gpos) 0 (.ref it) .none (genEnv scope (cloFrom X.env.cells scope.names []) s₄.heap.objs.size code bi X.env))),
            toks := s₄.toks + 1 + 1 + 1,
            heap := h'.push { cls := .type "generator", data := .fields #[.int s₄.gens.size 0, .str "<genexpr>" (s₄.toks + 1), .str (X.env.qual ++ "<genexpr>") (s₄.toks + 1 + 1)] } }) X.xe { s2 with heap := h3, toks := tk } := by
    intro code h3 tk ps' hx hP3 hmore ht3
    obtain ⟨bm, ob, e1, e2, e3, e4, e5, e6, e7, e8⟩ := TB.bm
    have keep3 : ∀ b u, b ≠ P → s2.heap.get? b = some u → h3.get? b = some u := fun b u hb e => hx b u hb e
    refine wpAny_builtinsFor (m := X.mg) (by rw [I2.ok.glob]; exact ((I2.mod.glob.keeps I2.bk)).extBut hx TB.gP) e1 e2 (keep3 _ _ e4 (I2.bk _ _ e5)) e6 e7 e8 ?_
    obtain ⟨more, em⟩ := hmore
    have I3 := inv_tab (more := more) (h' := h3) (g' := s2.gens) (d' := s2.drawn) (t' := tk) I2 hP keep3 (by rw [← em]; exact hP3) I2.bare
    rw [← em] at I3
    generalize hs3 : ({ s2 with heap := h3, toks := tk } : Shared) = s3
    have I3 : Inv X pins σ (upd H2 P (.tbl ps')) s3 := by
      rw [← hs3]
      exact I3
    have h3h : s3.heap = h3 := by rw [← hs3]
    obtain ⟨W, ⟨m0, w0⟩, turn⟩ := q ps' ht3
    intro h' hns' hsb
    have hsz : h'.objs.size = s3.heap.objs.size + 1 := by rw [hsb.1, Heap.size_push]
    have keep' : ∀ b o, s3.heap.get? b = some o → h'.get? b = some o := fun b o e => hsb.extBut b o (Nat.ne_of_lt (Heap.lt_size e)) (Heap.get?_push_of_some _ e)
    have sz3 : ∀ b ∈ fp, b < s3.heap.objs.size := fun b hb => by
      obtain ⟨o, e, _⟩ := T.obj _ _ st2 b hb
      have nP : b ≠ P := fun z => by
        have q1 := (f2 b hb).1
        rw [z, hP] at q1
        cases q1
      rw [h3h]
      exact Heap.lt_size (keep3 b o nP e)
    have f3 : ∀ b ∈ fp, FpOk X pins (upd H2 P (.tbl ps')) b ∧ b < s3.heap.objs.size := fun b hb => by
      refine ⟨⟨?_, (f2 b hb).2⟩, sz3 b hb⟩
      have nP : b ≠ P := fun z => by
        have q1 := (f2 b hb).1
        rw [z, hP] at q1
        cases q1
      rw [upd_ne nP]
      exact (f2 b hb).1
    have st3 : tn 0 s3.heap := T.keep _ _ _ st2 fun b hb o e => by
      have nP : b ≠ P := fun z => by
        have q1 := (f2 b hb).1
        rw [z, hP] at q1
        cases q1
      rw [h3h]
      exact keep3 b o nP e
    generalize ho : ({ cls := .type "generator", data := .fields #[.int s3.gens.size 0, .str "<genexpr>" (s3.toks + 1), .str (X.env.qual ++ "<genexpr>") (s3.toks + 1 + 1)] } : Obj) = o
    have hofr : Obj.isFreed o = false := by
      rw [← ho]
      exact Obj.isFreed_of_fields rfl
    have hod : ∀ v, o.data ≠ .cell v := fun v => by
      rw [← ho]
      exact fun z => nomatch z
    generalize hgs : (GenState.fresh (.compStart (.GeneratorExp elt [⟨tg, iter, [], 0⟩] scope gpos) 0 (.ref it) .none (genEnv scope (cloFrom X.env.cells scope.names []) s3.heap.objs.size code builtinsNs X.env))) = gs
    have IG := gen_start (code := code) (gs := gs) (h' := h') (o := o) (tk := s3.toks + 1 + 1 + 1) I3 S hN f3 (by rw [← hgs]; rfl) hns' keep' hsz hod hofr
    have pg := hg s3 (upd H2 P (.tbl ps')) s3.heap.objs.size (cloFrom X.env.cells scope.names []) code fp
    have pe := he s3 (upd H2 P (.tbl ps')) s3.heap.objs.size (cloFrom X.env.cells scope.names []) code fp
    generalize hce : genEnv scope (cloFrom X.env.cells scope.names []) s3.heap.objs.size code builtinsNs X.env = ce at IG pg pe hgs
    generalize hH3 : upd H2 P (.tbl ps') = H3 at I3 IG pg pe w0 f3
    generalize hs6 : ({ s3 with gens := s3.gens.push gs, toks := s3.toks + 1 + 1 + 1, heap := h'.push o } : Shared) = s6 at IG
    have hco : ce.scope.isCoroutine = false := by
      rw [← hce]
      exact S.co
    have nfp : ∀ b ∈ fp, H3 b = none := fun b hb => (f3 b hb).1.1
    have stat : ∀ {σ' : L2.St} {H' : Hp} {s' : Shared}, Inv (gcx X s3 H3 ce fp) [(h'.objs.size, o)] σ' H' s' → (∀ b ∈ fp, H' b = none) → ∀ b ∈ fp, FpOk (gcx X s3 H3 ce fp) [(h'.objs.size, o)] H' b := fun {σ' H' s'} I' hn b hb =>
      ⟨hn b hb, (I'.ok.exf b hb).1, I'.ok.exfs b hb, .inl hb, fun x c e => (I'.ok.exf b hb).2 x c e, fun p hp => by
        have z : p = (h'.objs.size, o) := by
          have z : p ∈ ([] : List (Addr × Obj)) ++ [(h'.objs.size, o)] := hp
          simpa using z
        rw [z]
        show h'.objs.size ≠ b
        rw [hsz]
        exact Nat.ne_of_gt (Nat.lt_succ_of_lt (sz3 b hb))⟩
    have back : ∀ {σ' : L2.St} {H' : Hp} {s' : Shared}, Inv (gcx X s3 H3 ce fp) [(h'.objs.size, o)] σ' H' s' → Inv X pins σ H' s' := fun {σ' H' s'} I' =>
      I3.call' (ch := fp) I'.os I'.base I'.hok I'.bare fun b hb => ⟨(f3 b hb).1.2.2.2.1, (f3 b hb).1.2.1, (f3 b hb).1.2.2.2.2.1, (f3 b hb).1.2.2.2.2.2⟩
    have isG : ∀ {σ' : L2.St} {H' : Hp} {s' : Shared}, Inv (gcx X s3 H3 ce fp) [(h'.objs.size, o)] σ' H' s' → s'.heap.IsGen h'.objs.size s3.gens.size := fun {σ' H' s'} I' => by
      have z := (I'.pin (h'.objs.size, o) (by show _ ∈ ([] : List (Addr × Obj)) ++ [_]; simp)).1
      exact ⟨o, _, _, z, by rw [← ho], by rw [← ho], by rw [← ho]⟩
    have T2 : Turns X.prog X.w (X.A.in1.in1.deeper ce) it elt tg ce go (fun m s' => ∃ i H', Inv (gcx X s3 H3 ce fp) [(h'.objs.size, o)] (wipe σ (own.map (·.2))) H' s' ∧ tn i s'.heap ∧ (∀ b ∈ fp, H' b = none) ∧ W i m H')
        (fun b s' => ∃ σ' H', Inv (gcx X s3 H3 ce fp) [(h'.objs.size, o)] σ' H' s' ∧ (b ≠ go → Q (.bl (!go)) H')) (fun s' => ∃ H', Inv (gcx X s3 H3 ce fp) [(h'.objs.size, o)] (wipe σ (own.map (·.2))) H' s' ∧ Q (.bl go) H') := by
      constructor
      rintro n s5 ⟨i, H5, I5, st5, n5, w5⟩
      rcases turn i n H5 w5 with ⟨stop, qq⟩ | ⟨gog, Nx, hNx, step⟩
      · refine thnF (T.done (gcx X s3 H3 ce fp) rfl rfl rfl hc i _ s5 _ H5 (fun _ _ => False) I5 (stat I5 n5) st5 stop) fun r s7 ⟨hr, I7⟩ => ?_
        subst hr
        exact ⟨H5, I7, qq⟩
      · refine thnF (T.item (gcx X s3 H3 ce fp) rfl rfl rfl hc i _ s5 _ H5 (fun _ _ => False) I5 (stat I5 n5) st5 gog) fun r s7 ⟨u, hr, h7⟩ => ?_
        subst hr
        refine thnF h7 fun _ s8 ⟨x, H8, I8, r8, y8, st8, n8⟩ => ?_
        have I8' := I8.pinned (stat I8 n8) (T.obj _ _ st8)
        refine thnF (pg.run _ s8 _ H8 x u _ I8' r8 (step x H8 y8)) fun _ s9 ⟨σ9, H9, I9, hw9, q9⟩ => ?_
        refine thnF (pe.run _ s9 σ9 H9 _ I9 q9) fun z s10 ⟨yv, H10, I10, r10, b, eb, q10⟩ => ?_
        subst eb
        obtain rfl : z = Value.bool b := r10
        refine ⟨b, rfl, ⟨σ9, H10, I10.unpinned, fun nb => ?_⟩, fun eb => ?_⟩
        · rw [if_neg nb] at q10
          exact q10
        · rw [if_pos eb] at q10
          obtain ⟨m', hm, w'⟩ := hNx H10 q10
          have pin' : ∀ b ∈ fp, ∀ o', s8.heap.get? b = some o' → s10.heap.get? b = some o' ∧ H10 b = none := fun b hb o' e =>
            let z := I10.pin (b, o') (List.mem_append_right _ (List.mem_append_right _ (mem_pinsAt hb e)))
            ⟨z.1, z.2.1⟩
          have hl : (wipe σ (own.map (·.2))).length = σ9.length := by rw [← hw9, wipe_length]
          refine ⟨m', hm, fun gg hgg => ⟨i + 1, H10, inv_gens (I10.unpinned.weak hl (fun j v e => ?_)) hgg, T.keep _ _ _ st8 fun b hb o' e => (pin' b hb o' e).1, fun b hb => ?_, w'⟩⟩
          · rw [← hw9] at e
            exact (wipe_some e).1
          · obtain ⟨o', e, _⟩ := T.obj _ _ st8 b hb
            exact (pin' b hb o' e).2
    have st6 : tn 0 s6.heap := T.keep _ _ _ st3 fun b hb o' e => by
      rw [← hs6]
      exact Heap.get?_push_of_some _ (keep' b o' e)
    have J6 : ∀ gg, AllBare gg → ∃ i H', Inv (gcx X s3 H3 ce fp) [(h'.objs.size, o)] (wipe σ (own.map (·.2))) H' (wg s6 gg) ∧ tn i (wg s6 gg).heap ∧ (∀ b ∈ fp, H' b = none) ∧ W i m0 H' := fun gg hgg =>
      ⟨0, H3, inv_gens IG hgg, st6, nfp, w0⟩
    have hg6 : s6.gens[s3.gens.size]? = some gs := by
      rw [← hs6]
      exact Array.getElem?_push_size ..
    refine hQ h'.objs.size s6 ⟨s3.gens.size, m0 + 1, gs, (fun b s' => ∃ σ' H', Inv (gcx X s3 H3 ce fp) [(h'.objs.size, o)] σ' H' s' ∧ (b ≠ go → Q (.bl (!go)) H')), (fun s' => ∃ H', Inv (gcx X s3 H3 ce fp) [(h'.objs.size, o)] (wipe σ (own.map (·.2))) H' s' ∧ Q (.bl go) H'), isG IG, IG.nolimit, hg6, IG.bare, ?_, fun b s' ⟨σ', H', I', _⟩ => ⟨isG I', I'.nolimit, I'.bare⟩, fun s' ⟨H', I', _⟩ => I'.bare, fun s' gg ⟨σ', H', I', q'⟩ hgg => ?_, fun s' gg h'' ⟨H', I', q'⟩ hgg hk => ?_⟩
    rotate_left
    · exact ⟨.bl (!go), H', inv_gens (back I') hgg, rfl, q' (by cases go <;> decide)⟩
    · exact ⟨.bl go, H', (inv_gens (back I') hgg).kept (t' := (wg s' gg).toks) hk, rfl, q'⟩
    · rw [← hgs]
      refine ⟨rfl, seg_start hco T2 m0 (m0 + 1) _ _ (Nat.lt_succ_self _) (J6 _ (bare_set (g := s3.gens.size) IG.bare rfl)) fun A' Q1 E1 q1 => T.self A' 0 _ Q1 E1 st6 q1⟩
  refine ⟨I2.nolimit, ?_⟩
  cases hf : codeAmong gpos ps.toList with
  | none =>
    refine wpAny_genexprCodeX hcode (cd.code hPs ht) (cd.tab hPs) hf fun c' h' tk hx hge hlt hco' _ htab' _ => ?_
    obtain ⟨o1, vs, f1, tf, fl, tg', inF, tx, tt, op, _, _, _, _, _, _, _, _, _, htr, _⟩ := hco'
    exact cont _ h' tk _ hx htab'.2 ⟨_, rfl⟩ htr
  | some cv =>
    refine wpAny_genexprCode_hit hcode (cd.code hPs ht) hf ?_
    exact cont cv s2.heap s2.toks ps (Heap.ExtBut.refl _ _) hPs ⟨#[], by simp⟩ ht
theorem pe_gall {k : Nat} {c P : Addr} {elt tg iter : Expr} {p pos gpos : Pos} {scope : Scope} {own : List (Str × Nat)} {wi : TI} {g : TG} {te : TE} (hr : Room k X.A) (hc : X.calm = true) (hN : X.N.Nodup) (hgl : Gl X "all") (hm : X.mg "all" = none) (hb : bootBuiltins "all" = some (.builtin "all"))
    (TB : TabB X.base X.mg c P) (hcode : X.env.code = .ref c) (S : GScp X.N X.env.scope scope own) (hi : PI X tg iter wi)
    (hg : ∀ (s : Shared) (H : Hp) (C : Addr) (cl : List (Str × Addr)) (code : Value) (fp : List Addr), PG (gcx X s H (genEnv scope cl C code builtinsNs X.env) fp) tg g)
    (he : ∀ (s : Shared) (H : Hp) (C : Addr) (cl : List (Str × Addr)) (code : Value) (fp : List Addr), PE (gcx X s H (genEnv scope cl C code builtinsNs X.env) fp) elt te)
    (hs : ∀ v, genFold iter X.env v = pure v := by intro _; rfl)
    (hst : starEach [.GeneratorExp elt [⟨tg, iter, [], 0⟩] scope gpos] X.env = (false, eval (.GeneratorExp elt [⟨tg, iter, [], 0⟩] scope gpos) X.env) :: starEach [] X.env := by rfl) :
    PE X (.Call (.Name "all" p) [.GeneratorExp elt [⟨tg, iter, [], 0⟩] scope gpos] [] pos) (tGen true P wi g te (own.map (·.2))) := by
  refine ⟨fun pins s σ H Q I h => ?_⟩
  refine wpAny_Call_Name_kw (ld_blt I hgl hm hb ?_)
  refine PyProof.Rows.callWith_builtin1 ?_ hst (by rfl)
  rw [hst]
  show wpAny _ _ (spliced ((false, eval (.GeneratorExp elt [⟨tg, iter, [], 0⟩] scope gpos) X.env) :: backTo pos (starEach [] X.env))) _ _ s
  have hroom : X.A.depth < recursionLimit := by have := hr.dp; omega
  refine Calls.spliced_cons (gen_make (Q := Q) hroom hc hN TB hcode S hi hg he hs I h fun a s6 R => ?_)
  obtain ⟨gi, n, gs, Ev, En, r1, r2, r3, r4, r5, r6, r7, r8, r9⟩ := R
  refine Calls.spliced_nil ?_
  refine call_function_tree F.kind_all F.plain_all F.entry_all (F.args_all1 _) ?_
  unfold Builtin.«all»
  refine wpAny_bind (m := oneArg "all" _) (wpAny_pure ?_)
  refine wpAny_bind (wpAny_pyIter_gen r1 ?_)
  exact wpAny_pure ⟨plainId_quiet F.plain_all_loop _, all_loop hr.hd hroom r6 r7 (fun s' gg e hgg => r8 s' gg e hgg) (fun s' gg h' e hgg hk => r9 s' gg h' e hgg hk) n gs s6 r1 r2 r3 r4 r5⟩
theorem pe_gany {k : Nat} {c P : Addr} {elt tg iter : Expr} {p pos gpos : Pos} {scope : Scope} {own : List (Str × Nat)} {wi : TI} {g : TG} {te : TE} (hr : Room k X.A) (hc : X.calm = true) (hN : X.N.Nodup) (hgl : Gl X "any") (hm : X.mg "any" = none) (hb : bootBuiltins "any" = some (.builtin "any"))
    (TB : TabB X.base X.mg c P) (hcode : X.env.code = .ref c) (S : GScp X.N X.env.scope scope own) (hi : PI X tg iter wi)
    (hg : ∀ (s : Shared) (H : Hp) (C : Addr) (cl : List (Str × Addr)) (code : Value) (fp : List Addr), PG (gcx X s H (genEnv scope cl C code builtinsNs X.env) fp) tg g)
    (he : ∀ (s : Shared) (H : Hp) (C : Addr) (cl : List (Str × Addr)) (code : Value) (fp : List Addr), PE (gcx X s H (genEnv scope cl C code builtinsNs X.env) fp) elt te)
    (hs : ∀ v, genFold iter X.env v = pure v := by intro _; rfl)
    (hst : starEach [.GeneratorExp elt [⟨tg, iter, [], 0⟩] scope gpos] X.env = (false, eval (.GeneratorExp elt [⟨tg, iter, [], 0⟩] scope gpos) X.env) :: starEach [] X.env := by rfl) :
    PE X (.Call (.Name "any" p) [.GeneratorExp elt [⟨tg, iter, [], 0⟩] scope gpos] [] pos) (tGen false P wi g te (own.map (·.2))) := by
  refine ⟨fun pins s σ H Q I h => ?_⟩
  refine wpAny_Call_Name_kw (ld_blt I hgl hm hb ?_)
  refine PyProof.Rows.callWith_builtin1 ?_ hst (by rfl)
  rw [hst]
  show wpAny _ _ (spliced ((false, eval (.GeneratorExp elt [⟨tg, iter, [], 0⟩] scope gpos) X.env) :: backTo pos (starEach [] X.env))) _ _ s
  have hroom : X.A.depth < recursionLimit := by have := hr.dp; omega
  refine Calls.spliced_cons (gen_make (Q := Q) hroom hc hN TB hcode S hi hg he hs I h fun a s6 R => ?_)
  obtain ⟨gi, n, gs, Ev, En, r1, r2, r3, r4, r5, r6, r7, r8, r9⟩ := R
  refine Calls.spliced_nil ?_
  refine call_function_tree F.kind_any F.plain_any F.entry_any (F.args_any1 _) ?_
  unfold Builtin.«any»
  refine wpAny_bind (m := oneArg "any" _) (wpAny_pure ?_)
  refine wpAny_bind (wpAny_pyIter_gen r1 ?_)
  exact wpAny_pure ⟨plainId_quiet F.plain_any_loop _, any_loop hr.hd hroom r6 r7 (fun s' gg e hgg => r8 s' gg e hgg) (fun s' gg h' e hgg hk => r9 s' gg h' e hgg hk) n gs s6 r1 r2 r3 r4 r5⟩
/-- room in the generator's frame -/
theorem room_gen {k : Nat} {A : Around} (r : Room (k + 1) A) (env : Env) : Room k (A.in1.in1.deeper env) :=
  ⟨r.hd, by have := r.dp; show A.depth + 1 + 3 * k + 5 < _; omega, by have := r.un; show A.units + 1 + 1 + 3 + 16 * k + 200 < _; omega⟩
end
end GenA

namespace Dl
open PySem PySem.Spec PyProof.Rows L2
open Evl (Ex sz_of sz_lt)
section
variable {K : PySem.W.Frag} {T : List Addr} {ta tb te : TE} {tas : TA} {ma mb m : DTE} {mx my : DTX} {mv : DTA} {tt tu : TT} {mt mu : DTT} {t1 t2 : TS} {m1 m2 : DTS}
/-- a list that changes is written -/
theorem PenAt.put {pe : Pe} {F H : Hp} {w : Ws} {i : Nat} {p : Addr} {ws : List V} {ys : List PyData} (h : PenAt K pe F H w) (h1 : pe.sh[i]? = some p) (nF : F p = none) (a : DqAll K F ws ys) : PenAt K pe F (upd H p (.lst ws)) ⟨w.n, w.os.set i (some ys)⟩ := by
  have mem := List.mem_of_getElem? h1
  obtain ⟨us, hp⟩ := h.at_ p mem
  refine ⟨fun q c z => ?_, by show (w.os.set i (some ys)).length = _; rw [List.length_set]; exact h.len, h.nd, fun j q zs z1 z2 => ?_, fun q hq => ?_, fun P hP => ?_⟩
  · obtain ⟨cs, t, r, z1, z2, z3, z4, z5, z6, z7, z8⟩ := h.pen q c z
    have n1 : q ≠ p := fun e => z7 (e ▸ mem)
    have n2 : c ≠ p := fun e => z8 (e ▸ mem)
    exact ⟨cs, t, r, by rw [upd_ne n1]; exact z1, by rw [upd_ne n2]; exact z2, z3, z4, z5, z6, z7, z8⟩
  · have z2 : (w.os.set i (some ys))[j]? = some (some zs) := z2
    have hi : i < pe.sh.length := by
      rcases Nat.lt_or_ge i pe.sh.length with l | l
      · exact l
      · rw [List.getElem?_eq_none l] at h1
        cases h1
    by_cases e : i = j
    · subst e
      rw [List.getElem?_set_self (by rw [h.len]; exact hi)] at z2
      cases z2
      rw [h1] at z1
      cases z1
      exact ⟨ws, upd_same, a, nF⟩
    · rw [List.getElem?_set_ne e] at z2
      obtain ⟨vs, z3, z4, z5⟩ := h.sh j q zs z1 z2
      have n1 : q ≠ p := fun e' => by
        rw [e'] at z1
        exact e ((List.getElem?_inj (i := i) (j := j) hi h.nd).mp (h1.trans z1.symm))
      exact ⟨vs, by rw [upd_ne n1]; exact z3, z4, z5⟩
  · by_cases e : q = p
    · exact ⟨ws, by rw [e, upd_same]⟩
    · obtain ⟨vs, z⟩ := h.at_ q hq
      exact ⟨vs, by rw [upd_ne e]; exact z⟩
  · obtain ⟨z1, ps, z2, z3⟩ := h.tab P hP
    have n1 : P ≠ p := fun e => by
      rw [e, hp] at z2
      cases z2
    exact ⟨z1, ps, by rw [upd_ne n1]; exact z2, z3⟩
/-- a method of a list that changes: what it makes of the list, and its value (nothing, or data that stood in it) -/
structure DM (K : PySem.W.Frag) (r : V → List V → Hp → VK → Prop) (mr : List PyData → List PyData → (PyData → List PyData → Prop) → Prop) : Prop where
  run : ∀ (F H : Hp) (p : Addr) (us : List V) (xs : List PyData) (vs : List V) (ds : List PyData) (P : PyData → List PyData → Prop) (Q : VK), H p = some (.lst us) → DqAll K F us xs → DqAll K F vs ds → mr xs ds P →
    (∀ v ws z ys, Dq K F v z → DqAll K F ws ys → P z ys → Q v (upd H p (.lst ws))) → r (.ref p) vs H Q
def valsOf : List Sl → Option (List PyData)
  | [] => some []
  | .val d :: ss => (valsOf ss).map (d :: ·)
  | _ => none
theorem vals_of {pe : Pe} {F : Hp} : ∀ {vs : List V} {ss : List Sl} {ds : List PyData}, ArgsR K pe F vs ss → valsOf ss = some ds → DqAll K F vs ds
  | [], [], ds, _, e => by
    cases e
    exact .nil
  | v :: vs, .val d :: ss, ds, ⟨a, b⟩, e => by
    have e : (valsOf ss).map (d :: ·) = some ds := e
    cases h : valsOf ss with
    | none =>
      rw [h] at e
      cases e
    | some es =>
      rw [h] at e
      cases e
      exact .cons a (vals_of b h)
  | v :: vs, .no :: ss, ds, _, e => nomatch e
  | v :: vs, .pen :: ss, ds, _, e => nomatch e
  | v :: vs, .sh i :: ss, ds, _, e => nomatch e
theorem de_m {r : V → List V → Hp → VK → Prop} {mr : List PyData → List PyData → (PyData → List PyData → Prop) → Prop} (hr : DM K r mr) (h : DX K T te mx) (ha : DA K T tas mv) :
    DE K T (tBM K "list" r te tas) (fun env n P => mx env n fun s n1 => ∃ i, s = .sh i ∧ mv env n1 fun ss n2 => ∃ xs ds, n2.os[i]? = some (some xs) ∧ valsOf ss = some ds ∧ mr xs ds fun z ys => P z ⟨n2.n, n2.os.set i (some ys)⟩) := by
  constructor
  intro pe F H σ env n P Q R p q
  refine h.run pe F H σ env n _ _ R p fun x F1 H1 s n1 f1 p1 h1 ⟨i, e, g1⟩ => ?_
  subst e
  obtain ⟨a, e1, rfl⟩ := h1
  have mem := List.mem_of_getElem? e1
  obtain ⟨us, hu⟩ := p1.at_ a mem
  refine ⟨.inl ⟨rfl, us, SqL.of hu⟩, ?_⟩
  refine ha.run pe F1 H1 σ env n1 _ _ (R.step f1 p1) g1 fun vs F2 H2 ss n2 f2 p2 h2 ⟨xs, ds, e2, e3, g2⟩ => ?_
  obtain ⟨us2, z1, z2, z3⟩ := p2.sh i a xs e1 e2
  refine hr.run F2 H2 a us2 xs vs ds _ _ z1 z2 (vals_of h2 e3) g2 fun v ws z ys hv hw g3 => ?_
  exact q v F2 _ z _ ((f1.trans f2).trans (Fr.wr f2.fh z3 (.inl (.inr (.inl mem))))) (p2.put e1 z3 hw) hv g3
theorem de_m0 {r : V → List V → Hp → VK → Prop} {mr : List PyData → List PyData → (PyData → List PyData → Prop) → Prop} (hr : DM K r mr) (h : DX K T te mx) :
    DE K T (tBM0 K "list" r te) (fun env n P => mx env n fun s n1 => ∃ i, s = .sh i ∧ ∃ xs, n1.os[i]? = some (some xs) ∧ mr xs [] fun z ys => P z ⟨n1.n, n1.os.set i (some ys)⟩) := by
  constructor
  intro pe F H σ env n P Q R p q
  refine h.run pe F H σ env n _ _ R p fun x F1 H1 s n1 f1 p1 h1 ⟨i, e, xs, e2, g1⟩ => ?_
  subst e
  obtain ⟨a, e1, rfl⟩ := h1
  have mem := List.mem_of_getElem? e1
  obtain ⟨us2, z1, z2, z3⟩ := p1.sh i a xs e1 e2
  refine ⟨.inl ⟨rfl, us2, SqL.of z1⟩, ?_⟩
  refine hr.run F1 H1 a us2 xs [] [] _ _ z1 z2 .nil g1 fun v ws z ys hv hw g3 => ?_
  exact q v F1 _ z _ (f1.trans (Fr.wr f1.fh z3 (.inl (.inr (.inl mem))))) (p1.put e1 z3 hw) hv g3
theorem all1 {F : Hp} {vs : List V} {d : PyData} (h : DqAll K F vs [d]) : ∃ v, vs = [v] ∧ Dq K F v d := by
  cases h with
  | cons a b =>
    cases b
    exact ⟨_, rfl, a⟩
theorem all2 {F : Hp} {vs : List V} {d e : PyData} (h : DqAll K F vs [d, e]) : ∃ v w, vs = [v, w] ∧ Dq K F v d ∧ Dq K F w e := by
  cases h with
  | cons a b =>
    cases b with
    | cons b c =>
      cases c
      exact ⟨_, _, rfl, a, b⟩
theorem dm_append : DM K rAppend (fun xs ds P => ∃ d, ds = [d] ∧ xs.length < 100000 ∧ P .none (xs ++ [d])) := by
  constructor
  rintro F H p us xs vs ds P Q hp hu hv ⟨d, rfl, l, g⟩ q
  obtain ⟨v, rfl, hy⟩ := all1 hv
  exact ⟨p, us, v, rfl, rfl, hp, by rw [dps_len hu]; exact sz_lt l, q _ _ _ _ .non (dps_app hu (.cons hy .nil)) g⟩
theorem dm_insert : DM K (fun x vs H Q => ∃ (l : Addr) (xs : List V) (i : Int) (y : V), x = .ref l ∧ vs = [.int i, y] ∧ H l = some (.lst xs) ∧ xs.length < sizeLine ∧ 0 ≤ i ∧ i < 2 ^ 63 ∧ Q .non (upd H l (.lst (xs.take i.toNat ++ [y] ++ xs.drop i.toNat))))
    (fun xs ds P => ∃ (i : Int) (d : PyData), ds = [.int i, d] ∧ xs.length < 100000 ∧ 0 ≤ i ∧ i < 2 ^ 63 ∧ P .none (xs.take i.toNat ++ [d] ++ xs.drop i.toNat)) := by
  constructor
  rintro F H p us xs vs ds P Q hp hu hv ⟨i, d, rfl, l, b1, b2, g⟩ q
  obtain ⟨v, w, rfl, hy, hw⟩ := all2 hv
  have e := dp_int hy
  subst e
  exact ⟨p, us, i, w, rfl, rfl, hp, by rw [dps_len hu]; exact sz_lt l, b1, b2, q _ _ _ _ .non (dps_app (dps_app (dps_take _ hu) (.cons hw .nil)) (dps_drop _ hu)) g⟩
theorem dps_dropLast {F : Hp} : ∀ {vs : List V} {ds : List PyData}, DqAll K F vs ds → DqAll K F vs.dropLast ds.dropLast
  | _, _, .nil => .nil
  | _, _, .cons _ .nil => .nil
  | _ :: _ :: _, _ :: _ :: _, .cons a (.cons b c) => .cons a (dps_dropLast (.cons b c))
theorem dps_erase {F : Hp} : ∀ {vs : List V} {ds : List PyData} (i : Nat), DqAll K F vs ds → DqAll K F (vs.eraseIdx i) (ds.eraseIdx i)
  | _, _, _, .nil => .nil
  | _, _, 0, .cons _ b => b
  | _, _, i + 1, .cons a b => .cons a (dps_erase i b)
theorem dm_pop : DM K rPop (fun xs ds P => ∃ z, ds = [] ∧ xs[xs.length - 1]? = some z ∧ P z xs.dropLast) := by
  constructor
  rintro F H p us xs vs ds P Q hp hu hv ⟨z, rfl, e, g⟩ q
  have ev := all_nil hv
  subst ev
  obtain ⟨v, h1, h2⟩ := dps_get hu e
  exact ⟨p, us, v, rfl, rfl, hp, by rw [dps_len hu]; exact h1, q _ _ _ _ h2 (dps_dropLast hu) g⟩
theorem dm_popAt : DM K rPopAt (fun xs ds P => ∃ (i : Int) (k : Nat) (z : PyData), ds = [.int i] ∧ -(2 ^ 63) ≤ i ∧ i < 2 ^ 63 ∧ seqIndex? i xs.length = some k ∧ xs[k]? = some z ∧ P z (xs.eraseIdx k)) := by
  constructor
  rintro F H p us xs vs ds P Q hp hu hv ⟨i, k, z, rfl, b1, b2, e1, e2, g⟩ q
  obtain ⟨v, rfl, hy⟩ := all1 hv
  have e := dp_int hy
  subst e
  obtain ⟨v, h1, h2⟩ := dps_get hu e2
  exact ⟨p, us, i, k, v, rfl, rfl, hp, b1, b2, by rw [dps_len hu]; exact e1, h1, q _ _ _ _ h2 (dps_erase k hu) g⟩
theorem dm_extend : DM K (fun x vs H Q => ∃ (l b : Addr) (xs zs : List V), x = .ref l ∧ vs = [.ref b] ∧ H l = some (.lst xs) ∧ H b = some (.lst zs) ∧ xs.length + zs.length ≤ sizeLine ∧ Q .non (upd H l (.lst (xs ++ zs)))) (fun xs ds P => False) := by
  constructor
  rintro F H p us xs vs ds P Q hp hu hv ⟨⟩
/-- xs.extend(a list that changes no more) -/
theorem de_extend (h : DX K T te mx) (ha : DX K T ta my) : DE K T (tBM K "list" rExtend te (tCons ta tNil)) (fun env n P => mx env n fun s n1 => ∃ i, s = .sh i ∧ my env n1 fun t n2 => ∃ xs zs, n2.os[i]? = some (some xs) ∧ see n2 t = some (.list zs) ∧ xs.length + zs.length ≤ 100000 ∧ P .none ⟨n2.n, n2.os.set i (some (xs ++ zs))⟩) := by
  constructor
  intro pe F H σ env n P Q R p q
  refine h.run pe F H σ env n _ _ R p fun x F1 H1 s n1 f1 p1 h1 ⟨i, e, g1⟩ => ?_
  subst e
  obtain ⟨a, e1, rfl⟩ := h1
  have mem := List.mem_of_getElem? e1
  obtain ⟨us, hu⟩ := p1.at_ a mem
  refine ⟨.inl ⟨rfl, us, SqL.of hu⟩, ?_⟩
  refine ha.run pe F1 H1 σ env n1 _ _ (R.step f1 p1) g1 fun y F2 H2 t n2 f2 p2 h2 ⟨xs, zs, e2, e3, l, g2⟩ => ?_
  obtain ⟨us2, z1, z2, z3⟩ := p2.sh i a xs e1 e2
  obtain ⟨b, ws, rfl, z4, z5⟩ := dz_list f2.fh (see_dz p2 h2 e3)
  refine ⟨a, b, us2, ws, rfl, rfl, z1, z4, by rw [dps_len z2, dps_len z5]; exact sz_of l, ?_⟩
  exact q _ F2 _ .none _ ((f1.trans f2).trans (Fr.wr f2.fh z3 (.inl (.inr (.inl mem))))) (p2.put e1 z3 (dps_app z2 z5)) .non g2
/-- xs[i] = e -/
theorem ixN_len {n m : Nat} {k : Int} (e : n = m) : ixN n k = ixN m k := by rw [e]
theorem ds_put {mi : DTX} {ti : TE} (he : DE K T te m) (h : DX K T ta mx) (hi : DX K T ti mi) : DS K T (tAsg te (gSub ta ti rSetL)) (fun d env n => m env n fun x n1 => mx env n1 fun s n2 => ∃ i, s = .sh i ∧ mi env n2 fun t n3 => ∃ (k : Int) (xs : List PyData) (j : Nat), t = .val (.int k) ∧ n3.os[i]? = some (some xs) ∧ ixN xs.length k = some j ∧ d.nx env ⟨n3.n, n3.os.set i (some (xs.set j x))⟩) := by
  constructor
  intro pe0 F0 H0 pe F H σ env n D d R p M
  refine he.run pe F H σ env n _ _ R.lv p fun v F1 H1 x n1 f1 p1 h1 g1 => ?_
  have R1 := R.step f1 p1
  refine h.run pe F1 H1 σ env n1 _ _ R1.lv g1 fun y F2 H2 s n2 f2 p2 h2 ⟨i, e, g2⟩ => ?_
  subst e
  have R2 := R1.step f2 p2
  obtain ⟨a, e1, rfl⟩ := h2
  have mem := List.mem_of_getElem? e1
  refine hi.run pe F2 H2 σ env n2 _ _ R2.lv g2 fun z F3 H3 t n3 f3 p3 h3 ⟨k, xs, j, e3, e4, e5, g3⟩ => ?_
  subst e3
  have ez := dp_int (show Dq K F3 z (.int k) from h3)
  subst ez
  obtain ⟨us, z1, z2, z3⟩ := p3.sh i a xs e1 e4
  have R3 := R2.step f3 p3
  refine ⟨a, us, k, j, rfl, rfl, z1, by rw [dps_len z2]; exact e5, ?_⟩
  have hx := dp_ex f3.ff (dp_ex f2.ff h1)
  exact M.nx pe σ env F3 _ _ ((f1.ff.trans f2.ff).trans f3.ff) (R3.step (Fr.wr f3.fh z3 (.inl (.inr (.inl mem)))) (p3.put e1 z3 (dps_set j z2 hx))) g3
abbrev DTO := Env → Ws → (Option Int → Ws → Prop) → Prop
structure DO (K : PySem.W.Frag) (T : List Addr) (to : TO) (m : DTO) : Prop where
  run : ∀ (pe : Pe) (F H : Hp) (σ : L2.St) (env : Env) (n : Ws) (P : Option Int → Ws → Prop) (Q : Option Int → Hp → Prop), Lv K T pe F H σ env n → m env n P →
    (∀ b F' H' n', Fr pe F H F' H' → PenAt K pe F' H' n' → P b n' → Q b H') → to σ H Q
theorem do_none : DO K T tNoPart (fun _ n P => P none n) := by
  constructor
  intro pe F H σ env n P Q R p q
  exact q none F H n (.refl R.ex) R.pn p
theorem dps_cut {F : Hp} {vs : List V} {ds : List PyData} (lo hi : Option Int) (h : DqAll K F vs ds) : DqAll K F (cutV vs lo hi) ((ds.drop (HT.sIx ds.length 0 lo)).take (HT.sIx ds.length ds.length hi - HT.sIx ds.length 0 lo)) := by
  unfold cutV
  rw [dps_len h]
  exact dps_take _ (dps_drop _ h)
end
end Dl

namespace Dl
open PySem PySem.Spec PyProof.Rows L2
open Evl (Ex sz_of sz_lt)
section
variable {K : PySem.W.Frag} {T : List Addr} {ta tb te : TE} {tas : TA} {ma mb m : DTE} {mx my : DTX} {mv : DTA} {tt tu : TT} {mt mu : DTT} {t1 t2 : TS} {m1 m2 : DTS}
theorem do_some (h : DE K T te m) : DO K T (tPart te) (fun env n P => m env n fun d n1 => ∃ i, d = .int i ∧ P (some i) n1) := by
  constructor
  intro pe F H σ env n P Q R p q
  refine h.run pe F H σ env n _ _ R p fun v F1 H1 d n1 f1 p1 h1 ⟨i, e, g1⟩ => ?_
  subst e
  exact ⟨i, dp_int h1, q _ F1 H1 n1 f1 p1 g1⟩
def cutD (ds : List PyData) (lo hi : Option Int) : List PyData := (ds.drop (HT.sIx ds.length 0 lo)).take (HT.sIx ds.length ds.length hi - HT.sIx ds.length 0 lo)
theorem cutV_whole {vs : List V} {lo hi : Option Int} (h : HT.sIx vs.length 0 lo = 0 ∧ HT.sIx vs.length vs.length hi = vs.length) : cutV vs lo hi = vs := by
  unfold cutV
  rw [h.1, h.2, List.drop_zero, Nat.sub_zero, List.take_length]
/-- x[lo:hi], x a list or a tuple -/
def rSlD (K : PySem.W.Frag) : V → Option Int → Option Int → Hp → VK → Prop := fun x lo hi H Q => rSlL K x lo hi H Q ∨ rSlA K x lo hi H Q
theorem de_slice {tl th : TO} {ml mh : DTO} (h : DX K T te mx) (hl : DO K T tl ml) (hh : DO K T th mh) : DE K T (tSl (rSlD K) te tl th) (fun env n P => mx env n fun s n1 => ml env n1 fun lo n2 => mh env n2 fun hi n3 =>
    ∃ d, see n3 s = some d ∧ ((∃ ds, d = .list ds ∧ P (.list (cutD ds lo hi)) n3) ∨ (∃ ds, d = .tuple ds ∧ P (.tuple (cutD ds lo hi)) n3))) := by
  constructor
  intro pe F H σ env n P Q R p q
  refine h.run pe F H σ env n _ _ R p fun x F1 H1 s n1 f1 p1 h1 g1 => ?_
  refine hl.run pe F1 H1 σ env n1 _ _ (R.step f1 p1) g1 fun lo F2 H2 n2 f2 p2 g2 => ?_
  refine hh.run pe F2 H2 σ env n2 _ _ ((R.step f1 p1).step f2 p2) g2 fun hi F3 H3 n3 f3 p3 ⟨d, e, g3⟩ => ?_
  have hz := see_dz p3 (h1.ex (f2.ff.trans f3.ff)) e
  have ff := (f1.trans f2).trans f3
  rcases g3 with ⟨ds, rfl, g3⟩ | ⟨ds, rfl, g3⟩
  · obtain ⟨a, vs, rfl, z1, z2⟩ := dz_list f3.fh hz
    refine .inl ⟨a, vs, rfl, SqL.of z1, fun r nr => ?_⟩
    have f4 := Fr.put (pe := pe) (o := .lst (cutV vs lo hi)) f3.fh nr
    exact q _ _ _ _ n3 (ff.trans f4) (p3.pure f4.ff (Ex.new nr) f4.new) (.lst upd_same (dp_exs f4.ff (dps_cut lo hi z2))) g3
  · obtain ⟨a, vs, rfl, z1, z2⟩ := dz_tup hz
    refine .inr ⟨a, vs, rfl, Evl.ex_t f3.fh z1, fun w => ?_, fun _ r nr => ?_⟩
    · have e1 := dps_cut lo hi z2
      rw [cutV_whole w] at e1
      exact q _ F3 H3 _ n3 ff p3 (.tup z1 e1) g3
    · have f4 := Fr.put (pe := pe) (o := .tup (cutV vs lo hi)) f3.fh nr
      exact q _ _ _ _ n3 (ff.trans f4) (p3.pure f4.ff (Ex.new nr) f4.new) (.tup (SqT.of upd_same) (dp_exs f4.ff (dps_cut lo hi z2))) g3
def rInA (K : PySem.W.Frag) (neg : Bool) : R2 := fun x y H Q => ∃ d ds, Dp K H x d ∧ (Dp K H y (.list ds) ∨ Dp K H y (.tuple ds)) ∧ SeqAt.shaped d = true ∧ SeqAt.shaped (.list ds) = true ∧ Q (.bl (if neg then !(ds.any fun z => PyData.eqv z d) else ds.any fun z => PyData.eqv z d)) H
theorem op_inA {X : Cx} (hu : X.A.units + 65 < cLine) : OpR X (compareOp .In) (rInA X.K false) := by
  intro pins s σ H x y v u Q I rx ry h
  obtain ⟨d, ds, hd, he, sd, se, q⟩ := h
  obtain ⟨as, r1⟩ := Dp.reads I d x v hd rx
  rcases he with he | he
  · obtain ⟨bs, r2⟩ := Dp.reads I (.list ds) y u he ry
    exact SeqAt.in_list_reads r2 r1 (SeqAt.canLay_of_shaped se) (SeqAt.canLay_of_shaped sd) (room_in_shaped sd hu) ⟨.bl _, H, I, rfl, q⟩
  · obtain ⟨bs, r2⟩ := Dp.reads I (.tuple ds) y u he ry
    exact SeqAt.in_tuple_reads r2 r1 (SeqAt.canLay_of_shaped se) (SeqAt.canLay_of_shaped sd) (room_in_shaped sd hu) ⟨.bl _, H, I, rfl, q⟩
theorem dr_inA {neg : Bool} : DR K (rInA K neg) (fun d e P => ∃ ds, items e = some ds ∧ SeqAt.shaped d = true ∧ SeqAt.shaped (.list ds) = true ∧ P (.bool (if neg then !(ds.any fun z => PyData.eqv z d) else ds.any fun z => PyData.eqv z d))) := by
  constructor
  rintro pe F H x y d e P Q ex hx hy ⟨ds, e1, s1, s2, p⟩ q
  have h2 := hy.dp ex
  refine ⟨d, ds, hx.dp ex, ?_, s1, s2, q _ F H _ (.refl ex) (fun _ _ z => z) (.bl _) p⟩
  cases e with
  | list zs =>
    cases e1
    exact .inl h2
  | tuple zs =>
    cases e1
    exact .inr h2
  | _ => cases e1
theorem dps_rep {F : Hp} {vs : List V} {ds : List PyData} (h : DqAll K F vs ds) : ∀ k : Nat, DqAll K F (List.replicate k vs).flatten (List.replicate k ds).flatten
  | 0 => .nil
  | k + 1 => by
    rw [List.replicate_succ, List.replicate_succ, List.flatten_cons, List.flatten_cons]
    exact dps_app h (dps_rep h k)
theorem dn_rep {mn : DTN} (h : DN K T ta mn) (hb : DE K T tb mb) : DN K T (tOp rRep ta tb) (fun env n P => mn env n fun xs n1 => mb env n1 fun e n2 => ∃ k : Int, e = .int k ∧ -(2 ^ 63) ≤ k ∧ k < 2 ^ 63 ∧ xs.length * k.toNat ≤ 100000 ∧ P (List.replicate k.toNat xs).flatten n2) := by
  constructor
  intro pe F H σ env n P Q R p q
  refine h.run pe F H σ env n _ _ R p fun a F1 H1 vs xs n1 f1 p1 na ha nF hv g1 => ?_
  refine hb.run pe F1 H1 σ env n1 _ _ (R.step f1 p1) g1 fun y F2 H2 e n2 f2 p2 h2 ⟨k, e1, b1, b2, l, g2⟩ => ?_
  subst e1
  have ey := dp_int h2
  subst ey
  have far := R.pn.far na
  have ha2 : H2 a = some (.lst vs) := f2.hh a _ far.1 ha
  have hv2 := dp_exs f2.ff hv
  refine ⟨a, k, vs, rfl, rfl, ha2, b1, b2, by rw [dps_len hv]; exact sz_of l, fun r nr => ?_⟩
  have ff := f1.trans f2
  have nr0 : H r = none := by
    cases z : H r with
    | none => rfl
    | some u => exact absurd nr (ff.dom r (by rw [z]; simp))
  exact q r F2 _ _ _ n2 (ff.trans (Fr.mine f2.fh nr)) (p2.mut (p2.far nr)) nr0 upd_same (Evl.fresh_back f2.fh nr) (dps_rep hv2 _) g2
theorem PenAt.tabPut {pe : Pe} {F H : Hp} {w : Ws} {P : Addr} {ps : Array Value} (h : PenAt K pe F H w) (hP : P ∈ pe.tabs) (ht : TriplesOk ps.toList) : PenAt K pe F (upd H P (.tbl ps)) w := by
  obtain ⟨hF, ps0, h0, _⟩ := h.tab P hP
  have nl : ∀ p xs, H p = some (.lst xs) → p ≠ P := fun p xs e z => by
    rw [z, h0] at e
    cases e
  refine ⟨fun q c z => ?_, h.len, h.nd, fun j q zs z1 z2 => ?_, fun q hq => ?_, fun Q hQ => ?_⟩
  · obtain ⟨cs, t, r, z1, z2, z3⟩ := h.pen q c z
    exact ⟨cs, t, r, by rw [upd_ne (nl _ _ z1)]; exact z1, by rw [upd_ne (nl _ _ z2)]; exact z2, z3⟩
  · obtain ⟨vs, z3, z4⟩ := h.sh j q zs z1 z2
    exact ⟨vs, by rw [upd_ne (nl _ _ z3)]; exact z3, z4⟩
  · obtain ⟨vs, z⟩ := h.at_ q hq
    exact ⟨vs, by rw [upd_ne (nl _ _ z)]; exact z⟩
  · obtain ⟨z1, qs, z2, z3⟩ := h.tab Q hQ
    by_cases e : Q = P
    · exact ⟨z1, ps, by rw [e, upd_same], ht⟩
    · exact ⟨z1, qs, by rw [upd_ne e]; exact z2, z3⟩
def wGen (go : Bool) (mg : DTG) (m : DTE) (env : Env) (Pq : PyData → Ws → Prop) : List PyData → Ws → Prop
  | [], n => Pq (.bool go) n
  | x :: xs, n => mg (.val x) env fun env' => m env' n fun y n1 => ∃ b, y = .bool b ∧ if b = go then wGen go mg m env Pq xs n1 else Pq (.bool (!go)) n1
theorem de_gen {go : Bool} {P : Addr} {wi : TI} {mi : DTV} {g : TG} {mg : DTG} {vs : List Nat} (hP : P ∈ T) (hi : DI K T wi mi) (hg : DG K g mg) (kg : Keeps g vs) (h : DE K T te m) :
    DE K T (GenA.tGen go P wi g te vs) (fun env n Pq => mi env n fun ds n1 => wGen go mg m (wipeE env vs) Pq ds n1) := by
  constructor
  intro pe F H σ env n Pq Q R p q
  have hP' : P ∈ pe.tabs := by
    rw [R.tb]
    exact hP
  refine hi.run pe F H σ env n _ _ R p fun J F1 H1 ds n1 f1 p1 W g1 => ?_
  obtain ⟨hF, ps, hp, ht⟩ := p1.tab P hP'
  refine ⟨ps, hp, ht, fun ps' ht' => ?_⟩
  have f0 : Fr pe F1 H1 F1 (upd H1 P (.tbl ps')) := Fr.wr f1.fh hF (.inl (.inr (.inr hP')))
  refine ⟨fun i k H' => k = ds.length - i ∧ i ≤ ds.length ∧ ∃ F' n', Fr pe F1 H1 F' H' ∧ PenAt K pe F' H' n' ∧ wGen go mg m (wipeE env vs) Pq (ds.drop i) n',
    ⟨_, rfl, Nat.zero_le _, F1, n1, f0, p1.tabPut hP' ht', g1⟩, ?_⟩
  rintro i k H' ⟨rfl, hil, F', n', f2, p2, w⟩
  have wk := W pe F' H' f2.ff f2.fh
  by_cases hlt : i < ds.length
  · obtain ⟨gog, yl⟩ := wk.1 i hlt
    refine .inr ⟨gog, fun H2 => i + 1 ≤ ds.length ∧ ∃ F' n', Fr pe F1 H1 F' H2 ∧ PenAt K pe F' H2 n' ∧ wGen go mg m (wipeE env vs) Pq (ds.drop (i + 1)) n',
      fun H2 h2 => ⟨ds.length - (i + 1), by omega, rfl, h2.1, h2.2⟩, fun x H2 y => ?_⟩
    obtain ⟨F2, z, f3, e2, hz, hd⟩ := yl x H2 y
    rw [drop_at hd] at w
    have f4 := f2.trans f3
    have er2 : EnvR K pe F2 (wipe σ vs) (wipeE env vs) := ((R.er.ff f1.ff).ff f4.ff).wipe vs
    refine kg x σ H2 _ ?_
    refine hg.run pe F2 H2 _ (wipeE env vs) x (.val z) _ _ er2 f3.fh hz w fun σ3 env3 R3 w3 => ?_
    have L3 : Lv K T pe F2 H2 σ3 env3 n' := ⟨R3, f3.fh, p2.pure f3.ff e2 f3.new, R.tb⟩
    refine h.run pe F2 H2 σ3 env3 n' _ _ L3 w3 fun v F5 H5 y n5 f5 p5 h5 ⟨b, eb, w5⟩ => ?_
    subst eb
    refine ⟨b, dp_bl h5, ?_⟩
    by_cases e : b = go
    · rw [if_pos e] at w5 ⊢
      exact ⟨hlt, F5, n5, f4.trans f5, p5, w5⟩
    · rw [if_neg e] at w5 ⊢
      exact q _ F5 H5 _ n5 ((f1.trans f4).trans f5) p5 (.bl _) w5
  · have e : i = ds.length := by omega
    subst e
    rw [List.drop_length] at w
    exact .inl ⟨wk.2, q _ F' H' _ n' (f1.trans f2) p2 (.bl _) w⟩
end
end Dl

namespace Dl
open PySem PySem.Spec PyProof.Rows L2
open Evl (Ex sz_of sz_lt)
theorem units65 {k : Nat} {A : Around} (r : Room k A) : A.units + 65 < cLine := by have := r.un; omega
theorem units64 {k : Nat} {A : Around} (r : Room k A) : A.units + 64 < cLine := by have := r.un; omega
def iAny (K : PySem.W.Frag) (tl : TE) : TI := fun σ H R => tl σ H fun x H1 => ∃ a, x = .ref a ∧ (((∃ xs, SqL K H1 a xs) ∧ R (Itl K a) H1) ∨ ((∃ xs, SqT K H1 a xs) ∧ R (Itt K a) H1))
theorem pi_any {X : Cx} {tg l : Expr} {tl : TE} (hl : PE X l tl) : PI X tg l (iAny X.K tl) := by
  refine ⟨fun pins s σ H R I h => ?_⟩
  refine thn (hl.run pins s σ H _ I h) fun v s1 ⟨x, H1, I1, r1, q1⟩ => ?_
  obtain ⟨a, e, q⟩ := q1
  subst e
  cases r1
  have fp : ∀ b ∈ [s1.heap.objs.size], FpOk X pins H1 b := fun b hb => by
    have e : b = s1.heap.objs.size := by simpa using hb
    subst e
    exact I1.fpOk (Nat.le_refl _) (I1.hok.fresh (Nat.le_refl _))
  rcases q with ⟨⟨xs, hq⟩, q⟩ | ⟨⟨xs, hq⟩, q⟩
  · obtain ⟨its, rv, p, hz⟩ := I1.list hq
    refine wpAny_pyIter_list p.isList ?_
    exact ⟨s1.heap.objs.size, [s1.heap.objs.size], _, _, H1, rfl, I1.kept (t' := s1.toks) fun b o e => Heap.get?_push_of_some _ e, turn_list a _, ⟨_, Heap.get?_push_size _ rfl, rfl, rfl⟩, fp, q⟩
  · obtain ⟨its, rv, p, hz⟩ := I1.tuple hq
    refine wpAny_pyIter_tuple (show s1.heap.IsTuple a its.toArray from p) ?_
    exact ⟨s1.heap.objs.size, [s1.heap.objs.size], _, _, H1, rfl, I1.kept (t' := s1.toks) fun b o e => Heap.get?_push_of_some _ e, turn_tuple a _, ⟨_, Heap.get?_push_size _ rfl, rfl, rfl⟩, fp, q⟩
theorem op_notInA {X : Cx} (hu : X.A.units + 65 < cLine) : OpR X (compareOp .NotIn) (rInA X.K true) := by
  intro pins s σ H x y v u Q I rx ry h
  obtain ⟨d, ds, hd, he, sd, se, q⟩ := h
  obtain ⟨as, r1⟩ := Dp.reads I d x v hd rx
  rcases he with he | he
  · obtain ⟨bs, r2⟩ := Dp.reads I (.list ds) y u he ry
    exact SeqAt.notIn_list_reads r2 r1 (SeqAt.canLay_of_shaped se) (SeqAt.canLay_of_shaped sd) (room_in_shaped sd hu) ⟨.bl _, H, I, rfl, q⟩
  · obtain ⟨bs, r2⟩ := Dp.reads I (.tuple ds) y u he ry
    exact SeqAt.notIn_tuple_reads r2 r1 (SeqAt.canLay_of_shaped se) (SeqAt.canLay_of_shaped sd) (room_in_shaped sd hu) ⟨.bl _, H, I, rfl, q⟩
section
variable {K : PySem.W.Frag} {T : List Addr} {te : TE} {m : DTE}
theorem di_any (h : DE K T te m) : DI K T (iAny K te) (fun env n P => m env n fun d n1 => ∃ ds, items d = some ds ∧ P ds n1) := by
  constructor
  intro pe F H σ env n P R' R p q
  refine h.run pe F H σ env n _ _ R p fun v F1 H1 x n1 f1 p1 h1 ⟨ds, e, g1⟩ => ?_
  cases h1 with
  | lst h a =>
    cases e
    exact ⟨_, rfl, .inl ⟨⟨_, SqL.of (f1.fh _ _ h)⟩, q _ F1 H1 ds n1 f1 p1 (walkD_of walk_list a fun H2 e => SqL.of (e _ _ h)) g1⟩⟩
  | tup h a =>
    cases e
    exact ⟨_, rfl, .inr ⟨⟨_, Evl.ex_t f1.fh h⟩, q _ F1 H1 ds n1 f1 p1 (walkD_of walk_tup a fun H2 e => Evl.ex_t e h) g1⟩⟩
  | _ => cases e
end
section
variable {K : PySem.W.Frag} {T : List Addr} {te : TE} {m : DTE} {tt : TT} {mt : DTT}
theorem dn_lcN {i : Nat} {wi : TI} {mi : DTV} (hi : DI K T wi mi) (ht : DT K T tt mt) (h : DE K T te m) :
    DN K T (tLc wi (gName i) tt te [i]) (fun env n P => mi env n fun ds n1 => wLc (fun d env P => P (env.set i d)) mt m (wipeE env [i]) P [] ds n1) :=
  dn_lc hi dg_name (keeps_name (by simp)) ht h
theorem de_genN {go : Bool} {i : Nat} {P : Addr} {wi : TI} {mi : DTV} (hi : DI K T wi mi) (h : DE K T te m) (hP : P ∈ T) :
    DE K T (GenA.tGen go P wi (gName i) te [i]) (fun env n Pq => mi env n fun ds n1 => wGen go (fun d env P => P (env.set i d)) m (wipeE env [i]) Pq ds n1) :=
  de_gen hP hi dg_name (keeps_name (by simp)) h
end
end Dl

namespace Kin
open PySem PySem.Spec PyProof.Rows L2
open Evl (Ex sz_of sz_lt)
def topS (i : Nat) : Stmt := PySem.Challenge.pw_kindsunder_k40_steps.main.body.getD i (.Pass ⟨0, 0, 0, 0⟩)
abbrev s_spread : Stmt := topS 33
abbrev N_spread : List Str := ["_law_cell", "_law_at", "_law_primes", "_law_mixed", "_law_one_here", "_law_rest", "_law_two", "_law_three"]
theorem sc_spread : FnScope N_spread ["_law_cell", "_law_at"] (defScope s_spread) := ⟨rfl, rfl, rfl, by decide +kernel, rfl, by decide +kernel, by decide +kernel⟩
abbrev s_open : Stmt := topS 34
abbrev N_open : List Str := ["_law_script", "_law_cells", "_law_k", "_law_cell"]
theorem sc_open : FnScope N_open ["_law_script"] (defScope s_open) := ⟨rfl, rfl, rfl, by decide +kernel, rfl, by decide +kernel, by decide +kernel⟩
abbrev s_anew : Stmt := topS 36
abbrev N_anew : List Str := ["_law_pen"]
theorem sc_anew : FnScope N_anew ["_law_pen"] (defScope s_anew) := ⟨rfl, rfl, rfl, by decide +kernel, rfl, by decide +kernel, by decide +kernel⟩
abbrev s_take : Stmt := topS 35
abbrev N_take : List Str := ["_law_pen", "_law_many", "_law_at", "_law_cell", "_law_found"]
theorem sc_take : FnScope N_take ["_law_pen", "_law_many"] (defScope s_take) := ⟨rfl, rfl, rfl, by decide +kernel, rfl, by decide +kernel, by decide +kernel⟩
abbrev s_one : Stmt := topS 37
abbrev N_one : List Str := ["_law_pen", "_law_some"]
theorem sc_one : FnScope N_one ["_law_pen", "_law_some"] (defScope s_one) := ⟨rfl, rfl, rfl, by decide +kernel, rfl, by decide +kernel, by decide +kernel⟩
/-- the built-in names that stand as they were -/
structure TB (mg : Str → Option Value) : Prop where
  m_int : mg "int" = none
  m_list : mg "list" = none
  m_len : mg "len" = none
  m_enumerate : mg "enumerate" = none
theorem ite_t {p q : Prop} : (if true = true then p else q) = p := if_pos rfl
theorem ite_f {p q : Prop} : (if false = true then p else q) = q := if_neg Bool.false_ne_true
section
variable {P : Program} {w : World} {K : PySem.W.Frag} {mg : Str → Option Value} {base : Heap}
def primes : List Int := [2147483629, 2147483587, 2147483579, 2147483563, 2147483549, 2147483543, 2147483497, 2147483489, 2147483477, 2147483423, 2147483399, 2147483353, 2147483323]
theorem callR_weak {X : Cx} {f : Value} {r r' : List V → Hp → VK → Prop} (h : CallR X f r) (k : ∀ xs H Q, r' xs H Q → r xs H Q) : CallR X f r' :=
  fun pins s σ H xs us Q I v q => h pins s σ H xs us Q I v (k _ _ _ q)
/-- int(i), list(a list), len(a list) -/
theorem call_intI {X : Cx} : CallR X (.type "int") (fun xs H Q => ∃ i, xs = [.int i] ∧ Q (.int i) H) := callR_weak call_int1 fun _ _ _ h => .inl h
theorem call_listL {X : Cx} : CallR X (.type "list") (fun xs H Q => ∃ p ys, xs = [.ref p] ∧ SqL X.K H p ys ∧ ∀ l, H l = none → Q (.ref l) (upd H l (.lst ys))) :=
  callR_weak call_list_of fun _ _ _ ⟨p, ys, e, h, q⟩ => ⟨p, ys, e, .inl h, q⟩
theorem call_lenL {X : Cx} : CallR X (.builtin "len") (fun xs H Q => ∃ p ys, xs = [.ref p] ∧ SqL X.K H p ys ∧ Q (.int ys.length) H) :=
  callR_weak call_len_seq fun _ _ _ ⟨p, ys, e, h, q⟩ => ⟨p, ys, e, .inl h, q⟩
theorem prime_at (a : Int) : ∃ p : Int, atI (primes.map V.int) (a % 13) = some (.int p) ∧ 0 < p ∧ p < 2147483648 := by
  have h0 : 0 ≤ a % 13 := Int.emod_nonneg _ (by decide)
  have h1 : a % 13 < 13 := Int.emod_lt_of_pos _ (by decide)
  obtain ⟨n, e⟩ := Int.eq_ofNat_of_zero_le h0
  rw [e] at h1 ⊢
  have hn : n < primes.length := by
    show n < 13
    omega
  refine ⟨primes[n], atI_nat ?_, ?_⟩
  · rw [List.getElem?_map, List.getElem?_eq_getElem hn]
    rfl
  · have all : ∀ p ∈ primes, 0 < p ∧ p < 2147483648 := by decide
    exact all _ (List.getElem_mem hn)
theorem abs_lt {x : Int} {n : Nat} (h0 : 0 ≤ x) (h : x < (n : Int)) : x.natAbs < n := by omega
theorem mul_bd {x y : Int} {a b : Int} (x0 : 0 ≤ x) (xa : x ≤ a) (y0 : 0 ≤ y) (yb : y ≤ b) : 0 ≤ x * y ∧ x * y ≤ a * b :=
  ⟨Int.mul_nonneg x0 y0, Int.mul_le_mul xa yb y0 (Int.le_trans x0 xa)⟩
/-- spread(cell, at): some number; what stood stands -/
def spSpread : Sp := fun vs H Q _ => ∃ (c at_ : Int), vs = [.int c, .int at_] ∧ 0 ≤ at_ ∧ at_ < 2147483648 ∧ ∀ r H', Ex H H' → Q (.int r) H'
theorem ok_spread {f : Addr} {fd : FuncData} {k : Nat} (F : Fun K "_law_spread" "_law_spread" s_spread f fd) (T : TB mg) : FnOk P w K mg base CX0 (k + 1) f fd ["_law_cell", "_law_at"] spSpread := by
  refine F.ok sc_spread (fun vs H Q E h => ?_) (fun cdv A outer s H vs Q E hr h => ?_)
  · obtain ⟨c, a, rfl, _⟩ := h
    rfl
  · obtain ⟨c, a, rfl, h0, h1, q⟩ := h
    refine ⟨_, (pss_cons (ps_if (pt_cmpR op_ge (pv 0) (pe_op op_pow pe_int pe_int) (nomark _)) (pss_one (ps_ret (pv 0))) pss_nil)
    (Evl.pss_cut (ps_set (i := 2) sc_spread.nd rfl (Or.inl rfl) (pe_lst (pa_cons pe_int (pa_cons pe_int (pa_cons pe_int (pa_cons pe_int (pa_cons pe_int (pa_cons pe_int (pa_cons pe_int pa_nil)))))))))
    (Evl.pss_cut (ps_set (i := 2) sc_spread.nd rfl (Or.inl rfl) (pe_op op_cat (pv 2) (pe_lst (pa_cons pe_int (pa_cons pe_int (pa_cons pe_int (pa_cons pe_int (pa_cons pe_int (pa_cons pe_int pa_nil)))))))))
    (Evl.pss_cut (ps_set (i := 3) sc_spread.nd rfl (Or.inl rfl) (pe_op op_add (pe_op op_add (pe_op op_mul (pe_op op_mod (pe_callTy call_intI (by rfl) T.m_int PyProof.Rows.boot_int (pa_cons (pv 0) pa_nil)) pe_int) (pe_op op_add (pe_op op_mul pe_int (pv 1)) pe_int)) (pe_op op_mul (pv 1) pe_int)) pe_int))
    (Evl.pss_cut (ps_set (i := 4) sc_spread.nd rfl (Or.inl rfl) (pe_op op_mod (pe_callTy call_intI (by rfl) T.m_int PyProof.Rows.boot_int (pa_cons (pe_op op_pow (pv 3) pe_int) pa_nil)) (pe_ix ix_list (pv 2) (pe_op op_mod (pe_callTy call_intI (by rfl) T.m_int PyProof.Rows.boot_int (pa_cons (pv 1) pa_nil)) pe_int) (fun _ _ => rfl))))
    (Evl.pss_cut (ps_set (i := 5) sc_spread.nd rfl (Or.inl rfl) (pe_op op_add (pe_op op_mod (pe_callTy call_intI (by rfl) T.m_int PyProof.Rows.boot_int (pa_cons (pv 0) pa_nil)) pe_int) pe_int))
    (Evl.pss_cut (ps_set (i := 6) sc_spread.nd rfl (Or.inl rfl) (pe_op op_mod (pe_callTy call_intI (by rfl) T.m_int PyProof.Rows.boot_int (pa_cons (pe_op op_pow (pe_op op_add (pe_op op_mul (pv 4) (pe_op op_add (pv 1) pe_int)) (pv 5)) pe_int) pa_nil)) (pe_ix ix_list (pv 2) (pe_op op_mod (pe_callTy call_intI (by rfl) T.m_int PyProof.Rows.boot_int (pa_cons (pe_op op_add (pv 1) pe_int) pa_nil)) pe_int) (fun _ _ => rfl))))
    (Evl.pss_cut (ps_set (i := 7) sc_spread.nd rfl (Or.inl rfl) (pe_op op_mod (pe_callTy call_intI (by rfl) T.m_int PyProof.Rows.boot_int (pa_cons (pe_op op_pow (pe_op op_add (pe_op op_add (pv 6) (pe_op op_mod (pe_callTy call_intI (by rfl) T.m_int PyProof.Rows.boot_int (pa_cons (pv 4) pa_nil)) pe_int)) (pv 1)) pe_int) pa_nil)) (pe_ix ix_list (pv 2) (pe_op op_mod (pe_callTy call_intI (by rfl) T.m_int PyProof.Rows.boot_int (pa_cons (pe_op op_add (pv 1) pe_int) pa_nil)) pe_int) (fun _ _ => rfl))))
    (pss_one (ps_ret (pe_op op_add (pe_op op_mul (pe_op op_add (pe_op op_mul (pv 4) pe_int) (pv 6)) pe_int) (pv 7)))))))))))), ?_⟩
    -- cell >= 10 ** 18
    refine ⟨_, rfl, _, _, rfl, rfl, ⟨by decide, by decide, by decide⟩, _, _, rfl, rfl, _, rfl, ?_⟩
    refine ite2 (fun _ => ⟨_, rfl, q _ _ (Ex.refl _)⟩) (fun _ => ?_)
    -- primes
    refine ⟨fun σ H3 => ∃ l, H l = none ∧ σ = [some (.int c), some (.int a), some (.ref l), none, none, none, none, none] ∧ H3 = upd H l (.lst ((primes.take 7).map V.int)), ⟨sz_of (by decide), fun l nl => ⟨l, nl, rfl, rfl⟩⟩, ?_⟩
    rintro _ _ ⟨l, nl, rfl, rfl⟩
    refine ⟨fun σ H3 => ∃ l3, σ = [some (.int c), some (.int a), some (.ref l3), none, none, none, none, none] ∧ Ex H H3 ∧ SqL K H3 l3 (primes.map V.int), ?_, ?_⟩
    · refine ⟨_, rfl, sz_of (by decide), fun l2 nl2 => ⟨l, l2, (primes.take 7).map V.int, (primes.drop 7).map V.int, rfl, rfl, ?_, upd_same, sz_of (by decide), fun l3 n3 => ?_⟩⟩
      · rw [upd_ne (ne_of_none upd_same nl2), upd_same]
      · exact ⟨l3, rfl, ((Ex.new nl).trans (Ex.new nl2)).trans (Ex.new n3), SqL.of upd_same⟩
    rintro _ H3 ⟨l3, rfl, eH, hP⟩
    -- mixed
    have b1 : 0 ≤ c % 1000000007 ∧ c % 1000000007 ≤ 1000000006 := ⟨Int.emod_nonneg _ (by decide), by have := Int.emod_lt_of_pos c (show (0 : Int) < 1000000007 by decide); omega⟩
    have b2 := mul_bd b1.1 b1.2 (show 0 ≤ 2 * a + 69069 by omega) (show 2 * a + 69069 ≤ 4295036364 by omega)
    refine ⟨fun σ H4 => H4 = H3 ∧ ∃ m : Int, (0 ≤ m ∧ m < 18446744073709551616) ∧ σ = [some (.int c), some (.int a), some (.ref l3), some (.int m), none, none, none, none], ?_, ?_⟩
    · refine ⟨_, rfl, _, rfl, _, _, rfl, rfl, (show (0 : Int) < 1000000007 by decide), _, rfl, _, _, rfl, rfl, .inl ⟨by decide, by decide⟩, _, _, rfl, rfl, _, _, rfl, rfl, .inl ⟨by omega, by omega⟩, _, rfl, _, _, rfl, rfl, .inr ⟨by decide, by decide⟩, _, _, rfl, rfl, _, _, rfl, rfl, ?_⟩
      exact ⟨rfl, _, ⟨by omega, by omega⟩, rfl⟩
    rintro _ H3 ⟨rfl, m, hm, rfl⟩
    -- one
    obtain ⟨p1, a1, g1, l1⟩ := prime_at a
    refine ⟨fun σ H4 => H4 = H3 ∧ ∃ x : Int, (0 ≤ x ∧ x < 2147483648) ∧ σ = [some (.int c), some (.int a), some (.ref l3), some (.int m), some (.int x), none, none, none], ?_, ?_⟩
    · refine ⟨_, rfl, _, _, rfl, rfl, ⟨by decide, by decide, by omega⟩, _, rfl, _, rfl, _, rfl, _, rfl, _, _, rfl, rfl, (show (0 : Int) < 13 by decide), l3, _, _, _, rfl, rfl, hP, a1, _, _, rfl, rfl, g1, ?_⟩
      have z0 := Int.emod_nonneg (m ^ Int.toNat 3) (show p1 ≠ 0 by omega)
      have z1 := Int.emod_lt_of_pos (m ^ Int.toNat 3) g1
      exact ⟨rfl, _, ⟨z0, by omega⟩, rfl⟩
    rintro _ H3 ⟨rfl, x, hx, rfl⟩
    -- rest
    refine ⟨fun σ H4 => H4 = H3 ∧ ∃ y : Int, (0 ≤ y ∧ y < 65542) ∧ σ = [some (.int c), some (.int a), some (.ref l3), some (.int m), some (.int x), some (.int y), none, none], ?_, ?_⟩
    · refine ⟨_, rfl, _, rfl, _, _, rfl, rfl, (show (0 : Int) < 65537 by decide), _, _, rfl, rfl, ?_⟩
      have z0 := Int.emod_nonneg c (show (65537 : Int) ≠ 0 by decide)
      have z1 := Int.emod_lt_of_pos c (show (0 : Int) < 65537 by decide)
      exact ⟨rfl, _, ⟨by omega, by omega⟩, rfl⟩
    rintro _ H3 ⟨rfl, y, hy, rfl⟩
    -- two
    have b3 := mul_bd hx.1 (show x ≤ 2147483647 by omega) (show 0 ≤ a + 3 by omega) (show a + 3 ≤ 2147483650 by omega)
    obtain ⟨p2, a2, g2, l2'⟩ := prime_at (a + 5)
    refine ⟨fun σ H4 => H4 = H3 ∧ ∃ z : Int, (0 ≤ z ∧ z < 2147483648) ∧ σ = [some (.int c), some (.int a), some (.ref l3), some (.int m), some (.int x), some (.int y), some (.int z), none], ?_, ?_⟩
    · refine ⟨_, rfl, _, rfl, _, _, rfl, rfl, _, _, rfl, rfl, .inl ⟨by omega, by omega⟩, _, rfl, _, _, rfl, rfl, _, _, rfl, rfl, ⟨by decide, by decide, by omega⟩, _, rfl, _, rfl, _, rfl, _, _, rfl, rfl, _, rfl, _, _, rfl, rfl, (show (0 : Int) < 13 by decide), l3, _, _, _, rfl, rfl, hP, a2, _, _, rfl, rfl, g2, ?_⟩
      have z0 := Int.emod_nonneg ((x * (a + 3) + y) ^ Int.toNat 5) (show p2 ≠ 0 by omega)
      have z1 := Int.emod_lt_of_pos ((x * (a + 3) + y) ^ Int.toNat 5) g2
      exact ⟨rfl, _, ⟨z0, by omega⟩, rfl⟩
    rintro _ H3 ⟨rfl, z, hz, rfl⟩
    -- three
    obtain ⟨p3, a3, g3, l3'⟩ := prime_at (a + 7)
    have b4 : 0 ≤ x % 1009 ∧ x % 1009 < 1009 := ⟨Int.emod_nonneg _ (by decide), Int.emod_lt_of_pos _ (by decide)⟩
    refine ⟨fun σ H4 => H4 = H3 ∧ ∃ u : Int, σ = [some (.int c), some (.int a), some (.ref l3), some (.int m), some (.int x), some (.int y), some (.int z), some (.int u)], ?_, ?_⟩
    · refine ⟨_, rfl, _, rfl, _, rfl, _, _, rfl, rfl, (show (0 : Int) < 1009 by decide), _, _, rfl, rfl, _, rfl, _, _, rfl, rfl, _, _, rfl, rfl, ⟨by decide, by decide, by omega⟩, _, rfl, _, rfl, _, rfl, _, _, rfl, rfl, _, rfl, _, _, rfl, rfl, (show (0 : Int) < 13 by decide), l3, _, _, _, rfl, rfl, hP, a3, _, _, rfl, rfl, g3, ?_⟩
      exact ⟨rfl, _, rfl⟩
    rintro _ _ ⟨rfl, u, rfl⟩
    refine ⟨_, rfl, _, _, rfl, rfl, .inr ⟨by decide, by decide⟩, _, rfl, _, _, rfl, rfl, _, _, rfl, rfl, .inr ⟨by decide, by decide⟩, _, rfl, _, _, rfl, rfl, ?_⟩
    exact q _ _ eH
end
end Kin

namespace Kin
open PySem PySem.Spec PyProof.Rows L2
open Evl (Ex sz_of sz_lt)
section
variable {P : Program} {w : World} {K : PySem.W.Frag} {mg : Str → Option Value} {base : Heap}
/-- a pen with n draws left -/
def PenOk (H : Hp) (a c : Addr) (n : Nat) : Prop := ∃ (cs : List Int) (t r : Int), H a = some (.lst [.ref c, .int t, .int r]) ∧ H c = some (.lst (cs.map V.int)) ∧ 0 ≤ t ∧ t + n ≤ 2147483648
/-- what stood stands, but for the object at a -/
def ExB (a : Addr) (H H' : Hp) : Prop := ∀ b o, b ≠ a → H b = some o → H' b = some o
theorem ExB.refl (a : Addr) (H : Hp) : ExB a H H := fun _ _ _ h => h
theorem ExB.trans {a : Addr} {H H1 H2 : Hp} (x : ExB a H H1) (y : ExB a H1 H2) : ExB a H H2 := fun b o n h => y b o n (x b o n h)
theorem ExB.of {a : Addr} {H H1 : Hp} (x : Ex H H1) : ExB a H H1 := fun b o _ h => x b o h
theorem ExB.upd (a : Addr) (H : Hp) (o : HO) : ExB a H (upd H a o) := fun b u n h => by
  rw [upd_ne n]
  exact h
theorem cut_lo (ns : List Int) : cutV (ns.map V.int) none (some 12) = (ns.take 12).map V.int := by
  unfold cutV
  rw [HT.sIx_none, show HT.sIx (ns.map V.int).length (ns.map V.int).length (some (12 : Int)) = min 12 (ns.map V.int).length from HT.sIx_nat _ _ 12, List.drop_zero, List.length_map, Nat.sub_zero, ← List.map_take]
  congr 1
  rw [List.take_eq_take_iff]
  omega
theorem cut_mid (ns : List Int) : ∃ ms : List Int, cutV (ns.map V.int) (some 12) (some 63) = ms.map V.int ∧ (12 ≤ ns.length ∨ ms = []) := by
  unfold cutV
  rw [show HT.sIx (ns.map V.int).length 0 (some (12 : Int)) = min 12 (ns.map V.int).length from HT.sIx_nat _ _ 12, ← List.map_drop, ← List.map_take]
  refine ⟨_, rfl, ?_⟩
  by_cases h : 12 ≤ ns.length
  · exact .inl h
  · refine .inr ?_
    rw [List.drop_eq_nil_of_le (by rw [List.length_map]; omega), List.take_nil]
theorem set_map (cs : List Int) (j : Nat) (v : Int) : (cs.map V.int).set j (.int v) = (cs.set j v).map V.int := by rw [List.map_set]
theorem ix12 (i : Nat) : ixN 12 (((i : Nat) : Int) % 12) = some (i % 12) := by
  unfold ixN
  rw [if_pos (by omega), if_pos (by omega)]
  congr 1
theorem get_map {cs : List Int} {j : Nat} (h : j < cs.length) : (cs.map V.int)[j]? = some (.int cs[j]) := by
  rw [List.getElem?_map, List.getElem?_eq_getElem h]
  rfl
/-- open(script): a new pen -/
def spOpen (K : PySem.W.Frag) : Sp := fun vs H Q _ => ∃ (a : Addr) (ns : List Int), vs = [.ref a] ∧ SqL K H a (ns.map V.int) ∧ ∀ p c H', Ex H H' → H p = none → H c = none → p ≠ c → PenOk H' p c 2147483648 → Q (.ref p) H'
theorem ok_open {f : Addr} {fd : FuncData} {k : Nat} (F : Fun K "_law_open" "_law_open" s_open f fd) (T : TB mg) : FnOk P w K mg base CX0 (k + 1) f fd ["_law_script"] (spOpen K) := by
  refine F.ok sc_open (fun vs H Q E h => ?_) (fun cdv A outer s H vs Q E hr h => ?_)
  · obtain ⟨a, ns, rfl, _⟩ := h
    rfl
  · obtain ⟨a, ns, rfl, hS, q⟩ := h
    refine ⟨_, (pss_cons (ps_set (i := 1) sc_open.nd rfl (Or.inl rfl) (pe_callTy call_listL (by rfl) T.m_list PyProof.Rows.boot_list (pa_cons (pe_slice sl_list (pv 0) po_none (po_some pe_int)) pa_nil)))
    (pss_cons (ps_for PassesOwn.never rfl (pi_enum rfl T.m_enumerate (pa_cons (pe_slice sl_list (pv 0) (po_some pe_int) (po_some pe_int)) pa_nil)) (pg_tup rfl (pgs_cons (pg_name (i := 2) sc_open.nd rfl (Or.inl rfl)) (pgs_cons (pg_name (i := 3) sc_open.nd rfl (Or.inl rfl)) pgs_nil)))
    (pss_one (ps_asg (pe_op op_add (pe_ix ix_list (pv 1) (pe_op op_mod (pe_callTy call_intI (by rfl) T.m_int PyProof.Rows.boot_int (pa_cons (pv 2) pa_nil)) pe_int) (fun _ _ => rfl)) (pv 3)) (pg_sub (pv 1) (pe_op op_mod (pe_callTy call_intI (by rfl) T.m_int PyProof.Rows.boot_int (pa_cons (pv 2) pa_nil)) pe_int) set_list))))
    (pss_one (ps_ret (pe_lst (pa_cons (pv 1) (pa_cons pe_int (pa_cons pe_int pa_nil)))))))), ?_⟩
    -- cells = list(script[:12])
    refine ⟨_, rfl, 12, rfl, a, _, rfl, hS, fun t nt => ?_⟩
    rw [cut_lo]
    refine ⟨t, (ns.take 12).map V.int, rfl, SqL.of upd_same, fun l nl => ?_⟩
    have nHl : H l = none := Evl.fresh_back (Ex.new nt) nl
    have e1 : Ex H (upd (upd H t (.lst ((ns.take 12).map V.int))) l (.lst ((ns.take 12).map V.int))) := (Ex.new nt).trans (Ex.new nl)
    -- enumerate(script[12:63])
    obtain ⟨ms, em, hm⟩ := cut_mid ns
    refine ⟨_, rfl, 12, rfl, 63, rfl, a, _, rfl, Evl.ex_l e1 hS, fun u nu => ?_⟩
    rw [em]
    have nlu : l ≠ u := ne_of_none upd_same nu
    have nHu : H u = none := Evl.fresh_back e1 nu
    refine ⟨u, _, rfl, SqL.of upd_same, for_it (walk_enum (xs := ms.map V.int))
      (fun i σ H' => ∃ (cs : List Int) (y2 y3 : Option V), σ = [some (.ref a), some (.ref l), y2, y3] ∧ Ex H H' ∧ H' l = some (.lst (cs.map V.int)) ∧ cs.length = (ns.take 12).length ∧ H' u = some (.lst (ms.map V.int)))
      ⟨_, none, none, rfl, e1.trans (Ex.new nu), by rw [upd_ne nlu, upd_same], rfl, upd_same⟩ (fun i σ H' _ ⟨_, _, _, _, _, _, _, h⟩ => SqL.of h) ?_ ?_⟩
    · rintro i x σ H1 H2 hi ⟨cs, y2, y3, rfl, e2, hl, hc, hu⟩ ⟨T', x1, x2, rfl, nT, rfl, f1, f2⟩
      cases f1
      rw [List.length_map] at hi
      have h12 : cs.length = 12 := by
        rcases hm with h | h
        · rw [hc, List.length_take]
          omega
        · rw [h] at hi
          exact absurd hi (Nat.not_lt_zero _)
      have f3 : (List.map V.int ms)[i]? = some x2 := f2
      rw [get_map hi] at f3
      cases f3
      have hj : i % 12 < cs.length := by omega
      have eT : (((i : Nat) : Int) % 12) = ((i % 12 : Nat) : Int) := by omega
      have lT : l ≠ T' := ne_of_none hl nT
      have uT : u ≠ T' := ne_of_none hu nT
      have hl2 : upd H1 T' (.tup [.int (i : Nat), .int ms[i]]) l = some (.lst (cs.map V.int)) := by
        rw [upd_ne lT]
        exact hl
      refine ⟨T', _, rfl, SqT.of upd_same, rfl, _, _, rfl, _, _, rfl, rfl, ?_⟩
      refine ⟨_, rfl, _, rfl, _, rfl, _, _, rfl, rfl, (show (0 : Int) < 12 by decide), l, _, _, .int cs[i % 12], rfl, rfl, SqL.of hl2, ?_, _, rfl, _, _, rfl, rfl, _, rfl, _, rfl, _, rfl, _, _, rfl, rfl, (show (0 : Int) < 12 by decide), l, _, _, i % 12, rfl, rfl, hl2, ?_, ?_⟩
      · rw [eT]
        exact atI_nat (get_map hj)
      · rw [List.length_map, h12]
        exact ix12 i
      · refine ⟨cs.set (i % 12) (cs[i % 12] + ms[i]), _, _, rfl, (e2.trans (Ex.new nT)).mut nHl, ?_, ?_, ?_⟩
        · rw [set_map, upd_same]
        · rw [List.length_set]
          exact hc
        · rw [upd_ne nlu.symm, upd_ne uT]
          exact hu
    · rintro σ H1 ⟨cs, y2, y3, rfl, e2, hl, hc, hu⟩
      refine ⟨_, rfl, sz_of (show 3 ≤ 100000 by decide), fun p np => q p l _ (e2.trans (Ex.new np)) (Evl.fresh_back e2 np) nHl (ne_of_none hl np).symm ⟨cs, 0, 0, upd_same, ?_, Int.le_refl _, by decide⟩⟩
      rw [upd_ne (ne_of_none hl np)]
      exact hl
theorem sized {xs : List V} {n m : Nat} : xs.length = n → n = m → xs.length = m := fun a b => a.trans b
/-- anew(pen) -/
def spAnew : Sp := fun vs H Q _ => ∃ (a c : Addr) (n : Nat), vs = [.ref a] ∧ PenOk H a c n ∧ ∀ H', ExB a H H' → PenOk H' a c n → Q (.ref a) H'
theorem ok_anew {f : Addr} {fd : FuncData} {k : Nat} (F : Fun K "_law_anew" "_law_anew" s_anew f fd) : FnOk P w K mg base CX0 (k + 1) f fd ["_law_pen"] spAnew := by
  refine F.ok sc_anew (fun vs H Q E h => ?_) (fun cdv A outer s H vs Q E hr h => ?_)
  · obtain ⟨a, c, n, rfl, _⟩ := h
    rfl
  · obtain ⟨a, c, n, rfl, ⟨cs, t, r, ha, hc, h0, h1⟩, q⟩ := h
    refine ⟨_, (pss_cons (ps_asg pe_int (pg_sub (pv 0) pe_int set_list))
    (pss_one (ps_ret (pv 0)))), ?_⟩
    have nca : c ≠ a := fun e => by
      rw [e, ha] at hc
      cases cs <;> simp at hc
    refine ⟨_, rfl, a, _, _, 2, rfl, rfl, ha, rfl, ?_⟩
    refine ⟨_, rfl, q _ (ExB.upd a H _) ⟨cs, t, 0, upd_same, ?_, h0, h1⟩⟩
    rw [upd_ne nca]
    exact hc
/-- take(pen, many): a number below many -/
def spTake : Sp := fun vs H Q _ => ∃ (a c : Addr) (m : Int) (n : Nat), vs = [.ref a, .int m] ∧ 0 < m ∧ m < 1073741824 ∧ PenOk H a c (n + 1) ∧ ∀ r H', 0 ≤ r → r < m → ExB a H H' → PenOk H' a c n → Q (.int r) H'
theorem pen_ne {H : Hp} {a c : Addr} {cs : List Int} {t r : Int} (ha : H a = some (.lst [.ref c, .int t, .int r])) (hc : H c = some (.lst (cs.map V.int))) : c ≠ a := fun e => by
  rw [e, ha] at hc
  cases cs <;> simp at hc
theorem at_map {cs : List Int} {z : Int} (h0 : 0 ≤ z) (h1 : z < (cs.length : Int)) : ∃ x : Int, atI (cs.map V.int) z = some (.int x) := by
  obtain ⟨n, rfl⟩ := Int.eq_ofNat_of_zero_le h0
  have hn : n < cs.length := by omega
  exact ⟨cs[n], atI_nat (get_map hn)⟩
theorem ok_take {f fS : Addr} {fd fdS : FuncData} {k : Nat} (F : Fun K "_law_take" "_law_take" s_take f fd) (T : TB mg) (G_law_spread : FnOk P w K mg base CX0 1 fS fdS ["_law_cell", "_law_at"] spSpread)
    (gS : mg "_law_spread" = some (.ref fS)) (kS : PySem.W.keepIn K (.ref fS) = true) (bS : Binds K fdS ["_law_cell", "_law_at"] []) (hk : 1 ≤ k) : FnOk P w K mg base CX0 (k + 1) f fd ["_law_pen", "_law_many"] spTake := by
  refine F.ok sc_take (fun vs H Q E h => ?_) (fun cdv A outer s H vs Q E hr0 h => ?_)
  · obtain ⟨a, c, m, n, rfl, _⟩ := h
    rfl
  · obtain ⟨a, c, m, n, rfl, m0, m1, ⟨cs, t, r, ha, hc, h0, h1⟩, q⟩ := h
    have hr : Room 1 _ := hr0.mono hk
    refine ⟨_, (Evl.pss_cut (ps_if (pt_cmpR op_lt (pe_ix ix_list (pv 0) pe_int (fun _ _ => rfl)) (pv 1) (nomark _)) (Evl.pss_cut (ps_set (i := 2) sc_take.nd rfl (Or.inl rfl) (pe_ix ix_list (pv 0) pe_int (fun _ _ => rfl)))
    (Evl.pss_cut (ps_set (i := 3) sc_take.nd rfl (Or.inl rfl) pe_int)
    (Evl.pss_cut (ps_if (pt_cmpR op_lt (pv 2) (pe_callB call_lenL (by rfl) T.m_len PySem.boot_len (pa_cons (pe_ix ix_list (pv 0) pe_int (fun _ _ => rfl)) pa_nil)) (nomark _)) (pss_one (ps_set (i := 3) sc_take.nd rfl (Or.inl rfl) (pe_ix ix_list (pe_ix ix_list (pv 0) pe_int (fun _ _ => rfl)) (pv 2) (fun _ _ => rfl)))) (pss_one (ps_if (pt_cmpR op_gt (pe_callB call_lenL (by rfl) T.m_len PySem.boot_len (pa_cons (pe_ix ix_list (pv 0) pe_int (fun _ _ => rfl)) pa_nil)) pe_int (nomark _)) (pss_one (ps_set (i := 3) sc_take.nd rfl (Or.inl rfl) (pe_op op_mod (pe_callTy call_intI (by rfl) T.m_int PyProof.Rows.boot_int (pa_cons (pe_ix ix_list (pe_ix ix_list (pv 0) pe_int (fun _ _ => rfl)) (pe_op op_mod (pe_callTy call_intI (by rfl) T.m_int PyProof.Rows.boot_int (pa_cons (pe_op op_add (pe_op op_mul (pv 2) pe_int) pe_int) pa_nil)) (pe_callB call_lenL (by rfl) T.m_len PySem.boot_len (pa_cons (pe_ix ix_list (pv 0) pe_int (fun _ _ => rfl)) pa_nil))) (fun _ _ => rfl)) pa_nil)) (pe_op op_add (pe_op op_pow pe_int pe_int) (pv 2))))) pss_nil)))
    (pss_cons (ps_asg (pe_op op_add (pv 2) pe_int) (pg_sub (pv 0) pe_int set_list))
    (pss_one (ps_asg (pe_call G_law_spread (hr.mono (by decide)) rfl gS kS bS .nil pass0 (pa_cons (pv 3) (pa_cons (pv 2) pa_nil))) (pg_sub (pv 0) pe_int set_list))))))) pss_nil)
    (pss_cons (ps_set (i := 4) sc_take.nd rfl (Or.inl rfl) (pe_op op_mod (pe_callTy call_intI (by rfl) T.m_int PyProof.Rows.boot_int (pa_cons (pe_ix ix_list (pv 0) pe_int (fun _ _ => rfl)) pa_nil)) (pv 1)))
    (pss_cons (ps_asg (pe_op op_fdiv (pe_ix ix_list (pv 0) pe_int (fun _ _ => rfl)) (pv 1)) (pg_sub (pv 0) pe_int set_list))
    (pss_one (ps_ret (pv 4)))))), ?_⟩
    have nca := pen_ne ha hc
    -- if pen[2] < many
    refine ⟨fun σ H' => ∃ (y2 y3 : Option V) (t' r' : Int), σ = [some (.ref a), some (.int m), y2, y3, none] ∧ ExB a H H' ∧ H' a = some (.lst [.ref c, .int t', .int r']) ∧ H' c = some (.lst (cs.map V.int)) ∧ 0 ≤ t' ∧ t' + n ≤ 2147483648, ?_, ?_⟩
    · refine ⟨_, rfl, a, _, _, _, rfl, rfl, SqL.of ha, rfl, _, rfl, _, _, rfl, rfl, _, rfl, ?_⟩
      refine ite2 (fun _ => ?_) (fun _ => ⟨none, none, t, r, rfl, ExB.refl a H, ha, hc, h0, by omega⟩)
      -- at = pen[1]
      refine ⟨fun σ H' => H' = H ∧ σ = [some (.ref a), some (.int m), some (.int t), none, none], ⟨_, rfl, a, _, _, _, rfl, rfl, SqL.of ha, rfl, rfl, rfl⟩, ?_⟩
      rintro _ H ⟨rfl, rfl⟩
      -- cell = 0
      refine ⟨fun σ H' => H' = H ∧ σ = [some (.ref a), some (.int m), some (.int t), some (.int 0), none], ⟨rfl, rfl⟩, ?_⟩
      rintro _ H ⟨rfl, rfl⟩
      -- the cell
      refine ⟨fun σ H' => H' = H ∧ ∃ x : Int, σ = [some (.ref a), some (.int m), some (.int t), some (.int x), none], ?_, ?_⟩
      · refine ⟨_, rfl, _, rfl, a, _, _, _, rfl, rfl, SqL.of ha, rfl, c, _, rfl, SqL.of hc, _, _, rfl, rfl, _, rfl, ?_⟩
        rw [List.length_map]
        refine ite2 (fun lt => ?_) (fun _ => ?_)
        · obtain ⟨x, ex⟩ := at_map (cs := cs) h0 (of_decide_eq_true lt)
          exact ⟨_, rfl, a, _, _, _, rfl, rfl, SqL.of ha, rfl, _, rfl, c, _, _, _, rfl, rfl, SqL.of hc, ex, rfl, x, rfl⟩
        · refine ⟨_, rfl, a, _, _, _, rfl, rfl, SqL.of ha, rfl, c, _, rfl, SqL.of hc, _, _, rfl, rfl, _, rfl, ?_⟩
          rw [List.length_map]
          refine ite2 (fun gt => ?_) (fun _ => ⟨rfl, 0, rfl⟩)
          have g := of_decide_eq_true gt
          obtain ⟨x, ex⟩ := at_map (cs := cs) (Int.emod_nonneg (t * 5 + 3) (show (cs.length : Int) ≠ 0 by omega)) (Int.emod_lt_of_pos _ g)
          refine ⟨_, rfl, a, _, _, _, rfl, rfl, SqL.of ha, rfl, _, rfl, _, _, rfl, rfl, .inr ⟨by decide, by decide⟩, _, _, rfl, rfl, _, rfl, _, rfl, a, _, _, _, rfl, rfl, SqL.of ha, rfl, c, _, rfl, SqL.of hc, ?_⟩
          rw [List.length_map]
          exact ⟨_, _, rfl, rfl, g, c, _, _, _, rfl, rfl, SqL.of hc, ex, _, rfl, _, _, rfl, rfl, ⟨by decide, by decide, by decide⟩, _, rfl, _, _, rfl, rfl, _, _, rfl, rfl, Int.add_pos_of_pos_of_nonneg (by decide) h0, rfl, _, rfl⟩
      rintro _ H1 ⟨rfl, x, rfl⟩
      -- pen[1] = at + 1
      refine ⟨_, rfl, _, _, rfl, rfl, _, rfl, a, _, _, 1, rfl, rfl, ha, rfl, ?_⟩
      -- pen[2] = spread(cell, at)
      refine ⟨_, rfl, _, rfl, x, t, rfl, h0, by omega, fun r' H2 e2 => ?_⟩
      have ha2 := e2 a _ upd_same
      have hc2 := e2 c _ (by rw [upd_ne nca]; exact hc)
      refine ⟨_, rfl, a, _, _, 2, rfl, rfl, ha2, rfl, ?_⟩
      refine ⟨_, _, t + 1, r', rfl, ((ExB.upd a _ _).trans (ExB.of e2)).trans (ExB.upd a _ _), upd_same, ?_, by omega, by omega⟩
      rw [upd_ne nca]
      exact hc2
    rintro _ H1 ⟨y2, y3, t', r', rfl, e1, ha1, hc1, t0, t1⟩
    -- found = int(pen[2]) % many
    refine ⟨_, rfl, a, _, _, _, rfl, rfl, SqL.of ha1, rfl, _, rfl, _, rfl, _, _, rfl, rfl, m0, ?_⟩
    -- pen[2] = pen[2] // many
    refine ⟨_, rfl, a, _, _, _, rfl, rfl, SqL.of ha1, rfl, _, rfl, _, _, rfl, rfl, ⟨m0, m1⟩, _, rfl, a, _, _, 2, rfl, rfl, ha1, rfl, ?_⟩
    refine ⟨_, rfl, q _ _ (Int.emod_nonneg _ (by omega)) (Int.emod_lt_of_pos _ m0) (e1.trans (ExB.upd a _ _)) ⟨cs, t', _, upd_same, ?_, t0, t1⟩⟩
    rw [upd_ne nca]
    exact hc1
end
end Kin

namespace Kin
open PySem PySem.Spec PyProof.Rows L2 Dl
open Evl (Ex sz_of sz_lt)
section
variable {P : Program} {w : World} {K : PySem.W.Frag} {mg : Str → Option Value} {base : Heap} {T : List Addr}
/-- a step that changes the pen's list alone -/
theorem pen_step {pe : Pe} {F H H' : Hp} {n : Ws} {p c : Addr} {m k : Nat} (pn : PenAt K pe F H n) (ex : Ex F H) (hp : pe.pen = some (p, c)) (e : ExB p H H') (h : PenOk H' p c k) : Fr pe F H F H' ∧ PenAt K pe F H' ⟨k, n.os⟩ := by
  obtain ⟨cs, t, r, h1, h2, h3, h4, h5, h6, h7, h8⟩ := pn.pen p c hp
  obtain ⟨cs', t', r', z1, z2, z3, z4⟩ := h
  have own : pe.Own p := .inl ⟨c, hp⟩
  refine ⟨⟨fun _ _ z => z, fun b o z => e b o (fun y => by rw [y, h5] at z; cases z) (ex b o z), fun b o no z => e b o (fun y => no (y ▸ own)) z, fun b z y => ?_, fun _ _ z => z⟩, ?_⟩
  · by_cases q : b = p
    · rw [q, z1] at y
      cases y
    · cases z5 : H b with
      | none => exact z z5
      | some o =>
        rw [e b o q z5] at y
        cases y
  · refine ⟨fun p' c' q => ?_, pn.len, pn.nd, fun i q xs q1 q2 => ?_, fun q hq => ?_, fun Q hQ => ?_⟩
    · rw [hp] at q
      cases q
      exact ⟨cs', t', r', z1, z2, z3, z4, h5, h6, h7, h8⟩
    · obtain ⟨vs, q3, q4, q5⟩ := pn.sh i q xs q1 q2
      have n1 : q ≠ p := fun y => h7 (y ▸ List.mem_of_getElem? q1)
      exact ⟨vs, e q _ n1 q3, q4, q5⟩
    · obtain ⟨vs, q3⟩ := pn.at_ q hq
      have n1 : q ≠ p := fun y => h7 (y ▸ hq)
      exact ⟨vs, e q _ n1 q3⟩
    · obtain ⟨q1, ps, q2, q3⟩ := pn.tab Q hQ
      have n1 : Q ≠ p := fun y => by
        rw [y, h1] at q2
        cases q2
      exact ⟨q1, ps, e Q _ n1 q2, q3⟩
def mfTake : DF := fun ss w P => ∃ (m : Int) (n : Nat), ss = [.pen, .val (.int m)] ∧ 0 < m ∧ m < 1073741824 ∧ w.n = n + 1 ∧ ∀ r : Int, 0 ≤ r → r < m → P (.int r) ⟨n, w.os⟩
theorem args2 {pe : Pe} {F : Hp} {vs : List V} {s t : Sl} (h : ArgsR K pe F vs [s, t]) : ∃ v u, vs = [v, u] ∧ ArgR K pe F v s ∧ ArgR K pe F u t := by
  match vs, h with
  | [v, u], ⟨a, b, _⟩ => exact ⟨v, u, rfl, a, b⟩
theorem args1 {pe : Pe} {F : Hp} {vs : List V} {s : Sl} (h : ArgsR K pe F vs [s]) : ∃ v, vs = [v] ∧ ArgR K pe F v s := by
  match vs, h with
  | [v], ⟨a, _⟩ => exact ⟨v, rfl, a⟩
theorem take_D (vs : List V) (H : Hp) (Q : VK) (E : XK) (z : spD K T mfTake vs H Q E) : spTake vs H Q E := by
  obtain ⟨pe, F, ss, n, Pq, z1, ex, pn, ar, ⟨m, k, rfl, m0, m1, en, q⟩, qq⟩ := z
  obtain ⟨v, u, rfl, ⟨p, c, hp, rfl⟩, hu⟩ := args2 ar
  have e := dp_int (show Dq K F u (.int m) from hu)
  subst e
  obtain ⟨cs, t, r, h1, h2, h3, h4, h5⟩ := pn.pen p c hp
  refine ⟨p, c, m, k, rfl, m0, m1, ⟨cs, t, r, h1, h2, h3, by rw [en] at h4; exact h4⟩, fun r H' r0 r1 e p1 => ?_⟩
  obtain ⟨f, pn'⟩ := pen_step (m := 0) pn ex hp e p1
  exact qq (.int r) F H' (.int r) _ f pn' (.int r) (q r r0 r1)
end
/-- pen, taken anew -/
theorem dx_anew {K : PySem.W.Frag} {T : List Addr} {te : TE} {mx : DTX} (h : DX K T te mx) : DX K T (tCallD spAnew (tCons te tNil)) (fun env n P => mx env n fun s n1 => s = .pen ∧ P .pen n1) := by
  constructor
  intro pe F H σ env n P Q R p q
  refine h.run pe F H σ env n _ _ R p fun x F1 H1 s n1 f1 p1 h1 ⟨e, g1⟩ => ?_
  subst e
  obtain ⟨a, c, hp, rfl⟩ := h1
  obtain ⟨cs, t, r, h1, h2, h3, h4, h5⟩ := p1.pen a c hp
  refine ⟨a, c, n1.n, rfl, ⟨cs, t, r, h1, h2, h3, h4⟩, fun H' e p2 => ?_⟩
  obtain ⟨f, pn'⟩ := pen_step (m := 0) p1 f1.fh hp e p2
  exact q _ F1 H' .pen _ (f1.trans f) pn' ⟨a, c, hp, rfl⟩ g1
end Kin

namespace Dl
open PySem PySem.Spec PyProof.Rows L2
open Evl (Ex sz_of sz_lt)
section
variable {K : PySem.W.Frag} {T : List Addr} {te : TE} {m : DTE} {tt : TT} {mt : DTT} {t1 : TS} {m1 : DTS}
/-- what a for loop is to show -/
def wForI (mg : DTG) (mb : DTS) (d : DEnds) (ds : List PyData) (env : Env) (n : Ws) : Prop := ∃ I : Nat → Env → Ws → Prop, I 0 env n ∧
  (∀ k x env n, ds[k]? = some x → I k env n → mg (.val x) env fun env' => mb { d with nx := I (k + 1), ct := I (k + 1), bk := d.nx } env' n) ∧ ∀ env n, I ds.length env n → d.nx env n
theorem ds_forI {wi : TI} {mi : DTV} {g : TG} {mg : DTG} (hi : DI K T wi mi) (hg : DG K g mg) (h : DS K T t1 m1) : DS K T (tFor wi g t1) (fun d env n => mi env n fun ds n1 => wForI mg m1 d ds env n1) := by
  constructor
  intro pe0 F0 H0 pe F H σ env n D d R p M
  refine hi.run pe F H σ env n _ _ R.lv p fun J F1 H1 ds n1 f1 p1 W g1 => ?_
  obtain ⟨I, g0, gs, ge⟩ := g1
  refine ⟨fun i k σ' H' => k = ds.length - i ∧ i ≤ ds.length ∧ ∃ pe' env' F' n', Ex F1 F' ∧ Rl K T pe0 F0 H0 pe' F' H' σ' env' n' ∧ I i env' n',
    ⟨_, rfl, Nat.zero_le _, pe, env, F1, n1, Evl.Ex.refl _, R.step f1 p1, g0⟩, ?_⟩
  rintro i k σ' H' ⟨rfl, hil, pe', env', F', n', e1, R1, w⟩
  have wk := W pe' F' H' e1 R1.lv.ex
  by_cases hlt : i < ds.length
  · obtain ⟨go, yl⟩ := wk.1 i hlt
    refine .inr ⟨go, fun σ2 H2 => i + 1 ≤ ds.length ∧ ∃ pe' env' F' n', Ex F1 F' ∧ Rl K T pe0 F0 H0 pe' F' H2 σ2 env' n' ∧ I (i + 1) env' n', fun σ2 H2 h2 => ⟨ds.length - (i + 1), by omega, rfl, h2.1, h2.2⟩, fun x H2 y => ?_⟩
    obtain ⟨F2, z, f2, e2, hz, hd⟩ := yl x H2 y
    have R2 := R1.step f2 (R1.lv.pn.pure f2.ff e2 f2.new)
    refine hg.run pe' F2 H2 σ' env' x (.val z) _ _ R2.lv.er R2.lv.ex hz (gs i z env' n' hd w) fun σ3 env3 R3 w3 => ?_
    refine h.run pe0 F0 H0 pe' F2 H2 σ3 env3 n' _ _ (R2.env R3) w3 ⟨M.bs, ?_, M.rt, ?_, ?_⟩
    · intro pe4 σ4 env4 F4 H4 n4 e4 R4 w4
      exact ⟨hlt, pe4, env4, F4, n4, (e1.trans f2.ff).trans e4, R4, w4⟩
    · intro pe4 σ4 env4 F4 H4 n4 e4 R4 w4
      exact M.nx pe4 σ4 env4 F4 H4 n4 (((f1.ff.trans e1).trans f2.ff).trans e4) R4 w4
    · intro pe4 σ4 env4 F4 H4 n4 e4 R4 w4
      exact ⟨hlt, pe4, env4, F4, n4, (e1.trans f2.ff).trans e4, R4, w4⟩
  · have e : i = ds.length := by omega
    subst e
    exact .inl ⟨wk.2, M.nx pe' σ' env' F' H' n' (f1.ff.trans e1) R1 (ge env' n' w)⟩
/-- what a while loop is to show -/
def wWhileI (mc : DTT) (mb : DTS) (d : DEnds) (env : Env) (n : Ws) : Prop := ∃ I : Nat → Env → Ws → Prop, (∃ k, I k env n) ∧
  ∀ k env n, I k env n → mc env n fun b n1 => if b = true then mb { d with nx := fun e n => ∃ j, j < k ∧ I j e n, ct := fun e n => ∃ j, j < k ∧ I j e n, bk := d.nx } env n1 else d.nx env n1
theorem ds_whileI (c : DT K T tt mt) (h : DS K T t1 m1) : DS K T (tWhile tt t1) (fun d env n => wWhileI mt m1 d env n) := by
  constructor
  rintro pe0 F0 H0 pe F H σ env n D d R ⟨I, ⟨k, p⟩, st⟩ M
  refine ⟨fun k σ' H' => ∃ pe' env' F' n', Ex F F' ∧ Rl K T pe0 F0 H0 pe' F' H' σ' env' n' ∧ I k env' n', ⟨k, pe, env, F, n, Evl.Ex.refl _, R, p⟩, ?_⟩
  rintro k σ' H' ⟨pe', env', F', n', e1, R1, w⟩
  refine c.run pe' F' H' σ' env' n' _ _ R1.lv (st k env' n' w) fun b F2 H2 n2 f2 p2 g2 => ?_
  have R2 := R1.step f2 p2
  cases b with
  | false =>
    rw [if_neg Bool.false_ne_true] at g2 ⊢
    exact M.nx pe' σ' env' F2 H2 n2 (e1.trans f2.ff) R2 g2
  | true =>
    rw [if_pos rfl] at g2 ⊢
    refine ⟨fun σ3 H3 => ∃ k', k' < k ∧ ∃ pe' env' F' n', Ex F F' ∧ Rl K T pe0 F0 H0 pe' F' H3 σ3 env' n' ∧ I k' env' n', fun σ3 H3 ⟨k', hk, h3⟩ => ⟨k', hk, h3⟩, ?_⟩
    have ee := e1.trans f2.ff
    refine h.run pe0 F0 H0 pe' F2 H2 σ' env' n2 _ _ R2 g2 ⟨M.bs, ?_, M.rt, ?_, ?_⟩
    · intro pe4 σ4 env4 F4 H4 n4 e4 R4 ⟨j, hj, w4⟩
      exact ⟨j, hj, pe4, env4, F4, n4, ee.trans e4, R4, w4⟩
    · intro pe4 σ4 env4 F4 H4 n4 e4 R4 w4
      exact M.nx pe4 σ4 env4 F4 H4 n4 (ee.trans e4) R4 w4
    · intro pe4 σ4 env4 F4 H4 n4 e4 R4 ⟨j, hj, w4⟩
      exact ⟨j, hj, pe4, env4, F4, n4, ee.trans e4, R4, w4⟩
/-- a comprehension with a test, whose steps draw nothing -/
theorem wLc_filter {α : Type} {i : Nat} {env : Env} {P : List PyData → Ws → Prop} {mt : DTT} {me : DTE} (g f : α → PyData) (t : α → Bool) : ∀ (as : List α) (acc : List PyData) (n : Ws), (∀ a ∈ as, ∀ Q : Bool → Ws → Prop, Q (t a) n → mt (env.set i (.val (g a))) n Q) →
    (∀ a ∈ as, ∀ Q : PyData → Ws → Prop, Q (f a) n → me (env.set i (.val (g a))) n Q) → acc.length + as.length ≤ 100000 → P (acc ++ (as.filter t).map f) n →
    wLc (fun d env P => P (env.set i d)) mt me env P acc (as.map g) n
  | [], acc, n, _, _, _, q => by
    rw [List.filter_nil, List.map_nil, List.append_nil] at q
    exact q
  | a :: as, acc, n, ht, h, l, q => by
    rw [List.length_cons] at l
    unfold List.map wLc
    dsimp only
    refine ht a List.mem_cons_self _ ?_
    cases e : t a with
    | true =>
      rw [if_pos rfl]
      refine h a List.mem_cons_self _ ⟨by omega, ?_⟩
      refine wLc_filter g f t as (acc ++ [f a]) n (fun y hy => ht y (List.mem_cons_of_mem _ hy)) (fun y hy => h y (List.mem_cons_of_mem _ hy)) (by rw [List.length_append, List.length_singleton]; omega) ?_
      rw [List.filter_cons_of_pos e, List.map_cons] at q
      rw [List.append_assoc]
      exact q
    | false =>
      rw [if_neg Bool.false_ne_true]
      refine wLc_filter g f t as acc n (fun y hy => ht y (List.mem_cons_of_mem _ hy)) (fun y hy => h y (List.mem_cons_of_mem _ hy)) (by omega) ?_
      rw [List.filter_cons_of_neg (by rw [e]; exact Bool.false_ne_true)] at q
      exact q
end
end Dl

namespace Dl
open PySem PySem.Spec PyProof.Rows L2
section
variable {X : Cx} (K : PySem.W.Frag) (hK : X.K = K)
include hK
theorem eqK (hu : X.A.units + 64 < cLine) : OpR X (compareOp .Eq) (rEqD K) := hK ▸ op_eqD hu
theorem neK (hu : X.A.units + 64 < cLine) : OpR X (compareOp .NotEq) (rNeD K) := hK ▸ op_neD hu
theorem inK (hu : X.A.units + 65 < cLine) : OpR X (compareOp .In) (rInA K false) := hK ▸ op_inA hu
theorem notInK (hu : X.A.units + 65 < cLine) : OpR X (compareOp .NotIn) (rInA K true) := hK ▸ op_notInA hu
theorem catK : OpR X (binaryOp .Add) (rCatA K) := hK ▸ op_catA
theorem catLK : OpR X (binaryOp .Add) rCat := op_cat
theorem ixK : IxR X (fun x y H Q => rIxL K x y H Q ∨ rIxT K x y H Q) := hK ▸ IxR.or ix_list ix_tup
theorem slK : SlR X (rSlD K) := hK ▸ SlR.or sl_list sl_tupA
theorem isiK : CallR X (.builtin "isinstance") (rIsi K) := hK ▸ call_isi
theorem lenK : CallR X (.builtin "len") (fun xs H Q => ∃ p ys, xs = [.ref p] ∧ (SqL K H p ys ∨ SqT K H p ys) ∧ Q (.int ys.length) H) := hK ▸ call_len_seq
theorem tupleK : CallR X (.type "tuple") (fun xs H Q => ∃ p ys, xs = [.ref p] ∧ ((SqL K H p ys ∧ ∀ l, H l = none → Q (.ref l) (upd H l (.tup ys))) ∨ (SqT K H p ys ∧ Q (.ref p) H))) := hK ▸ call_tuple_of
theorem listK : CallR X (.type "list") (fun xs H Q => ∃ p ys, xs = [.ref p] ∧ (SqL K H p ys ∨ SqT K H p ys) ∧ ∀ l, H l = none → Q (.ref l) (upd H l (.lst ys))) := hK ▸ call_list_of
theorem pi_K {tg l : Expr} {tl : TE} (hl : PE X l tl) : PI X tg l (iAny K tl) := hK ▸ pi_any hl
theorem bmK {e : Expr} {to : TE} {t : TA} {T : String} {r : V → List V → Hp → VK → Prop} (h : PE X e (tBM X.K T r to t)) : PE X e (tBM K T r to t) := hK ▸ h
end
end Dl

namespace Kin
open PySem PySem.Spec PyProof.Rows L2 Dl
open Evl (Ex sz_of sz_lt)
theorem cut_self (w : Ws) : cut w w = w := by
  unfold cut
  rw [List.take_length]
theorem cut_os (w : Ws) (n : Nat) : cut w ⟨n, w.os⟩ = ⟨n, w.os⟩ := by
  unfold cut
  rw [List.take_length]
theorem wLc_map {α : Type} {i : Nat} {env : Dl.Env} {P : List PyData → Ws → Prop} {me : DTE} (g f : α → PyData) : ∀ (as : List α) (acc : List PyData) (n : Ws), (∀ a ∈ as, ∀ Q : PyData → Ws → Prop, Q (f a) n → me (env.set i (.val (g a))) n Q) → acc.length + as.length ≤ 100000 → P (acc ++ as.map f) n →
    wLc (fun d env P => P (env.set i d)) (fun _ n P => P true n) me env P acc (as.map g) n
  | [], acc, n, _, _, q => by
    rw [List.map_nil, List.append_nil] at q
    exact q
  | a :: as, acc, n, h, l, q => by
    rw [List.length_cons] at l
    unfold List.map wLc
    dsimp only
    rw [if_pos rfl]
    refine h a List.mem_cons_self _ ⟨by omega, ?_⟩
    refine wLc_map g f as (acc ++ [f a]) n (fun y hy => h y (List.mem_cons_of_mem _ hy)) (by rw [List.length_append, List.length_singleton]; omega) ?_
    rw [List.append_assoc]
    exact q
/-- a type: a letter, or a class with arguments -/
inductive Sh where
  | var (x : Str)
  | node (n : Nat) (as : List Sh)
namespace Sh
mutual
def d : Sh → PyData
  | var x => .str x
  | node n as => .tuple (.int n :: ds as)
def ds : List Sh → List PyData
  | [] => []
  | a :: as => d a :: ds as
end
mutual
def map (r : Nat → Nat) : Sh → Sh
  | var x => var x
  | node n as => node (r n) (maps r as)
def maps (r : Nat → Nat) : List Sh → List Sh
  | [] => []
  | a :: as => map r a :: maps r as
end
mutual
def dep : Sh → Nat
  | var _ => 0
  | node _ as => deps as + 1
def deps : List Sh → Nat
  | [] => 0
  | a :: as => max (dep a) (deps as)
end
mutual
/-- classes below m, at most two arguments -/
def fit (m : Nat) : Sh → Prop
  | var _ => True
  | node n as => n < m ∧ as.length ≤ 2 ∧ fits m as
def fits (m : Nat) : List Sh → Prop
  | [] => True
  | a :: as => fit m a ∧ fits m as
end
theorem ds_map : ∀ as : List Sh, ds as = as.map d
  | [] => rfl
  | a :: as => by
    show d a :: ds as = _
    rw [ds_map as]
    rfl
theorem maps_map (r : Nat → Nat) : ∀ as : List Sh, maps r as = as.map (map r)
  | [] => rfl
  | a :: as => by
    show map r a :: maps r as = _
    rw [maps_map r as]
    rfl
theorem deps_le : ∀ {as : List Sh} {a : Sh}, a ∈ as → dep a ≤ deps as
  | b :: as, a, h => by
    show dep a ≤ max (dep b) (deps as)
    rcases List.mem_cons.mp h with rfl | h
    · exact Nat.le_max_left _ _
    · exact Nat.le_trans (deps_le h) (Nat.le_max_right _ _)
theorem fits_mem {m : Nat} : ∀ {as : List Sh} {a : Sh}, fits m as → a ∈ as → fit m a
  | b :: as, a, h, hm => by
    rcases List.mem_cons.mp hm with rfl | hm
    · exact h.1
    · exact fits_mem h.2 hm
theorem ty_var (x : Str) : subTy (tyOf (var x).d) "tuple" = false := by
  show subTy "str" "tuple" = false
  decide
theorem ty_node (n : Nat) (as : List Sh) : subTy (tyOf (node n as).d) "tuple" = true := by
  show subTy "tuple" "tuple" = true
  decide
end Sh
theorem cut_tail (x : PyData) (xs : List PyData) : Dl.cutD (x :: xs) (some 1) none = xs := by
  unfold Dl.cutD
  rw [show HT.sIx (x :: xs).length 0 (some (1 : Int)) = min 1 (x :: xs).length from HT.sIx_nat _ _ 1, HT.sIx_none, List.length_cons, show min 1 (xs.length + 1) = 1 by omega]
  show List.take (xs.length + 1 - 1) xs = xs
  rw [Nat.add_sub_cancel, List.take_length]
abbrev s_moved : Stmt := topS 45
abbrev N_moved : List Str := ["_law_shape", "_law_ranks", "_law_inner", "_law_part"]
theorem sc_moved : FnScope N_moved ["_law_shape", "_law_ranks"] (defScope s_moved) := ⟨rfl, rfl, rfl, by decide +kernel, rfl, by decide +kernel, by decide +kernel⟩
structure TD (mg : Str → Option Value) : Prop where
  m_isinstance : mg "isinstance" = none
  m_tuple : mg "tuple" = none
  m_list : mg "list" = none
  m_len : mg "len" = none
  m_range : mg "range" = none
theorem at0 {x : PyData} {xs : List PyData} : atI (x :: xs) 0 = some x := show atI _ ((0 : Nat) : Int) = _ from atI_nat rfl
theorem le1 {x : PyData} : [x].length ≤ 100000 := by show 1 ≤ 100000; decide
def nats (r : List Nat) : List PyData := r.map fun (n : Nat) => PyData.int n
theorem nats_at {r : List Nat} {n : Nat} (h : n < r.length) : atI (nats r) (n : Int) = some (.int (r.getD n 0 : Nat)) := by
  refine atI_nat ?_
  unfold nats
  rw [List.getElem?_map, List.getElem?_eq_getElem h, List.getD_eq_getElem?_getD, List.getElem?_eq_getElem h]
  rfl
/-- moved(shape, ranks), to a depth below k -/
def mfMoved : Nat → DF
  | 0 => fun _ _ _ => False
  | k + 1 => fun ss w P => ∃ (s : Sh) (r : List Nat), ss = [.val s.d, .val (.list (nats r))] ∧ s.dep ≤ k ∧ s.fit r.length ∧ P (s.map fun n => r.getD n 0).d w
section
variable {P : Program} {w : World} {K : PySem.W.Frag} {mg : Str → Option Value} {base : Heap} {Ts : List Addr}
theorem ok_moved {f : Addr} {fd : FuncData} {cdv : Value} (F : FunV K "_law_moved" "_law_moved" s_moved f fd cdv) (T : TD mg) (hK : KTy K)
    (m_law_moved : mg "_law_moved" = some (.ref f)) (k_law_moved : PySem.W.keepIn K (.ref f) = true) (b_law_moved : Binds K fd ["_law_shape", "_law_ranks"] []) : ∀ k : Nat, FnG P w K mg base k f fd ["_law_shape", "_law_ranks"] (spD K Ts (mfMoved k))
  | 0 => ⟨fun vs H Q E ⟨pe, F, ss, n, P, z1, z2, z3, z4, z5, z6⟩ => z5.elim, fun A outer s H args us vs Q E g r e b v ⟨pe, F, ss, n, P, z1, z2, z3, z4, z5, z6⟩ => z5.elim⟩
  | k + 1 => by
    have G_law_moved := ok_moved F T hK m_law_moved k_law_moved b_law_moved k
    refine FnG.weak (okD F sc_moved (fun A outer s H E hg hr => ⟨_, (pss_cons (ps_if (pt_not (pt_val (pe_callB (isiK K rfl) (by rfl) T.m_isinstance PyProof.Rows.boot_isinstance (pa_cons (pv 0) (pa_cons (pe_bltn (v := .ty "tuple") (by rfl) T.m_tuple PyProof.Rows.boot_tuple rfl) pa_nil))))) (pss_one (ps_ret (pv 0))) pss_nil)
    (pss_cons (ps_setLc (i := 2) (own := [("_law_part", 3)]) (tt := tYes) rfl sc_moved.nd rfl rfl (sw_true rfl rfl rfl (by decide +kernel)) (pi_K K rfl (pe_slice (slK K rfl) (pv 0) (po_some pe_int) po_none)) (blkOk_by (N := N_moved) (sc := defScope s_moved) (by decide +kernel)) (fun _ _ _ _ _ => (pg_name (i := 3) sc_moved.nd rfl (Or.inl rfl))) (fun _ _ _ _ _ => pts_nil) (fun _ _ _ _ _ => (pe_callG G_law_moved hg hr (by rfl) m_law_moved k_law_moved b_law_moved (pa_cons (pv 3) (pa_cons (pv 1) pa_nil)))))
    (pss_one (ps_ret (pe_op (catK K rfl) (pe_tup (pa_cons (pe_ix (ixK K rfl) (pv 1) (pe_ix (ixK K rfl) (pv 0) pe_int (fun _ _ => rfl)) (fun _ _ => rfl)) pa_nil)) (pe_callTy (tupleK K rfl) (by rfl) T.m_tuple PyProof.Rows.boot_tuple (pa_cons (pv 2) pa_nil))))))), by repeat first
        | (with_reducible apply ds_asg)
        | exact de_int
        | exact de_str
        | exact de_bl
        | exact de_non
        | exact de_var
        | exact dx_var
        | exact ds_retN
        | exact ds_next
        | exact ds_brk
        | exact ds_cont
        | exact dt_yes
        | exact dv_nil
        | exact da_nil
        | exact dgs_nil
        | exact dg_name
        | exact do_none
        | (with_reducible apply ds_seq)
        | (with_reducible apply ds_ret)
        | (with_reducible apply ds_if)
        | (with_reducible apply ds_forI)
        | (with_reducible apply ds_whileI)
        | (with_reducible apply ds_drop)
        | apply dg_tup
        | apply dgs_cons
        | apply di_any
        | apply di_range
        | apply dt_test
        | apply dt_B
        | apply dt_and
        | apply dt_or
        | apply dt_not
        | apply dx_of
        | apply de_tup
        | apply dv_cons
        | apply da_cons
        | apply do_some
        | apply de_if
        | apply de_not
        | apply de_and
        | apply de_or
        | (apply de_new; apply dn_lst)
        | apply de_op dr_ix
        | apply de_op dr_eq
        | apply de_op dr_ne
        | apply de_op dr_inA
        | apply de_op dr_catT
        | apply de_op dr_catL
        | apply de_op dr_add
        | apply de_op dr_sub
        | apply de_op dr_mul
        | apply de_op dr_mod
        | apply de_op dr_fdiv
        | apply de_op dr_lt
        | apply de_op dr_le
        | apply de_op dr_gt
        | apply de_op dr_ge
        | apply de_op dr_isN
        | apply de_op dr_notN
        | apply de_op dr_addS
        | apply de_slice
        | (apply de_isi; rotate_left 1; assumption; decide; rotate_right 1)
        | apply de_cb dc_len
        | apply de_cb dc_lenS
        | apply de_cb dc_int
        | apply de_cb dc_min2
        | apply de_cb dc_max2
        | apply de_cb dc_tuple
        | (apply de_new; apply dn_cb dcn_list)
        | apply de_call
        | apply de_m dm_append
        | apply de_m dm_insert
        | apply de_m dm_popAt
        | apply de_m0 dm_pop
        | apply de_extend
        | (apply de_new; apply dn_lcN)
        | (apply de_new; apply dn_rep; apply dn_lst)
        | (apply de_genN; rotate_left 2; assumption; rotate_right 2)⟩)) (spD_weak fun ss w P h => ?_)
    obtain ⟨s, r, rfl, hd, hf, q⟩ := h
    refine ⟨rfl, ?_⟩
    dsimp only
    cases s with
    | var x =>
      refine ⟨_, rfl, Sl.noConfusion, _, rfl, _, rfl, ?_⟩
      rw [Sh.ty_var]
      refine ⟨_, rfl, ?_⟩
      rw [cut_self]
      exact q
    | node n as =>
      refine ⟨_, rfl, Sl.noConfusion, _, rfl, _, rfl, ?_⟩
      rw [Sh.ty_node]
      refine ⟨_, rfl, Sl.noConfusion, 1, rfl, _, rfl, .inr ⟨_, rfl, _, rfl, ?_⟩⟩
      rw [cut_tail, Sh.ds_map]
      have hf : n < r.length ∧ as.length ≤ 2 ∧ Sh.fits r.length as := hf
      have hd : Sh.deps as + 1 ≤ k := hd
      have q : P (.tuple (.int (r.getD n 0 : Nat) :: Sh.ds (Sh.maps (fun n => r.getD n 0) as))) w := q
      refine wLc_map Sh.d (fun a => (Sh.map (fun n => r.getD n 0) a).d) as [] w (fun a ha Q hQ => ?_) (by rw [List.length_nil]; omega) ?_
      · refine ⟨_, rfl, Sl.noConfusion, _, rfl, Sl.noConfusion, ?_⟩
        cases k with
        | zero => omega
        | succ k => exact ⟨a, r, rfl, by have := Sh.deps_le ha; omega, Sh.fits_mem hf.2.2 ha, hQ⟩
      · refine ⟨_, rfl, Sl.noConfusion, _, rfl, Sl.noConfusion, _, _, rfl, rfl, _, _, _, rfl, rfl, at0, _, _, rfl, rfl, _, _, _, rfl, rfl, nats_at hf.1, le1, _, rfl, Sl.noConfusion, _, rfl, _, _, rfl, rfl, _, _, rfl, rfl, _, _, rfl, rfl, ?_, ?_⟩
        · rw [List.nil_append, List.length_map, List.length_singleton]
          omega
        · rw [cut_self, List.nil_append]
          rw [Sh.ds_map, Sh.maps_map, List.map_map] at q
          exact q
end
end Kin

namespace Kin
open PySem PySem.Spec PyProof.Rows L2 Dl
open Evl (Ex sz_of sz_lt)
theorem shp_list {xs : List PyData} (h : ∀ x ∈ xs, x.canLay0 = true ∧ x.depth ≤ 60) : SeqAt.shaped (.list xs) = true := by
  have h1 : ∀ xs : List PyData, (∀ x ∈ xs, x.canLay0 = true ∧ x.depth ≤ 60) → PyData.canLayAll0 xs = true ∧ PyData.depthAll xs ≤ 60 := by
    intro xs
    induction xs with
    | nil => intro _; exact ⟨rfl, Nat.zero_le _⟩
    | cons x xs ih =>
      intro h
      obtain ⟨a, b⟩ := ih fun y hy => h y (List.mem_cons_of_mem _ hy)
      obtain ⟨c, d⟩ := h x List.mem_cons_self
      refine ⟨by show (PyData.canLay0 x && PyData.canLayAll0 xs) = true; rw [c, a]; rfl, ?_⟩
      show max (PyData.depth x) (PyData.depthAll xs) ≤ 60
      exact Nat.max_le.mpr ⟨d, b⟩
  obtain ⟨a, b⟩ := h1 xs h
  show (PyData.canLayAll0 xs && decide (PyData.depthAll xs + 1 ≤ 64)) = true
  rw [a, decide_eq_true (by omega)]
  rfl
theorem shp_nats (r : List Nat) : SeqAt.shaped (.list (nats r)) = true := shp_list fun x hx => by
  obtain ⟨n, _, rfl⟩ := List.mem_map.mp hx
  exact ⟨rfl, Nat.zero_le _⟩
theorem shp_strs {r : List Str} (h : ∀ x ∈ r, PyData.canLay0 (.str x) = true) : SeqAt.shaped (.list (r.map PyData.str)) = true := shp_list fun x hx => by
  obtain ⟨n, hn, rfl⟩ := List.mem_map.mp hx
  exact ⟨h n hn, Nat.zero_le _⟩
theorem shp_nil : SeqAt.shaped (.list []) = true := shp_list fun _ h => nomatch h
theorem eqv_nil (xs : List PyData) : PyData.eqv (.list xs) (.list []) = xs.isEmpty := by
  cases xs <;> rfl
theorem seqI {i n : Nat} (h : i < n) : seqIndex? (i : Int) n = some i := by
  unfold seqIndex?
  simp
  omega
theorem cut_set {w : Ws} {n j : Nat} {x : Option (List PyData)} : cut w ⟨n, w.os.set j x⟩ = ⟨n, w.os.set j x⟩ := by
  unfold cut
  rw [List.take_of_length_le (by rw [List.length_set]; exact Nat.le_refl _)]
theorem map_erase {α β : Type} (f : α → β) : ∀ (xs : List α) (i : Nat), (xs.eraseIdx i).map f = (xs.map f).eraseIdx i
  | [], _ => rfl
  | x :: xs, 0 => rfl
  | x :: xs, i + 1 => congrArg (f x :: ·) (map_erase f xs i)
theorem le0 : ([] : List PyData).length ≤ 100000 := by show 0 ≤ 100000; decide
theorem see_sh {w : Ws} {j : Nat} {xs : List PyData} (h : w.os[j]? = some (some xs)) : see w (.sh j) = some (.list xs) := by
  show (w.os[j]?.join).map PyData.list = _
  rw [h]
  rfl
theorem seeAll_sh {w : Ws} {j : Nat} {xs : List PyData} (h : w.os[j]? = some (some xs)) : seeAll w [.sh j] = some [.list xs] := by
  show (see w (.sh j)).bind _ = _
  rw [see_sh h]
  rfl
abbrev s_leaf : Stmt := topS 40
abbrev N_leaf : List Str := ["_law_pen", "_law_plain", "_law_free"]
theorem sc_leaf : FnScope N_leaf ["_law_pen", "_law_plain", "_law_free"] (defScope s_leaf) := ⟨rfl, rfl, rfl, by decide +kernel, rfl, by decide +kernel, by decide +kernel⟩
/-- one(pen, some): any of them -/
def mfOne : DF := fun ss w P => ∃ (s : Sl) (d : PyData) (xs : List PyData) (n : Nat), ss = [.pen, s] ∧ s ≠ .no ∧ (∀ m, see ⟨m, w.os⟩ s = some d) ∧ items d = some xs ∧ xs ≠ [] ∧ xs.length < 1000 ∧ w.n = n + 1 ∧ ∀ z ∈ xs, P z ⟨n, w.os⟩
section
variable {P : Program} {w : World} {K : PySem.W.Frag} {mg : Str → Option Value} {base : Heap} {Ts : List Addr}
theorem ok_one {f fT : Addr} {fd fdT : FuncData} {cdv : Value} {k : Nat} (F : FunV K "_law_one" "_law_one" s_one f fd cdv) (T : TD mg)
    (G_law_take : FnG P w K mg base k fT fdT ["_law_pen", "_law_many"] (spD K Ts mfTake)) (m_law_take : mg "_law_take" = some (.ref fT)) (k_law_take : PySem.W.keepIn K (.ref fT) = true) (b_law_take : Binds K fdT ["_law_pen", "_law_many"] []) :
    FnG P w K mg base (k + 1) f fd ["_law_pen", "_law_some"] (spD K Ts mfOne) := by
  refine FnG.weak (okD F sc_one (fun A outer s H E hg hr => ⟨_, (pss_one (ps_ret (pe_ix (ixK K rfl) (pv 1) (pe_callG G_law_take hg hr (by rfl) m_law_take k_law_take b_law_take (pa_cons (pv 0) (pa_cons (pe_callB (lenK K rfl) (by rfl) T.m_len PySem.boot_len (pa_cons (pv 1) pa_nil)) pa_nil))) (fun _ _ => rfl)))), by repeat first
        | (with_reducible apply ds_asg)
        | exact de_int
        | exact de_str
        | exact de_bl
        | exact de_non
        | exact de_var
        | exact dx_var
        | exact ds_retN
        | exact ds_next
        | exact ds_brk
        | exact ds_cont
        | exact dt_yes
        | exact dv_nil
        | exact da_nil
        | exact dgs_nil
        | exact dg_name
        | exact do_none
        | (with_reducible apply ds_seq)
        | (with_reducible apply ds_ret)
        | (with_reducible apply ds_if)
        | (with_reducible apply ds_forI)
        | (with_reducible apply ds_whileI)
        | (with_reducible apply ds_drop)
        | apply dg_tup
        | apply dgs_cons
        | apply di_any
        | apply di_range
        | apply dt_test
        | apply dt_B
        | apply dt_and
        | apply dt_or
        | apply dt_not
        | apply dx_of
        | apply de_tup
        | apply dv_cons
        | apply da_cons
        | apply do_some
        | apply de_if
        | apply de_not
        | apply de_and
        | apply de_or
        | (apply de_new; apply dn_lst)
        | apply de_op dr_ix
        | apply de_op dr_eq
        | apply de_op dr_ne
        | apply de_op dr_inA
        | apply de_op dr_catT
        | apply de_op dr_catL
        | apply de_op dr_add
        | apply de_op dr_sub
        | apply de_op dr_mul
        | apply de_op dr_mod
        | apply de_op dr_fdiv
        | apply de_op dr_lt
        | apply de_op dr_le
        | apply de_op dr_gt
        | apply de_op dr_ge
        | apply de_op dr_isN
        | apply de_op dr_notN
        | apply de_op dr_addS
        | apply de_slice
        | (apply de_isi; rotate_left 1; assumption; decide; rotate_right 1)
        | apply de_cb dc_len
        | apply de_cb dc_lenS
        | apply de_cb dc_int
        | apply de_cb dc_min2
        | apply de_cb dc_max2
        | apply de_cb dc_tuple
        | (apply de_new; apply dn_cb dcn_list)
        | apply de_call
        | apply de_m dm_append
        | apply de_m dm_insert
        | apply de_m dm_popAt
        | apply de_m0 dm_pop
        | apply de_extend
        | (apply de_new; apply dn_lcN)
        | (apply de_new; apply dn_rep; apply dn_lst)
        | (apply de_genN; rotate_left 2; assumption; rotate_right 2)⟩)) (spD_weak fun ss w P h => ?_)
  obtain ⟨s, d, xs, n, rfl, hs, hd, hi, hx, hl, hn, q⟩ := h
  refine ⟨rfl, ?_⟩
  have hpos := List.length_pos_iff.mpr hx
  have hw : see w s = some d := hd w.n
  refine ⟨_, rfl, hs, _, rfl, Sl.noConfusion, _, rfl, hs, [d], by show (see w s).bind _ = _; rw [hw]; rfl, _, _, rfl, hi, _, n, rfl, by omega, by omega, hn, fun r r0 r1 => ?_⟩
  obtain ⟨i, rfl⟩ := Int.eq_ofNat_of_zero_le r0
  have hi2 : i < xs.length := by omega
  refine ⟨_, _, hd n, rfl, _, _, _, hi, rfl, atI_nat (List.getElem?_eq_getElem hi2), ?_⟩
  dsimp only
  rw [cut_os]
  exact q _ (List.getElem_mem hi2)
/-- leaf(pen, plain, free) -/
def mfLeaf : DF := fun ss w P => ∃ (pl : List Nat) (j : Nat) (fr : List Str) (n : Nat), ss = [.pen, .val (.list (nats pl)), .sh j] ∧ pl ≠ [] ∧ pl.length < 1000 ∧ w.os[j]? = some (some (fr.map PyData.str)) ∧ (∀ x ∈ fr, PyData.canLay0 (.str x) = true) ∧ fr.length < 1000 ∧ w.n = n + 2 ∧
  (∀ m i x, n ≤ m → fr[i]? = some x → P (.str x) ⟨m, w.os.set j (some ((fr.eraseIdx i).map PyData.str))⟩) ∧ ∀ m c, n ≤ m → c ∈ pl → P (.tuple [.int (c : Nat)]) ⟨m, w.os⟩
theorem ok_leaf {f fT fO : Addr} {fd fdT fdO : FuncData} {cdv : Value} {k : Nat} (F : FunV K "_law_leaf" "_law_leaf" s_leaf f fd cdv) (T : TD mg)
    (G_law_take : FnG P w K mg base k fT fdT ["_law_pen", "_law_many"] (spD K Ts mfTake)) (m_law_take : mg "_law_take" = some (.ref fT)) (k_law_take : PySem.W.keepIn K (.ref fT) = true) (b_law_take : Binds K fdT ["_law_pen", "_law_many"] [])
    (G_law_one : FnG P w K mg base k fO fdO ["_law_pen", "_law_some"] (spD K Ts mfOne)) (m_law_one : mg "_law_one" = some (.ref fO)) (k_law_one : PySem.W.keepIn K (.ref fO) = true) (b_law_one : Binds K fdO ["_law_pen", "_law_some"] []) :
    FnG P w K mg base (k + 1) f fd ["_law_pen", "_law_plain", "_law_free"] (spD K Ts mfLeaf) := by
  refine FnG.weak (okD F sc_leaf (fun A outer s H E hg hr => ⟨_, (pss_cons (ps_if (PW.pt (pw_and (pt_cmpR (neK K rfl (units64 hr)) (pv 2) (pe_lst pa_nil) (nomark _)) (pw_and1 (PW.pt (pw_or (pt_cmpR (eqK K rfl (units64 hr)) (pv 1) (pe_lst pa_nil) (nomark _)) (pw_or1 (pt_cmpR op_gt (pe_callG G_law_take hg hr (by rfl) m_law_take k_law_take b_law_take (pa_cons (pv 0) (pa_cons pe_int pa_nil))) pe_int (nomark _)))))))) (pss_one (ps_ret (bmK K rfl (pe_bm PySem.F.plainAttrs_list PySem.F.slot_list_pop PySem.F.type_list_pop mt_popAt (pv 2) (pa_cons (pe_callG G_law_take hg hr (by rfl) m_law_take k_law_take b_law_take (pa_cons (pv 0) (pa_cons (pe_callB (lenK K rfl) (by rfl) T.m_len PySem.boot_len (pa_cons (pv 2) pa_nil)) pa_nil))) pa_nil))))) pss_nil)
    (pss_one (ps_ret (pe_ifExp (pt_cmpR (neK K rfl (units64 hr)) (pv 1) (pe_lst pa_nil) (nomark _)) (pe_tup (pa_cons (pe_callG G_law_one hg hr (by rfl) m_law_one k_law_one b_law_one (pa_cons (pv 0) (pa_cons (pv 1) pa_nil))) pa_nil)) pe_str)))), by repeat first
        | (with_reducible apply ds_asg)
        | exact de_int
        | exact de_str
        | exact de_bl
        | exact de_non
        | exact de_var
        | exact dx_var
        | exact ds_retN
        | exact ds_next
        | exact ds_brk
        | exact ds_cont
        | exact dt_yes
        | exact dv_nil
        | exact da_nil
        | exact dgs_nil
        | exact dg_name
        | exact do_none
        | (with_reducible apply ds_seq)
        | (with_reducible apply ds_ret)
        | (with_reducible apply ds_if)
        | (with_reducible apply ds_forI)
        | (with_reducible apply ds_whileI)
        | (with_reducible apply ds_drop)
        | apply dg_tup
        | apply dgs_cons
        | apply di_any
        | apply di_range
        | apply dt_test
        | apply dt_B
        | apply dt_and
        | apply dt_or
        | apply dt_not
        | apply dx_of
        | apply de_tup
        | apply dv_cons
        | apply da_cons
        | apply do_some
        | apply de_if
        | apply de_not
        | apply de_and
        | apply de_or
        | (apply de_new; apply dn_lst)
        | apply de_op dr_ix
        | apply de_op dr_eq
        | apply de_op dr_ne
        | apply de_op dr_inA
        | apply de_op dr_catT
        | apply de_op dr_catL
        | apply de_op dr_add
        | apply de_op dr_sub
        | apply de_op dr_mul
        | apply de_op dr_mod
        | apply de_op dr_fdiv
        | apply de_op dr_lt
        | apply de_op dr_le
        | apply de_op dr_gt
        | apply de_op dr_ge
        | apply de_op dr_isN
        | apply de_op dr_notN
        | apply de_op dr_addS
        | apply de_slice
        | (apply de_isi; rotate_left 1; assumption; decide; rotate_right 1)
        | apply de_cb dc_len
        | apply de_cb dc_lenS
        | apply de_cb dc_int
        | apply de_cb dc_min2
        | apply de_cb dc_max2
        | apply de_cb dc_tuple
        | (apply de_new; apply dn_cb dcn_list)
        | apply de_call
        | apply de_m dm_append
        | apply de_m dm_insert
        | apply de_m dm_popAt
        | apply de_m0 dm_pop
        | apply de_extend
        | (apply de_new; apply dn_lcN)
        | (apply de_new; apply dn_rep; apply dn_lst)
        | (apply de_genN; rotate_left 2; assumption; rotate_right 2)⟩)) (spD_weak fun ss w P h => ?_)
  obtain ⟨pl, j, fr, n, rfl, hp, hpl, hj, hc, hl, hn, q1, q2⟩ := h
  refine ⟨rfl, ?_⟩
  dsimp only
  have np : (nats pl).isEmpty = false := by
    cases pl with
    | nil => exact (hp rfl).elim
    | cons => rfl
  have nn : nats pl ≠ [] := fun e => by
    rw [e] at np
    cases np
  have hpn : (nats pl).length = pl.length := List.length_map _
  refine ⟨_, rfl, Sl.noConfusion, le0, _, _, see_sh hj, rfl, shp_strs hc, shp_nil, _, rfl, ?_⟩
  rw [eqv_nil]
  cases fr with
  | nil =>
    refine iteF ?_
    refine iteF ?_
    refine ⟨_, rfl, Sl.noConfusion, le0, _, _, rfl, rfl, shp_nats pl, shp_nil, _, rfl, ?_⟩
    rw [eqv_nil, np]
    refine iteT ?_
    refine ⟨_, rfl, Sl.noConfusion, _, rfl, Sl.noConfusion, _, _, nats pl, (n + 1), rfl, Sl.noConfusion, fun _ => rfl, rfl, nn, by rw [hpn]; exact hpl, hn, fun z hz => ?_⟩
    obtain ⟨c, hc', rfl⟩ := List.mem_map.mp hz
    refine ⟨le1, ?_⟩
    rw [cut_os]
    exact q2 _ c (by omega) hc'
  | cons x0 fr0 =>
    refine iteT ?_
    refine ⟨_, rfl, Sl.noConfusion, le0, _, _, rfl, rfl, shp_nats pl, shp_nil, _, rfl, ?_⟩
    rw [eqv_nil, np]
    refine iteF ?_
    refine ⟨_, rfl, Sl.noConfusion, 4, n + 1, rfl, by decide, by decide, hn, fun r r0 r1 => ?_⟩
    refine ⟨_, _, rfl, rfl, _, _, rfl, rfl, _, rfl, ?_⟩
    refine ite2 (fun _ => ?_) (fun _ => ?_)
    · refine ⟨_, rfl, Sl.noConfusion, j, rfl, _, rfl, Sl.noConfusion, _, rfl, Sl.noConfusion, [.list ((x0 :: fr0).map PyData.str)], seeAll_sh hj, _, _, rfl, rfl, _, n, rfl, ?_, ?_, rfl, fun r2 r3 r4 => ?_⟩
      · rw [List.length_map, List.length_cons]
        omega
      · rw [List.length_map]
        omega
      · obtain ⟨i, rfl⟩ := Int.eq_ofNat_of_zero_le r3
        rw [List.length_map] at r4
        have hi : i < (x0 :: fr0).length := by omega
        refine ⟨_, _, hj, rfl, (i : Int), i, .str (x0 :: fr0)[i], rfl, by omega, by omega, seqI (by rw [List.length_map]; exact hi), by rw [List.getElem?_map, List.getElem?_eq_getElem hi]; rfl, ?_⟩
        rw [cut_set, ← map_erase]
        exact q1 _ i _ (Nat.le_refl _) (List.getElem?_eq_getElem hi)
    · skip
      refine ⟨_, rfl, Sl.noConfusion, le0, _, _, rfl, rfl, shp_nats pl, shp_nil, _, rfl, ?_⟩
      rw [eqv_nil, np]
      refine iteT ?_
      refine ⟨_, rfl, Sl.noConfusion, _, rfl, Sl.noConfusion, _, _, nats pl, n, rfl, Sl.noConfusion, fun _ => rfl, rfl, nn, by rw [hpn]; exact hpl, rfl, fun z hz => ?_⟩
      obtain ⟨c, hc', rfl⟩ := List.mem_map.mp hz
      refine ⟨le1, ?_⟩
      rw [cut_os]
      exact q2 _ c (by omega) hc'
end
end Kin

namespace Kin
open PySem PySem.Spec PyProof.Rows L2 Dl
open Evl (Ex sz_of sz_lt)
abbrev s_argument : Stmt := topS 41
abbrev N_argument : List Str := ["_law_pen", "_law_arities", "_law_free", "_law_room", "_law_boxes", "_law_plain", "_law_pairs", "_law_shape", "_law_deep", "_law_step", "_law_k"]
theorem sc_argument : FnScope N_argument ["_law_pen", "_law_arities", "_law_free", "_law_room"] (defScope s_argument) := ⟨rfl, rfl, rfl, by decide +kernel, rfl, by decide +kernel, by decide +kernel⟩
structure TE2 (mg : Str → Option Value) : Prop where
  m_min : mg "min" = none
  m_max : mg "max" = none
namespace Sh
mutual
/-- each class with as many arguments as ar says -/
def okA (ar : List Nat) : Sh → Prop
  | var _ => True
  | node n as => ar[n]? = some as.length ∧ okAs ar as
def okAs (ar : List Nat) : List Sh → Prop
  | [] => True
  | a :: as => okA ar a ∧ okAs ar as
end
mutual
def parts : Sh → Nat
  | var _ => 1
  | node _ as => partsL as + 1
def partsL : List Sh → Nat
  | [] => 0
  | a :: as => parts a + partsL as
end
mutual
def vars : Sh → List Str
  | var x => [x]
  | node _ as => varsL as
def varsL : List Sh → List Str
  | [] => []
  | a :: as => vars a ++ varsL as
end
end Sh
/-- the classes of ar with m parameters -/
def having (ar : List Nat) (m : Nat) : List Nat := (List.range ar.length).filter fun k => ar.getD k 0 == m
theorem eqv_nat (k m : Nat) : PyData.eqv (.int (k : Int)) (.int (m : Int)) = (k == m) := by
  show ((k : Int) == (m : Int)) = (k == m)
  rw [Bool.eq_iff_iff, beq_iff_eq, beq_iff_eq]
  omega
theorem shp_int (i : Int) : SeqAt.shaped (.int i) = true := by
  rfl
theorem nats_len (r : List Nat) : (nats r).length = r.length := List.length_map _
theorem le2 {x y : PyData} : [x, y].length ≤ 100000 := by show 2 ≤ 100000; decide
theorem le3 {x y z : PyData} : [x, y, z].length ≤ 100000 := by show 3 ≤ 100000; decide
theorem le8 {a b c d e f g h : PyData} : [a, b, c, d, e, f, g, h].length ≤ 100000 := by show 8 ≤ 100000; decide
theorem deep_mem {z : PyData} (h : z ∈ [PyData.int 0, .int 0, .int 0, .int 0, .int 1, .int 1, .int 2, .int 3]) : ∃ d : Int, z = .int d ∧ 0 ≤ d ∧ d ≤ 3 := by
  simp only [List.mem_cons, List.not_mem_nil, or_false] at h
  rcases h with rfl | rfl | rfl | rfl | rfl | rfl | rfl | rfl <;> exact ⟨_, rfl, by omega, by omega⟩
theorem perm_at {α : Type} : ∀ (xs : List α) (i : Nat) (h : i < xs.length), (xs[i] :: xs.eraseIdx i).Perm xs
  | x :: xs, 0, _ => List.Perm.refl _
  | x :: xs, i + 1, h => (List.Perm.swap x _ _).trans ((perm_at xs i (Nat.lt_of_succ_lt_succ h)).cons x)
theorem upTo_at {n k : Nat} {x : PyData} (h : (Dl.upTo n)[k]? = some x) : k < n := by
  rcases Nat.lt_or_ge k n with l | l
  · exact l
  · rw [List.getElem?_eq_none (by unfold Dl.upTo; rw [List.length_map, List.length_range]; exact l)] at h
    cases h
theorem upTo_len (n : Nat) : (Dl.upTo n).length = n := by
  unfold Dl.upTo
  rw [List.length_map, List.length_range]
/-- a leaf: a letter out of fr, or a class of pl -/
def LeafR (pl : List Nat) (fr : List Str) (s : Sh) (fr' : List Str) : Prop := (∃ i x, fr[i]? = some x ∧ s = .var x ∧ fr' = fr.eraseIdx i) ∨ (∃ c, c ∈ pl ∧ s = .node c [] ∧ fr' = fr)
def mfLeaf2 : DF := fun ss w P => ∃ (pl : List Nat) (j : Nat) (fr : List Str) (n : Nat), ss = [.pen, .val (.list (nats pl)), .sh j] ∧ pl ≠ [] ∧ pl.length < 1000 ∧ w.os[j]? = some (some (fr.map PyData.str)) ∧ (∀ x ∈ fr, PyData.canLay0 (.str x) = true) ∧ fr.length < 1000 ∧ w.n = n + 2 ∧
  ∀ m s fr', n ≤ m → LeafR pl fr s fr' → P s.d ⟨m, w.os.set j (some (fr'.map PyData.str))⟩
theorem set_back {os : List (Option (List PyData))} {j : Nat} {x : Option (List PyData)} (h : os[j]? = some x) : os.set j x = os := by
  refine List.ext_getElem? fun i => ?_
  by_cases e : j = i
  · subst e
    rw [h, List.getElem?_set_self (by
      rcases Nat.lt_or_ge j os.length with l | l
      · exact l
      · rw [List.getElem?_eq_none l] at h
        cases h)]
  · rw [List.getElem?_set_ne e]
theorem leaf2 (ss : List Sl) (w : Ws) (P : PyData → Ws → Prop) (h : mfLeaf2 ss w P) : mfLeaf ss w P := by
  obtain ⟨pl, j, fr, n, h1, h2, h3, h4, h5, h6, h7, q⟩ := h
  refine ⟨pl, j, fr, n, h1, h2, h3, h4, h5, h6, h7, fun m i x hm hx => q m (.var x) _ hm (.inl ⟨i, x, hx, rfl, rfl⟩), fun m c hm hc => ?_⟩
  have z := q m (.node c []) fr hm (.inr ⟨c, hc, rfl, rfl⟩)
  rw [set_back h4] at z
  exact z
/-- an argument of at most room parts; its letters come out of fr -/
def ArgR (ar : List Nat) (room : Int) (fr : List Str) (s : Sh) (fr' : List Str) : Prop := s.okA ar ∧ (s.parts : Int) ≤ room ∧ (s.dep : Int) ≤ max 2 (room - 1) ∧ (s.vars ++ fr').Perm fr
theorem having_at {ar : List Nat} {m c : Nat} (h : c ∈ having ar m) : ar[c]? = some m := by
  obtain ⟨h1, h2⟩ := List.mem_filter.mp h
  have h1 := List.mem_range.mp h1
  rw [List.getD_eq_getElem?_getD, List.getElem?_eq_getElem h1] at h2
  rw [List.getElem?_eq_getElem h1]
  exact congrArg some (beq_iff_eq.mp h2)
theorem having_len (ar : List Nat) (m : Nat) : (having ar m).length ≤ ar.length := by
  have := List.length_filter_le (fun k => ar.getD k 0 == m) (List.range ar.length)
  rw [List.length_range] at this
  exact this
theorem LeafR.okA {ar : List Nat} {fr fr' : List Str} {s : Sh} (h : LeafR (having ar 0) fr s fr') : s.okA ar := by
  rcases h with ⟨i, x, _, rfl, _⟩ | ⟨c, hc, rfl, _⟩
  · exact trivial
  · exact ⟨having_at hc, trivial⟩
theorem LeafR.parts {pl : List Nat} {fr fr' : List Str} {s : Sh} (h : LeafR pl fr s fr') : s.parts = 1 := by
  rcases h with ⟨i, x, _, rfl, _⟩ | ⟨c, hc, rfl, _⟩ <;> rfl
theorem LeafR.dep {pl : List Nat} {fr fr' : List Str} {s : Sh} (h : LeafR pl fr s fr') : s.dep ≤ 1 := by
  rcases h with ⟨i, x, _, rfl, _⟩ | ⟨c, hc, rfl, _⟩
  · exact Nat.zero_le _
  · exact Nat.le_refl _
theorem LeafR.perm {pl : List Nat} {fr fr' : List Str} {s : Sh} (h : LeafR pl fr s fr') : (s.vars ++ fr').Perm fr := by
  rcases h with ⟨i, x, hx, rfl, rfl⟩ | ⟨c, hc, rfl, rfl⟩
  · obtain ⟨hi, rfl⟩ := List.getElem?_eq_some_iff.mp hx
    exact perm_at fr i hi
  · exact List.Perm.refl _
theorem LeafR.sub {pl : List Nat} {fr fr' : List Str} {s : Sh} (h : LeafR pl fr s fr') : (∀ x ∈ fr', x ∈ fr) ∧ fr'.length ≤ fr.length := by
  have p := h.perm
  refine ⟨fun x hx => p.subset (List.mem_append_right _ hx), ?_⟩
  have := p.length_eq
  rw [List.length_append] at this
  omega
theorem pair_arg {ar : List Nat} {fr fr1 fr2 : List Str} {s t : Sh} {c : Nat} {room : Int} (h1 : LeafR (having ar 0) fr s fr1) (h2 : LeafR (having ar 0) fr1 t fr2) (hc : c ∈ having ar 2) (hr : 3 ≤ room) : ArgR ar room fr (.node c [s, t]) fr2 := by
  refine ⟨⟨having_at hc, h1.okA, h2.okA, trivial⟩, ?_, ?_, ?_⟩
  · have a := h1.parts
    have b := h2.parts
    show ((s.parts + (t.parts + 0) + 1 : Nat) : Int) ≤ room
    omega
  · have a := h1.dep
    have b := h2.dep
    show ((max s.dep (max t.dep 0) + 1 : Nat) : Int) ≤ max 2 (room - 1)
    omega
  · show ((s.vars ++ (t.vars ++ [])) ++ fr2).Perm fr
    rw [List.append_nil, List.append_assoc]
    exact (List.Perm.append_left _ h2.perm).trans h1.perm
theorem seeAll_val {w : Ws} {d : PyData} : seeAll w [.val d] = some [d] := rfl
/-- argument(pen, arities, free, room) -/
def mfArg : DF := fun ss w P => ∃ (ar : List Nat) (j : Nat) (fr : List Str) (room : Int) (n : Nat), ss = [.pen, .val (.list (nats ar)), .sh j, .val (.int room)] ∧ ar.length < 1000 ∧ having ar 0 ≠ [] ∧ 2 ≤ room ∧ room ≤ 4 ∧ w.os[j]? = some (some (fr.map PyData.str)) ∧ (∀ x ∈ fr, PyData.canLay0 (.str x) = true) ∧ fr.length < 1000 ∧ w.n = n + 10 ∧ ∀ m s fr', n ≤ m → ArgR ar room fr s fr' → P s.d ⟨m, w.os.set j (some (fr'.map PyData.str))⟩
section
variable {P : Program} {w : World} {K : PySem.W.Frag} {mg : Str → Option Value} {base : Heap} {Ts : List Addr}
theorem ok_argument {f fT fO fL : Addr} {fd fdT fdO fdL : FuncData} {cdv : Value} {k : Nat} (F : FunV K "_law_argument" "_law_argument" s_argument f fd cdv) (T : TD mg) (T2 : TE2 mg) (hK : KTy K)
    (G_law_take : FnG P w K mg base k fT fdT ["_law_pen", "_law_many"] (spD K Ts mfTake)) (m_law_take : mg "_law_take" = some (.ref fT)) (k_law_take : PySem.W.keepIn K (.ref fT) = true) (b_law_take : Binds K fdT ["_law_pen", "_law_many"] [])
    (G_law_one : FnG P w K mg base k fO fdO ["_law_pen", "_law_some"] (spD K Ts mfOne)) (m_law_one : mg "_law_one" = some (.ref fO)) (k_law_one : PySem.W.keepIn K (.ref fO) = true) (b_law_one : Binds K fdO ["_law_pen", "_law_some"] [])
    (G_law_leaf : FnG P w K mg base k fL fdL ["_law_pen", "_law_plain", "_law_free"] (spD K Ts mfLeaf2)) (m_law_leaf : mg "_law_leaf" = some (.ref fL)) (k_law_leaf : PySem.W.keepIn K (.ref fL) = true) (b_law_leaf : Binds K fdL ["_law_pen", "_law_plain", "_law_free"] []) :
    FnG P w K mg base (k + 1) f fd ["_law_pen", "_law_arities", "_law_free", "_law_room"] (spD K Ts mfArg) := by
  refine FnG.weak (okD F sc_argument (fun A outer s H E hg hr => ⟨_, (pss_cons (ps_setLc (i := 4) (own := [("_law_k", 10)]) (tt := _) rfl sc_argument.nd rfl rfl (sw_true rfl rfl rfl (by decide +kernel)) (pi_range1 (by rfl) T.m_range (pa_cons (pe_callB (lenK K rfl) (by rfl) T.m_len PySem.boot_len (pa_cons (pv 1) pa_nil)) pa_nil)) (blkOk_by (N := N_argument) (sc := defScope s_argument) (by decide +kernel)) (fun _ _ _ _ _ => (pg_name (i := 10) sc_argument.nd rfl (Or.inl rfl))) (fun _ _ _ _ _ => pts_one (pt_cmpR (eqK K rfl (units64 hr)) (pe_ix (ixK K rfl) (pv 1) (pv 10) (fun _ _ => rfl)) pe_int (nomark _))) (fun _ _ _ _ _ => (pv 10)))
    (pss_cons (ps_setLc (i := 5) (own := [("_law_k", 10)]) (tt := _) rfl sc_argument.nd rfl rfl (sw_true rfl rfl rfl (by decide +kernel)) (pi_range1 (by rfl) T.m_range (pa_cons (pe_callB (lenK K rfl) (by rfl) T.m_len PySem.boot_len (pa_cons (pv 1) pa_nil)) pa_nil)) (blkOk_by (N := N_argument) (sc := defScope s_argument) (by decide +kernel)) (fun _ _ _ _ _ => (pg_name (i := 10) sc_argument.nd rfl (Or.inl rfl))) (fun _ _ _ _ _ => pts_one (pt_cmpR (eqK K rfl (units64 hr)) (pe_ix (ixK K rfl) (pv 1) (pv 10) (fun _ _ => rfl)) pe_int (nomark _))) (fun _ _ _ _ _ => (pv 10)))
    (pss_cons (ps_setLc (i := 6) (own := [("_law_k", 10)]) (tt := _) rfl sc_argument.nd rfl rfl (sw_true rfl rfl rfl (by decide +kernel)) (pi_range1 (by rfl) T.m_range (pa_cons (pe_callB (lenK K rfl) (by rfl) T.m_len PySem.boot_len (pa_cons (pv 1) pa_nil)) pa_nil)) (blkOk_by (N := N_argument) (sc := defScope s_argument) (by decide +kernel)) (fun _ _ _ _ _ => (pg_name (i := 10) sc_argument.nd rfl (Or.inl rfl))) (fun _ _ _ _ _ => pts_one (pt_cmpR (eqK K rfl (units64 hr)) (pe_ix (ixK K rfl) (pv 1) (pv 10) (fun _ _ => rfl)) pe_int (nomark _))) (fun _ _ _ _ _ => (pv 10)))
    (pss_cons (ps_set (i := 7) sc_argument.nd rfl (Or.inl rfl) (pe_callG G_law_leaf hg hr (by rfl) m_law_leaf k_law_leaf b_law_leaf (pa_cons (pv 0) (pa_cons (pv 5) (pa_cons (pv 2) pa_nil)))))
    (pss_cons (ps_if (PW.pt (pw_and (pt_cmpR (neK K rfl (units64 hr)) (pv 6) (pe_lst pa_nil) (nomark _)) (pw_and (pt_cmpR op_gt (pv 3) pe_int (nomark _)) (pw_and1 (pt_cmpR (eqK K rfl (units64 hr)) (pe_callG G_law_take hg hr (by rfl) m_law_take k_law_take b_law_take (pa_cons (pv 0) (pa_cons pe_int pa_nil))) pe_int (nomark _)))))) (pss_one (ps_ret (pe_tup (pa_cons (pe_callG G_law_one hg hr (by rfl) m_law_one k_law_one b_law_one (pa_cons (pv 0) (pa_cons (pv 6) pa_nil))) (pa_cons (pv 7) (pa_cons (pe_callG G_law_leaf hg hr (by rfl) m_law_leaf k_law_leaf b_law_leaf (pa_cons (pv 0) (pa_cons (pv 5) (pa_cons (pv 2) pa_nil)))) pa_nil)))))) pss_nil)
    (pss_cons (ps_set (i := 8) sc_argument.nd rfl (Or.inl rfl) (pe_ifExp (pt_cmpR (neK K rfl (units64 hr)) (pv 4) (pe_lst pa_nil) (nomark _)) (pe_callB (call_min2 rfl) (by rfl) T2.m_min PyProof.Rows.boot_min (pa_cons (pe_callG G_law_one hg hr (by rfl) m_law_one k_law_one b_law_one (pa_cons (pv 0) (pa_cons (pe_lst (pa_cons pe_int (pa_cons pe_int (pa_cons pe_int (pa_cons pe_int (pa_cons pe_int (pa_cons pe_int (pa_cons pe_int (pa_cons pe_int pa_nil))))))))) pa_nil))) (pa_cons (pe_op op_sub (pv 3) pe_int) pa_nil))) pe_int))
    (pss_cons (ps_for PassesOwn.never rfl (pi_range1 (by rfl) T.m_range (pa_cons (pe_ifExp (pt_val (pe_callB (isiK K rfl) (by rfl) T.m_isinstance PyProof.Rows.boot_isinstance (pa_cons (pv 7) (pa_cons (pe_bltn (v := .ty "tuple") (by rfl) T.m_tuple PyProof.Rows.boot_tuple rfl) pa_nil)))) (pe_callB (call_min2 rfl) (by rfl) T2.m_min PyProof.Rows.boot_min (pa_cons (pv 8) (pa_cons pe_int pa_nil))) (pv 8)) pa_nil)) (pg_name (i := 9) sc_argument.nd rfl (Or.inl rfl))
    (pss_one (ps_set (i := 7) sc_argument.nd rfl (Or.inl rfl) (pe_tup (pa_cons (pe_callG G_law_one hg hr (by rfl) m_law_one k_law_one b_law_one (pa_cons (pv 0) (pa_cons (pv 4) pa_nil))) (pa_cons (pv 7) pa_nil))))))
    (pss_one (ps_ret (pv 7)))))))))), by repeat first
        | (with_reducible apply ds_asg)
        | exact de_int
        | exact de_str
        | exact de_bl
        | exact de_non
        | exact de_var
        | exact dx_var
        | exact ds_retN
        | exact ds_next
        | exact ds_brk
        | exact ds_cont
        | exact dt_yes
        | exact dv_nil
        | exact da_nil
        | exact dgs_nil
        | exact dg_name
        | exact do_none
        | (with_reducible apply ds_seq)
        | (with_reducible apply ds_ret)
        | (with_reducible apply ds_if)
        | (with_reducible apply ds_forI)
        | (with_reducible apply ds_whileI)
        | (with_reducible apply ds_drop)
        | apply dg_tup
        | apply dgs_cons
        | apply di_any
        | apply di_range
        | apply dt_test
        | apply dt_B
        | apply dt_and
        | apply dt_or
        | apply dt_not
        | apply dx_of
        | apply de_tup
        | apply dv_cons
        | apply da_cons
        | apply do_some
        | apply de_if
        | apply de_not
        | apply de_and
        | apply de_or
        | (apply de_new; apply dn_lst)
        | apply de_op dr_ix
        | apply de_op dr_eq
        | apply de_op dr_ne
        | apply de_op dr_inA
        | apply de_op dr_catT
        | apply de_op dr_catL
        | apply de_op dr_add
        | apply de_op dr_sub
        | apply de_op dr_mul
        | apply de_op dr_mod
        | apply de_op dr_fdiv
        | apply de_op dr_lt
        | apply de_op dr_le
        | apply de_op dr_gt
        | apply de_op dr_ge
        | apply de_op dr_isN
        | apply de_op dr_notN
        | apply de_op dr_addS
        | apply de_slice
        | (apply de_isi; rotate_left 1; assumption; decide; rotate_right 1)
        | apply de_cb dc_len
        | apply de_cb dc_lenS
        | apply de_cb dc_int
        | apply de_cb dc_min2
        | apply de_cb dc_max2
        | apply de_cb dc_tuple
        | (apply de_new; apply dn_cb dcn_list)
        | apply de_call
        | apply de_m dm_append
        | apply de_m dm_insert
        | apply de_m dm_popAt
        | apply de_m0 dm_pop
        | apply de_extend
        | (apply de_new; apply dn_lcN)
        | (apply de_new; apply dn_rep; apply dn_lst)
        | (apply de_genN; rotate_left 2; assumption; rotate_right 2)⟩)) (spD_weak fun ss w P h => ?_)
  obtain ⟨ar, j, fr, room, n, rfl, hl, hp, r2, r4, hj, hc, hfl, hn, h⟩ := h
  refine ⟨rfl, ?_⟩
  dsimp only
  refine ⟨_, rfl, Sl.noConfusion, _, rfl, _, _, rfl, rfl, _, rfl, by rw [nats_len]; omega, by rw [nats_len]; omega, ?_⟩
  rw [show (((nats ar).length : Nat) : Int).toNat = ar.length by rw [nats_len]; rfl]
  refine wLc_filter (fun (i : Nat) => PyData.int i) (fun (i : Nat) => PyData.int i) (fun k => ar.getD k 0 == 1) (List.range ar.length) [] w (fun a ha Q hQ => ?_) (fun a ha Q hQ => ⟨_, rfl, hQ⟩) (by rw [List.length_nil, List.length_range]; omega) ?_
  · refine ⟨_, rfl, Sl.noConfusion, _, rfl, Sl.noConfusion, _, _, rfl, rfl, _, _, _, rfl, rfl, nats_at (List.mem_range.mp ha), _, _, rfl, rfl, shp_int _, shp_int _, _, rfl, ?_⟩
    rw [show PyData.eqv (.int ((ar.getD a 0 : Nat) : Int)) (.int 1) = (ar.getD a 0 == 1) from eqv_nat _ 1]
    exact hQ
  rw [List.nil_append, show ((List.range ar.length).filter fun k => ar.getD k 0 == 1).map (fun (i : Nat) => PyData.int i) = nats (having ar 1) from rfl]
  refine ⟨_, rfl, Sl.noConfusion, _, rfl, _, _, rfl, rfl, _, rfl, by rw [nats_len]; omega, by rw [nats_len]; omega, ?_⟩
  rw [show (((nats ar).length : Nat) : Int).toNat = ar.length by rw [nats_len]; rfl]
  refine wLc_filter (fun (i : Nat) => PyData.int i) (fun (i : Nat) => PyData.int i) (fun k => ar.getD k 0 == 0) (List.range ar.length) [] w (fun a ha Q hQ => ?_) (fun a ha Q hQ => ⟨_, rfl, hQ⟩) (by rw [List.length_nil, List.length_range]; omega) ?_
  · refine ⟨_, rfl, Sl.noConfusion, _, rfl, Sl.noConfusion, _, _, rfl, rfl, _, _, _, rfl, rfl, nats_at (List.mem_range.mp ha), _, _, rfl, rfl, shp_int _, shp_int _, _, rfl, ?_⟩
    rw [show PyData.eqv (.int ((ar.getD a 0 : Nat) : Int)) (.int 0) = (ar.getD a 0 == 0) from eqv_nat _ 0]
    exact hQ
  rw [List.nil_append, show ((List.range ar.length).filter fun k => ar.getD k 0 == 0).map (fun (i : Nat) => PyData.int i) = nats (having ar 0) from rfl]
  refine ⟨_, rfl, Sl.noConfusion, _, rfl, _, _, rfl, rfl, _, rfl, by rw [nats_len]; omega, by rw [nats_len]; omega, ?_⟩
  rw [show (((nats ar).length : Nat) : Int).toNat = ar.length by rw [nats_len]; rfl]
  refine wLc_filter (fun (i : Nat) => PyData.int i) (fun (i : Nat) => PyData.int i) (fun k => ar.getD k 0 == 2) (List.range ar.length) [] w (fun a ha Q hQ => ?_) (fun a ha Q hQ => ⟨_, rfl, hQ⟩) (by rw [List.length_nil, List.length_range]; omega) ?_
  · refine ⟨_, rfl, Sl.noConfusion, _, rfl, Sl.noConfusion, _, _, rfl, rfl, _, _, _, rfl, rfl, nats_at (List.mem_range.mp ha), _, _, rfl, rfl, shp_int _, shp_int _, _, rfl, ?_⟩
    rw [show PyData.eqv (.int ((ar.getD a 0 : Nat) : Int)) (.int 2) = (ar.getD a 0 == 2) from eqv_nat _ 2]
    exact hQ
  rw [List.nil_append, show ((List.range ar.length).filter fun k => ar.getD k 0 == 2).map (fun (i : Nat) => PyData.int i) = nats (having ar 2) from rfl]
  refine ⟨_, rfl, Sl.noConfusion, _, rfl, Sl.noConfusion, _, rfl, Sl.noConfusion, having ar 0, j, fr, n + 8, rfl, hp, by have := having_len ar 0; omega, hj, hc, hfl, hn, fun m s fr' hm hL => ?_⟩
  have sh : (∃ x, s = .var x) ∨ ∃ c, s = .node c [] := by
    rcases hL with ⟨i, x, _, e, _⟩ | ⟨c, _, e, _⟩
    · exact .inl ⟨x, e⟩
    · exact .inr ⟨c, e⟩
  refine ⟨_, rfl, Sl.noConfusion, le0, _, _, rfl, rfl, shp_nats _, shp_nil, _, rfl, ?_⟩
  rw [eqv_nil]
  cases h2 : (nats (having ar 2)).isEmpty with
  | true =>
    refine iteF ?_
    refine iteF ?_
    refine ⟨_, rfl, Sl.noConfusion, le0, _, _, rfl, rfl, shp_nats _, shp_nil, _, rfl, ?_⟩
    rw [eqv_nil]
    cases hb : (nats (having ar 1)).isEmpty with
    | true =>
      refine iteF ?_
      have hD0 : having ar 1 = [] → (0 : Int) = 0 := fun _ => rfl
      refine ⟨_, rfl, Sl.noConfusion, _, rfl, _, rfl, ?_⟩
      rcases sh with ⟨x, e⟩ | ⟨c, e⟩
      · rw [show subTy (tyOf s.d) "tuple" = false by rw [e]; exact Sh.ty_var x]
        refine iteF ?_
        refine ⟨_, rfl, 0, rfl, by omega, by omega, ?_⟩
        have hs : s.dep = 0 := by rw [e]; rfl
        have hJ : (Int.toNat 0 : Int) = 0 := Int.toNat_of_nonneg (by omega)
        refine ⟨fun k env w' => ∃ (m' : Nat) (t : Sh) (s9 s10 : Sl), env = [.pen, .val (.list (nats ar)), .sh j, .val (.int room), .val (.list (nats (having ar 1))), .val (.list (nats (having ar 0))), .val (.list (nats (having ar 2))), .val t.d, .val (.int 0), s9, s10] ∧ w' = ⟨m', w.os.set j (some (fr'.map PyData.str))⟩ ∧ n + 3 ≤ m' + k ∧ t.okA ar ∧ t.parts = s.parts + k ∧ t.dep = s.dep + k ∧ t.vars = s.vars, ⟨m, s, _, _, rfl, rfl, by omega, hL.okA, rfl, rfl, rfl⟩, ?_, ?_⟩
        · rintro k x _ _ hx ⟨m', t, s9, s10, rfl, rfl, hm', ht, hp1, hd1, hv⟩
          have hk := upTo_at hx
          have hk2 : k < 3 := by omega
          have nb : having ar 1 ≠ [] := fun e => by
            have := hD0 e
            omega
          refine ⟨_, rfl, Sl.noConfusion, _, rfl, Sl.noConfusion, _, _, nats (having ar 1), m' - 1, rfl, Sl.noConfusion, fun _ => rfl, rfl, fun e => nb (List.map_eq_nil_iff.mp e), by rw [nats_len]; have := having_len ar 1; omega, by show m' = m' - 1 + 1; omega, fun z hz => ?_⟩
          obtain ⟨c, hc', rfl⟩ := List.mem_map.mp hz
          exact ⟨_, rfl, le2, m' - 1, .node c [t], _, _, rfl, rfl, by omega, ⟨having_at hc', ht, trivial⟩, by show t.parts + 0 + 1 = _; omega, by show max t.dep 0 + 1 = _; omega, by show t.vars ++ [] = _; rw [List.append_nil]; exact hv⟩
        · rintro _ _ ⟨m', t, s9, s10, rfl, rfl, hm', ht, hp1, hd1, hv⟩
          rw [upTo_len] at hm' hp1 hd1
          refine ⟨_, rfl, ?_⟩
          rw [cut_set]
          have a1 := hL.parts
          refine h m' t fr' (by omega) ⟨ht, by omega, by omega, ?_⟩
          rw [hv]
          exact hL.perm
      · rw [show subTy (tyOf s.d) "tuple" = true by rw [e]; exact Sh.ty_node c []]
        refine iteT ?_
        refine ⟨_, rfl, Sl.noConfusion, _, rfl, 0, 1, rfl, _, rfl, by split <;> omega, by split <;> omega, ?_⟩
        have hs : s.dep = 1 := by rw [e]; rfl
        have hJ : (Int.toNat (if (1 : Int) < 0 then 1 else 0) : Int) ≤ 0 ∧ (Int.toNat (if (1 : Int) < 0 then 1 else 0) : Int) ≤ 1 := by
          rw [Int.toNat_of_nonneg (by split <;> omega)]
          split <;> omega
        refine ⟨fun k env w' => ∃ (m' : Nat) (t : Sh) (s9 s10 : Sl), env = [.pen, .val (.list (nats ar)), .sh j, .val (.int room), .val (.list (nats (having ar 1))), .val (.list (nats (having ar 0))), .val (.list (nats (having ar 2))), .val t.d, .val (.int 0), s9, s10] ∧ w' = ⟨m', w.os.set j (some (fr'.map PyData.str))⟩ ∧ n + 3 ≤ m' + k ∧ t.okA ar ∧ t.parts = s.parts + k ∧ t.dep = s.dep + k ∧ t.vars = s.vars, ⟨m, s, _, _, rfl, rfl, by omega, hL.okA, rfl, rfl, rfl⟩, ?_, ?_⟩
        · rintro k x _ _ hx ⟨m', t, s9, s10, rfl, rfl, hm', ht, hp1, hd1, hv⟩
          have hk := upTo_at hx
          have hk2 : k < 3 := by omega
          have nb : having ar 1 ≠ [] := fun e => by
            have := hD0 e
            omega
          refine ⟨_, rfl, Sl.noConfusion, _, rfl, Sl.noConfusion, _, _, nats (having ar 1), m' - 1, rfl, Sl.noConfusion, fun _ => rfl, rfl, fun e => nb (List.map_eq_nil_iff.mp e), by rw [nats_len]; have := having_len ar 1; omega, by show m' = m' - 1 + 1; omega, fun z hz => ?_⟩
          obtain ⟨c, hc', rfl⟩ := List.mem_map.mp hz
          exact ⟨_, rfl, le2, m' - 1, .node c [t], _, _, rfl, rfl, by omega, ⟨having_at hc', ht, trivial⟩, by show t.parts + 0 + 1 = _; omega, by show max t.dep 0 + 1 = _; omega, by show t.vars ++ [] = _; rw [List.append_nil]; exact hv⟩
        · rintro _ _ ⟨m', t, s9, s10, rfl, rfl, hm', ht, hp1, hd1, hv⟩
          rw [upTo_len] at hm' hp1 hd1
          refine ⟨_, rfl, ?_⟩
          rw [cut_set]
          have a1 := hL.parts
          refine h m' t fr' (by omega) ⟨ht, by omega, by omega, ?_⟩
          rw [hv]
          exact hL.perm
    | false =>
      refine iteT ?_
      refine ⟨_, rfl, Sl.noConfusion, le8, _, _, [.int 0, .int 0, .int 0, .int 0, .int 1, .int 1, .int 2, .int 3], m - 1, rfl, Sl.noConfusion, fun _ => rfl, rfl, List.cons_ne_nil _ _, by show 8 < 1000; omega, by show m = m - 1 + 1; omega, fun z hz => ?_⟩
      obtain ⟨d0, rfl, dl, du⟩ := deep_mem hz
      refine ⟨_, rfl, Sl.noConfusion, _, _, rfl, rfl, room, 1, rfl, rfl, _, rfl, d0, room - 1, rfl, ?_⟩
      have hD : 0 ≤ (if room - 1 < d0 then room - 1 else d0) ∧ (if room - 1 < d0 then room - 1 else d0) ≤ 3 ∧ (if room - 1 < d0 then room - 1 else d0) ≤ room - 1 := by split <;> omega
      generalize (if room - 1 < d0 then room - 1 else d0) = D at hD ⊢
      obtain ⟨D1, D2, D3⟩ := hD
      have hD0 : having ar 1 = [] → D = 0 := fun e => by
        rw [e] at hb
        cases hb
      refine ⟨_, rfl, Sl.noConfusion, _, rfl, _, rfl, ?_⟩
      rcases sh with ⟨x, e⟩ | ⟨c, e⟩
      · rw [show subTy (tyOf s.d) "tuple" = false by rw [e]; exact Sh.ty_var x]
        refine iteF ?_
        refine ⟨_, rfl, D, rfl, by omega, by omega, ?_⟩
        have hs : s.dep = 0 := by rw [e]; rfl
        have hJ : (Int.toNat D : Int) = D := Int.toNat_of_nonneg (by omega)
        refine ⟨fun k env w' => ∃ (m' : Nat) (t : Sh) (s9 s10 : Sl), env = [.pen, .val (.list (nats ar)), .sh j, .val (.int room), .val (.list (nats (having ar 1))), .val (.list (nats (having ar 0))), .val (.list (nats (having ar 2))), .val t.d, .val (.int D), s9, s10] ∧ w' = ⟨m', w.os.set j (some (fr'.map PyData.str))⟩ ∧ n + 3 ≤ m' + k ∧ t.okA ar ∧ t.parts = s.parts + k ∧ t.dep = s.dep + k ∧ t.vars = s.vars, ⟨(m - 1), s, _, _, rfl, rfl, by omega, hL.okA, rfl, rfl, rfl⟩, ?_, ?_⟩
        · rintro k x _ _ hx ⟨m', t, s9, s10, rfl, rfl, hm', ht, hp1, hd1, hv⟩
          have hk := upTo_at hx
          have hk2 : k < 3 := by omega
          have nb : having ar 1 ≠ [] := fun e => by
            have := hD0 e
            omega
          refine ⟨_, rfl, Sl.noConfusion, _, rfl, Sl.noConfusion, _, _, nats (having ar 1), m' - 1, rfl, Sl.noConfusion, fun _ => rfl, rfl, fun e => nb (List.map_eq_nil_iff.mp e), by rw [nats_len]; have := having_len ar 1; omega, by show m' = m' - 1 + 1; omega, fun z hz => ?_⟩
          obtain ⟨c, hc', rfl⟩ := List.mem_map.mp hz
          exact ⟨_, rfl, le2, m' - 1, .node c [t], _, _, rfl, rfl, by omega, ⟨having_at hc', ht, trivial⟩, by show t.parts + 0 + 1 = _; omega, by show max t.dep 0 + 1 = _; omega, by show t.vars ++ [] = _; rw [List.append_nil]; exact hv⟩
        · rintro _ _ ⟨m', t, s9, s10, rfl, rfl, hm', ht, hp1, hd1, hv⟩
          rw [upTo_len] at hm' hp1 hd1
          refine ⟨_, rfl, ?_⟩
          rw [cut_set]
          have a1 := hL.parts
          refine h m' t fr' (by omega) ⟨ht, by omega, by omega, ?_⟩
          rw [hv]
          exact hL.perm
      · rw [show subTy (tyOf s.d) "tuple" = true by rw [e]; exact Sh.ty_node c []]
        refine iteT ?_
        refine ⟨_, rfl, Sl.noConfusion, _, rfl, D, 1, rfl, _, rfl, by split <;> omega, by split <;> omega, ?_⟩
        have hs : s.dep = 1 := by rw [e]; rfl
        have hJ : (Int.toNat (if (1 : Int) < D then 1 else D) : Int) ≤ D ∧ (Int.toNat (if (1 : Int) < D then 1 else D) : Int) ≤ 1 := by
          rw [Int.toNat_of_nonneg (by split <;> omega)]
          split <;> omega
        refine ⟨fun k env w' => ∃ (m' : Nat) (t : Sh) (s9 s10 : Sl), env = [.pen, .val (.list (nats ar)), .sh j, .val (.int room), .val (.list (nats (having ar 1))), .val (.list (nats (having ar 0))), .val (.list (nats (having ar 2))), .val t.d, .val (.int D), s9, s10] ∧ w' = ⟨m', w.os.set j (some (fr'.map PyData.str))⟩ ∧ n + 3 ≤ m' + k ∧ t.okA ar ∧ t.parts = s.parts + k ∧ t.dep = s.dep + k ∧ t.vars = s.vars, ⟨(m - 1), s, _, _, rfl, rfl, by omega, hL.okA, rfl, rfl, rfl⟩, ?_, ?_⟩
        · rintro k x _ _ hx ⟨m', t, s9, s10, rfl, rfl, hm', ht, hp1, hd1, hv⟩
          have hk := upTo_at hx
          have hk2 : k < 3 := by omega
          have nb : having ar 1 ≠ [] := fun e => by
            have := hD0 e
            omega
          refine ⟨_, rfl, Sl.noConfusion, _, rfl, Sl.noConfusion, _, _, nats (having ar 1), m' - 1, rfl, Sl.noConfusion, fun _ => rfl, rfl, fun e => nb (List.map_eq_nil_iff.mp e), by rw [nats_len]; have := having_len ar 1; omega, by show m' = m' - 1 + 1; omega, fun z hz => ?_⟩
          obtain ⟨c, hc', rfl⟩ := List.mem_map.mp hz
          exact ⟨_, rfl, le2, m' - 1, .node c [t], _, _, rfl, rfl, by omega, ⟨having_at hc', ht, trivial⟩, by show t.parts + 0 + 1 = _; omega, by show max t.dep 0 + 1 = _; omega, by show t.vars ++ [] = _; rw [List.append_nil]; exact hv⟩
        · rintro _ _ ⟨m', t, s9, s10, rfl, rfl, hm', ht, hp1, hd1, hv⟩
          rw [upTo_len] at hm' hp1 hd1
          refine ⟨_, rfl, ?_⟩
          rw [cut_set]
          have a1 := hL.parts
          refine h m' t fr' (by omega) ⟨ht, by omega, by omega, ?_⟩
          rw [hv]
          exact hL.perm
  | false =>
    refine iteT ?_
    refine ⟨_, rfl, Sl.noConfusion, _, _, rfl, rfl, room, 2, rfl, rfl, _, rfl, ?_⟩
    refine ite2 (fun r3 => ?_) (fun _ => ?_)
    · have r3 := of_decide_eq_true r3
      refine ⟨_, rfl, Sl.noConfusion, 6, m - 1, rfl, by decide, by decide, by show m = m - 1 + 1; omega, fun r q0 q1 => ?_⟩
      refine ⟨_, _, rfl, rfl, shp_int _, shp_int _, _, rfl, ?_⟩
      refine ite2 (fun _ => ?_) (fun _ => ?_)
      · have jl : j < w.os.length := by
          rcases Nat.lt_or_ge j w.os.length with l | l
          · exact l
          · rw [List.getElem?_eq_none l] at hj
            cases hj
        have sb := hL.sub
        refine ⟨_, rfl, Sl.noConfusion, _, rfl, Sl.noConfusion, _, _, nats (having ar 2), m - 2, rfl, Sl.noConfusion, fun _ => rfl, rfl, (fun e => by rw [e] at h2; cases h2), by rw [nats_len]; have := having_len ar 2; omega, by show m - 1 = m - 2 + 1; omega, fun z hz => ?_⟩
        obtain ⟨c, hc', rfl⟩ := List.mem_map.mp hz
        refine ⟨_, rfl, _, rfl, Sl.noConfusion, _, rfl, Sl.noConfusion, _, rfl, Sl.noConfusion, having ar 0, j, fr', m - 4, rfl, hp, by have := having_len ar 0; omega, List.getElem?_set_self jl, fun x hx => hc x (sb.1 x hx), by omega, by show m - 2 = m - 4 + 2; omega, fun m2 t fr2 hm2 hL2 => ?_⟩
        refine ⟨le3, ?_⟩
        show P (.tuple [.int (c : Nat), s.d, t.d]) (cut w ⟨m2, (w.os.set j (some (fr'.map PyData.str))).set j (some (fr2.map PyData.str))⟩)
        rw [List.set_set, cut_set]
        exact h m2 (.node c [s, t]) fr2 (by omega) (pair_arg hL hL2 hc' (by omega))
      · skip
        refine ⟨_, rfl, Sl.noConfusion, le0, _, _, rfl, rfl, shp_nats _, shp_nil, _, rfl, ?_⟩
        rw [eqv_nil]
        cases hb : (nats (having ar 1)).isEmpty with
        | true =>
          refine iteF ?_
          have hD0 : having ar 1 = [] → (0 : Int) = 0 := fun _ => rfl
          refine ⟨_, rfl, Sl.noConfusion, _, rfl, _, rfl, ?_⟩
          rcases sh with ⟨x, e⟩ | ⟨c, e⟩
          · rw [show subTy (tyOf s.d) "tuple" = false by rw [e]; exact Sh.ty_var x]
            refine iteF ?_
            refine ⟨_, rfl, 0, rfl, by omega, by omega, ?_⟩
            have hs : s.dep = 0 := by rw [e]; rfl
            have hJ : (Int.toNat 0 : Int) = 0 := Int.toNat_of_nonneg (by omega)
            refine ⟨fun k env w' => ∃ (m' : Nat) (t : Sh) (s9 s10 : Sl), env = [.pen, .val (.list (nats ar)), .sh j, .val (.int room), .val (.list (nats (having ar 1))), .val (.list (nats (having ar 0))), .val (.list (nats (having ar 2))), .val t.d, .val (.int 0), s9, s10] ∧ w' = ⟨m', w.os.set j (some (fr'.map PyData.str))⟩ ∧ n + 3 ≤ m' + k ∧ t.okA ar ∧ t.parts = s.parts + k ∧ t.dep = s.dep + k ∧ t.vars = s.vars, ⟨(m - 1), s, _, _, rfl, rfl, by omega, hL.okA, rfl, rfl, rfl⟩, ?_, ?_⟩
            · rintro k x _ _ hx ⟨m', t, s9, s10, rfl, rfl, hm', ht, hp1, hd1, hv⟩
              have hk := upTo_at hx
              have hk2 : k < 3 := by omega
              have nb : having ar 1 ≠ [] := fun e => by
                have := hD0 e
                omega
              refine ⟨_, rfl, Sl.noConfusion, _, rfl, Sl.noConfusion, _, _, nats (having ar 1), m' - 1, rfl, Sl.noConfusion, fun _ => rfl, rfl, fun e => nb (List.map_eq_nil_iff.mp e), by rw [nats_len]; have := having_len ar 1; omega, by show m' = m' - 1 + 1; omega, fun z hz => ?_⟩
              obtain ⟨c, hc', rfl⟩ := List.mem_map.mp hz
              exact ⟨_, rfl, le2, m' - 1, .node c [t], _, _, rfl, rfl, by omega, ⟨having_at hc', ht, trivial⟩, by show t.parts + 0 + 1 = _; omega, by show max t.dep 0 + 1 = _; omega, by show t.vars ++ [] = _; rw [List.append_nil]; exact hv⟩
            · rintro _ _ ⟨m', t, s9, s10, rfl, rfl, hm', ht, hp1, hd1, hv⟩
              rw [upTo_len] at hm' hp1 hd1
              refine ⟨_, rfl, ?_⟩
              rw [cut_set]
              have a1 := hL.parts
              refine h m' t fr' (by omega) ⟨ht, by omega, by omega, ?_⟩
              rw [hv]
              exact hL.perm
          · rw [show subTy (tyOf s.d) "tuple" = true by rw [e]; exact Sh.ty_node c []]
            refine iteT ?_
            refine ⟨_, rfl, Sl.noConfusion, _, rfl, 0, 1, rfl, _, rfl, by split <;> omega, by split <;> omega, ?_⟩
            have hs : s.dep = 1 := by rw [e]; rfl
            have hJ : (Int.toNat (if (1 : Int) < 0 then 1 else 0) : Int) ≤ 0 ∧ (Int.toNat (if (1 : Int) < 0 then 1 else 0) : Int) ≤ 1 := by
              rw [Int.toNat_of_nonneg (by split <;> omega)]
              split <;> omega
            refine ⟨fun k env w' => ∃ (m' : Nat) (t : Sh) (s9 s10 : Sl), env = [.pen, .val (.list (nats ar)), .sh j, .val (.int room), .val (.list (nats (having ar 1))), .val (.list (nats (having ar 0))), .val (.list (nats (having ar 2))), .val t.d, .val (.int 0), s9, s10] ∧ w' = ⟨m', w.os.set j (some (fr'.map PyData.str))⟩ ∧ n + 3 ≤ m' + k ∧ t.okA ar ∧ t.parts = s.parts + k ∧ t.dep = s.dep + k ∧ t.vars = s.vars, ⟨(m - 1), s, _, _, rfl, rfl, by omega, hL.okA, rfl, rfl, rfl⟩, ?_, ?_⟩
            · rintro k x _ _ hx ⟨m', t, s9, s10, rfl, rfl, hm', ht, hp1, hd1, hv⟩
              have hk := upTo_at hx
              have hk2 : k < 3 := by omega
              have nb : having ar 1 ≠ [] := fun e => by
                have := hD0 e
                omega
              refine ⟨_, rfl, Sl.noConfusion, _, rfl, Sl.noConfusion, _, _, nats (having ar 1), m' - 1, rfl, Sl.noConfusion, fun _ => rfl, rfl, fun e => nb (List.map_eq_nil_iff.mp e), by rw [nats_len]; have := having_len ar 1; omega, by show m' = m' - 1 + 1; omega, fun z hz => ?_⟩
              obtain ⟨c, hc', rfl⟩ := List.mem_map.mp hz
              exact ⟨_, rfl, le2, m' - 1, .node c [t], _, _, rfl, rfl, by omega, ⟨having_at hc', ht, trivial⟩, by show t.parts + 0 + 1 = _; omega, by show max t.dep 0 + 1 = _; omega, by show t.vars ++ [] = _; rw [List.append_nil]; exact hv⟩
            · rintro _ _ ⟨m', t, s9, s10, rfl, rfl, hm', ht, hp1, hd1, hv⟩
              rw [upTo_len] at hm' hp1 hd1
              refine ⟨_, rfl, ?_⟩
              rw [cut_set]
              have a1 := hL.parts
              refine h m' t fr' (by omega) ⟨ht, by omega, by omega, ?_⟩
              rw [hv]
              exact hL.perm
        | false =>
          refine iteT ?_
          refine ⟨_, rfl, Sl.noConfusion, le8, _, _, [.int 0, .int 0, .int 0, .int 0, .int 1, .int 1, .int 2, .int 3], (m - 1) - 1, rfl, Sl.noConfusion, fun _ => rfl, rfl, List.cons_ne_nil _ _, by show 8 < 1000; omega, by show (m - 1) = (m - 1) - 1 + 1; omega, fun z hz => ?_⟩
          obtain ⟨d0, rfl, dl, du⟩ := deep_mem hz
          refine ⟨_, rfl, Sl.noConfusion, _, _, rfl, rfl, room, 1, rfl, rfl, _, rfl, d0, room - 1, rfl, ?_⟩
          have hD : 0 ≤ (if room - 1 < d0 then room - 1 else d0) ∧ (if room - 1 < d0 then room - 1 else d0) ≤ 3 ∧ (if room - 1 < d0 then room - 1 else d0) ≤ room - 1 := by split <;> omega
          generalize (if room - 1 < d0 then room - 1 else d0) = D at hD ⊢
          obtain ⟨D1, D2, D3⟩ := hD
          have hD0 : having ar 1 = [] → D = 0 := fun e => by
            rw [e] at hb
            cases hb
          refine ⟨_, rfl, Sl.noConfusion, _, rfl, _, rfl, ?_⟩
          rcases sh with ⟨x, e⟩ | ⟨c, e⟩
          · rw [show subTy (tyOf s.d) "tuple" = false by rw [e]; exact Sh.ty_var x]
            refine iteF ?_
            refine ⟨_, rfl, D, rfl, by omega, by omega, ?_⟩
            have hs : s.dep = 0 := by rw [e]; rfl
            have hJ : (Int.toNat D : Int) = D := Int.toNat_of_nonneg (by omega)
            refine ⟨fun k env w' => ∃ (m' : Nat) (t : Sh) (s9 s10 : Sl), env = [.pen, .val (.list (nats ar)), .sh j, .val (.int room), .val (.list (nats (having ar 1))), .val (.list (nats (having ar 0))), .val (.list (nats (having ar 2))), .val t.d, .val (.int D), s9, s10] ∧ w' = ⟨m', w.os.set j (some (fr'.map PyData.str))⟩ ∧ n + 3 ≤ m' + k ∧ t.okA ar ∧ t.parts = s.parts + k ∧ t.dep = s.dep + k ∧ t.vars = s.vars, ⟨((m - 1) - 1), s, _, _, rfl, rfl, by omega, hL.okA, rfl, rfl, rfl⟩, ?_, ?_⟩
            · rintro k x _ _ hx ⟨m', t, s9, s10, rfl, rfl, hm', ht, hp1, hd1, hv⟩
              have hk := upTo_at hx
              have hk2 : k < 3 := by omega
              have nb : having ar 1 ≠ [] := fun e => by
                have := hD0 e
                omega
              refine ⟨_, rfl, Sl.noConfusion, _, rfl, Sl.noConfusion, _, _, nats (having ar 1), m' - 1, rfl, Sl.noConfusion, fun _ => rfl, rfl, fun e => nb (List.map_eq_nil_iff.mp e), by rw [nats_len]; have := having_len ar 1; omega, by show m' = m' - 1 + 1; omega, fun z hz => ?_⟩
              obtain ⟨c, hc', rfl⟩ := List.mem_map.mp hz
              exact ⟨_, rfl, le2, m' - 1, .node c [t], _, _, rfl, rfl, by omega, ⟨having_at hc', ht, trivial⟩, by show t.parts + 0 + 1 = _; omega, by show max t.dep 0 + 1 = _; omega, by show t.vars ++ [] = _; rw [List.append_nil]; exact hv⟩
            · rintro _ _ ⟨m', t, s9, s10, rfl, rfl, hm', ht, hp1, hd1, hv⟩
              rw [upTo_len] at hm' hp1 hd1
              refine ⟨_, rfl, ?_⟩
              rw [cut_set]
              have a1 := hL.parts
              refine h m' t fr' (by omega) ⟨ht, by omega, by omega, ?_⟩
              rw [hv]
              exact hL.perm
          · rw [show subTy (tyOf s.d) "tuple" = true by rw [e]; exact Sh.ty_node c []]
            refine iteT ?_
            refine ⟨_, rfl, Sl.noConfusion, _, rfl, D, 1, rfl, _, rfl, by split <;> omega, by split <;> omega, ?_⟩
            have hs : s.dep = 1 := by rw [e]; rfl
            have hJ : (Int.toNat (if (1 : Int) < D then 1 else D) : Int) ≤ D ∧ (Int.toNat (if (1 : Int) < D then 1 else D) : Int) ≤ 1 := by
              rw [Int.toNat_of_nonneg (by split <;> omega)]
              split <;> omega
            refine ⟨fun k env w' => ∃ (m' : Nat) (t : Sh) (s9 s10 : Sl), env = [.pen, .val (.list (nats ar)), .sh j, .val (.int room), .val (.list (nats (having ar 1))), .val (.list (nats (having ar 0))), .val (.list (nats (having ar 2))), .val t.d, .val (.int D), s9, s10] ∧ w' = ⟨m', w.os.set j (some (fr'.map PyData.str))⟩ ∧ n + 3 ≤ m' + k ∧ t.okA ar ∧ t.parts = s.parts + k ∧ t.dep = s.dep + k ∧ t.vars = s.vars, ⟨((m - 1) - 1), s, _, _, rfl, rfl, by omega, hL.okA, rfl, rfl, rfl⟩, ?_, ?_⟩
            · rintro k x _ _ hx ⟨m', t, s9, s10, rfl, rfl, hm', ht, hp1, hd1, hv⟩
              have hk := upTo_at hx
              have hk2 : k < 3 := by omega
              have nb : having ar 1 ≠ [] := fun e => by
                have := hD0 e
                omega
              refine ⟨_, rfl, Sl.noConfusion, _, rfl, Sl.noConfusion, _, _, nats (having ar 1), m' - 1, rfl, Sl.noConfusion, fun _ => rfl, rfl, fun e => nb (List.map_eq_nil_iff.mp e), by rw [nats_len]; have := having_len ar 1; omega, by show m' = m' - 1 + 1; omega, fun z hz => ?_⟩
              obtain ⟨c, hc', rfl⟩ := List.mem_map.mp hz
              exact ⟨_, rfl, le2, m' - 1, .node c [t], _, _, rfl, rfl, by omega, ⟨having_at hc', ht, trivial⟩, by show t.parts + 0 + 1 = _; omega, by show max t.dep 0 + 1 = _; omega, by show t.vars ++ [] = _; rw [List.append_nil]; exact hv⟩
            · rintro _ _ ⟨m', t, s9, s10, rfl, rfl, hm', ht, hp1, hd1, hv⟩
              rw [upTo_len] at hm' hp1 hd1
              refine ⟨_, rfl, ?_⟩
              rw [cut_set]
              have a1 := hL.parts
              refine h m' t fr' (by omega) ⟨ht, by omega, by omega, ?_⟩
              rw [hv]
              exact hL.perm
    · refine iteF ?_
      refine ⟨_, rfl, Sl.noConfusion, le0, _, _, rfl, rfl, shp_nats _, shp_nil, _, rfl, ?_⟩
      rw [eqv_nil]
      cases hb : (nats (having ar 1)).isEmpty with
      | true =>
        refine iteF ?_
        have hD0 : having ar 1 = [] → (0 : Int) = 0 := fun _ => rfl
        refine ⟨_, rfl, Sl.noConfusion, _, rfl, _, rfl, ?_⟩
        rcases sh with ⟨x, e⟩ | ⟨c, e⟩
        · rw [show subTy (tyOf s.d) "tuple" = false by rw [e]; exact Sh.ty_var x]
          refine iteF ?_
          refine ⟨_, rfl, 0, rfl, by omega, by omega, ?_⟩
          have hs : s.dep = 0 := by rw [e]; rfl
          have hJ : (Int.toNat 0 : Int) = 0 := Int.toNat_of_nonneg (by omega)
          refine ⟨fun k env w' => ∃ (m' : Nat) (t : Sh) (s9 s10 : Sl), env = [.pen, .val (.list (nats ar)), .sh j, .val (.int room), .val (.list (nats (having ar 1))), .val (.list (nats (having ar 0))), .val (.list (nats (having ar 2))), .val t.d, .val (.int 0), s9, s10] ∧ w' = ⟨m', w.os.set j (some (fr'.map PyData.str))⟩ ∧ n + 3 ≤ m' + k ∧ t.okA ar ∧ t.parts = s.parts + k ∧ t.dep = s.dep + k ∧ t.vars = s.vars, ⟨m, s, _, _, rfl, rfl, by omega, hL.okA, rfl, rfl, rfl⟩, ?_, ?_⟩
          · rintro k x _ _ hx ⟨m', t, s9, s10, rfl, rfl, hm', ht, hp1, hd1, hv⟩
            have hk := upTo_at hx
            have hk2 : k < 3 := by omega
            have nb : having ar 1 ≠ [] := fun e => by
              have := hD0 e
              omega
            refine ⟨_, rfl, Sl.noConfusion, _, rfl, Sl.noConfusion, _, _, nats (having ar 1), m' - 1, rfl, Sl.noConfusion, fun _ => rfl, rfl, fun e => nb (List.map_eq_nil_iff.mp e), by rw [nats_len]; have := having_len ar 1; omega, by show m' = m' - 1 + 1; omega, fun z hz => ?_⟩
            obtain ⟨c, hc', rfl⟩ := List.mem_map.mp hz
            exact ⟨_, rfl, le2, m' - 1, .node c [t], _, _, rfl, rfl, by omega, ⟨having_at hc', ht, trivial⟩, by show t.parts + 0 + 1 = _; omega, by show max t.dep 0 + 1 = _; omega, by show t.vars ++ [] = _; rw [List.append_nil]; exact hv⟩
          · rintro _ _ ⟨m', t, s9, s10, rfl, rfl, hm', ht, hp1, hd1, hv⟩
            rw [upTo_len] at hm' hp1 hd1
            refine ⟨_, rfl, ?_⟩
            rw [cut_set]
            have a1 := hL.parts
            refine h m' t fr' (by omega) ⟨ht, by omega, by omega, ?_⟩
            rw [hv]
            exact hL.perm
        · rw [show subTy (tyOf s.d) "tuple" = true by rw [e]; exact Sh.ty_node c []]
          refine iteT ?_
          refine ⟨_, rfl, Sl.noConfusion, _, rfl, 0, 1, rfl, _, rfl, by split <;> omega, by split <;> omega, ?_⟩
          have hs : s.dep = 1 := by rw [e]; rfl
          have hJ : (Int.toNat (if (1 : Int) < 0 then 1 else 0) : Int) ≤ 0 ∧ (Int.toNat (if (1 : Int) < 0 then 1 else 0) : Int) ≤ 1 := by
            rw [Int.toNat_of_nonneg (by split <;> omega)]
            split <;> omega
          refine ⟨fun k env w' => ∃ (m' : Nat) (t : Sh) (s9 s10 : Sl), env = [.pen, .val (.list (nats ar)), .sh j, .val (.int room), .val (.list (nats (having ar 1))), .val (.list (nats (having ar 0))), .val (.list (nats (having ar 2))), .val t.d, .val (.int 0), s9, s10] ∧ w' = ⟨m', w.os.set j (some (fr'.map PyData.str))⟩ ∧ n + 3 ≤ m' + k ∧ t.okA ar ∧ t.parts = s.parts + k ∧ t.dep = s.dep + k ∧ t.vars = s.vars, ⟨m, s, _, _, rfl, rfl, by omega, hL.okA, rfl, rfl, rfl⟩, ?_, ?_⟩
          · rintro k x _ _ hx ⟨m', t, s9, s10, rfl, rfl, hm', ht, hp1, hd1, hv⟩
            have hk := upTo_at hx
            have hk2 : k < 3 := by omega
            have nb : having ar 1 ≠ [] := fun e => by
              have := hD0 e
              omega
            refine ⟨_, rfl, Sl.noConfusion, _, rfl, Sl.noConfusion, _, _, nats (having ar 1), m' - 1, rfl, Sl.noConfusion, fun _ => rfl, rfl, fun e => nb (List.map_eq_nil_iff.mp e), by rw [nats_len]; have := having_len ar 1; omega, by show m' = m' - 1 + 1; omega, fun z hz => ?_⟩
            obtain ⟨c, hc', rfl⟩ := List.mem_map.mp hz
            exact ⟨_, rfl, le2, m' - 1, .node c [t], _, _, rfl, rfl, by omega, ⟨having_at hc', ht, trivial⟩, by show t.parts + 0 + 1 = _; omega, by show max t.dep 0 + 1 = _; omega, by show t.vars ++ [] = _; rw [List.append_nil]; exact hv⟩
          · rintro _ _ ⟨m', t, s9, s10, rfl, rfl, hm', ht, hp1, hd1, hv⟩
            rw [upTo_len] at hm' hp1 hd1
            refine ⟨_, rfl, ?_⟩
            rw [cut_set]
            have a1 := hL.parts
            refine h m' t fr' (by omega) ⟨ht, by omega, by omega, ?_⟩
            rw [hv]
            exact hL.perm
      | false =>
        refine iteT ?_
        refine ⟨_, rfl, Sl.noConfusion, le8, _, _, [.int 0, .int 0, .int 0, .int 0, .int 1, .int 1, .int 2, .int 3], m - 1, rfl, Sl.noConfusion, fun _ => rfl, rfl, List.cons_ne_nil _ _, by show 8 < 1000; omega, by show m = m - 1 + 1; omega, fun z hz => ?_⟩
        obtain ⟨d0, rfl, dl, du⟩ := deep_mem hz
        refine ⟨_, rfl, Sl.noConfusion, _, _, rfl, rfl, room, 1, rfl, rfl, _, rfl, d0, room - 1, rfl, ?_⟩
        have hD : 0 ≤ (if room - 1 < d0 then room - 1 else d0) ∧ (if room - 1 < d0 then room - 1 else d0) ≤ 3 ∧ (if room - 1 < d0 then room - 1 else d0) ≤ room - 1 := by split <;> omega
        generalize (if room - 1 < d0 then room - 1 else d0) = D at hD ⊢
        obtain ⟨D1, D2, D3⟩ := hD
        have hD0 : having ar 1 = [] → D = 0 := fun e => by
          rw [e] at hb
          cases hb
        refine ⟨_, rfl, Sl.noConfusion, _, rfl, _, rfl, ?_⟩
        rcases sh with ⟨x, e⟩ | ⟨c, e⟩
        · rw [show subTy (tyOf s.d) "tuple" = false by rw [e]; exact Sh.ty_var x]
          refine iteF ?_
          refine ⟨_, rfl, D, rfl, by omega, by omega, ?_⟩
          have hs : s.dep = 0 := by rw [e]; rfl
          have hJ : (Int.toNat D : Int) = D := Int.toNat_of_nonneg (by omega)
          refine ⟨fun k env w' => ∃ (m' : Nat) (t : Sh) (s9 s10 : Sl), env = [.pen, .val (.list (nats ar)), .sh j, .val (.int room), .val (.list (nats (having ar 1))), .val (.list (nats (having ar 0))), .val (.list (nats (having ar 2))), .val t.d, .val (.int D), s9, s10] ∧ w' = ⟨m', w.os.set j (some (fr'.map PyData.str))⟩ ∧ n + 3 ≤ m' + k ∧ t.okA ar ∧ t.parts = s.parts + k ∧ t.dep = s.dep + k ∧ t.vars = s.vars, ⟨(m - 1), s, _, _, rfl, rfl, by omega, hL.okA, rfl, rfl, rfl⟩, ?_, ?_⟩
          · rintro k x _ _ hx ⟨m', t, s9, s10, rfl, rfl, hm', ht, hp1, hd1, hv⟩
            have hk := upTo_at hx
            have hk2 : k < 3 := by omega
            have nb : having ar 1 ≠ [] := fun e => by
              have := hD0 e
              omega
            refine ⟨_, rfl, Sl.noConfusion, _, rfl, Sl.noConfusion, _, _, nats (having ar 1), m' - 1, rfl, Sl.noConfusion, fun _ => rfl, rfl, fun e => nb (List.map_eq_nil_iff.mp e), by rw [nats_len]; have := having_len ar 1; omega, by show m' = m' - 1 + 1; omega, fun z hz => ?_⟩
            obtain ⟨c, hc', rfl⟩ := List.mem_map.mp hz
            exact ⟨_, rfl, le2, m' - 1, .node c [t], _, _, rfl, rfl, by omega, ⟨having_at hc', ht, trivial⟩, by show t.parts + 0 + 1 = _; omega, by show max t.dep 0 + 1 = _; omega, by show t.vars ++ [] = _; rw [List.append_nil]; exact hv⟩
          · rintro _ _ ⟨m', t, s9, s10, rfl, rfl, hm', ht, hp1, hd1, hv⟩
            rw [upTo_len] at hm' hp1 hd1
            refine ⟨_, rfl, ?_⟩
            rw [cut_set]
            have a1 := hL.parts
            refine h m' t fr' (by omega) ⟨ht, by omega, by omega, ?_⟩
            rw [hv]
            exact hL.perm
        · rw [show subTy (tyOf s.d) "tuple" = true by rw [e]; exact Sh.ty_node c []]
          refine iteT ?_
          refine ⟨_, rfl, Sl.noConfusion, _, rfl, D, 1, rfl, _, rfl, by split <;> omega, by split <;> omega, ?_⟩
          have hs : s.dep = 1 := by rw [e]; rfl
          have hJ : (Int.toNat (if (1 : Int) < D then 1 else D) : Int) ≤ D ∧ (Int.toNat (if (1 : Int) < D then 1 else D) : Int) ≤ 1 := by
            rw [Int.toNat_of_nonneg (by split <;> omega)]
            split <;> omega
          refine ⟨fun k env w' => ∃ (m' : Nat) (t : Sh) (s9 s10 : Sl), env = [.pen, .val (.list (nats ar)), .sh j, .val (.int room), .val (.list (nats (having ar 1))), .val (.list (nats (having ar 0))), .val (.list (nats (having ar 2))), .val t.d, .val (.int D), s9, s10] ∧ w' = ⟨m', w.os.set j (some (fr'.map PyData.str))⟩ ∧ n + 3 ≤ m' + k ∧ t.okA ar ∧ t.parts = s.parts + k ∧ t.dep = s.dep + k ∧ t.vars = s.vars, ⟨(m - 1), s, _, _, rfl, rfl, by omega, hL.okA, rfl, rfl, rfl⟩, ?_, ?_⟩
          · rintro k x _ _ hx ⟨m', t, s9, s10, rfl, rfl, hm', ht, hp1, hd1, hv⟩
            have hk := upTo_at hx
            have hk2 : k < 3 := by omega
            have nb : having ar 1 ≠ [] := fun e => by
              have := hD0 e
              omega
            refine ⟨_, rfl, Sl.noConfusion, _, rfl, Sl.noConfusion, _, _, nats (having ar 1), m' - 1, rfl, Sl.noConfusion, fun _ => rfl, rfl, fun e => nb (List.map_eq_nil_iff.mp e), by rw [nats_len]; have := having_len ar 1; omega, by show m' = m' - 1 + 1; omega, fun z hz => ?_⟩
            obtain ⟨c, hc', rfl⟩ := List.mem_map.mp hz
            exact ⟨_, rfl, le2, m' - 1, .node c [t], _, _, rfl, rfl, by omega, ⟨having_at hc', ht, trivial⟩, by show t.parts + 0 + 1 = _; omega, by show max t.dep 0 + 1 = _; omega, by show t.vars ++ [] = _; rw [List.append_nil]; exact hv⟩
          · rintro _ _ ⟨m', t, s9, s10, rfl, rfl, hm', ht, hp1, hd1, hv⟩
            rw [upTo_len] at hm' hp1 hd1
            refine ⟨_, rfl, ?_⟩
            rw [cut_set]
            have a1 := hL.parts
            refine h m' t fr' (by omega) ⟨ht, by omega, by omega, ?_⟩
            rw [hv]
            exact hL.perm

end
end Kin

namespace Dl
open PySem PySem.Spec PyProof.Rows L2
open Evl (Ex sz_of sz_lt)
section
variable {K : PySem.W.Frag} {T : List Addr} {ta tb te : TE} {ma mb m : DTE} {mx my : DTX}
theorem fresh0 {pe : Pe} {F H F1 H1 : Hp} {r : Addr} (f : Fr pe F H F1 H1) (nr : H1 r = none) : H r = none := by
  cases z : H r with
  | none => rfl
  | some u => exact absurd nr (f.dom r (by rw [z]; simp))
/-- x[lo:hi], x a list -/
theorem dn_slice {tl th : TO} {ml mh : DTO} (h : DX K T te mx) (hl : DO K T tl ml) (hh : DO K T th mh) : DN K T (tSl (rSlD K) te tl th) (fun env n P => mx env n fun s n1 => ml env n1 fun lo n2 => mh env n2 fun hi n3 =>
    ∃ ds, see n3 s = some (.list ds) ∧ P (Dl.cutD ds lo hi) n3) := by
  constructor
  intro pe F H σ env n P Q R p q
  refine h.run pe F H σ env n _ _ R p fun x F1 H1 s n1 f1 p1 h1 g1 => ?_
  refine hl.run pe F1 H1 σ env n1 _ _ (R.step f1 p1) g1 fun lo F2 H2 n2 f2 p2 g2 => ?_
  refine hh.run pe F2 H2 σ env n2 _ _ ((R.step f1 p1).step f2 p2) g2 fun hi F3 H3 n3 f3 p3 ⟨ds, e, g3⟩ => ?_
  have hz := see_dz p3 (h1.ex (f2.ff.trans f3.ff)) e
  have ff := (f1.trans f2).trans f3
  obtain ⟨a, vs, rfl, z1, z2⟩ := dz_list f3.fh hz
  refine .inl ⟨a, vs, rfl, SqL.of z1, fun r nr => ?_⟩
  exact q r F3 _ _ _ n3 (ff.trans (Fr.mine f3.fh nr)) (p3.mut (p3.far nr)) (fresh0 ff nr) upd_same (Evl.fresh_back f3.fh nr) (dps_cut lo hi z2) g3
/-- xs * k, xs a list that changes no more -/
theorem dn_repE (h : DE K T ta ma) (hb : DE K T tb mb) : DN K T (tOp rRep ta tb) (fun env n P => ma env n fun d n1 => mb env n1 fun e n2 => ∃ (xs : List PyData) (k : Int), d = .list xs ∧ e = .int k ∧ -(2 ^ 63) ≤ k ∧ k < 2 ^ 63 ∧ xs.length * k.toNat ≤ 100000 ∧ P (List.replicate k.toNat xs).flatten n2) := by
  constructor
  intro pe F H σ env n P Q R p q
  refine h.run pe F H σ env n _ _ R p fun x F1 H1 d n1 f1 p1 h1 g1 => ?_
  refine hb.run pe F1 H1 σ env n1 _ _ (R.step f1 p1) g1 fun y F2 H2 e n2 f2 p2 h2 ⟨xs, k, e0, e1, b1, b2, l, g2⟩ => ?_
  subst e0 e1
  have ey := dp_int h2
  subst ey
  cases h1 with
  | @lst a vs _ ha hv =>
    have ha2 : H2 a = some (.lst vs) := f2.fh _ _ (f2.ff _ _ ha)
    have hv2 := dp_exs f2.ff hv
    refine ⟨a, k, vs, rfl, rfl, ha2, b1, b2, by rw [dps_len hv]; exact sz_of l, fun r nr => ?_⟩
    have ff := f1.trans f2
    exact q r F2 _ _ _ n2 (ff.trans (Fr.mine f2.fh nr)) (p2.mut (p2.far nr)) (fresh0 ff nr) upd_same (Evl.fresh_back f2.fh nr) (dps_rep hv2 _) g2
end
end Dl

namespace Kin
open PySem PySem.Spec PyProof.Rows L2 Dl
open Evl (Ex sz_of sz_lt)
abbrev s_member : Stmt := topS 42
abbrev N_member : List Str := ["_law_pen", "_law_arities", "_law_number", "_law_free", "_law_pairs", "_law_first", "_law_k"]
theorem sc_member : FnScope N_member ["_law_pen", "_law_arities", "_law_number"] (defScope s_member) := ⟨rfl, rfl, rfl, by decide +kernel, rfl, by decide +kernel, by decide +kernel⟩
/-- the letters of a class with m parameters -/
def letters (m : Nat) : List Str := (["a", "b"] : List Str).take m
theorem letters_ok {m : Nat} : ∀ x ∈ letters m, PyData.canLay0 (.str x) = true := by
  intro x hx
  have h : x ∈ (["a", "b"] : List Str) := List.mem_of_mem_take hx
  have all : ∀ x ∈ (["a", "b"] : List Str), PyData.canLay0 (.str x) = true := by decide +kernel
  exact all x h
theorem cut_letters {m : Nat} (h : m ≤ 2) : Dl.cutD [PyData.str "a", .str "b"] none (some (m : Int)) = (letters m).map PyData.str := by
  have h : m = 0 ∨ m = 1 ∨ m = 2 := by omega
  rcases h with rfl | rfl | rfl <;> rfl
theorem cut_own {w : Ws} {k : Nat} {x : Option (List PyData)} : cut w ⟨k, w.os ++ [x]⟩ = ⟨k, w.os⟩ := by
  unfold cut
  show Ws.mk k ((w.os ++ [x]).take w.os.length) = _
  rw [List.take_left']
  rfl
theorem set_own {os : List (Option (List PyData))} {x y : Option (List PyData)} : (os ++ [x]).set os.length y = os ++ [y] := by
  rw [List.set_append_right _ _ (Nat.le_refl _), Nat.sub_self]
  rfl
theorem get_own {os : List (Option (List PyData))} {x : Option (List PyData)} : (os ++ [x])[os.length]? = some x := by
  rw [List.getElem?_append_right (Nat.le_refl _), Nat.sub_self]
  rfl
/-- a shape that may be a member's: of a class with m parameters -/
structure MemOk (ar : List Nat) (m : Nat) (s : Sh) : Prop where
  ok : s.okA ar
  parts : s.parts ≤ 5
  dep : s.dep ≤ 3
  vars : ∀ x ∈ s.vars, x ∈ letters m
/-- member(pen, arities, number) -/
def mfMember : DF := fun ss w P => ∃ (ar : List Nat) (c m n : Nat), ss = [.pen, .val (.list (nats ar)), .val (.int (c : Nat))] ∧ ar.length < 1000 ∧ having ar 0 ≠ [] ∧ ar[c]? = some m ∧ m ≤ 2 ∧ w.n = n + 24 ∧ ∀ k s, n ≤ k → MemOk ar m s → P s.d ⟨k, w.os⟩
section
variable {P : Program} {w : World} {K : PySem.W.Frag} {mg : Str → Option Value} {base : Heap} {Ts : List Addr}
theorem ok_member {f fT fO fA : Addr} {fd fdT fdO fdA : FuncData} {cdv : Value} {k : Nat} (F : FunV K "_law_member" "_law_member" s_member f fd cdv) (T : TD mg) (hK : KTy K)
    (G_law_take : FnG P w K mg base k fT fdT ["_law_pen", "_law_many"] (spD K Ts mfTake)) (m_law_take : mg "_law_take" = some (.ref fT)) (k_law_take : PySem.W.keepIn K (.ref fT) = true) (b_law_take : Binds K fdT ["_law_pen", "_law_many"] [])
    (G_law_one : FnG P w K mg base k fO fdO ["_law_pen", "_law_some"] (spD K Ts mfOne)) (m_law_one : mg "_law_one" = some (.ref fO)) (k_law_one : PySem.W.keepIn K (.ref fO) = true) (b_law_one : Binds K fdO ["_law_pen", "_law_some"] [])
    (G_law_argument : FnG P w K mg base k fA fdA ["_law_pen", "_law_arities", "_law_free", "_law_room"] (spD K Ts mfArg)) (m_law_argument : mg "_law_argument" = some (.ref fA)) (k_law_argument : PySem.W.keepIn K (.ref fA) = true) (b_law_argument : Binds K fdA ["_law_pen", "_law_arities", "_law_free", "_law_room"] []) :
    FnG P w K mg base (k + 1) f fd ["_law_pen", "_law_arities", "_law_number"] (spD K Ts mfMember) := by
  refine FnG.weak (okD F sc_member (fun A outer s H E hg hr => ⟨_, (pss_cons (ps_set (i := 3) sc_member.nd rfl (Or.inl rfl) (pe_op op_rep (pe_slice (slK K rfl) (pe_lst (pa_cons pe_str (pa_cons pe_str pa_nil))) po_none (po_some (pe_ix (ixK K rfl) (pv 1) (pv 2) (fun _ _ => rfl)))) pe_int))
    (pss_cons (ps_setLc (i := 4) (own := [("_law_k", 6)]) (tt := _) rfl sc_member.nd rfl rfl (sw_true rfl rfl rfl (by decide +kernel)) (pi_range1 (by rfl) T.m_range (pa_cons (pe_callB (lenK K rfl) (by rfl) T.m_len PySem.boot_len (pa_cons (pv 1) pa_nil)) pa_nil)) (blkOk_by (N := N_member) (sc := defScope s_member) (by decide +kernel)) (fun _ _ _ _ _ => (pg_name (i := 6) sc_member.nd rfl (Or.inl rfl))) (fun _ _ _ _ _ => pts_one (pt_cmpR (eqK K rfl (units64 hr)) (pe_ix (ixK K rfl) (pv 1) (pv 6) (fun _ _ => rfl)) pe_int (nomark _))) (fun _ _ _ _ _ => (pv 6)))
    (pss_cons (ps_if (PW.pt (pw_and (pt_cmpR (neK K rfl (units64 hr)) (pv 4) (pe_lst pa_nil) (nomark _)) (pw_and1 (pt_cmpR (eqK K rfl (units64 hr)) (pe_callG G_law_take hg hr (by rfl) m_law_take k_law_take b_law_take (pa_cons (pv 0) (pa_cons pe_int pa_nil))) pe_int (nomark _))))) (pss_cons (ps_set (i := 5) sc_member.nd rfl (Or.inl rfl) (pe_callG G_law_argument hg hr (by rfl) m_law_argument k_law_argument b_law_argument (pa_cons (pv 0) (pa_cons (pv 1) (pa_cons (pv 3) (pa_cons pe_int pa_nil))))))
    (pss_one (ps_ret (pe_tup (pa_cons (pe_callG G_law_one hg hr (by rfl) m_law_one k_law_one b_law_one (pa_cons (pv 0) (pa_cons (pv 4) pa_nil))) (pa_cons (pv 5) (pa_cons (pe_callG G_law_argument hg hr (by rfl) m_law_argument k_law_argument b_law_argument (pa_cons (pv 0) (pa_cons (pv 1) (pa_cons (pv 3) (pa_cons pe_int pa_nil))))) pa_nil))))))) pss_nil)
    (pss_one (ps_ret (pe_callG G_law_argument hg hr (by rfl) m_law_argument k_law_argument b_law_argument (pa_cons (pv 0) (pa_cons (pv 1) (pa_cons (pv 3) (pa_cons pe_int pa_nil)))))))))), by repeat first
        | (with_reducible apply ds_own (i := 3); apply dn_repE)
        | (with_reducible apply ds_asg)
        | exact de_int
        | exact de_str
        | exact de_bl
        | exact de_non
        | exact de_var
        | exact dx_var
        | exact ds_retN
        | exact ds_next
        | exact ds_brk
        | exact ds_cont
        | exact dt_yes
        | exact dv_nil
        | exact da_nil
        | exact dgs_nil
        | exact dg_name
        | exact do_none
        | (with_reducible apply ds_seq)
        | (with_reducible apply ds_ret)
        | (with_reducible apply ds_if)
        | (with_reducible apply ds_forI)
        | (with_reducible apply ds_whileI)
        | (with_reducible apply ds_drop)
        | apply dg_tup
        | apply dgs_cons
        | apply di_any
        | apply di_range
        | apply dt_test
        | apply dt_B
        | apply dt_and
        | apply dt_or
        | apply dt_not
        | apply dx_of
        | apply de_tup
        | apply dv_cons
        | apply da_cons
        | apply do_some
        | apply de_if
        | apply de_not
        | apply de_and
        | apply de_or
        | (apply de_new; apply dn_lst)
        | apply de_op dr_ix
        | apply de_op dr_eq
        | apply de_op dr_ne
        | apply de_op dr_inA
        | apply de_op dr_catT
        | apply de_op dr_catL
        | apply de_op dr_add
        | apply de_op dr_sub
        | apply de_op dr_mul
        | apply de_op dr_mod
        | apply de_op dr_fdiv
        | apply de_op dr_lt
        | apply de_op dr_le
        | apply de_op dr_gt
        | apply de_op dr_ge
        | apply de_op dr_isN
        | apply de_op dr_notN
        | apply de_op dr_addS
        | apply de_slice
        | (apply de_isi; rotate_left 1; assumption; decide; rotate_right 1)
        | apply de_cb dc_len
        | apply de_cb dc_lenS
        | apply de_cb dc_int
        | apply de_cb dc_min2
        | apply de_cb dc_max2
        | apply de_cb dc_tuple
        | (apply de_new; apply dn_cb dcn_list)
        | apply de_call
        | apply de_m dm_append
        | apply de_m dm_insert
        | apply de_m dm_popAt
        | apply de_m0 dm_pop
        | apply de_extend
        | (apply de_new; apply dn_lcN)
        | (apply de_new; apply dn_rep; apply dn_lst)
        | (apply de_genN; rotate_left 2; assumption; rotate_right 2)⟩)) (spD_weak fun ss w P h => ?_)
  obtain ⟨ar, c, m, n, rfl, hl, hp, hcm, hm, hn, h⟩ := h
  refine ⟨rfl, ?_⟩
  dsimp only
  have hlt : c < ar.length := by
    rcases Nat.lt_or_ge c ar.length with l | l
    · exact l
    · rw [List.getElem?_eq_none l] at hcm
      cases hcm
  have hg : ar.getD c 0 = m := by
    rw [List.getD_eq_getElem?_getD, hcm]
    rfl
  have hll : (letters m).length ≤ 2 := by
    unfold letters
    rw [List.length_take]
    show min m 2 ≤ 2
    omega
  refine ⟨le2, _, rfl, Sl.noConfusion, _, rfl, Sl.noConfusion, _, _, rfl, rfl, _, _, _, rfl, rfl, nats_at hlt, _, rfl, _, rfl, .inl ⟨_, rfl, _, 2, rfl, rfl, by decide, by decide, ?_, ?_⟩⟩
  · rw [hg, show Dl.cutD [PyData.str (Str.ofString "a"), PyData.str (Str.ofString "b")] none (some (m : Int)) = (letters m).map PyData.str from cut_letters hm, List.length_map]
    show (letters m).length * 2 ≤ 100000
    omega
  rw [hg, show Dl.cutD [PyData.str (Str.ofString "a"), PyData.str (Str.ofString "b")] none (some (m : Int)) = (letters m).map PyData.str from cut_letters hm]
  rw [show (List.replicate (Int.toNat 2) ((letters m).map PyData.str)).flatten = (letters m ++ letters m).map PyData.str by
    show (letters m).map PyData.str ++ ((letters m).map PyData.str ++ []) = _
    rw [List.append_nil, List.map_append]]
  have hf1 : ∀ x ∈ letters m ++ letters m, x ∈ letters m := fun x hx => (List.mem_append.mp hx).elim id id
  have hf2 : (letters m ++ letters m).length ≤ 4 := by
    rw [List.length_append]
    omega
  generalize letters m ++ letters m = fr at hf1 hf2 ⊢
  refine ⟨_, rfl, Sl.noConfusion, _, rfl, _, _, rfl, rfl, _, rfl, by rw [nats_len]; omega, by rw [nats_len]; omega, ?_⟩
  rw [show (((nats ar).length : Nat) : Int).toNat = ar.length by rw [nats_len]; rfl]
  refine wLc_filter (fun (i : Nat) => PyData.int i) (fun (i : Nat) => PyData.int i) (fun k => ar.getD k 0 == 2) (List.range ar.length) [] _ (fun a ha Q hQ => ?_) (fun a ha Q hQ => ⟨_, rfl, hQ⟩) (by rw [List.length_nil, List.length_range]; omega) ?_
  · refine ⟨_, rfl, Sl.noConfusion, _, rfl, Sl.noConfusion, _, _, rfl, rfl, _, _, _, rfl, rfl, nats_at (List.mem_range.mp ha), _, _, rfl, rfl, shp_int _, shp_int _, _, rfl, ?_⟩
    rw [show PyData.eqv (.int ((ar.getD a 0 : Nat) : Int)) (.int 2) = (ar.getD a 0 == 2) from eqv_nat _ 2]
    exact hQ
  rw [List.nil_append, show ((List.range ar.length).filter fun k => ar.getD k 0 == 2).map (fun (i : Nat) => PyData.int i) = nats (having ar 2) from rfl]
  refine ⟨_, rfl, Sl.noConfusion, le0, _, _, rfl, rfl, shp_nats _, shp_nil, _, rfl, ?_⟩
  rw [eqv_nil]
  cases h2 : (nats (having ar 2)).isEmpty with
  | true =>
    refine iteF ?_
    refine iteF ?_
    refine ⟨_, rfl, Sl.noConfusion, _, rfl, Sl.noConfusion, _, rfl, Sl.noConfusion, ar, w.os.length, fr, 4, (n + 14), rfl, hl, hp, by decide, by decide, get_own, fun x hx => letters_ok x (hf1 x hx), by omega, hn, fun k s fr' hk hA => ?_⟩
    show P s.d (cut w ⟨k, (w.os ++ [some (fr.map PyData.str)]).set w.os.length (some (fr'.map PyData.str))⟩)
    rw [set_own, cut_own]
    obtain ⟨a1, a2, a3, a4⟩ := hA
    exact h k s (by omega) ⟨a1, by omega, by omega, fun x hx => hf1 x (a4.subset (List.mem_append_left _ hx))⟩
  | false =>
    refine iteT ?_
    refine ⟨_, rfl, Sl.noConfusion, 4, n + 23, rfl, by decide, by decide, hn, fun r q0 q1 => ?_⟩
    refine ⟨_, _, rfl, rfl, shp_int _, shp_int _, _, rfl, ?_⟩
    refine ite2 (fun _ => ?_) (fun _ => ?_)
    · refine ⟨_, rfl, Sl.noConfusion, _, rfl, Sl.noConfusion, _, rfl, Sl.noConfusion, ar, w.os.length, fr, 2, n + 13, rfl, hl, hp, by decide, by decide, get_own, fun x hx => letters_ok x (hf1 x hx), by omega, rfl, fun k1 s1 fr1 hk1 hA1 => ?_⟩
      obtain ⟨a1, a2, a3, a4⟩ := hA1
      have hf3 : ∀ x ∈ fr1, x ∈ letters m := fun x hx => hf1 x (a4.subset (List.mem_append_right _ hx))
      have hf4 : fr1.length ≤ 4 := by
        have := a4.length_eq
        rw [List.length_append] at this
        omega
      refine ⟨_, rfl, Sl.noConfusion, _, rfl, Sl.noConfusion, _, _, nats (having ar 2), k1 - 1, rfl, Sl.noConfusion, fun _ => rfl, rfl, (fun e => by rw [e] at h2; cases h2), by rw [nats_len]; have := having_len ar 2; omega, by show k1 = k1 - 1 + 1; omega, fun z hz => ?_⟩
      obtain ⟨c2, hc2, rfl⟩ := List.mem_map.mp hz
      refine ⟨_, rfl, _, rfl, Sl.noConfusion, _, rfl, Sl.noConfusion, _, rfl, Sl.noConfusion, ar, w.os.length, fr1, 2, k1 - 11, rfl, hl, hp, by decide, by decide, ?_, fun x hx => letters_ok x (hf3 x hx), by omega, by show k1 - 1 = k1 - 11 + 10; omega, fun k2 s2 fr2 hk2 hA2 => ?_⟩
      · show ((w.os ++ [some (fr.map PyData.str)]).set w.os.length (some (fr1.map PyData.str)))[w.os.length]? = _
        rw [set_own, get_own]
      obtain ⟨b1, b2, b3, b4⟩ := hA2
      refine ⟨le3, ?_⟩
      show P (.tuple [.int (c2 : Nat), s1.d, s2.d]) (cut w ⟨k2, ((w.os ++ [some (fr.map PyData.str)]).set w.os.length (some (fr1.map PyData.str))).set w.os.length (some (fr2.map PyData.str))⟩)
      rw [set_own, set_own, cut_own]
      refine h k2 (.node c2 [s1, s2]) (by omega) ⟨⟨having_at hc2, a1, b1, trivial⟩, ?_, ?_, fun x hx => ?_⟩
      · show s1.parts + (s2.parts + 0) + 1 ≤ 5
        omega
      · show max s1.dep (max s2.dep 0) + 1 ≤ 3
        omega
      · have hx : x ∈ s1.vars ++ (s2.vars ++ []) := hx
        rw [List.append_nil] at hx
        rcases List.mem_append.mp hx with hx | hx
        · exact hf1 x (a4.subset (List.mem_append_left _ hx))
        · exact hf3 x (b4.subset (List.mem_append_left _ hx))
    · skip
      refine ⟨_, rfl, Sl.noConfusion, _, rfl, Sl.noConfusion, _, rfl, Sl.noConfusion, ar, w.os.length, fr, 4, (n + 13), rfl, hl, hp, by decide, by decide, get_own, fun x hx => letters_ok x (hf1 x hx), by omega, rfl, fun k s fr' hk hA => ?_⟩
      show P s.d (cut w ⟨k, (w.os ++ [some (fr.map PyData.str)]).set w.os.length (some (fr'.map PyData.str))⟩)
      rw [set_own, cut_own]
      obtain ⟨a1, a2, a3, a4⟩ := hA
      exact h k s (by omega) ⟨a1, by omega, by omega, fun x hx => hf1 x (a4.subset (List.mem_append_left _ hx))⟩
end
end Kin

namespace Kin
open PySem PySem.Spec PyProof.Rows L2 Dl
open Evl (Ex sz_of sz_lt)
abbrev s_super : Stmt := topS 43
abbrev N_super : List Str := ["_law_pen", "_law_arities", "_law_number", "_law_room", "_law_top", "_law_free", "_law_other", "_law_rest", "_law_shape", "_law_k"]
theorem sc_super : FnScope N_super ["_law_pen", "_law_arities", "_law_number", "_law_room", "_law_top"] (defScope s_super) := ⟨rfl, rfl, rfl, by decide +kernel, rfl, by decide +kernel, by decide +kernel⟩
/-- a shape that may be a super of a class with m parameters, of one of the first top classes -/
structure SupOk (ar : List Nat) (m top : Nat) (s : Sh) : Prop where
  ok : s.okA ar
  parts : s.parts ≤ 5
  dep : s.dep ≤ 3
  vars : ∀ x ∈ s.vars, x ∈ letters m
  once : s.vars.Nodup
  node : ∃ o as, s = .node o as ∧ o < top
theorem letters_once (m : Nat) : (letters m).Nodup := by
  have h : (["a", "b"] : List Str).Nodup := by decide +kernel
  exact h.sublist (List.take_sublist _ _)
namespace Sh
theorem ds_app (as bs : List Sh) : ds (as ++ bs) = ds as ++ ds bs := by
  rw [ds_map, ds_map, ds_map, List.map_append]
theorem okAs_app {ar : List Nat} : ∀ {as : List Sh} {s : Sh}, okAs ar as → okA ar s → okAs ar (as ++ [s])
  | [], _, _, h => ⟨h, trivial⟩
  | _ :: _, _, ⟨a, b⟩, h => ⟨a, okAs_app b h⟩
theorem parts_app : ∀ (as : List Sh) (s : Sh), partsL (as ++ [s]) = partsL as + parts s
  | [], s => by show parts s + 0 = 0 + parts s; omega
  | a :: as, s => by
    show parts a + partsL (as ++ [s]) = parts a + partsL as + parts s
    rw [parts_app as s]
    omega
theorem deps_app : ∀ (as : List Sh) (s : Sh), deps (as ++ [s]) = max (deps as) (dep s)
  | [], s => by show max (dep s) 0 = max 0 (dep s); omega
  | a :: as, s => by
    show max (dep a) (deps (as ++ [s])) = max (max (dep a) (deps as)) (dep s)
    rw [deps_app as s]
    omega
theorem vars_app : ∀ (as : List Sh) (s : Sh), varsL (as ++ [s]) = varsL as ++ vars s
  | [], s => by show vars s ++ [] = [] ++ vars s; rw [List.append_nil]; rfl
  | a :: as, s => by
    show vars a ++ varsL (as ++ [s]) = vars a ++ varsL as ++ vars s
    rw [vars_app as s, List.append_assoc]
end Sh
/-- super(pen, arities, number, 3, top) -/
def mfSuper : DF := fun ss w P => ∃ (ar : List Nat) (c m top n : Nat), ss = [.pen, .val (.list (nats ar)), .val (.int (c : Nat)), .val (.int 3), .val (.int (top : Nat))] ∧ ar.length < 1000 ∧ having ar 0 ≠ [] ∧ ar[c]? = some m ∧ m ≤ 2 ∧ (∀ x ∈ ar, x ≤ 2) ∧ 0 < top ∧ top ≤ ar.length ∧ w.n = n + 24 ∧ ∀ k s, n ≤ k → SupOk ar m top s → P s.d ⟨k, w.os⟩
section
variable {P : Program} {w : World} {K : PySem.W.Frag} {mg : Str → Option Value} {base : Heap} {Ts : List Addr}
theorem ok_super {f fT fA : Addr} {fd fdT fdA : FuncData} {cdv : Value} {k : Nat} (F : FunV K "_law_super" "_law_super" s_super f fd cdv) (T : TD mg) (T2 : TE2 mg) (hK : KTy K)
    (G_law_take : FnG P w K mg base k fT fdT ["_law_pen", "_law_many"] (spD K Ts mfTake)) (m_law_take : mg "_law_take" = some (.ref fT)) (k_law_take : PySem.W.keepIn K (.ref fT) = true) (b_law_take : Binds K fdT ["_law_pen", "_law_many"] [])
    (G_law_argument : FnG P w K mg base k fA fdA ["_law_pen", "_law_arities", "_law_free", "_law_room"] (spD K Ts mfArg)) (m_law_argument : mg "_law_argument" = some (.ref fA)) (k_law_argument : PySem.W.keepIn K (.ref fA) = true) (b_law_argument : Binds K fdA ["_law_pen", "_law_arities", "_law_free", "_law_room"] []) :
    FnG P w K mg base (k + 1) f fd ["_law_pen", "_law_arities", "_law_number", "_law_room", "_law_top"] (spD K Ts mfSuper) := by
  refine FnG.weak (okD F sc_super (fun A outer s H E hg hr => ⟨_, (pss_cons (ps_set (i := 5) sc_super.nd rfl (Or.inl rfl) (pe_slice (slK K rfl) (pe_lst (pa_cons pe_str (pa_cons pe_str pa_nil))) po_none (po_some (pe_ix (ixK K rfl) (pv 1) (pv 2) (fun _ _ => rfl)))))
    (pss_cons (ps_set (i := 6) sc_super.nd rfl (Or.inl rfl) (pe_callG G_law_take hg hr (by rfl) m_law_take k_law_take b_law_take (pa_cons (pv 0) (pa_cons (pv 4) pa_nil))))
    (pss_cons (ps_set (i := 7) sc_super.nd rfl (Or.inl rfl) (pe_ifExp (pt_cmpR op_lt (pe_ix (ixK K rfl) (pv 1) (pv 6) (fun _ _ => rfl)) pe_int (nomark _)) pe_int pe_int))
    (pss_cons (ps_set (i := 8) sc_super.nd rfl (Or.inl rfl) (pe_tup (pa_cons (pv 6) pa_nil)))
    (pss_cons (ps_for PassesOwn.never rfl (pi_range1 (by rfl) T.m_range (pa_cons (pe_ix (ixK K rfl) (pv 1) (pv 6) (fun _ _ => rfl)) pa_nil)) (pg_name (i := 9) sc_super.nd rfl (Or.inl rfl))
    (pss_one (ps_set (i := 8) sc_super.nd rfl (Or.inl rfl) (pe_op (catK K rfl) (pv 8) (pe_tup (pa_cons (pe_callG G_law_argument hg hr (by rfl) m_law_argument k_law_argument b_law_argument (pa_cons (pv 0) (pa_cons (pv 1) (pa_cons (pv 5) (pa_cons (pe_callB (call_min2 rfl) (by rfl) T2.m_min PyProof.Rows.boot_min (pa_cons (pv 3) (pa_cons (pv 7) pa_nil))) pa_nil))))) pa_nil))))))
    (pss_one (ps_ret (pv 8)))))))), by repeat first
        | (with_reducible apply ds_own (i := 5); apply dn_slice)
        | (with_reducible apply ds_asg)
        | exact de_int
        | exact de_str
        | exact de_bl
        | exact de_non
        | exact de_var
        | exact dx_var
        | exact ds_retN
        | exact ds_next
        | exact ds_brk
        | exact ds_cont
        | exact dt_yes
        | exact dv_nil
        | exact da_nil
        | exact dgs_nil
        | exact dg_name
        | exact do_none
        | (with_reducible apply ds_seq)
        | (with_reducible apply ds_ret)
        | (with_reducible apply ds_if)
        | (with_reducible apply ds_forI)
        | (with_reducible apply ds_whileI)
        | (with_reducible apply ds_drop)
        | apply dg_tup
        | apply dgs_cons
        | apply di_any
        | apply di_range
        | apply dt_test
        | apply dt_B
        | apply dt_and
        | apply dt_or
        | apply dt_not
        | apply dx_of
        | apply de_tup
        | apply dv_cons
        | apply da_cons
        | apply do_some
        | apply de_if
        | apply de_not
        | apply de_and
        | apply de_or
        | (apply de_new; apply dn_lst)
        | apply de_op dr_ix
        | apply de_op dr_eq
        | apply de_op dr_ne
        | apply de_op dr_inA
        | apply de_op dr_catT
        | apply de_op dr_catL
        | apply de_op dr_add
        | apply de_op dr_sub
        | apply de_op dr_mul
        | apply de_op dr_mod
        | apply de_op dr_fdiv
        | apply de_op dr_lt
        | apply de_op dr_le
        | apply de_op dr_gt
        | apply de_op dr_ge
        | apply de_op dr_isN
        | apply de_op dr_notN
        | apply de_op dr_addS
        | apply de_slice
        | (apply de_isi; rotate_left 1; assumption; decide; rotate_right 1)
        | apply de_cb dc_len
        | apply de_cb dc_lenS
        | apply de_cb dc_int
        | apply de_cb dc_min2
        | apply de_cb dc_max2
        | apply de_cb dc_tuple
        | (apply de_new; apply dn_cb dcn_list)
        | apply de_call
        | apply de_m dm_append
        | apply de_m dm_insert
        | apply de_m dm_popAt
        | apply de_m0 dm_pop
        | apply de_extend
        | (apply de_new; apply dn_lcN)
        | (apply de_new; apply dn_rep; apply dn_lst)
        | (apply de_genN; rotate_left 2; assumption; rotate_right 2)⟩)) (spD_weak fun ss w P h => ?_)
  obtain ⟨ar, c, m, top, n, rfl, hl, hp, hcm, hm, har, t0, t1, hn, h⟩ := h
  refine ⟨rfl, ?_⟩
  dsimp only
  have hlt : c < ar.length := by
    rcases Nat.lt_or_ge c ar.length with l | l
    · exact l
    · rw [List.getElem?_eq_none l] at hcm
      cases hcm
  have hg : ar.getD c 0 = m := by
    rw [List.getD_eq_getElem?_getD, hcm]
    rfl
  have hll : (letters m).length ≤ 2 := by
    unfold letters
    rw [List.length_take]
    show min m 2 ≤ 2
    omega
  refine ⟨le2, _, rfl, Sl.noConfusion, _, rfl, Sl.noConfusion, _, _, rfl, rfl, _, _, _, rfl, rfl, nats_at hlt, _, rfl, _, rfl, ?_⟩
  rw [hg, show Dl.cutD [PyData.str (Str.ofString "a"), PyData.str (Str.ofString "b")] none (some (m : Int)) = (letters m).map PyData.str from cut_letters hm]
  refine ⟨_, rfl, Sl.noConfusion, _, rfl, Sl.noConfusion, (top : Int), n + 23, rfl, by omega, by omega, hn, fun r r0 r1 => ?_⟩
  obtain ⟨o, rfl⟩ := Int.eq_ofNat_of_zero_le r0
  have ho : o < ar.length := by omega
  refine ⟨_, rfl, Sl.noConfusion, _, rfl, Sl.noConfusion, _, _, rfl, rfl, _, _, _, rfl, rfl, nats_at ho, _, _, rfl, rfl, _, _, rfl, rfl, _, rfl, ?_⟩
  have ha : ar.getD o 0 ≤ 2 := by
    rw [List.getD_eq_getElem?_getD, List.getElem?_eq_getElem ho]
    exact har _ (List.getElem_mem ho)
  refine ite2 (fun lt => ?_) (fun ge => ?_)
  · have lt := of_decide_eq_true lt
    refine ⟨_, rfl, le1, _, rfl, Sl.noConfusion, _, rfl, Sl.noConfusion, _, _, rfl, rfl, _, _, _, rfl, rfl, nats_at ho, _, rfl, by omega, by omega, ?_⟩
    rw [show Int.toNat ((ar.getD o 0 : Nat) : Int) = ar.getD o 0 from rfl]
    refine ⟨fun k env w' => ∃ (m' : Nat) (as : List Sh) (fr' : List Str) (s9 : Sl), env = [.pen, .val (.list (nats ar)), .val (.int (c : Nat)), .val (.int 3), .val (.int (top : Nat)), .sh w.os.length, .val (.int (o : Nat)), .val (.int 4), .val (.tuple (.int (o : Nat) :: Sh.ds as)), s9] ∧
        w' = ⟨m', w.os ++ [some (fr'.map PyData.str)]⟩ ∧ n + 22 ≤ m' + 10 * k ∧ as.length = k ∧ Sh.okAs ar as ∧ Sh.partsL as ≤ 3 * k ∧ Sh.deps as ≤ 2 ∧ (Sh.varsL as ++ fr').Perm (letters m), ⟨n + 23, [], letters m, _, rfl, rfl, by omega, rfl, trivial, by show 0 ≤ _; omega, by show 0 ≤ 2; omega, List.Perm.refl _⟩, ?_, ?_⟩
    · rintro k x _ _ hx ⟨m', as, fr', s9, rfl, rfl, hm', hk, ha1, ha2, ha3, ha4⟩
      have hk1 := upTo_at hx
      have hk2 : k < 2 := by omega
      have hf : ∀ x ∈ fr', x ∈ letters m := fun x hx => ha4.subset (List.mem_append_right _ hx)
      have hf2 : fr'.length ≤ 2 := by
        have := ha4.length_eq
        rw [List.length_append] at this
        omega
      refine ⟨_, rfl, Sl.noConfusion, _, rfl, Sl.noConfusion, _, rfl, Sl.noConfusion, _, rfl, Sl.noConfusion, _, rfl, Sl.noConfusion, _, rfl, Sl.noConfusion, _, rfl, 3, 4, rfl, ar, w.os.length, fr', 3, m' - 10, rfl, hl, hp, by decide, by decide, get_own, fun x hx => letters_ok x (hf x hx), by omega, by show m' = m' - 10 + 10; omega, fun k1 s1 fr1 hk1 hA => ?_⟩
      obtain ⟨a1, a2, a3, a4⟩ := hA
      refine ⟨le1, _, _, rfl, rfl, _, _, rfl, rfl, ?_, k1, as ++ [s1], fr1, _, by rw [Sh.ds_app]; rfl, ?_, by omega, by rw [List.length_append, hk]; rfl, Sh.okAs_app ha1 a1, by rw [Sh.parts_app]; omega, by rw [Sh.deps_app]; omega, ?_⟩
      · rw [List.length_cons, Sh.ds_map, List.length_map]
        show as.length + 1 + 1 ≤ 100000
        omega
      · show Ws.mk k1 ((w.os ++ [some (fr'.map PyData.str)]).set w.os.length (some (fr1.map PyData.str))) = _
        rw [set_own]
      · rw [Sh.vars_app, List.append_assoc]
        exact (List.Perm.append_left _ a4).trans ha4
    · rintro _ _ ⟨m', as, fr', s9, rfl, rfl, hm', hk, ha1, ha2, ha3, ha4⟩
      rw [upTo_len] at hk hm' ha2
      refine ⟨_, rfl, ?_⟩
      rw [cut_own]
      refine h m' (.node o as) (by omega) ⟨⟨?_, ha1⟩, ?_, ?_, fun x hx => ha4.subset (List.mem_append_left _ hx), ?_, ⟨o, as, rfl, by omega⟩⟩
      · rw [hk, List.getD_eq_getElem?_getD, List.getElem?_eq_getElem ho]
        rfl
      · show Sh.partsL as + 1 ≤ 5
        omega
      · show Sh.deps as + 1 ≤ 3
        omega
      · have nd := ha4.nodup_iff.mpr (letters_once m)
        exact (List.nodup_append.mp nd).1
  · have ge := fun z => ge (decide_eq_true z)
    refine ⟨_, rfl, le1, _, rfl, Sl.noConfusion, _, rfl, Sl.noConfusion, _, _, rfl, rfl, _, _, _, rfl, rfl, nats_at ho, _, rfl, by omega, by omega, ?_⟩
    rw [show Int.toNat ((ar.getD o 0 : Nat) : Int) = ar.getD o 0 from rfl]
    refine ⟨fun k env w' => ∃ (m' : Nat) (as : List Sh) (fr' : List Str) (s9 : Sl), env = [.pen, .val (.list (nats ar)), .val (.int (c : Nat)), .val (.int 3), .val (.int (top : Nat)), .sh w.os.length, .val (.int (o : Nat)), .val (.int 2), .val (.tuple (.int (o : Nat) :: Sh.ds as)), s9] ∧
        w' = ⟨m', w.os ++ [some (fr'.map PyData.str)]⟩ ∧ n + 22 ≤ m' + 10 * k ∧ as.length = k ∧ Sh.okAs ar as ∧ Sh.partsL as ≤ 2 * k ∧ Sh.deps as ≤ 2 ∧ (Sh.varsL as ++ fr').Perm (letters m), ⟨n + 23, [], letters m, _, rfl, rfl, by omega, rfl, trivial, by show 0 ≤ _; omega, by show 0 ≤ 2; omega, List.Perm.refl _⟩, ?_, ?_⟩
    · rintro k x _ _ hx ⟨m', as, fr', s9, rfl, rfl, hm', hk, ha1, ha2, ha3, ha4⟩
      have hk1 := upTo_at hx
      have hk2 : k < 2 := by omega
      have hf : ∀ x ∈ fr', x ∈ letters m := fun x hx => ha4.subset (List.mem_append_right _ hx)
      have hf2 : fr'.length ≤ 2 := by
        have := ha4.length_eq
        rw [List.length_append] at this
        omega
      refine ⟨_, rfl, Sl.noConfusion, _, rfl, Sl.noConfusion, _, rfl, Sl.noConfusion, _, rfl, Sl.noConfusion, _, rfl, Sl.noConfusion, _, rfl, Sl.noConfusion, _, rfl, 3, 2, rfl, ar, w.os.length, fr', 2, m' - 10, rfl, hl, hp, by decide, by decide, get_own, fun x hx => letters_ok x (hf x hx), by omega, by show m' = m' - 10 + 10; omega, fun k1 s1 fr1 hk1 hA => ?_⟩
      obtain ⟨a1, a2, a3, a4⟩ := hA
      refine ⟨le1, _, _, rfl, rfl, _, _, rfl, rfl, ?_, k1, as ++ [s1], fr1, _, by rw [Sh.ds_app]; rfl, ?_, by omega, by rw [List.length_append, hk]; rfl, Sh.okAs_app ha1 a1, by rw [Sh.parts_app]; omega, by rw [Sh.deps_app]; omega, ?_⟩
      · rw [List.length_cons, Sh.ds_map, List.length_map]
        show as.length + 1 + 1 ≤ 100000
        omega
      · show Ws.mk k1 ((w.os ++ [some (fr'.map PyData.str)]).set w.os.length (some (fr1.map PyData.str))) = _
        rw [set_own]
      · rw [Sh.vars_app, List.append_assoc]
        exact (List.Perm.append_left _ a4).trans ha4
    · rintro _ _ ⟨m', as, fr', s9, rfl, rfl, hm', hk, ha1, ha2, ha3, ha4⟩
      rw [upTo_len] at hk hm' ha2
      refine ⟨_, rfl, ?_⟩
      rw [cut_own]
      refine h m' (.node o as) (by omega) ⟨⟨?_, ha1⟩, ?_, ?_, fun x hx => ha4.subset (List.mem_append_left _ hx), ?_, ⟨o, as, rfl, by omega⟩⟩
      · rw [hk, List.getD_eq_getElem?_getD, List.getElem?_eq_getElem ho]
        rfl
      · show Sh.partsL as + 1 ≤ 5
        omega
      · show Sh.deps as + 1 ≤ 3
        omega
      · have nd := ha4.nodup_iff.mpr (letters_once m)
        exact (List.nodup_append.mp nd).1
end
end Kin

namespace Dl
open PySem PySem.Spec PyProof.Rows L2
open Evl (Ex sz_of sz_lt)
section
variable {K : PySem.W.Frag} {T : List Addr} {ta tb te : TE} {tas : TA} {ma mb m : DTE} {mx my : DTX} {tt tu : TT} {mt mu : DTT} {t1 t2 : TS} {m1 m2 : DTS}
/-- what a comprehension is to show -/
def wLcI (mg : DTG) (mt : DTT) (me : DTE) (env : Env) (P : List PyData → Ws → Prop) (ds : List PyData) (n : Ws) : Prop := ∃ I : Nat → List PyData → Ws → Prop, I 0 [] n ∧
  (∀ k x acc n, ds[k]? = some x → I k acc n → mg (.val x) env fun env' => mt env' n fun b n1 => if b = true then me env' n1 fun y n2 => acc.length < 100000 ∧ I (k + 1) (acc ++ [y]) n2 else I (k + 1) acc n1) ∧ ∀ acc n, I ds.length acc n → P acc n
theorem dn_lcI {wi : TI} {mi : DTV} {g : TG} {mg : DTG} {vs : List Nat} (hi : DI K T wi mi) (hg : DG K g mg) (kg : Keeps g vs) (ht : DT K T tt mt) (h : DE K T te m) :
    DN K T (tLc wi g tt te vs) (fun env n P => mi env n fun ds n1 => wLcI mg mt m (wipeE env vs) P ds n1) := by
  constructor
  intro pe F H σ env n P Q R p q
  refine hi.run pe F H σ env n _ _ R p fun J F1 H1 ds n1 f1 p1 W ⟨I, g0, gs, ge⟩ D nD => ?_
  have far := p1.far nD
  have nF1 : F1 D = none := Evl.fresh_back f1.fh nD
  have nD0 : H D = none := by
    cases z : H D with
    | none => rfl
    | some u => exact absurd nD (f1.dom D (by rw [z]; simp))
  refine ⟨fun i k H' => k = ds.length - i ∧ i ≤ ds.length ∧ ∃ F' n' acc accV, Fr pe F1 H1 F' H' ∧ PenAt K pe F' H' n' ∧ F' D = none ∧ H' D = some (.lst accV) ∧ DqAll K F' accV acc ∧ I i acc n',
    ⟨_, rfl, Nat.zero_le _, F1, n1, [], [], Fr.mine f1.fh nD, p1.mut far, nF1, upd_same, .nil, g0⟩, ?_⟩
  rintro i k H' ⟨rfl, hil, F', n', acc, accV, f2, p2, nF, hD, hA, w0⟩
  have wk := W pe F' H' f2.ff f2.fh
  by_cases hlt : i < ds.length
  · obtain ⟨go, yl⟩ := wk.1 i hlt
    refine .inr ⟨go, fun H2 => i + 1 ≤ ds.length ∧ ∃ F' n' acc accV, Fr pe F1 H1 F' H2 ∧ PenAt K pe F' H2 n' ∧ F' D = none ∧ H2 D = some (.lst accV) ∧ DqAll K F' accV acc ∧ I (i + 1) acc n',
      fun H2 h2 => ⟨ds.length - (i + 1), by omega, rfl, h2.1, h2.2⟩, fun x H2 y => ?_⟩
    obtain ⟨F2, z, f3, e2, hz, hd⟩ := yl x H2 y
    have w := gs i z acc n' hd w0
    have f4 := f2.trans f3
    have er2 : EnvR K pe F2 (wipe σ vs) (wipeE env vs) := ((R.er.ff f1.ff).ff f4.ff).wipe vs
    refine kg x σ H2 _ ?_
    refine hg.run pe F2 H2 _ (wipeE env vs) x (.val z) _ _ er2 f3.fh hz w fun σ3 env3 R3 w3 => ?_
    have p3 : PenAt K pe F2 H2 n' := p2.pure f3.ff e2 f3.new
    have L3 : Lv K T pe F2 H2 σ3 env3 n' := ⟨R3, f3.fh, p3, R.tb⟩
    refine ht.run pe F2 H2 σ3 env3 n' _ _ L3 w3 fun b F5 H5 n5 f5 p5 w5 => ?_
    have nF2 : F2 D = none := f3.new D (by rw [hD]; simp) nF
    have hD2 : H2 D = some (.lst accV) := e2 _ _ hD
    have keepD : ∀ {Fa Ha Fb Hb : Hp}, Fr pe Fa Ha Fb Hb → Ha D = some (.lst accV) → Fa D = none → Hb D = some (.lst accV) ∧ Fb D = none := fun {Fa Ha Fb Hb} f h1 h2 =>
      ⟨f.hh D _ far.1 h1, f.new D (by rw [h1]; simp) h2⟩
    obtain ⟨hD5, nF5⟩ := keepD f5 hD2 nF2
    cases b with
    | false =>
      rw [if_neg Bool.false_ne_true] at w5 ⊢
      exact ⟨hlt, F5, n5, acc, accV, f4.trans f5, p5, nF5, hD5, dp_exs (f3.ff.trans f5.ff) hA, w5⟩
    | true =>
      rw [if_pos rfl] at w5 ⊢
      refine h.run pe F5 H5 σ3 env3 n5 _ _ (L3.step f5 p5) w5 fun v F6 H6 y n6 f6 p6 h6 ⟨l6, w6⟩ => ?_
      obtain ⟨hD6, nF6⟩ := keepD f6 hD5 nF5
      have aV := dps_app (dp_exs (f6.ff) (dp_exs (f3.ff.trans f5.ff) hA)) (.cons h6 .nil)
      have f7 : Fr pe F1 H1 F6 (upd H6 D (.lst (accV ++ [v]))) := by
        have f8 := (f4.trans f5).trans f6
        refine ⟨f8.ff, fun b u z => ?_, fun b u n z => ?_, fun b z y => ?_, f8.new⟩
        · rw [upd_ne (ne_of_none z nF6)]
          exact f8.fh b u z
        · rw [upd_ne (ne_of_none z nD)]
          exact f8.hh b u n z
        · by_cases e : b = D
          · rw [e, upd_same] at y
            cases y
          · rw [upd_ne e] at y
            exact f8.dom b z y
      refine ⟨accV, hD6, by rw [dps_len hA]; exact sz_lt l6, hlt, F6, n6, acc ++ [y], accV ++ [v], f7, p6.mut far, nF6, upd_same, aV, w6⟩
  · have e : i = ds.length := by omega
    subst e
    exact .inl ⟨wk.2, q D F' H' accV acc n' (f1.trans f2) p2 nD0 hD nF hA (ge acc n' w0)⟩
theorem dn_lcNI {i : Nat} {wi : TI} {mi : DTV} (hi : DI K T wi mi) (ht : DT K T tt mt) (h : DE K T te m) :
    DN K T (tLc wi (gName i) tt te [i]) (fun env n P => mi env n fun ds n1 => wLcI (fun d env P => P (env.set i d)) mt m (wipeE env [i]) P ds n1) :=
  dn_lcI hi dg_name (keeps_name (by simp)) ht h
/-- x, y = a, b -/
theorem ds_par {i j : Nat} {mv : DTA} (h : DA K T tas mv) : DS K T (tPar i j tas) (fun d env n => mv env n fun ss n1 => ∃ s t, ss = [s, t] ∧ d.nx ((env.set i s).set j t) n1) := by
  constructor
  intro pe0 F0 H0 pe F H σ env n D d R p M
  refine h.run pe F H σ env n _ _ R.lv p fun vs F1 H1 ss n1 f1 p1 h1 ⟨s, t, e, g1⟩ => ?_
  subst e
  match vs, h1 with
  | [v, u], ⟨a, b, _⟩ =>
    have R1 := R.step f1 p1
    exact ⟨v, u, rfl, M.nx pe _ _ F1 H1 n1 f1.ff (R1.env ((R1.lv.er.set i a.slot).set j b.slot)) g1⟩
theorem dg_tupN (k' : Nat) {k : Nat} {gs : TGs} {mgs : DTGs} (hk : k = k') (hs : DGs K gs mgs) : DG K (gTup K k gs) (fun d env P => ∃ ds, d = .val (.tuple ds) ∧ ds.length = k' ∧ mgs ds env P) := hk ▸ dg_tup hs
end
end Dl

namespace Kin
open PySem PySem.Spec PyProof.Rows L2 Dl
open Evl (Ex sz_of sz_lt)
/-- a class: its signs, its supers, its members (name, use, shape) -/
structure Row where
  signs : List Str
  sups : List Sh
  mems : List (Nat × Str × Sh)
def memD (x : Nat × Str × Sh) : PyData := .tuple [.int (x.1 : Nat), .str x.2.1, x.2.2.d]
def Row.d (r : Row) : PyData := .tuple [.tuple (r.signs.map PyData.str), .tuple (r.sups.map Sh.d), .tuple (r.mems.map memD)]
def tabD (t : List Row) : PyData := .tuple (t.map Row.d)
/-- what a class with m parameters, of a table with counts ar, is to be -/
structure RowOk (ar : List Nat) (m : Nat) (r : Row) : Prop where
  signs : r.signs.length = m
  sign : ∀ x ∈ r.signs, x ∈ (["+", "-", "=", "*"] : List Str)
  sups : r.sups.length ≤ 2
  sup : ∀ s ∈ r.sups, SupOk ar m ar.length s
  mems : r.mems.length ≤ 3
  mem : ∀ x ∈ r.mems, x.1 ≤ 9 ∧ x.2.1 ∈ (["get", "put", "both"] : List Str) ∧ MemOk ar m x.2.2
  once : (r.mems.map (·.1)).Nodup
/-- a table with the counts ar -/
structure TabOk (ar : List Nat) (t : List Row) : Prop where
  len : t.length = ar.length
  few : ar.length ≤ 5
  two : ∀ x ∈ ar, x ≤ 2
  row : ∀ (k : Nat) (r : Row), t[k]? = some r → RowOk ar (ar.getD k 0) r
/-- the class of a shape -/
def Sh.head : Sh → Nat
  | .var _ => 0
  | .node n _ => n
def upsOf (t : List Row) (c : Nat) : List Nat := ((t[c]?.map fun r => r.sups.map Sh.head)).getD []
theorem at1 {x y : PyData} {xs : List PyData} : atI (x :: y :: xs) 1 = some y := show atI _ ((1 : Nat) : Int) = _ from atI_nat rfl
def mfUps : DF := fun ss w P => ∃ (ar : List Nat) (t : List Row) (c : Nat), ss = [.val (tabD t), .val (.int (c : Nat))] ∧ TabOk ar t ∧ c < t.length ∧ P (.list (nats (upsOf t c))) w
end Kin

namespace Kin
open PySem PySem.Spec PyProof.Rows L2 Dl
open Evl (Ex sz_of sz_lt)
abbrev s_wild : Stmt := topS 44
abbrev N_wild : List Str := ["_law_pen", "_law_many", "_law_arities", "_law_k", "_law_table", "_law_number", "_law_supers", "_law_members", "_law_top", "_law_use", "_law_name", "_law_shape", "_law_signs", "_law_one_here"]
theorem sc_wild : FnScope N_wild ["_law_pen", "_law_many"] (defScope s_wild) := ⟨rfl, rfl, rfl, by decide +kernel, rfl, by decide +kernel, by decide +kernel⟩
/-- turned(pen, table): another table of as many classes -/
def mfTurned : DF := fun ss w P => ∃ (ar : List Nat) (t : List Row) (n : Nat), ss = [.pen, .val (tabD t)] ∧ TabOk ar t ∧ w.n = n + 20 ∧ ∀ k ar' t', n ≤ k → TabOk ar' t' → t'.length = t.length → P (tabD t') ⟨k, w.os⟩
/-- wild(pen, many) -/
def mfWild : DF := fun ss w P => ∃ many n : Nat, ss = [.pen, .val (.int (many : Nat))] ∧ 0 < many ∧ many ≤ 5 ∧ w.n = n + 2000 ∧ ∀ k ar t, n ≤ k → TabOk ar t → t.length = many → P (tabD t) ⟨k, w.os⟩
theorem le6 {a b c d e f : PyData} : [a, b, c, d, e, f].length ≤ 100000 := by show 6 ≤ 100000; decide
theorem le4 {a b c d : PyData} : [a, b, c, d].length ≤ 100000 := by show 4 ≤ 100000; decide
theorem le5 {a b c d e : PyData} : [a, b, c, d, e].length ≤ 100000 := by show 5 ≤ 100000; decide
theorem ar_mem {z : PyData} (h : z ∈ [PyData.int 0, .int 1, .int 1, .int 1, .int 2, .int 2]) : ∃ a : Nat, z = .int (a : Nat) ∧ a ≤ 2 := by
  simp only [List.mem_cons, List.not_mem_nil, or_false] at h
  rcases h with rfl | rfl | rfl | rfl | rfl | rfl
  · exact ⟨0, rfl, by decide⟩
  all_goals first | exact ⟨1, rfl, by decide⟩ | exact ⟨2, rfl, by decide⟩
theorem su_mem {z : PyData} (h : z ∈ [PyData.int 0, .int 1, .int 1, .int 2]) : ∃ a : Nat, z = .int (a : Nat) ∧ a ≤ 2 := by
  simp only [List.mem_cons, List.not_mem_nil, or_false] at h
  rcases h with rfl | rfl | rfl | rfl
  · exact ⟨0, rfl, by decide⟩
  all_goals first | exact ⟨1, rfl, by decide⟩ | exact ⟨2, rfl, by decide⟩
theorem me_mem {z : PyData} (h : z ∈ [PyData.int 0, .int 1, .int 1, .int 2, .int 3]) : ∃ a : Nat, z = .int (a : Nat) ∧ a ≤ 3 := by
  simp only [List.mem_cons, List.not_mem_nil, or_false] at h
  rcases h with rfl | rfl | rfl | rfl | rfl
  · exact ⟨0, rfl, by decide⟩
  all_goals first | exact ⟨1, rfl, by decide⟩ | exact ⟨2, rfl, by decide⟩ | exact ⟨3, rfl, by decide⟩
theorem use_mem {z : PyData} (h : z ∈ [PyData.str "get", .str "put", .str "both"]) : ∃ u : Str, z = .str u ∧ u ∈ (["get", "put", "both"] : List Str) := by
  simp only [List.mem_cons, List.not_mem_nil, or_false] at h
  rcases h with rfl | rfl | rfl <;> exact ⟨_, rfl, by simp⟩
theorem sign_mem {z : PyData} (h : z ∈ [PyData.str "+", .str "-", .str "=", .str "=", .str "*"]) : ∃ u : Str, z = .str u ∧ u ∈ (["+", "-", "=", "*"] : List Str) := by
  simp only [List.mem_cons, List.not_mem_nil, or_false] at h
  rcases h with rfl | rfl | rfl | rfl | rfl <;> exact ⟨_, rfl, by simp⟩
theorem not_any {r : List Nat} {nm : Nat} {b : Bool} (h : (if true = true then !((nats r).any fun z => PyData.eqv z (.int (nm : Nat))) else b) = true) : nm ∉ r := by
  intro hm
  rw [if_pos rfl] at h
  have : ((nats r).any fun z => PyData.eqv z (.int (nm : Nat))) = true := List.any_eq_true.mpr ⟨.int (nm : Nat), List.mem_map.mpr ⟨nm, hm, rfl⟩, by rw [eqv_nat]; exact beq_self_eq_true nm⟩
  rw [this] at h
  cases h
theorem upTo_val {n k : Nat} {x : PyData} (h : (Dl.upTo n)[k]? = some x) : x = .int (k : Nat) := by
  have hk := upTo_at h
  unfold Dl.upTo at h
  rw [List.getElem?_map, List.getElem?_range hk] at h
  exact (Option.some.inj h).symm
theorem nats_snoc (r : List Nat) (a : Nat) : nats r ++ [.int (a : Nat)] = nats (r ++ [a]) := by
  unfold nats
  rw [List.map_append]
  rfl
section
variable {P : Program} {w : World} {K : PySem.W.Frag} {mg : Str → Option Value} {base : Heap} {Ts : List Addr}
theorem ok_wild {f fT fO fS fM fU : Addr} {fd fdT fdO fdS fdM fdU : FuncData} {cdv : Value} {k : Nat} (F : FunV K "_law_wild" "_law_wild" s_wild f fd cdv) (T : TD mg) (T2 : TE2 mg) (hK : KTy K)
    (G_law_take : FnG P w K mg base k fT fdT ["_law_pen", "_law_many"] (spD K Ts mfTake)) (m_law_take : mg "_law_take" = some (.ref fT)) (k_law_take : PySem.W.keepIn K (.ref fT) = true) (b_law_take : Binds K fdT ["_law_pen", "_law_many"] [])
    (G_law_one : FnG P w K mg base k fO fdO ["_law_pen", "_law_some"] (spD K Ts mfOne)) (m_law_one : mg "_law_one" = some (.ref fO)) (k_law_one : PySem.W.keepIn K (.ref fO) = true) (b_law_one : Binds K fdO ["_law_pen", "_law_some"] [])
    (G_law_super : FnG P w K mg base k fS fdS ["_law_pen", "_law_arities", "_law_number", "_law_room", "_law_top"] (spD K Ts mfSuper)) (m_law_super : mg "_law_super" = some (.ref fS)) (k_law_super : PySem.W.keepIn K (.ref fS) = true) (b_law_super : Binds K fdS ["_law_pen", "_law_arities", "_law_number", "_law_room", "_law_top"] [])
    (G_law_member : FnG P w K mg base k fM fdM ["_law_pen", "_law_arities", "_law_number"] (spD K Ts mfMember)) (m_law_member : mg "_law_member" = some (.ref fM)) (k_law_member : PySem.W.keepIn K (.ref fM) = true) (b_law_member : Binds K fdM ["_law_pen", "_law_arities", "_law_number"] [])
    (G_law_turned : FnG P w K mg base k fU fdU ["_law_pen", "_law_table"] (spD K Ts mfTurned)) (m_law_turned : mg "_law_turned" = some (.ref fU)) (k_law_turned : PySem.W.keepIn K (.ref fU) = true) (b_law_turned : Binds K fdU ["_law_pen", "_law_table"] []) :
    FnG P w K mg base (k + 1) f fd ["_law_pen", "_law_many"] (spD K Ts mfWild) := by
  refine FnG.weak (okD F sc_wild (fun A outer s H E hg hr => ⟨_, (pss_cons (ps_set (i := 2) sc_wild.nd rfl (Or.inl rfl) (pe_lst (pa_cons pe_int pa_nil)))
    (pss_cons (ps_for PassesOwn.never rfl (pi_range1 (by rfl) T.m_range (pa_cons (pe_op op_sub (pv 1) pe_int) pa_nil)) (pg_name (i := 3) sc_wild.nd rfl (Or.inl rfl))
    (pss_one (ps_expr (bmK K rfl (pe_bm PySem.F.plainAttrs_list PySem.F.slot_list_append PySem.F.type_list_append mt_append (pv 2) (pa_cons (pe_callG G_law_one hg hr (by rfl) m_law_one k_law_one b_law_one (pa_cons (pv 0) (pa_cons (pe_lst (pa_cons pe_int (pa_cons pe_int (pa_cons pe_int (pa_cons pe_int (pa_cons pe_int (pa_cons pe_int pa_nil))))))) pa_nil))) pa_nil))))))
    (pss_cons (ps_set (i := 4) sc_wild.nd rfl (Or.inl rfl) (pe_tup pa_nil))
    (pss_cons (ps_for PassesOwn.never rfl (pi_range1 (by rfl) T.m_range (pa_cons (pv 1) pa_nil)) (pg_name (i := 5) sc_wild.nd rfl (Or.inl rfl))
    (pss_cons (ps_asg (pe_tup (pa_cons (pe_tup pa_nil) (pa_cons (pe_tup pa_nil) pa_nil))) (pg_tup rfl (pgs_cons (pg_name (i := 6) sc_wild.nd rfl (Or.inl rfl)) (pgs_cons (pg_name (i := 7) sc_wild.nd rfl (Or.inl rfl)) pgs_nil))))
    (pss_cons (ps_for PassesOwn.never rfl (pi_range1 (by rfl) T.m_range (pa_cons (pe_callG G_law_one hg hr (by rfl) m_law_one k_law_one b_law_one (pa_cons (pv 0) (pa_cons (pe_lst (pa_cons pe_int (pa_cons pe_int (pa_cons pe_int (pa_cons pe_int pa_nil))))) pa_nil))) pa_nil)) (pg_name (i := 3) sc_wild.nd rfl (Or.inl rfl))
    (pss_cons (ps_set (i := 8) sc_wild.nd rfl (Or.inl rfl) (pe_callG G_law_one hg hr (by rfl) m_law_one k_law_one b_law_one (pa_cons (pv 0) (pa_cons (pe_lst (pa_cons (pv 1) (pa_cons (pe_callB (call_max2 rfl) (by rfl) T2.m_max PyProof.Rows.boot_max (pa_cons pe_int (pa_cons (pv 5) pa_nil))) (pa_cons (pe_callB (call_max2 rfl) (by rfl) T2.m_max PyProof.Rows.boot_max (pa_cons pe_int (pa_cons (pv 5) pa_nil))) pa_nil)))) pa_nil))))
    (pss_one (ps_set (i := 6) sc_wild.nd rfl (Or.inl rfl) (pe_op (catK K rfl) (pv 6) (pe_tup (pa_cons (pe_callG G_law_super hg hr (by rfl) m_law_super k_law_super b_law_super (pa_cons (pv 0) (pa_cons (pv 2) (pa_cons (pv 5) (pa_cons pe_int (pa_cons (pv 8) pa_nil)))))) pa_nil)))))))
    (pss_cons (ps_for PassesOwn.never rfl (pi_range1 (by rfl) T.m_range (pa_cons (pe_callG G_law_one hg hr (by rfl) m_law_one k_law_one b_law_one (pa_cons (pv 0) (pa_cons (pe_lst (pa_cons pe_int (pa_cons pe_int (pa_cons pe_int (pa_cons pe_int (pa_cons pe_int pa_nil)))))) pa_nil))) pa_nil)) (pg_name (i := 3) sc_wild.nd rfl (Or.inl rfl))
    (pss_cons (ps_set (i := 9) sc_wild.nd rfl (Or.inl rfl) (pe_callG G_law_one hg hr (by rfl) m_law_one k_law_one b_law_one (pa_cons (pv 0) (pa_cons (pe_lst (pa_cons pe_str (pa_cons pe_str (pa_cons pe_str pa_nil)))) pa_nil))))
    (pss_cons (ps_par rfl sc_wild.nd (i := 10) (j := 11) rfl rfl (by decide) rfl rfl (pa_cons (pe_callG G_law_take hg hr (by rfl) m_law_take k_law_take b_law_take (pa_cons (pv 0) (pa_cons pe_int pa_nil))) (pa_cons (pe_callG G_law_member hg hr (by rfl) m_law_member k_law_member b_law_member (pa_cons (pv 0) (pa_cons (pv 2) (pa_cons (pv 5) pa_nil)))) pa_nil)) rfl)
    (pss_one (ps_if (pt_cmpR (notInK K rfl (units65 hr)) (pv 10) (pe_lc (own := [("_law_one_here", 13)]) (tt := tYes) rfl sc_wild.nd (pi_K K rfl (pv 7)) (blkOk_by (N := N_wild) (sc := defScope s_wild) (by decide +kernel)) (fun _ _ _ _ _ => (pg_name (i := 13) sc_wild.nd rfl (Or.inl rfl))) (fun _ _ _ _ _ => pts_nil) (fun _ _ _ _ _ => (pe_ix (ixK K rfl) (pv 13) pe_int (fun _ _ => rfl)))) (by rfl)) (pss_one (ps_set (i := 7) sc_wild.nd rfl (Or.inl rfl) (pe_op (catK K rfl) (pv 7) (pe_tup (pa_cons (pe_tup (pa_cons (pv 10) (pa_cons (pv 9) (pa_cons (pv 11) pa_nil)))) pa_nil))))) pss_nil)))))
    (pss_cons (ps_setLc (i := 12) (own := [("_law_k", 3)]) (tt := tYes) rfl sc_wild.nd rfl rfl (sw_true rfl rfl rfl (by decide +kernel)) (pi_range1 (by rfl) T.m_range (pa_cons (pe_ix (ixK K rfl) (pv 2) (pv 5) (fun _ _ => rfl)) pa_nil)) (blkOk_by (N := N_wild) (sc := defScope s_wild) (by decide +kernel)) (fun _ _ _ _ _ => (pg_name (i := 3) sc_wild.nd rfl (Or.inl rfl))) (fun _ _ _ _ _ => pts_nil) (fun _ _ _ _ _ => (pe_callG G_law_one hg hr (by rfl) m_law_one k_law_one b_law_one (pa_cons (pv 0) (pa_cons (pe_lst (pa_cons pe_str (pa_cons pe_str (pa_cons pe_str (pa_cons pe_str (pa_cons pe_str pa_nil)))))) pa_nil)))))
    (pss_one (ps_set (i := 4) sc_wild.nd rfl (Or.inl rfl) (pe_op (catK K rfl) (pv 4) (pe_tup (pa_cons (pe_tup (pa_cons (pe_callTy (tupleK K rfl) (by rfl) T.m_tuple PyProof.Rows.boot_tuple (pa_cons (pv 12) pa_nil)) (pa_cons (pv 6) (pa_cons (pv 7) pa_nil)))) pa_nil))))))))))
    (pss_one (ps_ret (pe_callG G_law_turned hg hr (by rfl) m_law_turned k_law_turned b_law_turned (pa_cons (pv 0) (pa_cons (pv 4) pa_nil))))))))), by repeat first
        | (with_reducible apply ds_own (i := 2); apply dn_lst)
        | (with_reducible apply ds_frz 2; with_reducible apply ds_asg (te := tTup tNil) (g := gName 4))
        | ((with_reducible apply ds_asg (g := gName 12)); apply dx_of; apply de_new; apply dn_lcNI)
        | (with_reducible apply ds_asg)
        | (with_reducible apply ds_par)
        | exact de_int
        | exact de_str
        | exact de_bl
        | exact de_non
        | exact de_var
        | exact dx_var
        | exact ds_retN
        | exact ds_next
        | exact ds_brk
        | exact ds_cont
        | exact dt_yes
        | exact dv_nil
        | exact da_nil
        | exact dgs_nil
        | exact dg_name
        | exact do_none
        | (with_reducible apply ds_seq)
        | (with_reducible apply ds_ret)
        | (with_reducible apply ds_if)
        | (with_reducible apply ds_forI)
        | (with_reducible apply ds_whileI)
        | (with_reducible apply ds_drop)
        | (apply dg_tupN 2; exact rfl)
        | (apply dg_tupN 3; exact rfl)
        | apply dgs_cons
        | apply di_any
        | apply di_range
        | apply dt_test
        | apply dt_B
        | apply dt_and
        | apply dt_or
        | apply dt_not
        | apply dx_of
        | apply de_tup
        | apply dv_cons
        | apply da_cons
        | apply do_some
        | apply de_if
        | apply de_not
        | apply de_and
        | apply de_or
        | (apply de_new; apply dn_lst)
        | apply de_op dr_ix
        | apply de_op dr_eq
        | apply de_op dr_ne
        | apply de_op dr_inA
        | apply de_op dr_catT
        | apply de_op dr_catL
        | apply de_op dr_add
        | apply de_op dr_sub
        | apply de_op dr_mul
        | apply de_op dr_mod
        | apply de_op dr_fdiv
        | apply de_op dr_lt
        | apply de_op dr_le
        | apply de_op dr_gt
        | apply de_op dr_ge
        | apply de_op dr_isN
        | apply de_op dr_notN
        | apply de_op dr_addS
        | apply de_slice
        | (apply de_isi; rotate_left 1; assumption; decide; rotate_right 1)
        | apply de_cb dc_len
        | apply de_cb dc_lenS
        | apply de_cb dc_int
        | apply de_cb dc_min2
        | apply de_cb dc_max2
        | apply de_cb dc_tuple
        | (apply de_new; apply dn_cb dcn_list)
        | apply de_call
        | apply de_m dm_append
        | apply de_m dm_insert
        | apply de_m dm_popAt
        | apply de_m0 dm_pop
        | apply de_extend
        | (apply de_new; apply dn_lcN)
        | (apply de_new; apply dn_rep; apply dn_lst)
        | (apply de_genN; rotate_left 2; assumption; rotate_right 2)⟩)) (spD_weak fun ss w P h => ?_)
  obtain ⟨many, n, rfl, hm, hm5, hn, h⟩ := h
  refine ⟨rfl, ?_⟩
  dsimp only
  refine ⟨le1, _, rfl, Sl.noConfusion, _, _, rfl, rfl, _, _, rfl, rfl, _, rfl, by omega, by omega, ?_⟩
  rw [show Int.toNat ((many : Nat) - 1 : Int) = many - 1 by omega]
  -- the numbers of parameters
  refine ⟨fun k env w' => ∃ (m' : Nat) (ar : List Nat) (s3 : Sl), env = [.pen, .val (.int (many : Nat)), .sh w.os.length, s3, .no, .no, .no, .no, .no, .no, .no, .no, .no, .no] ∧ w' = ⟨m', w.os ++ [some (nats (0 :: ar))]⟩ ∧ ar.length = k ∧ (∀ x ∈ ar, x ≤ 2) ∧ n + 2000 ≤ m' + k,
    ⟨w.n, [], _, rfl, rfl, rfl, (fun _ h => nomatch h), by omega⟩, ?_, ?_⟩
  · rintro k x _ _ hx ⟨m', ar, s3, rfl, rfl, hk, h2, hm'⟩
    have hk1 := upTo_at hx
    refine ⟨_, rfl, Sl.noConfusion, w.os.length, rfl, _, rfl, Sl.noConfusion, le6, _, _, [.int 0, .int 1, .int 1, .int 1, .int 2, .int 2], m' - 1, rfl, Sl.noConfusion, fun _ => rfl, rfl, List.cons_ne_nil _ _, by show 6 < 1000; omega, by show m' = m' - 1 + 1; omega, fun z hz => ?_⟩
    obtain ⟨a, rfl, ha⟩ := ar_mem hz
    refine ⟨_, _, get_own, rfl, _, rfl, by rw [nats_len, List.length_cons]; omega, m' - 1, ar ++ [a], _, rfl, ?_, by rw [List.length_append, hk]; rfl, fun y hy => ?_, by omega⟩
    · show Ws.mk (m' - 1) ((w.os ++ [some (nats (0 :: ar))]).set w.os.length (some (nats (0 :: ar) ++ [.int (a : Nat)]))) = _
      rw [set_own, nats_snoc]
      rfl
    · rcases List.mem_append.mp hy with hy | hy
      · exact h2 y hy
      · have e : y = a := by simpa using hy
        omega
  · rintro _ _ ⟨m', ar0, s3, rfl, rfl, hk, h2, hm'⟩
    rw [upTo_len] at hk hm'
    have hlen : (0 :: ar0).length = many := by rw [List.length_cons]; omega
    have hp : having (0 :: ar0) 0 ≠ [] := fun e => by
      have : 0 ∈ having (0 :: ar0) 0 := List.mem_filter.mpr ⟨List.mem_range.mpr (by omega), rfl⟩
      rw [e] at this
      cases this
    have har : ∀ x ∈ 0 :: ar0, x ≤ 2 := fun x hx => by
      rcases List.mem_cons.mp hx with rfl | hx
      · exact Nat.zero_le _
      · exact h2 x hx
    generalize 0 :: ar0 = ar at hlen hp har ⊢
    refine ⟨w.os.length, _, rfl, get_own, Nat.le_refl _, le0, _, rfl, _, rfl, by omega, by omega, ?_⟩
    rw [show Int.toNat ((many : Nat) : Int) = many from rfl, set_own]
    refine ⟨fun k env w' => ∃ (m' : Nat) (t : List Row) (s3 s5 s6 s7 s8 s9 s10 s11 s12 s13 : Sl), env = [.pen, .val (.int (many : Nat)), .val (.list (nats ar)), s3, .val (tabD t), s5, s6, s7, s8, s9, s10, s11, s12, s13] ∧ w' = ⟨m', w.os ++ [none]⟩ ∧ t.length = k ∧ (∀ i r, t[i]? = some r → RowOk ar (ar.getD i 0) r) ∧ n + 1500 ≤ m' + 250 * k,
      ⟨m', [], _, _, _, _, _, _, _, _, _, _, rfl, rfl, rfl, (fun i r e => by rw [List.getElem?_nil] at e; cases e), by omega⟩, ?_, ?_⟩
    · rintro k x _ _ hx ⟨m', t, s3, s5, s6, s7, s8, s9, s10, s11, s12, s13, rfl, rfl, hk, hrow, hm'⟩
      have hk1 := upTo_at hx
      obtain rfl := upTo_val hx
      have hkar : k < ar.length := by omega
      have hark : ar[k]? = some (ar.getD k 0) := by
        rw [List.getD_eq_getElem?_getD, List.getElem?_eq_getElem hkar]
        rfl
      have hm2k : ar.getD k 0 ≤ 2 := har _ (List.mem_of_getElem? hark)
      refine ⟨le0, le0, le2, _, rfl, rfl, _, _, rfl, _, _, rfl, rfl, ?_⟩
      refine ⟨_, rfl, Sl.noConfusion, le4, _, _, [.int 0, .int 1, .int 1, .int 2], m' - 1, rfl, Sl.noConfusion, fun _ => rfl, rfl, List.cons_ne_nil _ _, by show 4 < 1000; omega, by show m' = m' - 1 + 1; omega, fun z hz => ?_⟩
      obtain ⟨a, rfl, ha⟩ := su_mem hz
      refine ⟨_, rfl, by omega, by omega, ?_⟩
      rw [show Int.toNat ((a : Nat) : Int) = a from rfl]
      -- the supers
      refine ⟨fun j env w' => ∃ (m2 : Nat) (sups : List Sh) (s3 s8 : Sl), env = [.pen, .val (.int (many : Nat)), .val (.list (nats ar)), s3, .val (tabD t), .val (.int (k : Nat)), .val (.tuple (sups.map Sh.d)), .val (.tuple []), s8, s9, s10, s11, s12, s13] ∧ w' = ⟨m2, w.os ++ [none]⟩ ∧ sups.length = j ∧ (∀ s ∈ sups, SupOk ar (ar.getD k 0) ar.length s) ∧ m' ≤ m2 + 1 + 25 * j,
        ⟨m' - 1, [], _, _, rfl, rfl, rfl, (fun s hs => nomatch hs), by omega⟩, ?_, ?_⟩
      · rintro j x _ _ hx ⟨m2, sups, s3, s8, rfl, rfl, hj, hs, hm2⟩
        have hj1 := upTo_at hx
        refine ⟨_, rfl, Sl.noConfusion, _, rfl, _, rfl, Sl.noConfusion, _, rfl, 1, (k : Int), rfl, _, rfl, Sl.noConfusion, _, rfl, 1, (k : Int), rfl, le3, _, _, _, m2 - 1, rfl, Sl.noConfusion, fun _ => rfl, rfl, List.cons_ne_nil _ _, by show 3 < 1000; omega, by show m2 = m2 - 1 + 1; omega, fun z hz => ?_⟩
        have hz : ∃ top : Nat, z = .int (top : Nat) ∧ 0 < top ∧ top ≤ ar.length := by
          simp only [List.mem_cons, List.not_mem_nil, or_false] at hz
          rcases hz with rfl | rfl | rfl
          · exact ⟨many, rfl, hm, by omega⟩
          all_goals exact ⟨max 1 k, by congr 1; split <;> omega, by omega, by omega⟩
        obtain ⟨top, rfl, t0, t1⟩ := hz
        refine ⟨_, rfl, Sl.noConfusion, _, rfl, Sl.noConfusion, _, rfl, Sl.noConfusion, _, rfl, Sl.noConfusion, _, rfl, Sl.noConfusion, ar, k, ar.getD k 0, top, m2 - 25, rfl, by omega, hp, hark, hm2k, har, t0, t1, by show m2 - 1 = m2 - 25 + 24; omega, fun k3 s1 hk3 hS => ?_⟩
        refine ⟨le1, _, _, rfl, rfl, _, _, rfl, rfl, ?_, k3, sups ++ [s1], _, _, by rw [List.map_append]; rfl, rfl, by rw [List.length_append, hj]; rfl, fun s hs' => ?_, by omega⟩
        · rw [List.length_map, List.length_singleton]
          omega
        · rcases List.mem_append.mp hs' with hs' | hs'
          · exact hs s hs'
          · have e : s = s1 := by simpa using hs'
            rw [e]
            obtain ⟨o, as, e2, l2⟩ := hS.node
            exact ⟨hS.ok, hS.parts, hS.dep, hS.vars, hS.once, o, as, e2, by omega⟩
      · rintro _ _ ⟨m2, sups, s3, s8, rfl, rfl, hj, hs, hm2⟩
        rw [upTo_len] at hj hm2
        refine ⟨_, rfl, Sl.noConfusion, le5, _, _, [.int 0, .int 1, .int 1, .int 2, .int 3], m2 - 1, rfl, Sl.noConfusion, fun _ => rfl, rfl, List.cons_ne_nil _ _, by show 5 < 1000; omega, by show m2 = m2 - 1 + 1; omega, fun z hz => ?_⟩
        obtain ⟨b, rfl, hb⟩ := me_mem hz
        refine ⟨_, rfl, by omega, by omega, ?_⟩
        rw [show Int.toNat ((b : Nat) : Int) = b from rfl]
        -- the members
        refine ⟨fun j env w' => ∃ (m3 : Nat) (mems : List (Nat × Str × Sh)) (s3 s9 s10 s11 : Sl), env = [.pen, .val (.int (many : Nat)), .val (.list (nats ar)), s3, .val (tabD t), .val (.int (k : Nat)), .val (.tuple (sups.map Sh.d)), .val (.tuple (mems.map memD)), s8, s9, s10, s11, s12, s13] ∧ w' = ⟨m3, w.os ++ [none]⟩ ∧ mems.length ≤ j ∧
            (∀ x ∈ mems, x.1 ≤ 9 ∧ x.2.1 ∈ (["get", "put", "both"] : List Str) ∧ MemOk ar (ar.getD k 0) x.2.2) ∧ (mems.map (·.1)).Nodup ∧ m2 ≤ m3 + 1 + 26 * j,
          ⟨m2 - 1, [], _, _, _, _, rfl, rfl, Nat.le_refl _, (fun s hs => nomatch hs), List.nodup_nil, by omega⟩, ?_, ?_⟩
        · rintro j x _ _ hx ⟨m3, mems, s3, s9, s10, s11, rfl, rfl, hj3, hmem, hnd, hm3⟩
          have hj1 := upTo_at hx
          refine ⟨_, rfl, Sl.noConfusion, le3, _, _, _, m3 - 1, rfl, Sl.noConfusion, fun _ => rfl, rfl, List.cons_ne_nil _ _, by show 3 < 1000; omega, by show m3 = m3 - 1 + 1; omega, fun z hz => ?_⟩
          obtain ⟨u, rfl, hu⟩ := use_mem hz
          refine ⟨_, rfl, Sl.noConfusion, 5, m3 - 2, rfl, by decide, by decide, by show m3 - 1 = m3 - 2 + 1; omega, fun r r0 r1 => ?_⟩
          obtain ⟨nm, rfl⟩ := Int.eq_ofNat_of_zero_le r0
          refine ⟨_, rfl, Sl.noConfusion, _, rfl, Sl.noConfusion, _, rfl, Sl.noConfusion, ar, k, ar.getD k 0, m3 - 26, rfl, by omega, hp, hark, hm2k, by show m3 - 2 = m3 - 26 + 24; omega, fun k4 sh hk4 hM => ?_⟩
          refine ⟨_, _, rfl, ?_⟩
          refine ⟨_, rfl, Sl.noConfusion, _, rfl, _, rfl, ?_⟩
          refine wLc_map memD (fun x => PyData.int (x.1 : Nat)) mems [] _ (fun x hx Q hQ => ⟨_, rfl, Sl.noConfusion, _, _, rfl, rfl, _, _, _, rfl, rfl, at0, hQ⟩) (by rw [List.length_nil]; omega) ?_
          rw [List.nil_append, show mems.map (fun x => PyData.int (x.1 : Nat)) = nats (mems.map (·.1)) by unfold nats; rw [List.map_map]; rfl]
          refine ⟨_, _, rfl, rfl, _, rfl, shp_int _, shp_nats _, _, rfl, ?_⟩
          refine ite2 (fun hc => ?_) (fun _ => ?_)
          · have hno := not_any hc
            refine ⟨_, rfl, Sl.noConfusion, _, rfl, _, rfl, _, rfl, le3, le1, _, _, rfl, rfl, _, _, rfl, rfl, ?_, k4, mems ++ [(nm, u, sh)], _, _, _, _, by rw [List.map_append]; rfl, rfl, by rw [List.length_append, List.length_singleton]; omega, fun x hx => ?_, ?_, by omega⟩
            · rw [List.length_map, List.length_singleton]
              omega
            · rcases List.mem_append.mp hx with hx | hx
              · exact hmem x hx
              · have e : x = (nm, u, sh) := by simpa using hx
                rw [e]
                exact ⟨by show nm ≤ 9; omega, hu, hM⟩
            · rw [List.map_append, List.nodup_append]
              refine ⟨hnd, by simp, fun a ha b hb e => ?_⟩
              have e2 : b = nm := by simpa using hb
              exact hno (by rw [← e2, ← e]; exact ha)
          · exact ⟨k4, mems, _, _, _, _, rfl, rfl, by omega, hmem, hnd, by omega⟩
        · rintro _ _ ⟨m3, mems, s3, s9, s10, s11, rfl, rfl, hj3, hmem, hnd, hm3⟩
          rw [upTo_len] at hj3 hm3
          refine ⟨_, rfl, Sl.noConfusion, _, rfl, Sl.noConfusion, _, _, rfl, rfl, _, _, _, rfl, rfl, nats_at hkar, _, rfl, by omega, by omega, ?_⟩
          rw [show Int.toNat ((ar.getD k 0 : Nat) : Int) = ar.getD k 0 from rfl]
          -- the signs
          refine ⟨fun i acc w' => ∃ (m5 : Nat) (sg : List Str), acc = sg.map PyData.str ∧ w' = ⟨m5, w.os ++ [none]⟩ ∧ sg.length = i ∧ (∀ x ∈ sg, x ∈ (["+", "-", "=", "*"] : List Str)) ∧ m3 ≤ m5 + i, ⟨m3, [], rfl, rfl, rfl, (fun s hs => nomatch hs), by omega⟩, ?_, ?_⟩
          · rintro i x _ _ hx ⟨m5, sg, rfl, rfl, hi, hsg, h5⟩
            have hi1 := upTo_at hx
            refine iteT ?_
            refine ⟨_, rfl, Sl.noConfusion, le5, _, _, _, m5 - 1, rfl, Sl.noConfusion, fun _ => rfl, rfl, List.cons_ne_nil _ _, by show 5 < 1000; omega, by show m5 = m5 - 1 + 1; omega, fun z hz => ?_⟩
            obtain ⟨u, rfl, hu⟩ := sign_mem hz
            refine ⟨by rw [List.length_map]; omega, m5 - 1, sg ++ [u], by rw [List.map_append]; rfl, rfl, by rw [List.length_append, hi]; rfl, fun y hy => ?_, by omega⟩
            rcases List.mem_append.mp hy with hy | hy
            · exact hsg y hy
            · have e : y = u := by simpa using hy
              rw [e]
              exact hu
          · rintro _ _ ⟨m5, sg, rfl, rfl, hi, hsg, h5⟩
            rw [upTo_len] at hi h5
            refine ⟨_, rfl, Sl.noConfusion, _, rfl, Sl.noConfusion, _, seeAll_val, _, _, rfl, rfl, _, rfl, _, rfl, le3, le1, _, _, rfl, rfl, _, _, rfl, rfl, ?_, m5, t ++ [⟨sg, sups, mems⟩], _, _, _, _, _, _, _, _, _, _, by unfold tabD; rw [List.map_append]; rfl, rfl, by rw [List.length_append, hk]; rfl, fun i r e => ?_, by omega⟩
            · rw [List.length_map, List.length_singleton]
              omega
            · rcases Nat.lt_or_ge i t.length with l | l
              · rw [List.getElem?_append_left l] at e
                exact hrow i r e
              · rw [List.getElem?_append_right l] at e
                cases z : i - t.length with
                | succ q =>
                  rw [z] at e
                  cases e
                | zero =>
                  rw [z] at e
                  cases e
                  have ei : i = k := by omega
                  rw [ei]
                  exact ⟨hi, hsg, by show sups.length ≤ 2; omega, hs, by show mems.length ≤ 3; omega, hmem, hnd⟩
    · rintro _ _ ⟨m', t, s3, s5, s6, s7, s8, s9, s10, s11, s12, s13, rfl, rfl, hk, hrow, hm'⟩
      rw [upTo_len] at hk hm'
      refine ⟨_, rfl, Sl.noConfusion, _, rfl, Sl.noConfusion, ar, t, m' - 20, rfl, ⟨by omega, by omega, har, hrow⟩, by show m' = m' - 20 + 20; omega, fun k ar' t' hk2 ht' hl' => ?_⟩
      show P (tabD t') (cut w ⟨k, w.os ++ [none]⟩)
      rw [cut_own]
      exact h k ar' t' (by omega) ht' (by omega)
end
end Kin

namespace Dl
open PySem PySem.Spec PyProof.Rows L2
open Evl (Ex sz_of sz_lt)
section
variable {K : PySem.W.Frag} {T : List Addr} {ta tb te : TE} {tas : TA} {ma mb m : DTE} {mx my : DTX} {tt tu : TT} {mt mu : DTT} {t1 t2 : TS} {m1 m2 : DTS}
theorem Ext.more {pe0 pe : Pe} {H0 : Hp} {a : Addr} (e : Ext pe0 pe H0) (h : H0 a = none) : Ext pe0 { pe with sh := pe.sh ++ [a] } H0 := by
  obtain ⟨ex, e1, e2⟩ := e.sh
  refine ⟨e.pen, e.tabs, ex ++ [a], by show pe.sh ++ [a] = _; rw [e1, List.append_assoc], fun q hq => ?_⟩
  rcases List.mem_append.mp hq with z | z
  · exact e2 q z
  · have e : q = a := by simpa using z
    rw [e]
    exact h
theorem Far.more {pe : Pe} {a b : Addr} (h : Far pe b) (n : b ≠ a) : Far { pe with sh := pe.sh ++ [a] } b := by
  refine ⟨?_, h.2⟩
  rintro (⟨c, z⟩ | z | z)
  · exact h.1 (.inl ⟨c, z⟩)
  · rcases List.mem_append.mp (show b ∈ pe.sh ++ [a] from z) with z | z
    · exact h.1 (.inr (.inl z))
    · exact n (by simpa using z)
  · exact h.1 (.inr (.inr z))
theorem get_last {α : Type} {xs : List α} {x : α} : (xs ++ [x])[xs.length]? = some x := by
  rw [List.getElem?_append_right (Nat.le_refl _), Nat.sub_self]
  rfl
/-- x, y = two new lists -/
theorem ds_parOwn {i j : Nat} {mn mo : DTN} (ha : DN K T ta mn) (hb : DN K T tb mo) : DS K T (tPar i j (tCons ta (tCons tb tNil))) (fun d env n => mn env n fun xs n1 => mo env n1 fun ys n2 =>
    d.nx ((env.set i (.sh n2.os.length)).set j (.sh (n2.os.length + 1))) ⟨n2.n, n2.os ++ [some xs] ++ [some ys]⟩) := by
  constructor
  intro pe0 F0 H0 pe F H σ env n D d R p M
  refine ha.run pe F H σ env n _ _ R.lv p fun a F1 H1 vs xs n1 f1 p1 np hp nF hv g1 => ?_
  have R1 := R.step f1 p1
  refine hb.run pe F1 H1 σ env n1 _ _ R1.lv g1 fun b F2 H2 us ys n2 f2 p2 np2 hp2 nF2 hu g2 => ?_
  have R2 := R1.step f2 p2
  have far := R.lv.pn.far np
  have hp' : H2 a = some (.lst vs) := f2.hh a _ far.1 hp
  have nF' : F2 a = none := f2.new a (by rw [hp]; simp) nF
  have nba : b ≠ a := fun e => by
    rw [e, hp] at np2
    cases np2
  have p3 := p2.more far hp' nF' (dp_exs f2.ff hv)
  have farb : Far { pe with sh := pe.sh ++ [a] } b := (p1.far np2).more nba
  have p4 := p3.more farb hp2 nF2 hu
  have na0 : H0 a = none := by
    cases z : H0 a with
    | none => rfl
    | some u => exact absurd np (R.fr.dom a (by rw [z]; simp))
  have nb0 : H0 b = none := by
    cases z : H0 b with
    | none => rfl
    | some u => exact absurd np2 (R1.fr.dom b (by rw [z]; simp))
  have e2 := (R.ext.more na0).more nb0
  refine ⟨.ref a, .ref b, rfl, M.nx _ _ _ F2 H2 _ (f1.ff.trans f2.ff) ⟨⟨?_, f2.fh, p4, R.lv.tb⟩, R2.fr, e2⟩ g2⟩
  have l : pe.sh.length = n2.os.length := p2.len.symm
  refine ((R2.lv.er.more.more).set i (s := .sh n2.os.length) ⟨a, ?_, rfl⟩).set j (s := .sh (n2.os.length + 1)) ⟨b, ?_, rfl⟩
  · show (pe.sh ++ [a] ++ [b])[n2.os.length]? = some a
    rw [← l]
    exact get_app get_last
  · show (pe.sh ++ [a] ++ [b])[n2.os.length + 1]? = some b
    rw [← l, show pe.sh.length + 1 = (pe.sh ++ [a]).length by rw [List.length_append]; rfl]
    exact get_last
/-- x, y = two new lists, by a tuple -/
theorem ds_parOwnT {i j : Nat} {mn mo : DTN} (ha : DN K T ta mn) (hb : DN K T tb mo) : DS K T (tAsg (tTup (tCons ta (tCons tb tNil))) (gTup K 2 (gCons (gName i) (gCons (gName j) gNil)))) (fun d env n => mn env n fun xs n1 => mo env n1 fun ys n2 =>
    d.nx ((env.set i (.sh n2.os.length)).set j (.sh (n2.os.length + 1))) ⟨n2.n, n2.os ++ [some xs] ++ [some ys]⟩) := by
  constructor
  intro pe0 F0 H0 pe F H σ env n D d R p M
  refine ha.run pe F H σ env n _ _ R.lv p fun a F1 H1 vs xs n1 f1 p1 np hp nF hv g1 => ?_
  have R1 := R.step f1 p1
  refine hb.run pe F1 H1 σ env n1 _ _ R1.lv g1 fun b F2 H2 us ys n2 f2 p2 np2 hp2 nF2 hu g2 => ?_
  have R2 := R1.step f2 p2
  have far := R.lv.pn.far np
  have hp' : H2 a = some (.lst vs) := f2.hh a _ far.1 hp
  have nF' : F2 a = none := f2.new a (by rw [hp]; simp) nF
  have nba : b ≠ a := fun e => by
    rw [e, hp] at np2
    cases np2
  have na0 : H0 a = none := by
    cases z : H0 a with
    | none => rfl
    | some u => exact absurd np (R.fr.dom a (by rw [z]; simp))
  have nb0 : H0 b = none := by
    cases z : H0 b with
    | none => rfl
    | some u => exact absurd np2 (R1.fr.dom b (by rw [z]; simp))
  have e2 := (R.ext.more na0).more nb0
  refine ⟨by show 2 ≤ sizeLine; decide, fun r nr => ⟨r, [.ref a, .ref b], rfl, SqT.of upd_same, rfl, .ref a, [.ref b], rfl, .ref b, [], rfl, rfl, ?_⟩⟩
  have f3 := Fr.mine (pe := pe) (o := .tup [.ref a, .ref b]) f2.fh nr
  have q2 := p2.mut (o := .tup [.ref a, .ref b]) (p2.far nr)
  have R3 := R2.step f3 q2
  have ha3 : (upd H2 r (.tup [.ref a, .ref b])) a = some (.lst vs) := Ex.new nr _ _ hp'
  have hb3 : (upd H2 r (.tup [.ref a, .ref b])) b = some (.lst us) := Ex.new nr _ _ hp2
  have p3 := q2.more far ha3 nF' (dp_exs f2.ff hv)
  have farb : Far { pe with sh := pe.sh ++ [a] } b := (p1.far np2).more nba
  have p4 := p3.more farb hb3 nF2 hu
  refine M.nx _ _ _ F2 _ _ (f1.ff.trans f2.ff) ⟨⟨?_, f3.fh, p4, R.lv.tb⟩, R3.fr, e2⟩ g2
  have l : pe.sh.length = n2.os.length := p2.len.symm
  refine ((R3.lv.er.more.more).set i (s := .sh n2.os.length) ⟨a, ?_, rfl⟩).set j (s := .sh (n2.os.length + 1)) ⟨b, ?_, rfl⟩
  · show (pe.sh ++ [a] ++ [b])[n2.os.length]? = some a
    rw [← l]
    exact get_app get_last
  · show (pe.sh ++ [a] ++ [b])[n2.os.length + 1]? = some b
    rw [← l, show pe.sh.length + 1 = (pe.sh ++ [a]).length by rw [List.length_append]; rfl]
    exact get_last
/-- how many they are need not be seen as a number -/
theorem ds_parOwnN {i j k : Nat} (hk : k = 2) {mn mo : DTN} (ha : DN K T ta mn) (hb : DN K T tb mo) : DS K T (tAsg (tTup (tCons ta (tCons tb tNil))) (gTup K k (gCons (gName i) (gCons (gName j) gNil)))) (fun d env n => mn env n fun xs n1 => mo env n1 fun ys n2 =>
    d.nx ((env.set i (.sh n2.os.length)).set j (.sh (n2.os.length + 1))) ⟨n2.n, n2.os ++ [some xs] ++ [some ys]⟩) := hk ▸ ds_parOwnT ha hb
end
end Dl

namespace Kin
open PySem PySem.Spec PyProof.Rows L2 Dl
open Evl (Ex sz_of sz_lt)
abbrev s_turned : Stmt := topS 46
abbrev N_turned : List Str := ["_law_pen", "_law_table", "_law_ranks", "_law_found", "_law_k", "_law_signs", "_law_supers", "_law_members", "_law_one_here"]
theorem sc_turned : FnScope N_turned ["_law_pen", "_law_table"] (defScope s_turned) := ⟨rfl, rfl, rfl, by decide +kernel, rfl, by decide +kernel, by decide +kernel⟩
namespace Sh
mutual
theorem dep_map (f : Nat → Nat) : ∀ s : Sh, dep (map f s) = dep s
  | var _ => rfl
  | node n as => by
    show deps (maps f as) + 1 = deps as + 1
    rw [deps_maps f as]
theorem deps_maps (f : Nat → Nat) : ∀ as : List Sh, deps (maps f as) = deps as
  | [] => rfl
  | a :: as => by
    show max (dep (map f a)) (deps (maps f as)) = max (dep a) (deps as)
    rw [dep_map f a, deps_maps f as]
end
mutual
theorem parts_map (f : Nat → Nat) : ∀ s : Sh, parts (map f s) = parts s
  | var _ => rfl
  | node n as => by
    show partsL (maps f as) + 1 = partsL as + 1
    rw [partsL_maps f as]
theorem partsL_maps (f : Nat → Nat) : ∀ as : List Sh, partsL (maps f as) = partsL as
  | [] => rfl
  | a :: as => by
    show parts (map f a) + partsL (maps f as) = parts a + partsL as
    rw [parts_map f a, partsL_maps f as]
end
mutual
theorem vars_map (f : Nat → Nat) : ∀ s : Sh, vars (map f s) = vars s
  | var _ => rfl
  | node n as => by
    show varsL (maps f as) = varsL as
    rw [varsL_maps f as]
theorem varsL_maps (f : Nat → Nat) : ∀ as : List Sh, varsL (maps f as) = varsL as
  | [] => rfl
  | a :: as => by
    show vars (map f a) ++ varsL (maps f as) = vars a ++ varsL as
    rw [vars_map f a, varsL_maps f as]
end
theorem maps_len (f : Nat → Nat) (as : List Sh) : (maps f as).length = as.length := by
  rw [maps_map, List.length_map]
mutual
theorem okA_map {ar ar' : List Nat} {f : Nat → Nat} (h : ∀ n a, ar[n]? = some a → ar'[f n]? = some a) : ∀ s : Sh, okA ar s → okA ar' (map f s)
  | var _, _ => trivial
  | node n as, ⟨a, b⟩ => by
    show ar'[f n]? = some (maps f as).length ∧ okAs ar' (maps f as)
    exact ⟨by rw [maps_len]; exact h n _ a, okAs_maps h as b⟩
theorem okAs_maps {ar ar' : List Nat} {f : Nat → Nat} (h : ∀ n a, ar[n]? = some a → ar'[f n]? = some a) : ∀ as : List Sh, okAs ar as → okAs ar' (maps f as)
  | [], _ => trivial
  | a :: as, ⟨x, y⟩ => ⟨okA_map h a x, okAs_maps h as y⟩
end
mutual
theorem okA_fit {ar : List Nat} (h : ∀ x ∈ ar, x ≤ 2) : ∀ s : Sh, okA ar s → fit ar.length s
  | var _, _ => trivial
  | node n as, ⟨a, b⟩ => by
    refine ⟨?_, h _ (List.mem_of_getElem? a), okAs_fits h as b⟩
    rcases Nat.lt_or_ge n ar.length with l | l
    · exact l
    · rw [List.getElem?_eq_none l] at a
      cases a
theorem okAs_fits {ar : List Nat} (h : ∀ x ∈ ar, x ≤ 2) : ∀ as : List Sh, okAs ar as → fits ar.length as
  | [], _ => trivial
  | a :: as, ⟨x, y⟩ => ⟨okA_fit h a x, okAs_fits h as y⟩
end
end Sh
theorem MemOk.map {ar ar' : List Nat} {m : Nat} {f : Nat → Nat} {s : Sh} (h : ∀ n a, ar[n]? = some a → ar'[f n]? = some a) (o : MemOk ar m s) : MemOk ar' m (s.map f) :=
  ⟨Sh.okA_map h s o.ok, by rw [Sh.parts_map]; exact o.parts, by rw [Sh.dep_map]; exact o.dep, by rw [Sh.vars_map]; exact o.vars⟩
theorem SupOk.map {ar ar' : List Nat} {m : Nat} {f : Nat → Nat} {s : Sh} (h : ∀ n a, ar[n]? = some a → ar'[f n]? = some a) (o : SupOk ar m ar.length s) : SupOk ar' m ar'.length (s.map f) := by
  refine ⟨Sh.okA_map h s o.ok, by rw [Sh.parts_map]; exact o.parts, by rw [Sh.dep_map]; exact o.dep, by rw [Sh.vars_map]; exact o.vars, by rw [Sh.vars_map]; exact o.once, ?_⟩
  obtain ⟨n, as, rfl, hn⟩ := o.node
  refine ⟨f n, Sh.maps f as, rfl, ?_⟩
  have e := h n _ (List.getElem?_eq_getElem hn)
  rcases Nat.lt_or_ge (f n) ar'.length with l | l
  · exact l
  · rw [List.getElem?_eq_none l] at e
    cases e
def memT (f : Nat → Nat) (x : Nat × Str × Sh) : Nat × Str × Sh := (x.1, x.2.1, x.2.2.map f)
def rowT (f : Nat → Nat) (r : Row) : Row := ⟨r.signs, r.sups.map (Sh.map f), r.mems.map (memT f)⟩
theorem RowOk.map {ar ar' : List Nat} {m : Nat} {f : Nat → Nat} {r : Row} (h : ∀ n a, ar[n]? = some a → ar'[f n]? = some a) (o : RowOk ar m r) : RowOk ar' m (rowT f r) := by
  refine ⟨o.signs, o.sign, by show (r.sups.map _).length ≤ 2; rw [List.length_map]; exact o.sups, fun s hs => ?_, by show (r.mems.map _).length ≤ 3; rw [List.length_map]; exact o.mems, fun x hx => ?_, ?_⟩
  · obtain ⟨u, hu, rfl⟩ := List.mem_map.mp hs
    exact (o.sup u hu).map h
  · obtain ⟨u, hu, rfl⟩ := List.mem_map.mp hx
    obtain ⟨a, b, c⟩ := o.mem u hu
    exact ⟨a, b, c.map h⟩
  · show ((r.mems.map (memT f)).map (·.1)).Nodup
    rw [List.map_map]
    exact o.once
theorem ins_perm {r : List Nat} {k : Nat} (p : Nat) (h : r.Perm (List.range k)) : (r.take p ++ [k] ++ r.drop p).Perm (List.range (k + 1)) := by
  rw [List.range_succ, List.append_assoc]
  have e : (r.take p ++ ([k] ++ r.drop p)).Perm (r.take p ++ (r.drop p ++ [k])) := List.Perm.append_left _ List.perm_append_comm
  rw [← List.append_assoc (r.take p) (r.drop p), List.take_append_drop] at e
  exact e.trans (h.append_right [k])
theorem nats_ins (r : List Nat) (k p : Nat) : (nats r).take p ++ [.int (k : Nat)] ++ (nats r).drop p = nats (r.take p ++ [k] ++ r.drop p) := by
  unfold nats
  rw [List.map_append, List.map_append, List.map_take, List.map_drop]
  rfl
def arT (r ar : List Nat) : List Nat := (List.range r.length).map fun j => ar.getD (r.idxOf j) 0
theorem rank_lt {r : List Nat} {m i : Nat} (h : r.Perm (List.range m)) (hi : i < m) : r.getD i 0 < m := by
  have l : r.length = m := by rw [h.length_eq, List.length_range]
  have e : r.getD i 0 = r[i]'(by omega) := by rw [List.getD_eq_getElem?_getD, List.getElem?_eq_getElem (by omega)]; rfl
  rw [e]
  exact List.mem_range.mp (h.mem_iff.mp (List.getElem_mem _))
theorem arT_get {r ar : List Nat} (h : r.Perm (List.range ar.length)) (n a : Nat) (e : ar[n]? = some a) : (arT r ar)[r.getD n 0]? = some a := by
  have l : r.length = ar.length := by rw [h.length_eq, List.length_range]
  have hn : n < ar.length := by
    rcases Nat.lt_or_ge n ar.length with l | l
    · exact l
    · rw [List.getElem?_eq_none l] at e
      cases e
  have hr := rank_lt h hn
  have nd : r.Nodup := h.nodup_iff.mpr List.nodup_range
  have e1 : r.getD n 0 = r[n]'(by omega) := by rw [List.getD_eq_getElem?_getD, List.getElem?_eq_getElem (by omega)]; rfl
  unfold arT
  rw [List.getElem?_map, List.getElem?_range (by omega)]
  show some (ar.getD (r.idxOf (r.getD n 0)) 0) = some a
  rw [e1, nd.idxOf_getElem, List.getD_eq_getElem?_getD, e]
  rfl
theorem arT_two {r ar : List Nat} (h : ∀ x ∈ ar, x ≤ 2) : ∀ x ∈ arT r ar, x ≤ 2 := by
  intro x hx
  obtain ⟨j, _, rfl⟩ := List.mem_map.mp hx
  rw [List.getD_eq_getElem?_getD]
  cases e : ar[r.idxOf j]? with
  | none => exact Nat.zero_le _
  | some y => exact h y (List.mem_of_getElem? e)
/-- rows found one by one are a table -/
theorem rows_of {q : Nat → Row → Prop} : ∀ (ds : List PyData) (b : Nat), (∀ j, j < ds.length → ∃ row, ds[j]? = some (Row.d row) ∧ q (b + j) row) → ∃ t : List Row, ds = t.map Row.d ∧ ∀ j row, t[j]? = some row → q (b + j) row
  | [], b, _ => ⟨[], rfl, fun j row e => by cases e⟩
  | d :: ds, b, h => by
    obtain ⟨row, e, hq⟩ := h 0 (by rw [List.length_cons]; omega)
    obtain ⟨t, e2, h2⟩ := rows_of ds (b + 1) fun j hj => by
      obtain ⟨row, e, hq⟩ := h (j + 1) (by rw [List.length_cons]; omega)
      exact ⟨row, e, by rw [show b + 1 + j = b + (j + 1) by omega]; exact hq⟩
    refine ⟨row :: t, ?_, fun j r hj => ?_⟩
    · have e' : d = Row.d row := Option.some.inj e
      rw [e', e2]
      rfl
    · cases j with
      | zero =>
        cases hj
        exact hq
      | succ j =>
        have z := h2 j r hj
        rw [show b + 1 + j = b + (j + 1) by omega] at z
        exact z
theorem got1 {os : List (Option (List PyData))} {x y : Option (List PyData)} : (os ++ [x] ++ [y])[os.length]? = some x := get_app get_last
theorem got2 {os : List (Option (List PyData))} {x y : Option (List PyData)} : (os ++ [x] ++ [y])[os.length + 1]? = some y := by
  rw [show os.length + 1 = (os ++ [x]).length by rw [List.length_append]; rfl]
  exact get_last
theorem put1 {os : List (Option (List PyData))} {x y z : Option (List PyData)} : (os ++ [x] ++ [y]).set os.length z = os ++ [z] ++ [y] := by
  rw [List.set_append_left _ _ (by rw [List.length_append, List.length_singleton]; omega), List.set_append_right _ _ (Nat.le_refl _), Nat.sub_self]
  rfl
theorem put2 {os : List (Option (List PyData))} {x y z : Option (List PyData)} : (os ++ [x] ++ [y]).set (os.length + 1) z = os ++ [x] ++ [z] := by
  rw [show os.length + 1 = (os ++ [x]).length by rw [List.length_append]; rfl, List.set_append_right _ _ (Nat.le_refl _), Nat.sub_self]
  rfl
theorem cut_own2 {w : Ws} {k : Nat} {x y : Option (List PyData)} : cut w ⟨k, w.os ++ [x] ++ [y]⟩ = ⟨k, w.os⟩ := by
  unfold cut
  show Ws.mk k ((w.os ++ [x] ++ [y]).take w.os.length) = _
  rw [List.append_assoc, List.take_left']
  rfl
theorem at2 {x y z : PyData} {xs : List PyData} : atI (x :: y :: z :: xs) 2 = some z := show atI _ ((2 : Nat) : Int) = _ from atI_nat rfl
theorem cut_two {x y z : PyData} : Dl.cutD [x, y, z] none (some 2) = [x, y] := rfl
theorem rep_one (k : Nat) : (List.replicate k [PyData.none]).flatten = List.replicate k PyData.none := by
  induction k with
  | zero => rfl
  | succ k ih =>
    rw [List.replicate_succ, List.flatten_cons, ih]
    rfl
section
variable {P : Program} {w : World} {K : PySem.W.Frag} {mg : Str → Option Value} {base : Heap} {Ts : List Addr}
theorem ok_turned {f fT fM : Addr} {fd fdT fdM : FuncData} {cdv : Value} {k : Nat} (F : FunV K "_law_turned" "_law_turned" s_turned f fd cdv) (T : TD mg)
    (G_law_take : FnG P w K mg base k fT fdT ["_law_pen", "_law_many"] (spD K Ts mfTake)) (m_law_take : mg "_law_take" = some (.ref fT)) (k_law_take : PySem.W.keepIn K (.ref fT) = true) (b_law_take : Binds K fdT ["_law_pen", "_law_many"] [])
    (G_law_moved : FnG P w K mg base k fM fdM ["_law_shape", "_law_ranks"] (spD K Ts (mfMoved 4))) (m_law_moved : mg "_law_moved" = some (.ref fM)) (k_law_moved : PySem.W.keepIn K (.ref fM) = true) (b_law_moved : Binds K fdM ["_law_shape", "_law_ranks"] []) :
    FnG P w K mg base (k + 1) f fd ["_law_pen", "_law_table"] (spD K Ts mfTurned) := by
  refine FnG.weak (okD F sc_turned (fun A outer s H E hg hr => ⟨_, (pss_cons (ps_asg (pe_tup (pa_cons (pe_lst pa_nil) (pa_cons (pe_op op_rep (pe_lst (pa_cons pe_non pa_nil)) (pe_callB (lenK K rfl) (by rfl) T.m_len PySem.boot_len (pa_cons (pv 1) pa_nil))) pa_nil))) (pg_tup rfl (pgs_cons (pg_name (i := 2) sc_turned.nd rfl (Or.inr rfl)) (pgs_cons (pg_name (i := 3) sc_turned.nd rfl (Or.inl rfl)) pgs_nil))))
    (pss_cons (ps_for PassesOwn.never rfl (pi_range1 (by rfl) T.m_range (pa_cons (pe_callB (lenK K rfl) (by rfl) T.m_len PySem.boot_len (pa_cons (pv 1) pa_nil)) pa_nil)) (pg_name (i := 4) sc_turned.nd rfl (Or.inl rfl))
    (pss_one (ps_expr (bmK K rfl (pe_bm PySem.F.plainAttrs_list PySem.F.slot_list_insert PySem.F.type_list_insert mt_insert (pv 2) (pa_cons (pe_callG G_law_take hg hr (by rfl) m_law_take k_law_take b_law_take (pa_cons (pv 0) (pa_cons (pe_op op_add (pv 4) pe_int) pa_nil))) (pa_cons (pv 4) pa_nil)))))))
    (pss_cons (ps_for PassesOwn.never rfl (pi_range1 (by rfl) T.m_range (pa_cons (pe_callB (lenK K rfl) (by rfl) T.m_len PySem.boot_len (pa_cons (pv 1) pa_nil)) pa_nil)) (pg_name (i := 4) sc_turned.nd rfl (Or.inl rfl))
    (pss_cons (ps_asg (pe_ix (ixK K rfl) (pv 1) (pv 4) (fun _ _ => rfl)) (pg_tup rfl (pgs_cons (pg_name (i := 5) sc_turned.nd rfl (Or.inl rfl)) (pgs_cons (pg_name (i := 6) sc_turned.nd rfl (Or.inl rfl)) (pgs_cons (pg_name (i := 7) sc_turned.nd rfl (Or.inl rfl)) pgs_nil)))))
    (pss_cons (ps_set (i := 6) sc_turned.nd rfl (Or.inl rfl) (pe_callTy (tupleK K rfl) (by rfl) T.m_tuple PyProof.Rows.boot_tuple (pa_cons (pe_lc (own := [("_law_one_here", 8)]) (tt := tYes) rfl sc_turned.nd (pi_K K rfl (pv 6)) (blkOk_by (N := N_turned) (sc := defScope s_turned) (by decide +kernel)) (fun _ _ _ _ _ => (pg_name (i := 8) sc_turned.nd rfl (Or.inl rfl))) (fun _ _ _ _ _ => pts_nil) (fun _ _ _ _ _ => (pe_callG G_law_moved hg hr (by rfl) m_law_moved k_law_moved b_law_moved (pa_cons (pv 8) (pa_cons (pv 2) pa_nil))))) pa_nil)))
    (pss_cons (ps_set (i := 7) sc_turned.nd rfl (Or.inl rfl) (pe_callTy (tupleK K rfl) (by rfl) T.m_tuple PyProof.Rows.boot_tuple (pa_cons (pe_lc (own := [("_law_one_here", 8)]) (tt := tYes) rfl sc_turned.nd (pi_K K rfl (pv 7)) (blkOk_by (N := N_turned) (sc := defScope s_turned) (by decide +kernel)) (fun _ _ _ _ _ => (pg_name (i := 8) sc_turned.nd rfl (Or.inl rfl))) (fun _ _ _ _ _ => pts_nil) (fun _ _ _ _ _ => (pe_op (catK K rfl) (pe_slice (slK K rfl) (pv 8) po_none (po_some pe_int)) (pe_tup (pa_cons (pe_callG G_law_moved hg hr (by rfl) m_law_moved k_law_moved b_law_moved (pa_cons (pe_ix (ixK K rfl) (pv 8) pe_int (fun _ _ => rfl)) (pa_cons (pv 2) pa_nil))) pa_nil))))) pa_nil)))
    (pss_one (ps_asg (pe_tup (pa_cons (pv 5) (pa_cons (pv 6) (pa_cons (pv 7) pa_nil)))) (pg_sub (pv 3) (pe_ix (ixK K rfl) (pv 2) (pv 4) (fun _ _ => rfl)) set_list)))))))
    (pss_one (ps_ret (pe_callTy (tupleK K rfl) (by rfl) T.m_tuple PyProof.Rows.boot_tuple (pa_cons (pv 3) pa_nil))))))), by repeat first
        | (apply ds_parOwnN; exact rfl)
        | (apply dn_rep)
        | (apply dn_lst)
        | (with_reducible apply ds_frz 2; with_reducible apply ds_forI (t1 := tSeq _ _))
        | (with_reducible apply ds_put)
        | (with_reducible apply ds_asg)
        | (with_reducible apply ds_par)
        | exact de_int
        | exact de_str
        | exact de_bl
        | exact de_non
        | exact de_var
        | exact dx_var
        | exact ds_retN
        | exact ds_next
        | exact ds_brk
        | exact ds_cont
        | exact dt_yes
        | exact dv_nil
        | exact da_nil
        | exact dgs_nil
        | exact dg_name
        | exact do_none
        | (with_reducible apply ds_seq)
        | (with_reducible apply ds_ret)
        | (with_reducible apply ds_if)
        | (with_reducible apply ds_forI)
        | (with_reducible apply ds_whileI)
        | (with_reducible apply ds_drop)
        | (apply dg_tupN 2; exact rfl)
        | (apply dg_tupN 3; exact rfl)
        | apply dgs_cons
        | apply di_any
        | apply di_range
        | apply dt_test
        | apply dt_B
        | apply dt_and
        | apply dt_or
        | apply dt_not
        | apply dx_of
        | apply de_tup
        | apply dv_cons
        | apply da_cons
        | apply do_some
        | apply de_if
        | apply de_not
        | apply de_and
        | apply de_or
        | (apply de_new; apply dn_lst)
        | apply de_op dr_ix
        | apply de_op dr_eq
        | apply de_op dr_ne
        | apply de_op dr_inA
        | apply de_op dr_catT
        | apply de_op dr_catL
        | apply de_op dr_add
        | apply de_op dr_sub
        | apply de_op dr_mul
        | apply de_op dr_mod
        | apply de_op dr_fdiv
        | apply de_op dr_lt
        | apply de_op dr_le
        | apply de_op dr_gt
        | apply de_op dr_ge
        | apply de_op dr_isN
        | apply de_op dr_notN
        | apply de_op dr_addS
        | apply de_slice
        | (apply de_isi; rotate_left 1; assumption; decide; rotate_right 1)
        | apply de_cb dc_len
        | apply de_cb dc_lenS
        | apply de_cb dc_int
        | apply de_cb dc_min2
        | apply de_cb dc_max2
        | apply de_cb dc_tuple
        | (apply de_new; apply dn_cb dcn_list)
        | apply de_call
        | apply de_m dm_append
        | apply de_m dm_insert
        | apply de_m dm_popAt
        | apply de_m0 dm_pop
        | apply de_extend
        | (apply de_new; apply dn_lcN)
        | (apply de_new; apply dn_rep; apply dn_lst)
        | (apply de_genN; rotate_left 2; assumption; rotate_right 2)⟩)) (spD_weak fun ss w P h => ?_)
  obtain ⟨ar, t, n, rfl, ht, hn, h⟩ := h
  refine ⟨rfl, ?_⟩
  dsimp only
  have h5 : t.length ≤ 5 := by have := ht.few; have := ht.len; omega
  have lm : (t.map Row.d).length = t.length := List.length_map _
  refine ⟨le0, le1, _, rfl, Sl.noConfusion, _, seeAll_val, _, _, rfl, rfl, _, rfl, by omega, by omega, by show 1 * Int.toNat _ ≤ 100000; omega, ?_⟩
  refine ⟨_, rfl, Sl.noConfusion, _, seeAll_val, _, _, rfl, rfl, _, rfl, by omega, by omega, ?_⟩
  rw [show Int.toNat ((t.map Row.d).length : Int) = t.length by omega]
  -- the ranks
  refine ⟨fun k env w' => ∃ (m' : Nat) (r : List Nat) (s4 : Sl), env = [.pen, .val (tabD t), .sh w.os.length, .sh (w.os.length + 1), s4, .no, .no, .no, .no] ∧ w' = ⟨m', w.os ++ [some (nats r)] ++ [some (List.replicate t.length PyData.none)]⟩ ∧ r.Perm (List.range k) ∧ w.n ≤ m' + k,
    ⟨w.n, [], _, rfl, by rw [rep_one]; rfl, List.Perm.refl _, by omega⟩, ?_, ?_⟩
  · rintro k x _ _ hx ⟨m', r, s4, rfl, rfl, hr, hm'⟩
    have hk1 := upTo_at hx
    obtain rfl := upTo_val hx
    have lr : r.length = k := by rw [hr.length_eq, List.length_range]
    refine ⟨_, rfl, Sl.noConfusion, w.os.length, rfl, _, rfl, Sl.noConfusion, _, rfl, Sl.noConfusion, _, _, rfl, rfl, _, _, rfl, rfl, _, m' - 1, rfl, by omega, by omega, by show m' = m' - 1 + 1; omega, fun p p0 p1 => ?_⟩
    obtain ⟨q, rfl⟩ := Int.eq_ofNat_of_zero_le p0
    refine ⟨_, rfl, Sl.noConfusion, _, _, got1, rfl, _, _, rfl, by rw [nats_len]; omega, by omega, by omega, m' - 1, r.take q ++ [k] ++ r.drop q, _, rfl, ?_, ins_perm q hr, by omega⟩
    show Ws.mk (m' - 1) ((w.os ++ [some (nats r)] ++ [some (List.replicate t.length PyData.none)]).set w.os.length (some ((nats r).take (Int.toNat (q : Int)) ++ [.int (k : Nat)] ++ (nats r).drop (Int.toNat (q : Int))))) = _
    rw [put1, Int.toNat_natCast, nats_ins]
  · rintro _ _ ⟨m', r, s4, rfl, rfl, hr, hm'⟩
    rw [upTo_len] at hr hm'
    have hra : r.Perm (List.range ar.length) := by rw [← ht.len]; exact hr
    have lr : r.length = t.length := by rw [hr.length_eq, List.length_range]
    refine ⟨w.os.length, _, rfl, got1, Nat.le_refl _, _, rfl, Sl.noConfusion, _, seeAll_val, _, _, rfl, rfl, _, rfl, by omega, by omega, ?_⟩
    rw [show Int.toNat ((t.map Row.d).length : Int) = t.length by omega]
    dsimp only
    rw [put1]
    refine ⟨fun k env w' => ∃ (fd : List PyData) (s4 s5 s6 s7 s8 : Sl), env = [.pen, .val (tabD t), .val (.list (nats r)), .sh (w.os.length + 1), s4, s5, s6, s7, s8] ∧ w' = ⟨m', w.os ++ [none] ++ [some fd]⟩ ∧ fd.length = t.length ∧ ∀ i row, i < k → t[i]? = some row → fd[r.getD i 0]? = some (rowT (fun n => r.getD n 0) row).d,
      ⟨_, _, _, _, _, _, rfl, rfl, List.length_replicate, fun i row hi => absurd hi (Nat.not_lt_zero _)⟩, ?_, ?_⟩
    · rintro k x _ _ hx ⟨fd, s4, s5, s6, s7, s8, rfl, rfl, hl, hf⟩
      have hk1 := upTo_at hx
      obtain rfl := upTo_val hx
      have hrow := ht.row k t[k] (List.getElem?_eq_getElem hk1)
      have hat : atI (t.map Row.d) (k : Int) = some (t[k]).d := atI_nat (by rw [List.getElem?_map, List.getElem?_eq_getElem hk1]; rfl)
      have hrk : r.getD k 0 < t.length := rank_lt hr hk1
      refine ⟨_, rfl, Sl.noConfusion, _, rfl, Sl.noConfusion, _, _, rfl, rfl, _, _, _, rfl, rfl, hat, _, rfl, rfl, _, _, rfl, _, _, rfl, _, _, rfl, rfl, ?_⟩
      refine ⟨_, rfl, _, rfl, ?_⟩
      refine wLc_map Sh.d (fun s => (s.map fun n => r.getD n 0).d) (t[k]).sups [] _ (fun s hs Q hQ => ?_) (by have := hrow.sups; rw [List.length_nil]; omega) ?_
      · have o := hrow.sup s hs
        exact ⟨_, rfl, Sl.noConfusion, _, rfl, Sl.noConfusion, s, r, rfl, o.dep, by rw [lr, ht.len]; exact Sh.okA_fit ht.two s o.ok, hQ⟩
      refine ⟨_, seeAll_val, _, _, rfl, rfl, ?_⟩
      refine ⟨_, rfl, _, rfl, ?_⟩
      refine wLc_map memD (fun x => memD (memT (fun n => r.getD n 0) x)) (t[k]).mems [] _ (fun x hx Q hQ => ?_) (by have := hrow.mems; rw [List.length_nil]; omega) ?_
      · have o := (hrow.mem x hx).2.2
        exact ⟨_, rfl, Sl.noConfusion, _, rfl, _, rfl, Or.inr ⟨_, rfl, _, rfl, Sl.noConfusion, _, _, rfl, rfl, _, _, _, rfl, rfl, at2, _, rfl, Sl.noConfusion, x.2.2, r, rfl, o.dep, by rw [lr, ht.len]; exact Sh.okA_fit ht.two _ o.ok, le1, _, _, rfl, rfl, _, _, rfl, rfl, by show 2 + 1 ≤ 100000; decide, hQ⟩⟩
      refine ⟨_, seeAll_val, _, _, rfl, rfl, ?_⟩
      refine ⟨_, rfl, _, rfl, _, rfl, le3, _, rfl, Sl.noConfusion, w.os.length + 1, rfl, _, rfl, Sl.noConfusion, _, rfl, Sl.noConfusion, _, _, rfl, rfl, _, _, _, rfl, rfl, nats_at (by omega), _, _, r.getD k 0, rfl, got2, Evl.ixN_nat (by omega), ?_⟩
      refine ⟨_, _, _, _, _, _, rfl, by dsimp only; rw [put2], by rw [List.length_set, hl], fun i row hi e => ?_⟩
      by_cases z : i = k
      · subst z
        rw [List.getElem?_set_self (by omega)]
        have e2 : t[i] = row := Option.some.inj ((List.getElem?_eq_getElem hk1).symm.trans e)
        rw [← e2, List.nil_append, List.nil_append]
        unfold rowT Row.d
        rw [List.map_map, List.map_map]
        rfl
      · have hik : i < k := by omega
        have nd : r.Nodup := hr.nodup_iff.mpr List.nodup_range
        have ne : r.getD k 0 ≠ r.getD i 0 := by
          rw [List.getD_eq_getElem?_getD, List.getD_eq_getElem?_getD, List.getElem?_eq_getElem (show k < r.length by omega), List.getElem?_eq_getElem (show i < r.length by omega)]
          intro c
          have c : r[k] = r[i] := c
          refine z ((List.getElem?_inj (show i < r.length by omega) nd).mp ?_)
          rw [List.getElem?_eq_getElem (show k < r.length by omega), List.getElem?_eq_getElem (show i < r.length by omega), c]
        rw [List.getElem?_set_ne ne]
        exact hf i row hik e
    · rintro _ _ ⟨fd, s4, s5, s6, s7, s8, rfl, rfl, hl, hf⟩
      rw [upTo_len] at hf
      refine ⟨_, rfl, Sl.noConfusion, _, seeAll_sh got2, _, _, rfl, rfl, ?_⟩
      rw [cut_own2]
      have two := arT_two (r := r) ht.two
      have get := arT_get hra
      obtain ⟨t', rfl, ht'⟩ := rows_of (q := fun j row => RowOk (arT r ar) ((arT r ar).getD j 0) row) fd 0 fun j hj => by
        obtain ⟨i, hi, e⟩ := List.mem_iff_getElem.mp (hr.mem_iff.mpr (List.mem_range.mpr (show j < t.length by omega)))
        have hit : i < t.length := by omega
        have hia : i < ar.length := by have := ht.len; omega
        have e1 : r.getD i 0 = j := by rw [List.getD_eq_getElem?_getD, List.getElem?_eq_getElem hi, e]; rfl
        have e2 := get i _ (List.getElem?_eq_getElem hia)
        have o := (ht.row i t[i] (List.getElem?_eq_getElem hit)).map get
        refine ⟨rowT (fun n => r.getD n 0) t[i], ?_, ?_⟩
        · rw [← e1]
          exact hf i _ hit (List.getElem?_eq_getElem hit)
        · rw [Nat.zero_add, ← e1, List.getD_eq_getElem?_getD, e2]
          rw [List.getD_eq_getElem?_getD, List.getElem?_eq_getElem hia] at o
          exact o
      have la : (arT r ar).length = r.length := by unfold arT; rw [List.length_map, List.length_range]
      have lt' : t'.length = t.length := by rw [List.length_map] at hl; exact hl
      refine h m' (arT r ar) t' (by omega) ⟨by omega, by omega, two, fun j row e => ?_⟩ lt'
      have z := ht' j row e
      rw [Nat.zero_add] at z
      exact z
end
end Kin

namespace Dl
open PySem PySem.Spec PyProof.Rows L2
open Evl (Ex sz_of sz_lt)
open Sem (wp)
set_option maxHeartbeats 8000000 in
theorem meets_enum1 {v : Value} {o : Obj} {H : Heap → Prop} (B : Begins v o H) :
    PySem.Meets (Builtin.«enumerate.__new__» ⟨[.type "enumerate", v], []⟩) (fun _ R s => H s.heap ∧
      R (.ok (.ret (.ref (s.heap.push o).objs.size))) { s with heap := (s.heap.push o).push { cls := .type "enumerate", data := .fields #[.none, .bool false, .ref s.heap.objs.size, rawInt 0, .none, .none] } }) :=
  .of_wp fun prog w A R s h => by
    obtain ⟨hp, g, d, tk, os⟩ := s
    obtain ⟨h1, h⟩ := h
    have hsub := sub_enumerate
    have q1 : ∀ {A' : Around} {E : Value → Shared → Prop} {Q : Value → Shared → Prop}, Q (.ref hp.objs.size) ⟨hp.push o, g, d, tk, os⟩ → wpAny (model prog w) A' (pyIter v) Q E ⟨hp, g, d, tk, os⟩ :=
      fun q => B.iter prog w _ _ ⟨hp, g, d, tk, os⟩ _ h1 q
    wp_walk using q1
    refine wpAny_stack_any fun st => wpAny_pure ?_
    split
    · rename_i c _ _ _ _ _
      cases (c == Value.type "enumerate")
      · wp_walk using q1
        exact ⟨_, rfl, h⟩
      · wp_walk using q1
        exact ⟨_, rfl, h⟩
    · wp_walk using q1
      exact ⟨_, rfl, h⟩
theorem enum_begins1 {prog : Program} {w : World} {A : Around} {E : Value → Shared → Prop} {s : Shared} {v : Value} {o : Obj} {H : Heap → Prop} {Q : Value → Shared → Prop} (B : Begins v o H) (h1 : H s.heap)
    (h : ∀ h', IsEnum h' (s.heap.objs.size + 1) s.heap.objs.size 0 .none → h'.get? s.heap.objs.size = some o → h'.objs.size = s.heap.objs.size + 2 →
      (∀ b o, s.heap.get? b = some o → h'.get? b = some o) → Q (.ref (s.heap.objs.size + 1)) { s with heap := h' }) :
    wpAny (model prog w) A (call (.type "enumerate") [v]) Q E s := by
  refine callType_new F.called_enumerate (by decide) (F.typeCall_enumerate_1 _) (F.newCall_enumerate_1 _) (fun obj => F.args_object_init_2 obj _) F.entry_enumerate_new
    (meets_enum1 B) ⟨h1, ?_⟩
  have hz : (s.heap.push o).objs.size = s.heap.objs.size + 1 := Heap.size_push ..
  show _ ∧ _
  rw [hz]
  have he : IsEnum ((s.heap.push o).push { cls := .type "enumerate", data := .fields #[.none, .bool false, .ref s.heap.objs.size, rawInt 0, .none, .none] }) (s.heap.objs.size + 1) s.heap.objs.size 0 .none := by
    have := Heap.get?_push_size (s.heap.push o) (o := { cls := .type "enumerate", data := .fields #[.none, .bool false, .ref s.heap.objs.size, rawInt 0, .none, .none] }) rfl
    rw [hz] at this
    exact this
  refine ⟨⟨_, he, rfl⟩, h _ he (Heap.get?_push_of_some _ (Heap.get?_push_size _ B.free)) (by rw [Heap.size_push, hz]) fun b o x => Heap.get?_push_of_some _ (Heap.get?_push_of_some _ x)⟩
/-- the tuple at a, each item in a new pair -/
def IteT (K : PySem.W.Frag) (a : Addr) : It :=
  ⟨fun i H => ∃ (xs : List V) (x : V), SqT K H a xs ∧ xs[i]? = some x, fun i H v H' => ∃ T x, v = .ref T ∧ H T = none ∧ H' = upd H T (.tup [.int (i : Nat), x]) ∧ ∀ xs, SqT K H a xs → xs[i]? = some x, fun i H => ∃ xs : List V, SqT K H a xs ∧ xs.length ≤ i⟩
theorem ne_cls {h : Heap} {a b : Addr} {o u : Obj} (ha : h.get? a = some o) (hb : h.get? b = some u) (n : o.cls ≠ u.cls) : a ≠ b := fun e => by
  rw [e, hb] at ha
  cases ha
  exact n rfl
theorem turn_enumT {P : Program} {w : World} {K : PySem.W.Frag} {elts : List Expr} {kk : Nat} {tpos : Pos} (a e it : Addr) :
    Turn P w K (.Tuple elts kk tpos) (IteT K a) [e, it] e (fun i h => (∃ old, IsEnum h e it ((i : Nat) : Int) old) ∧ h.IsTupleIter it a i ∧ e ≠ it) where
  mem := by simp
  obj := fun i h st b hb => by
    obtain ⟨⟨old, he⟩, ⟨o, ho, hc, hd⟩, _⟩ := st
    have e' : b = e ∨ b = it := by simpa using hb
    rcases e' with z | z
    · rw [z]; exact ⟨_, he, fun v q => nomatch q⟩
    · rw [z]; exact ⟨o, ho, fun v q => by rw [hd] at q; cases q⟩
  keep := fun i h h' st k => let ⟨⟨old, he⟩, hi, hne⟩ := st; ⟨⟨old, k e (by simp) _ he⟩, hi.at fun o q => k it (by simp) o q, hne⟩
  item := by
    intro X hP hw hK hc i pins s σ H E I hf st hg
    subst hP hw hK
    obtain ⟨⟨old, he⟩, hit, hne⟩ := st
    obtain ⟨xs, x, hq, hx⟩ := hg
    obtain ⟨its, rv, p, hz⟩ := I.tuple hq
    obtain ⟨u, hu, ru⟩ := rv.get hx
    have hel : e < s.heap.objs.size := Heap.lt_size he
    have hil : it < s.heap.objs.size := by obtain ⟨_, q, _⟩ := hit; exact Heap.lt_size q
    have ht : s.heap.IsTuple a its.toArray := p
    have hai : a ≠ it := by
      obtain ⟨o, z1, z2, _⟩ := ht
      obtain ⟨o', y1, y2, _⟩ := hit
      exact ne_cls z1 y1 (by rw [z2, y2]; exact fun h => absurd (Value.type.inj h) (by decide))
    have hea : e ≠ a := by
      obtain ⟨o, z1, z2, _⟩ := ht
      exact ne_cls he z1 (by rw [z2]; exact fun h => absurd (Value.type.inj h) (by decide))
    have D := Draws.tuple (prog := X.prog) (w := X.w) (A := X.A.in1) (I.ok.hd hc) it a hai its.toArray
    have hlt : i < its.toArray.size := by
      rcases Nat.lt_or_ge i its.length with l | l
      · simpa using l
      · rw [List.getElem?_eq_none l] at hu
        cases hu
    refine wpAny_pyNext_enum_itemD D he ⟨hit, ht⟩ hlt hne (by simp [hne, hea]) fun x' h' tk hP ho hs' hT hsz hk => ?_
    have ex : x' = u := by
      have hP : its.toArray[i]? = some x' := hP
      rw [List.getElem?_toArray, hu] at hP
      exact (Option.some.inj hP).symm
    subst ex
    have hit' := hs'.1
    refine ⟨_, rfl, wpAny_letOwnedTupleGo_enum (s := { s with heap := h', toks := tk + 1 }) ho fun h'' he' sb => ?_⟩
    have hT2 : h''.get? s.heap.objs.size = some { cls := .type "tuple", data := .seq #[.int i tk, x'] } := (sb.2 _ (Nat.ne_of_gt hel)).trans hT
    have new : ObjOk X.prog X.w (upd H s.heap.objs.size (.tup [.int (i : Nat), x])) h'' s.heap.objs.size (.tup [.int (i : Nat), x]) :=
      ⟨by show 2 ≤ sizeLine; decide, [.int i tk, x'], .cons ⟨_, rfl⟩ (.cons ru .nil), ⟨_, hT2, rfl, _, rfl⟩⟩
    have I1 : Inv X pins σ (upd H s.heap.objs.size (.tup [.int (i : Nat), x])) { s with heap := h'', toks := tk + 1 } :=
      I.turnedNew (ch := [e, it]) (fun b ob hb q => (sb.2 b (fun z => hb (by simp [z]))).trans (hk b ob (fun z => hb (by simp [z])) (fun z => hb (by simp [z])) q)) hf (Nat.le_refl _) new
    refine ⟨.ref s.heap.objs.size, _, I1, rfl, ⟨_, x, rfl, I.hok.fresh (Nat.le_refl _), rfl, fun ys hy => by rw [I.tuple_inj hy hq]; exact hx⟩, ⟨⟨x', ?_⟩, hit'.at fun o q => (sb.2 it (Ne.symm hne)).trans q, hne⟩, fun b hb => ?_⟩
    · have e1 : ((i + 1 : Nat) : Int) = (i : Int) + 1 := by omega
      rw [e1]; exact he'
    · have hb' : b < s.heap.objs.size := by
        have e' : b = e ∨ b = it := by simpa using hb
        rcases e' with z | z
        · rw [z]; exact hel
        · rw [z]; exact hil
      rw [upd_ne (Nat.ne_of_lt hb')]
      exact (hf b hb).1
  done := by
    intro X hP hw hK hc i pins s σ H E I hf st hg
    subst hP hw hK
    obtain ⟨⟨old, he⟩, hit, hne⟩ := st
    obtain ⟨xs, hq, hx⟩ := hg
    obtain ⟨its, rv, p, hz⟩ := I.tuple hq
    obtain ⟨f0, f1, f2, f3, f4, f5⟩ := hf it (by simp)
    have hl := rv.length
    have ht : s.heap.IsTuple a its.toArray := p
    have hT : s.TypeIs (.ref e) "enumerate" := ⟨_, he, rfl⟩
    unfold pyNext
    refine wpAny_bind (wpAny_attempt (wpAny_callSpecial?_slot (name := Str.ofString "__next__") hT F.slot_enumerate_next
      (wpAny_call_entry F.slot_enumerate_next hT F.entry_enumerate_next ?_ (F.args_enumerate_next_1 _))))
    show wpAny _ _ (field (.ref e) 2 >>= _) _ _ _
    refine wpAny_bind (wpAny_field he rfl (x := .ref it) rfl ?_)
    refine wpAny_bind (wpAny_nextOf_tuple_end (I.ok.hd hc) hit ht (by simp; omega) fun h' x eb hx' => ?_)
    obtain ⟨o, ho, hc'⟩ := hx'
    refine wpAny_bind (wpAny_isInstance (T := "StopIteration") (b := true) ⟨o, ho, hc'⟩ isSubtype_stop ?_)
    exact wpAny_pure ⟨rfl, I.turned (t' := s.toks) (fun b o hb q => eb b o hb q) f0 f1 f3 f4 f5⟩
  self := fun A i s Q E st h => let ⟨⟨_, he⟩, _⟩ := st; wpAny_pyIter_enum he h
def iEnumT (K : PySem.W.Frag) (ta : TA) : TI := fun σ H R => ta σ H fun vs H1 => ∃ a xs, vs = [.ref a] ∧ SqT K H1 a xs ∧ R (IteT K a) H1
theorem pi_enumT {X : Cx} (K : PySem.W.Frag) (hK : X.K = K) {e : Expr} {ta : TA} {p pos tpos : Pos} {elts : List Expr} {kk : Nat} (hg : Gl X "enumerate") (hm : X.mg "enumerate" = none) (ha : PA X [e] ta) (hs : starEach [e] X.env = [(false, eval e X.env)] := by rfl) :
    PI X (.Tuple elts kk tpos) (.Call (.Name "enumerate" p) [e] [] pos) (iEnumT K ta) := by
  subst hK
  refine ⟨fun pins s σ H R I h => ?_⟩
  refine Call_ (ld_blt I hg hm boot_enumerate (PyProof.Rows.callWith_type1 (thn (ha.run pos pins s σ H _ I h) fun us s1 ⟨vs, H1, I1, r1, q1⟩ => ?_) hs rfl))
  obtain ⟨a, xs, ex, hq, q⟩ := q1
  subst ex
  cases r1 with
  | cons r rr =>
    cases rr
    cases r
    obtain ⟨its, rv, p', hz⟩ := I1.tuple hq
    refine enum_begins1 (begins_tuple a its.toArray) p' fun h' he hit hsz hk => wpAny_pyIter_enum he ?_
    have I2 : Inv X pins σ H1 { s1 with heap := h' } := I1.kept (t' := s1.toks) hk
    refine ⟨s1.heap.objs.size + 1, [s1.heap.objs.size + 1, s1.heap.objs.size], _, _, H1, rfl, I2, turn_enumT a (s1.heap.objs.size + 1) s1.heap.objs.size, ⟨⟨.none, he⟩, ⟨_, hit, rfl, rfl⟩, Nat.succ_ne_self _⟩, fun b hb => ?_, q⟩
    have e' : b = s1.heap.objs.size + 1 ∨ b = s1.heap.objs.size := by simpa using hb
    have hle : s1.heap.objs.size ≤ b := by
      rcases e' with z | z
      · rw [z]; exact Nat.le_add_right _ _
      · rw [z]; exact Nat.le_refl _
    exact I1.fpOk hle (I1.hok.fresh hle)
/-- the pairs that enumerate tells of ds -/
def pairsOf (i : Nat) : List PyData → List PyData
  | [] => []
  | d :: ds => .tuple [.int (i : Nat), d] :: pairsOf (i + 1) ds
theorem pairsOf_len : ∀ (i : Nat) (ds : List PyData), (pairsOf i ds).length = ds.length
  | _, [] => rfl
  | i, d :: ds => congrArg (· + 1) (pairsOf_len (i + 1) ds)
theorem pairsOf_get : ∀ (i : Nat) (ds : List PyData) (k : Nat), (pairsOf i ds)[k]? = ds[k]?.map fun d => .tuple [.int (i + k : Nat), d]
  | _, [], _ => rfl
  | i, d :: ds, 0 => rfl
  | i, d :: ds, k + 1 => by
    show (pairsOf (i + 1) ds)[k]? = ds[k]?.map _
    rw [pairsOf_get (i + 1) ds k, show i + 1 + k = i + (k + 1) by omega]
section
variable {K : PySem.W.Frag} {T : List Addr} {te : TE} {mx : DTX}
theorem di_enumT {tas : TA} {mv : DTA} (h : DA K T tas mv) : DI K T (iEnumT K tas) (fun env n P => mv env n fun ss n1 => ∃ ds, ss = [.val (.tuple ds)] ∧ P (pairsOf 0 ds) n1) := by
  constructor
  intro pe F H σ env n P R' R p q
  refine h.run pe F H σ env n _ _ R p fun vs F1 H1 ss n1 f1 p1 h1 ⟨ds, e, g1⟩ => ?_
  subst e
  match vs, h1 with
  | [v], ⟨hv, _⟩ =>
    cases (show Dq K F1 v (.tuple ds) from hv) with
    | tup h a =>
      rename_i A xs
      have hq : SqT K H1 A xs := Evl.ex_t f1.fh h
      refine ⟨A, xs, rfl, hq, q _ F1 H1 _ n1 f1 p1 (fun pe F2 H2 e1 e2 => ?_) g1⟩
      have hq2 : SqT K H2 A xs := Evl.ex_t (e1.trans e2) h
      have l := dps_len a
      refine ⟨fun i hi => ?_, xs, hq2, by rw [pairsOf_len]; omega⟩
      rw [pairsOf_len] at hi
      refine ⟨⟨xs, xs[i], hq2, by simp [show i < xs.length by omega]⟩, fun x H3 y => ?_⟩
      obtain ⟨t, z, rfl, ht, rfl, hz⟩ := y
      obtain ⟨d, hd, hdq⟩ := dps_get' a (hz xs hq2)
      have f := Fr.put (pe := pe) (o := .tup [.int (i : Nat), z]) e2 ht
      refine ⟨_, .tuple [.int (i : Nat), d], f, Ex.new ht, .tup (SqT.of upd_same) (.cons (.int _) (.cons (dp_ex (e1.trans f.ff) hdq) .nil)), ?_⟩
      rw [pairsOf_get, hd, Nat.zero_add]
      rfl
end
end Dl

namespace Dl
open PySem PySem.Spec PyProof.Rows L2
open Evl (Ex sz_of sz_lt)
section
variable {K : PySem.W.Frag} {T : List Addr} {ta tb tc te : TE} {ma mb mc m : DTE} {mx my : DTX}
theorem ds_augAdd {i : Nat} (h : DE K T te m) : DS K T (tAug i te (ipI fun i j => i + j)) (fun d env n => ∃ a : Int, env[i]? = some (.val (.int a)) ∧ m env n fun x n1 => ∃ b : Int, x = .int b ∧ d.nx (env.set i (.val (.int (a + b)))) n1) := by
  constructor
  rintro pe0 F0 H0 pe F H σ env n D d R ⟨a, ea, p⟩ M
  obtain ⟨v, hv, hd⟩ := R.lv.er.sl i _ ea
  have ev := dp_int hd
  subst ev
  refine ⟨_, hv, h.run pe F H σ env n _ _ R.lv p fun y F1 H1 x n1 f1 p1 h1 ⟨b, e, g1⟩ => ?_⟩
  subst e
  have ey := dp_int h1
  subst ey
  have R1 := R.step f1 p1
  exact ⟨a, b, rfl, rfl, M.nx pe _ _ F1 H1 n1 f1.ff (R1.env (R1.lv.er.set i (s := .val (.int (a + b))) ⟨.int (a + b), rfl, .int _⟩)) g1⟩
/-- on ints -/
theorem dt_chain {c c' : Int → Int → Bool} (ha : DE K T ta ma) (hb : DE K T tb mb) (hc : DE K T tc mc) : DT K T (tTest (tChain (rI0 fun i j => .bl (c i j)) (rI0 fun i j => .bl (c' i j)) ta tb tc))
    (fun env n P => ma env n fun d n1 => mb env n1 fun e n2 => ∃ i j : Int, d = .int i ∧ e = .int j ∧ if c i j = true then mc env n2 fun g n3 => ∃ k : Int, g = .int k ∧ P (c' j k) n3 else P false n2) := by
  constructor
  intro pe F H σ env n P Q R p q
  refine ha.run pe F H σ env n _ _ R p fun x F1 H1 d n1 f1 p1 h1 g1 => ?_
  refine hb.run pe F1 H1 σ env n1 _ _ (R.step f1 p1) g1 fun y F2 H2 e n2 f2 p2 h2 ⟨i, j, e1, e2, g2⟩ => ?_
  subst e1 e2
  have ex := dp_int h1
  have ey := dp_int h2
  subst ex ey
  refine ⟨i, j, rfl, rfl, c i j, rfl, ?_⟩
  cases z : c i j with
  | false =>
    rw [z, if_neg Bool.false_ne_true] at g2
    rw [if_neg Bool.false_ne_true]
    exact ⟨false, rfl, q false F2 H2 n2 (f1.trans f2) p2 g2⟩
  | true =>
    rw [z, if_pos rfl] at g2
    rw [if_pos rfl]
    refine hc.run pe F2 H2 σ env n2 _ _ ((R.step f1 p1).step f2 p2) g2 fun u F3 H3 g n3 f3 p3 h3 ⟨k, e3, g3⟩ => ?_
    subst e3
    have eu := dp_int h3
    subst eu
    exact ⟨j, k, rfl, rfl, c' j k, rfl, q (c' j k) F3 H3 n3 ((f1.trans f2).trans f3) p3 g3⟩
theorem de_chain {c c' : Int → Int → Bool} (ha : DE K T ta ma) (hb : DE K T tb mb) (hc : DE K T tc mc) : DE K T (tChain (rI0 fun i j => .bl (c i j)) (rI0 fun i j => .bl (c' i j)) ta tb tc)
    (fun env n P => ma env n fun d n1 => mb env n1 fun e n2 => ∃ i j : Int, d = .int i ∧ e = .int j ∧ if c i j = true then mc env n2 fun g n3 => ∃ k : Int, g = .int k ∧ P (.bool (c' j k)) n3 else P (.bool false) n2) := by
  constructor
  intro pe F H σ env n P Q R p q
  refine ha.run pe F H σ env n _ _ R p fun x F1 H1 d n1 f1 p1 h1 g1 => ?_
  refine hb.run pe F1 H1 σ env n1 _ _ (R.step f1 p1) g1 fun y F2 H2 e n2 f2 p2 h2 ⟨i, j, e1, e2, g2⟩ => ?_
  subst e1 e2
  have ex := dp_int h1
  have ey := dp_int h2
  subst ex ey
  refine ⟨i, j, rfl, rfl, c i j, rfl, ?_⟩
  cases z : c i j with
  | false =>
    rw [z, if_neg Bool.false_ne_true] at g2
    rw [if_neg Bool.false_ne_true]
    exact q _ F2 H2 _ n2 (f1.trans f2) p2 (.bl _) g2
  | true =>
    rw [z, if_pos rfl] at g2
    rw [if_pos rfl]
    refine hc.run pe F2 H2 σ env n2 _ _ ((R.step f1 p1).step f2 p2) g2 fun u F3 H3 g n3 f3 p3 h3 ⟨k, e3, g3⟩ => ?_
    subst e3
    have eu := dp_int h3
    subst eu
    exact ⟨j, k, rfl, rfl, q _ F3 H3 _ n3 ((f1.trans f2).trans f3) p3 (.bl _) g3⟩
/-- the truth of a list, of a tuple -/
def tTru (K : PySem.W.Frag) (ta : TE) : TT := fun σ H Q => ta σ H fun x H' => ∃ k, TruV K x H' k ∧ Q k H'
theorem truK {X : Cx} (K : PySem.W.Frag) (hK : X.K = K) {a : Expr} (ha : PE X a ta) (he : ∀ whole, isTrue a X.env whole = (do let v ← whole; standAt a.pos; holding [v] (truthy v)) := by intro _; rfl) : PT X a (tTru K ta) := hK ▸ pt_truth ha he
theorem dps_empty {F : Hp} {vs : List V} {ds : List PyData} (h : DqAll K F vs ds) : vs.isEmpty = ds.isEmpty := by
  cases h <;> rfl
theorem dt_truth (h : DX K T ta mx) : DT K T (tTru K ta) (fun env n P => mx env n fun s n1 => ∃ d ds, see n1 s = some d ∧ items d = some ds ∧ P (!ds.isEmpty) n1) := by
  constructor
  intro pe F H σ env n P Q R p q
  refine h.run pe F H σ env n _ _ R p fun x F1 H1 s n1 f1 p1 h1 ⟨d, ds, e1, e2, g1⟩ => ?_
  obtain ⟨a, vs, rfl, hs, hd⟩ := dz_items f1.fh (see_dz p1 h1 e1) e2
  refine ⟨!ds.isEmpty, ?_, q _ F1 H1 n1 f1 p1 g1⟩
  rw [← dps_empty hd]
  rcases hs with hs | hs
  · exact .inl ⟨vs, hs, rfl⟩
  · exact .inr (.inl ⟨vs, hs, rfl⟩)
end
end Dl

namespace Dl
open PySem PySem.Spec PyProof.Rows L2
open Evl (Ex sz_of sz_lt)
section
variable {K : PySem.W.Frag} {T : List Addr} {ta tb te : TE} {mx my : DTX}
theorem repTK {X : Cx} (K : PySem.W.Frag) (hK : X.K = K) : OpR X (binaryOp .Mult) (rRepT K) := hK ▸ op_repT
theorem dr_repT : DR K (rRepT K) (fun d e P => ∃ (ds : List PyData) (k : Int), d = .tuple ds ∧ e = .int k ∧ ds ≠ [] ∧ 2 ≤ k ∧ k ≤ 1000 ∧ ds.length ≤ 1000 ∧ P (.tuple (List.replicate k.toNat ds).flatten)) := by
  constructor
  rintro pe F H x y d e P Q ex hx hy ⟨ds, k, rfl, rfl, h0, h1, h2, h3, p⟩ q
  obtain ⟨a, vs, rfl, z1, z2⟩ := dz_tup hx
  have ey := dz_int hy
  subst ey
  have l := dps_len z2
  refine ⟨a, k, vs, rfl, rfl, Evl.ex_t ex z1, fun e => h0 ?_, h1, h2, by omega, fun r nr => ?_⟩
  · rw [e] at l
    exact List.eq_nil_of_length_eq_zero l.symm
  · have f := Fr.put (pe := pe) (o := .tup (List.replicate k.toNat vs).flatten) ex nr
    exact q _ _ _ _ f (Ex.new nr) (.tup (SqT.of upd_same) (dp_exs f.ff (dps_rep z2 _))) p
theorem dn_catL (h : DX K T ta mx) (g : DX K T tb my) : DN K T (tOp rCat ta tb) (fun env n P => mx env n fun s n1 => my env n1 fun t n2 => ∃ ds es, see n2 s = some (.list ds) ∧ see n2 t = some (.list es) ∧ ds.length + es.length ≤ 100000 ∧ P (ds ++ es) n2) := by
  constructor
  intro pe F H σ env n P Q R p q
  refine h.run pe F H σ env n _ _ R p fun x F1 H1 s n1 f1 p1 h1 g1 => ?_
  refine g.run pe F1 H1 σ env n1 _ _ (R.step f1 p1) g1 fun y F2 H2 t n2 f2 p2 h2 ⟨ds, es, e1, e2, l, g2⟩ => ?_
  obtain ⟨a, vs, rfl, z1, z2⟩ := dz_list f2.fh (see_dz p2 (h1.ex f2.ff) e1)
  obtain ⟨b, us, rfl, y1, y2⟩ := dz_list f2.fh (see_dz p2 h2 e2)
  refine ⟨a, b, vs, us, rfl, rfl, z1, y1, by rw [dps_len z2, dps_len y2]; exact sz_of l, fun r nr => ?_⟩
  have ff := f1.trans f2
  exact q r F2 _ _ _ n2 (ff.trans (Fr.mine f2.fh nr)) (p2.mut (p2.far nr)) (fresh0 ff nr) upd_same (Evl.fresh_back f2.fh nr) (dps_app z2 y2) g2
end
end Dl

namespace Kin
open PySem PySem.Spec PyProof.Rows L2 Dl
open Evl (Ex sz_of sz_lt)
abbrev s_bad_table : Stmt := topS 47
abbrev N_bad_table : List Str := ["_law_pen", "_law_table", "_law_some"]
theorem sc_bad_table : FnScope N_bad_table ["_law_pen", "_law_table"] (defScope s_bad_table) := ⟨rfl, rfl, rfl, by decide +kernel, rfl, by decide +kernel, by decide +kernel⟩
def bads (t : List Row) : List PyData := [
  .none,
  .list (t.map Row.d),
  .tuple (t.map Row.d ++ [.tuple [], .tuple [], .tuple []]),
  .int 7,
  .str "table",
  .tuple [.int 7],
  .tuple [.tuple [.tuple [], .tuple []]],
  .tuple [.tuple [.tuple [.str "?"], .tuple [], .tuple []]],
  .tuple [.tuple [.tuple [], .list [], .tuple []]],
  .tuple [.tuple [.tuple [], .tuple [], .none]],
  .tuple [.tuple [.tuple [], .tuple [.str "a"], .tuple []]],
  .tuple [.tuple [.tuple [], .tuple [.tuple [.int 3]], .tuple []]],
  .tuple [.tuple [.tuple [.str "+"], .tuple [.tuple [.int 0, .tuple [.int 0, .str "a"]], .tuple [.int 0, .str "a"], .tuple [.int 0, .str "a"]], .tuple []]],
  .tuple [.tuple [.tuple [], .tuple [], .tuple [.tuple [.int 10, .str "get", .tuple [.int 0]]]]],
  .tuple [.tuple [.tuple [], .tuple [], .tuple [.tuple [.int 1, .str "set", .tuple [.int 0]]]]],
  .tuple [.tuple [.tuple [], .tuple [], .tuple [.tuple [.int 1, .str "get", .str "a"]]]],
  .tuple [.tuple [.tuple [.str "+", .str "+", .str "+"], .tuple [], .tuple []]],
  .tuple [.tuple [.tuple [], .tuple [], .tuple [.tuple [.int 1, .str "get", .tuple [.int 0]], .tuple [.int 1, .str "put", .tuple [.int 0]]]]],
  .tuple [.tuple [.tuple [.str "+", .str "+"], .tuple [], .tuple []], .tuple [.tuple [.str "+"], .tuple [.tuple [.int 0, .str "a", .str "a"]], .tuple []]],
  .tuple [.tuple [.tuple [], .tuple [], .tuple []], .tuple [.tuple [], .tuple [], .tuple []], .tuple [.tuple [], .tuple [], .tuple []], .tuple [.tuple [], .tuple [], .tuple []], .tuple [.tuple [], .tuple [], .tuple []], .tuple [.tuple [], .tuple [], .tuple []]]]
theorem cut_app {w : Ws} {n : Nat} {l : List (Option (List PyData))} : cut w ⟨n, w.os ++ l⟩ = ⟨n, w.os⟩ := by
  unfold cut
  show Ws.mk n ((w.os ++ l).take w.os.length) = _
  rw [List.take_left']
  rfl
theorem lt3 {n : Nat} (h : n ≤ 1000) : n ≤ 1000 := h
/-- bad_table(pen, table): one of these -/
def mfBad : DF := fun ss w P => ∃ (t : List Row) (n : Nat), ss = [.pen, .val (tabD t)] ∧ t.length ≤ 5 ∧ w.n = n + 1 ∧ ∀ z ∈ bads t, P z ⟨n, w.os⟩
section
variable {P : Program} {w : World} {K : PySem.W.Frag} {mg : Str → Option Value} {base : Heap} {Ts : List Addr}
theorem ok_bad_table {f fO : Addr} {fd fdO : FuncData} {cdv : Value} {k : Nat} (F : FunV K "_law_bad_table" "_law_bad_table" s_bad_table f fd cdv) (T : TD mg)
    (G_law_one : FnG P w K mg base k fO fdO ["_law_pen", "_law_some"] (spD K Ts mfOne)) (m_law_one : mg "_law_one" = some (.ref fO)) (k_law_one : PySem.W.keepIn K (.ref fO) = true) (b_law_one : Binds K fdO ["_law_pen", "_law_some"] []) :
    FnG P w K mg base (k + 1) f fd ["_law_pen", "_law_table"] (spD K Ts mfBad) := by
  refine FnG.weak (okD F sc_bad_table (fun A outer s H E hg hr => ⟨_, (pss_cons (ps_set (i := 2) sc_bad_table.nd rfl (Or.inl rfl) (pe_lst (pa_cons pe_non (pa_cons (pe_callTy (listK K rfl) (by rfl) T.m_list PyProof.Rows.boot_list (pa_cons (pv 1) pa_nil)) (pa_cons (pe_op (catK K rfl) (pv 1) (pe_tup (pa_cons (pe_tup pa_nil) (pa_cons (pe_tup pa_nil) (pa_cons (pe_tup pa_nil) pa_nil))))) (pa_cons pe_int (pa_cons pe_str (pa_cons (pe_tup (pa_cons pe_int pa_nil)) (pa_cons (pe_tup (pa_cons (pe_tup (pa_cons (pe_tup pa_nil) (pa_cons (pe_tup pa_nil) pa_nil))) pa_nil)) (pa_cons (pe_tup (pa_cons (pe_tup (pa_cons (pe_tup (pa_cons pe_str pa_nil)) (pa_cons (pe_tup pa_nil) (pa_cons (pe_tup pa_nil) pa_nil)))) pa_nil)) pa_nil))))))))))
    (pss_cons (ps_set (i := 2) sc_bad_table.nd rfl (Or.inl rfl) (pe_op op_cat (pv 2) (pe_lst (pa_cons (pe_tup (pa_cons (pe_tup (pa_cons (pe_tup pa_nil) (pa_cons (pe_lst pa_nil) (pa_cons (pe_tup pa_nil) pa_nil)))) pa_nil)) (pa_cons (pe_tup (pa_cons (pe_tup (pa_cons (pe_tup pa_nil) (pa_cons (pe_tup pa_nil) (pa_cons pe_non pa_nil)))) pa_nil)) (pa_cons (pe_tup (pa_cons (pe_tup (pa_cons (pe_tup pa_nil) (pa_cons (pe_tup (pa_cons pe_str pa_nil)) (pa_cons (pe_tup pa_nil) pa_nil)))) pa_nil)) (pa_cons (pe_tup (pa_cons (pe_tup (pa_cons (pe_tup pa_nil) (pa_cons (pe_tup (pa_cons (pe_tup (pa_cons pe_int pa_nil)) pa_nil)) (pa_cons (pe_tup pa_nil) pa_nil)))) pa_nil)) pa_nil)))))))
    (pss_cons (ps_set (i := 2) sc_bad_table.nd rfl (Or.inl rfl) (pe_op op_cat (pv 2) (pe_lst (pa_cons (pe_tup (pa_cons (pe_tup (pa_cons (pe_tup (pa_cons pe_str pa_nil)) (pa_cons (pe_tup (pa_cons (pe_tup (pa_cons pe_int (pa_cons (pe_tup (pa_cons pe_int (pa_cons pe_str pa_nil))) pa_nil))) (pa_cons (pe_tup (pa_cons pe_int (pa_cons pe_str pa_nil))) (pa_cons (pe_tup (pa_cons pe_int (pa_cons pe_str pa_nil))) pa_nil)))) (pa_cons (pe_tup pa_nil) pa_nil)))) pa_nil)) (pa_cons (pe_tup (pa_cons (pe_tup (pa_cons (pe_tup pa_nil) (pa_cons (pe_tup pa_nil) (pa_cons (pe_tup (pa_cons (pe_tup (pa_cons pe_int (pa_cons pe_str (pa_cons (pe_tup (pa_cons pe_int pa_nil)) pa_nil)))) pa_nil)) pa_nil)))) pa_nil)) pa_nil)))))
    (pss_cons (ps_set (i := 2) sc_bad_table.nd rfl (Or.inl rfl) (pe_op op_cat (pv 2) (pe_lst (pa_cons (pe_tup (pa_cons (pe_tup (pa_cons (pe_tup pa_nil) (pa_cons (pe_tup pa_nil) (pa_cons (pe_tup (pa_cons (pe_tup (pa_cons pe_int (pa_cons pe_str (pa_cons (pe_tup (pa_cons pe_int pa_nil)) pa_nil)))) pa_nil)) pa_nil)))) pa_nil)) (pa_cons (pe_tup (pa_cons (pe_tup (pa_cons (pe_tup pa_nil) (pa_cons (pe_tup pa_nil) (pa_cons (pe_tup (pa_cons (pe_tup (pa_cons pe_int (pa_cons pe_str (pa_cons pe_str pa_nil)))) pa_nil)) pa_nil)))) pa_nil)) (pa_cons (pe_tup (pa_cons (pe_tup (pa_cons (pe_op (repTK K rfl) (pe_tup (pa_cons pe_str pa_nil)) pe_int) (pa_cons (pe_tup pa_nil) (pa_cons (pe_tup pa_nil) pa_nil)))) pa_nil)) pa_nil))))))
    (pss_cons (ps_expr (bmK K rfl (pe_bm PySem.F.plainAttrs_list PySem.F.slot_list_append PySem.F.type_list_append mt_append (pv 2) (pa_cons (pe_tup (pa_cons (pe_tup (pa_cons (pe_tup pa_nil) (pa_cons (pe_tup pa_nil) (pa_cons (pe_tup (pa_cons (pe_tup (pa_cons pe_int (pa_cons pe_str (pa_cons (pe_tup (pa_cons pe_int pa_nil)) pa_nil)))) (pa_cons (pe_tup (pa_cons pe_int (pa_cons pe_str (pa_cons (pe_tup (pa_cons pe_int pa_nil)) pa_nil)))) pa_nil))) pa_nil)))) pa_nil)) pa_nil))))
    (pss_one (ps_ret (pe_callG G_law_one hg hr (by rfl) m_law_one k_law_one b_law_one (pa_cons (pv 0) (pa_cons (pe_op op_cat (pv 2) (pe_lst (pa_cons (pe_tup (pa_cons (pe_tup (pa_cons (pe_tup (pa_cons pe_str (pa_cons pe_str pa_nil))) (pa_cons (pe_tup pa_nil) (pa_cons (pe_tup pa_nil) pa_nil)))) (pa_cons (pe_tup (pa_cons (pe_tup (pa_cons pe_str pa_nil)) (pa_cons (pe_tup (pa_cons (pe_tup (pa_cons pe_int (pa_cons pe_str (pa_cons pe_str pa_nil)))) pa_nil)) (pa_cons (pe_tup pa_nil) pa_nil)))) pa_nil))) (pa_cons (pe_op (repTK K rfl) (pe_tup (pa_cons (pe_tup (pa_cons (pe_tup pa_nil) (pa_cons (pe_tup pa_nil) (pa_cons (pe_tup pa_nil) pa_nil)))) pa_nil)) pe_int) pa_nil)))) pa_nil)))))))))), by repeat first
        | (with_reducible apply ds_own (i := 2); apply dn_lst)
        | (with_reducible apply ds_own (i := 2); apply dn_catL)
        | (apply de_op dr_repT)
        | (with_reducible apply ds_asg)
        | (with_reducible apply ds_par)
        | exact de_int
        | exact de_str
        | exact de_bl
        | exact de_non
        | exact de_var
        | exact dx_var
        | exact ds_retN
        | exact ds_next
        | exact ds_brk
        | exact ds_cont
        | exact dt_yes
        | exact dv_nil
        | exact da_nil
        | exact dgs_nil
        | exact dg_name
        | exact do_none
        | (with_reducible apply ds_seq)
        | (with_reducible apply ds_ret)
        | (with_reducible apply ds_if)
        | (with_reducible apply ds_forI)
        | (with_reducible apply ds_whileI)
        | (with_reducible apply ds_drop)
        | (apply dg_tupN 2; exact rfl)
        | (apply dg_tupN 3; exact rfl)
        | apply dgs_cons
        | apply di_any
        | apply di_range
        | apply dt_test
        | apply dt_B
        | apply dt_and
        | apply dt_or
        | apply dt_not
        | apply dx_of
        | apply de_tup
        | apply dv_cons
        | apply da_cons
        | apply do_some
        | apply de_if
        | apply de_not
        | apply de_and
        | apply de_or
        | (apply de_new; apply dn_lst)
        | apply de_op dr_ix
        | apply de_op dr_eq
        | apply de_op dr_ne
        | apply de_op dr_inA
        | apply de_op dr_catT
        | apply de_op dr_catL
        | apply de_op dr_add
        | apply de_op dr_sub
        | apply de_op dr_mul
        | apply de_op dr_mod
        | apply de_op dr_fdiv
        | apply de_op dr_lt
        | apply de_op dr_le
        | apply de_op dr_gt
        | apply de_op dr_ge
        | apply de_op dr_isN
        | apply de_op dr_notN
        | apply de_op dr_addS
        | apply de_slice
        | (apply de_isi; rotate_left 1; assumption; decide; rotate_right 1)
        | apply de_cb dc_len
        | apply de_cb dc_lenS
        | apply de_cb dc_int
        | apply de_cb dc_min2
        | apply de_cb dc_max2
        | apply de_cb dc_tuple
        | (apply de_new; apply dn_cb dcn_list)
        | apply de_call
        | apply de_m dm_append
        | apply de_m dm_insert
        | apply de_m dm_popAt
        | apply de_m0 dm_pop
        | apply de_extend
        | (apply de_new; apply dn_lcN)
        | (apply de_new; apply dn_rep; apply dn_lst)
        | (apply de_genN; rotate_left 2; assumption; rotate_right 2)⟩)) (spD_weak fun ss w P h => ?_)
  obtain ⟨t, n, rfl, ht, hn, h⟩ := h
  refine ⟨rfl, ?_⟩
  dsimp only
  have hl : (t.map Row.d).length + [PyData.tuple [], .tuple [], .tuple []].length ≤ 100000 := by
    rw [List.length_map]
    show t.length + 3 ≤ 100000
    omega
  repeat first
    | refine ⟨le0, ?_⟩
    | refine ⟨le1, ?_⟩
    | refine ⟨le2, ?_⟩
    | refine ⟨le3, ?_⟩
    | refine ⟨le4, ?_⟩
    | refine ⟨le8, ?_⟩
    | refine ⟨_, rfl, Sl.noConfusion, _, seeAll_val, _, _, rfl, rfl, ?_⟩
    | refine ⟨_, _, rfl, rfl, _, _, rfl, rfl, List.cons_ne_nil _ _, by decide, by decide, lt3 (Nat.le_of_ble_eq_true rfl), ?_⟩
    | refine ⟨_, _, rfl, rfl, _, _, rfl, rfl, hl, ?_⟩
    | refine ⟨_, _, see_sh get_last, rfl, Nat.le_of_ble_eq_true rfl, ?_⟩
    | refine ⟨_, rfl, Sl.noConfusion, _, rfl, ?_⟩
    | refine ⟨_, rfl, Sl.noConfusion, ?_⟩
    | refine ⟨_, _, get_last, rfl, _, rfl, Nat.le_of_ble_eq_true rfl, ?_⟩
  rw [set_own]
  repeat first
    | refine ⟨le0, ?_⟩
    | refine ⟨le1, ?_⟩
    | refine ⟨le2, ?_⟩
    | refine ⟨le3, ?_⟩
    | refine ⟨_, _, rfl, rfl, _, _, rfl, rfl, List.cons_ne_nil _ _, by decide, by decide, lt3 (Nat.le_of_ble_eq_true rfl), ?_⟩
    | refine ⟨_, _, see_sh get_last, rfl, _, _, rfl, rfl, Nat.le_of_ble_eq_true rfl, ?_⟩
    | refine ⟨_, rfl, Sl.noConfusion, ?_⟩
    | refine ⟨Sl.noConfusion, ?_⟩
  refine ⟨_, _, _, n, rfl, Sl.noConfusion, fun _ => rfl, rfl, List.cons_ne_nil _ _, Nat.lt_of_succ_le (Nat.le_of_ble_eq_true rfl), hn, fun z hz => ?_⟩
  have hz : z ∈ bads t := hz
  show P z (cut w ⟨n, _⟩)
  simp only [List.append_assoc]
  rw [cut_app]
  exact h z hz
end
end Kin

namespace Dl
open PySem PySem.Spec PyProof.Rows L2
open Evl (Ex sz_of sz_lt)
theorem shp_and {d : PyData} (h : SeqAt.shaped d = true) : d.canLay0 = true ∧ d.depth ≤ 64 := ⟨SeqAt.canLay_of_shaped h, SeqAt.depth_of_shaped h⟩
theorem lay_mem : ∀ {xs : List PyData} {x : PyData}, PyData.canLayAll0 xs = true → x ∈ xs → x.canLay0 = true
  | y :: ys, x, h, hm => by
    have h : (y.canLay0 && PyData.canLayAll0 ys) = true := h
    rw [Bool.and_eq_true] at h
    rcases List.mem_cons.mp hm with rfl | hm
    · exact h.1
    · exact lay_mem h.2 hm
theorem depth_mem : ∀ {xs : List PyData} {x : PyData}, x ∈ xs → x.depth ≤ PyData.depthAll xs
  | y :: ys, x, hm => by
    have e : PyData.depthAll (y :: ys) = max y.depth (PyData.depthAll ys) := rfl
    rw [e]
    rcases List.mem_cons.mp hm with rfl | hm
    · exact Nat.le_max_left _ _
    · exact Nat.le_trans (depth_mem hm) (Nat.le_max_right _ _)
theorem shp_tup {xs : List PyData} {x : PyData} (h : SeqAt.shaped (.tuple xs) = true) (hm : x ∈ xs) : SeqAt.shaped x = true := by
  obtain ⟨a, b⟩ := shp_and h
  have e : (PyData.tuple xs).depth = PyData.depthAll xs + 1 := rfl
  have c := depth_mem hm
  show (x.canLay0 && decide (x.depth ≤ 64)) = true
  rw [Bool.and_eq_true]
  exact ⟨lay_mem a hm, decide_eq_true (by omega)⟩
theorem shp_tl {xs : List PyData} (h : SeqAt.shaped (.tuple xs) = true) : SeqAt.shaped (.list xs) = true := h
/-- xs.count(x) -/
def rCntD (K : PySem.W.Frag) : V → List V → Hp → VK → Prop := fun x xs H Q => ∃ (p : Addr) (ds : List PyData) (y : V) (d : PyData), x = .ref p ∧ xs = [y] ∧ Dp K H (.ref p) (.list ds) ∧ Dp K H y d ∧ SeqAt.shaped (.list ds) = true ∧ SeqAt.shaped d = true ∧
  Q (.int ((ds.countP fun z => PyData.eqv z d : Nat) : Int)) H
theorem mt_countD {X : Cx} (hu : X.A.units + 65 < cLine) : MtR X "list.count" (rCntD X.K) := by
  intro pins s σ H x xs v us Q I rx rxs h
  obtain ⟨p, ds, y, d, rfl, rfl, hl, hd, sl, sd, q⟩ := h
  obtain ⟨u, rfl, ru⟩ := rxs.one
  obtain ⟨bs, r2⟩ := Dp.reads I d y u hd ru
  cases rx
  cases hl with
  | lst hs ha =>
    obtain ⟨its, rv, pl, hlen⟩ := I.list hs
    obtain ⟨as, r1⟩ := Dp.readsAll I ds _ its ha rv
    have l1 := SeqAt.canLay_of_shaped sl
    have l2 := SeqAt.canLay_of_shaped sd
    have d2 := SeqAt.depth_of_shaped sd
    refine SeqAt.count_list_data (vs := its.toArray) pl.isList (by simpa using r1) r2 ?_ (PyData.plain_of_canLay0 _ l2) ?_ ?_
    · exact PyData.plain_of_canLay0 (.list ds) l1
    · have : min (PyData.depthAll ds) d.depth ≤ d.depth := Nat.min_le_right _ _
      omega
    · exact ⟨.int _, H, I.tok _, ⟨s.toks, rfl⟩, q⟩
theorem countK {X : Cx} (K : PySem.W.Frag) (hK : X.K = K) (hu : X.A.units + 65 < cLine) : MtR X "list.count" (rCntD K) := hK ▸ mt_countD hu
section
variable {K : PySem.W.Frag} {T : List Addr} {ta te : TE} {mx my : DTX}
theorem de_count (h : DX K T te mx) (ha : DX K T ta my) : DE K T (tBM K "list" (rCntD K) te (tCons ta tNil)) (fun env n P => mx env n fun s n1 => ∃ ds, s = .val (.list ds) ∧ my env n1 fun t n2 => ∃ d, see n2 t = some d ∧ SeqAt.shaped (.list ds) = true ∧ SeqAt.shaped d = true ∧
    P (.int ((ds.countP fun z => PyData.eqv z d : Nat) : Int)) n2) := by
  constructor
  intro pe F H σ env n P Q R p q
  refine h.run pe F H σ env n _ _ R p fun x F1 H1 s n1 f1 p1 h1 ⟨ds, e, g1⟩ => ?_
  subst e
  have h1 : Dq K F1 x (.list ds) := h1
  obtain ⟨a, vs, rfl, z1, z2⟩ := dz_list f1.fh (.fz h1)
  refine ⟨.inl ⟨rfl, vs, SqL.of z1⟩, ?_⟩
  refine ha.run pe F1 H1 σ env n1 _ _ (R.step f1 p1) g1 fun y F2 H2 t n2 f2 p2 h2 ⟨d, e2, s1, s2, g2⟩ => ?_
  refine ⟨a, ds, y, d, rfl, rfl, ((dp_ex f2.fh (dp_ex f2.ff h1))).dp, (see_dz p2 h2 e2).dp f2.fh, s1, s2, ?_⟩
  exact q _ F2 H2 _ n2 (f1.trans f2) p2 (.int _) g2
end
theorem pe_globI {X : Cx} {x : Str} {i : Int} {pos : Pos} (hg : Gl X x) (hm : ∃ t, X.mg x = some (.int i t)) (hd : (x == ("__debug__" : Str)) = false := by decide) : PE X (.Name x pos) (tC (.int i)) := by
  obtain ⟨t, hm⟩ := hm
  exact pe_glob hg hm ⟨t, rfl⟩ hd
theorem pe_globR {X : Cx} {x : Str} {a : Addr} {pos : Pos} (hg : Gl X x) (hm : X.mg x = some (.ref a)) (hd : (x == ("__debug__" : Str)) = false := by decide) : PE X (.Name x pos) (tC (.ref a)) := pe_glob hg hm rfl hd
end Dl

namespace Kin
open PySem PySem.Spec PyProof.Rows L2 Dl
open Evl (Ex sz_of sz_lt)
/-- the module's constants -/
structure Gbl (K : PySem.W.Frag) (mg : Str → Option Value) (aL aS aU aN : Addr) : Prop where
  g_LETTERS : mg "LETTERS" = some (.ref aL)
  d_LETTERS : ∀ F, Dq K F (.ref aL) (.tuple [.str "a", .str "b"])
  g_SIGNS : mg "SIGNS" = some (.ref aS)
  d_SIGNS : ∀ F, Dq K F (.ref aS) (.tuple [.str "+", .str "-", .str "=", .str "*"])
  g_USES : mg "USES" = some (.ref aU)
  d_USES : ∀ F, Dq K F (.ref aU) (.tuple [.str "get", .str "put", .str "both"])
  g_NAMES : mg "NAMES" = some (.ref aN)
  d_NAMES : ∀ F, Dq K F (.ref aN) (.tuple [.int 0, .int 1, .int 2, .int 3, .int 4, .int 5, .int 6, .int 7, .int 8, .int 9])
  g_MOST_CLASSES : ∃ t, mg "MOST_CLASSES" = some (.int 5 t)
  g_MOST_SIGNS : ∃ t, mg "MOST_SIGNS" = some (.int 2 t)
  g_MOST_SUPERS : ∃ t, mg "MOST_SUPERS" = some (.int 2 t)
  g_MOST_MEMBERS : ∃ t, mg "MOST_MEMBERS" = some (.int 3 t)
  g_DEPTH_WITHIN : ∃ t, mg "DEPTH_WITHIN" = some (.int 3 t)
  g_PARTS_WITHIN : ∃ t, mg "PARTS_WITHIN" = some (.int 5 t)
  g_MOST_ENTRIES : ∃ t, mg "MOST_ENTRIES" = some (.int 3 t)
  g_TOO_MANY : ∃ t, mg "TOO_MANY" = some (.int 99 t)
structure TP (mg : Str → Option Value) : Prop extends TD mg where
  m_bool : mg "bool" = none
  m_enumerate : mg "enumerate" = none
abbrev s_are_signs : Stmt := topS 22
abbrev N_are_signs : List Str := ["value", "sign"]
theorem sc_are_signs : FnScope N_are_signs ["value"] (defScope s_are_signs) := ⟨rfl, rfl, rfl, by decide +kernel, rfl, by decide +kernel, by decide +kernel⟩
abbrev s_is_frame : Stmt := topS 23
abbrev N_is_frame : List Str := ["value", "supers", "members"]
theorem sc_is_frame : FnScope N_is_frame ["value"] (defScope s_is_frame) := ⟨rfl, rfl, rfl, by decide +kernel, rfl, by decide +kernel, by decide +kernel⟩
/-- x in ds -/
def memb (ds : List PyData) (x : PyData) : Bool := ds.any fun z => PyData.eqv z x
def sgns : List PyData := [.str "+", .str "-", .str "=", .str "*"]
def areSigns : PyData → Bool
  | .tuple vs => decide (vs.length ≤ 2) && vs.all (memb sgns)
  | _ => false
def fewT (n : Nat) : PyData → Bool
  | .tuple vs => decide (vs.length ≤ n)
  | _ => false
def isFrame : PyData → Bool
  | .tuple [s, u, m] => areSigns s && (fewT 2 u && fewT 3 m)
  | _ => false
theorem tup_or (d : PyData) : (∃ vs, d = .tuple vs) ∨ (subTy (tyOf d) "tuple" = false ∧ ∀ vs, d ≠ .tuple vs) := by
  cases d with
  | tuple vs => exact .inl ⟨vs, rfl⟩
  | none => exact .inr ⟨by decide, fun _ => PyData.noConfusion⟩
  | bool b => exact .inr ⟨by show subTy "bool" "tuple" = false; decide, fun _ => PyData.noConfusion⟩
  | int b => exact .inr ⟨by show subTy "int" "tuple" = false; decide, fun _ => PyData.noConfusion⟩
  | str b => exact .inr ⟨by show subTy "str" "tuple" = false; decide, fun _ => PyData.noConfusion⟩
  | list b => exact .inr ⟨by show subTy "list" "tuple" = false; decide, fun _ => PyData.noConfusion⟩
  | dict b => exact .inr ⟨by show subTy "dict" "tuple" = false; decide, fun _ => PyData.noConfusion⟩
theorem ty_tup (vs : List PyData) : subTy (tyOf (.tuple vs)) "tuple" = true := by
  show subTy "tuple" "tuple" = true
  decide
theorem eqv_int (i j : Int) : PyData.eqv (.int i) (.int j) = (i == j) := rfl
theorem all_no {α : Type} {t : α → Bool} {xs : List α} {k : Nat} {x : α} (h : xs[k]? = some x) (e : t x = false) : xs.all t = false := by
  rw [List.all_eq_false]
  exact ⟨x, List.mem_of_getElem? h, by rw [e]; exact Bool.false_ne_true⟩
theorem all_yes {α : Type} {t : α → Bool} {xs : List α} (h : ∀ (i : Nat) x, i < xs.length → xs[i]? = some x → t x = true) : xs.all t = true := by
  rw [List.all_eq_true]
  intro x hx
  obtain ⟨i, hi, e⟩ := List.mem_iff_getElem.mp hx
  exact h i x hi (by rw [List.getElem?_eq_getElem hi, e])
theorem shp_sgns : SeqAt.shaped (.list sgns) = true := by decide +kernel
def mfAreSigns : DF := fun ss w P => ∃ d, ss = [.val d] ∧ SeqAt.shaped d = true ∧ P (.bool (areSigns d)) w
def mfIsFrame : DF := fun ss w P => ∃ d, ss = [.val d] ∧ SeqAt.shaped d = true ∧ P (.bool (isFrame d)) w
theorem fin {P : PyData → Ws → Prop} {w : Ws} {d : PyData} (q : P d w) : P d (cut w w) := by
  rw [cut_self]
  exact q
section
variable {P : Program} {w : World} {K : PySem.W.Frag} {mg : Str → Option Value} {base : Heap} {Ts : List Addr} {aL aS aU aN : Addr}
theorem ok_are_signs {f : Addr} {fd : FuncData} {cdv : Value} {k : Nat} (F : FunV K "are_signs" "are_signs" s_are_signs f fd cdv) (T : TP mg) (hK : KTy K) (Gb : Gbl K mg aL aS aU aN) :
    FnG P w K mg base (k + 1) f fd ["value"] (spD K Ts mfAreSigns) := by
  refine FnG.weak (okD F sc_are_signs (fun A outer s H E hg hr => ⟨_, (pss_cons (ps_if (PW.pt (pw_or (pt_not (pt_val (pe_callB (isiK K rfl) (by rfl) T.m_isinstance PyProof.Rows.boot_isinstance (pa_cons (pv 0) (pa_cons (pe_bltn (v := .ty "tuple") (by rfl) T.m_tuple PyProof.Rows.boot_tuple rfl) pa_nil))))) (pw_or1 (pt_cmpR op_gt (pe_callB (lenK K rfl) (by rfl) T.m_len PySem.boot_len (pa_cons (pv 0) pa_nil)) (pe_globI (by rfl) Gb.g_MOST_SIGNS) (nomark _))))) (pss_one (ps_ret pe_bl)) pss_nil)
    (pss_cons (ps_for PassesOwn.never rfl (pi_K K rfl (pv 0)) (pg_name (i := 1) sc_are_signs.nd rfl (Or.inl rfl))
    (pss_one (ps_if (pt_cmpR (notInK K rfl (units65 hr)) (pv 1) (pe_globR (by rfl) Gb.g_SIGNS) (by rfl)) (pss_one (ps_ret pe_bl)) pss_nil)))
    (pss_one (ps_ret pe_bl)))), by repeat first
        | exact de_c Gb.d_SIGNS
        | (with_reducible apply ds_asg)
        | (with_reducible apply ds_par)
        | exact de_int
        | exact de_str
        | exact de_bl
        | exact de_non
        | exact de_var
        | exact dx_var
        | exact ds_retN
        | exact ds_next
        | exact ds_brk
        | exact ds_cont
        | exact dt_yes
        | exact dv_nil
        | exact da_nil
        | exact dgs_nil
        | exact dg_name
        | exact do_none
        | (with_reducible apply ds_seq)
        | (with_reducible apply ds_ret)
        | (with_reducible apply ds_if)
        | (with_reducible apply ds_forI)
        | (with_reducible apply ds_whileI)
        | (with_reducible apply ds_drop)
        | (apply dg_tupN 2; exact rfl)
        | (apply dg_tupN 3; exact rfl)
        | apply dgs_cons
        | apply di_any
        | apply di_range
        | apply dt_test
        | apply dt_B
        | apply dt_and
        | apply dt_or
        | apply dt_not
        | apply dx_of
        | apply de_tup
        | apply dv_cons
        | apply da_cons
        | apply do_some
        | apply de_if
        | apply de_not
        | apply de_and
        | apply de_or
        | (apply de_new; apply dn_lst)
        | apply de_op dr_ix
        | apply de_op dr_eq
        | apply de_op dr_ne
        | apply de_op dr_inA
        | apply de_op dr_catT
        | apply de_op dr_catL
        | apply de_op dr_add
        | apply de_op dr_sub
        | apply de_op dr_mul
        | apply de_op dr_mod
        | apply de_op dr_fdiv
        | apply de_op dr_lt
        | apply de_op dr_le
        | apply de_op dr_gt
        | apply de_op dr_ge
        | apply de_op dr_isN
        | apply de_op dr_notN
        | apply de_op dr_addS
        | apply de_slice
        | (apply de_isi; rotate_left 1; assumption; decide; rotate_right 1)
        | apply de_cb dc_len
        | apply de_cb dc_lenS
        | apply de_cb dc_int
        | apply de_cb dc_min2
        | apply de_cb dc_max2
        | apply de_cb dc_tuple
        | (apply de_new; apply dn_cb dcn_list)
        | apply de_call
        | apply de_m dm_append
        | apply de_m dm_insert
        | apply de_m dm_popAt
        | apply de_m0 dm_pop
        | apply de_extend
        | (apply de_new; apply dn_lcN)
        | (apply de_new; apply dn_rep; apply dn_lst)
        | (apply de_genN; rotate_left 2; assumption; rotate_right 2)
        | (with_reducible apply ds_augAdd)
        | apply dt_chain
        | apply de_chain
        | apply dt_truth
        | apply di_enumT
        | apply de_count
        | apply de_op dr_repT
⟩)) (spD_weak fun ss w P h => ?_)
  obtain ⟨d, rfl, hs, q⟩ := h
  refine ⟨rfl, ?_⟩
  dsimp only
  refine ⟨_, rfl, Sl.noConfusion, d, rfl, _, rfl, ?_⟩
  rcases tup_or d with ⟨vs, rfl⟩ | ⟨hd, hne⟩
  · rw [ty_tup vs]
    refine iteF ⟨_, rfl, Sl.noConfusion, _, seeAll_val, _, _, rfl, rfl, _, _, rfl, rfl, _, _, rfl, rfl, _, rfl, ?_⟩
    refine ite2 (fun hc => ?_) (fun hc => ?_)
    · have e : areSigns (.tuple vs) = false := by
        have := of_decide_eq_true hc
        show (decide (vs.length ≤ 2) && vs.all (memb sgns)) = false
        rw [decide_eq_false (by omega), Bool.false_and]
      rw [e] at q
      exact fin q
    · have l2 : vs.length ≤ 2 := by
        by_cases z : (2 : Int) < vs.length
        · exact absurd (decide_eq_true z) hc
        · omega
      refine ⟨_, rfl, _, rfl, ?_⟩
      refine ⟨fun k env w' => ∃ s1, env = [.val (.tuple vs), s1] ∧ w' = w ∧ ∀ i x, i < k → vs[i]? = some x → memb sgns x = true, ⟨_, rfl, rfl, fun i x hi => absurd hi (Nat.not_lt_zero _)⟩, ?_, ?_⟩
      · rintro k x _ _ hx ⟨s1, rfl, rfl, hk⟩
        refine ⟨_, rfl, Sl.noConfusion, _, _, rfl, rfl, _, rfl, shp_tup hs (List.mem_of_getElem? hx), shp_sgns, _, rfl, ?_⟩
        refine ite2 (fun hc => ?_) (fun hc => ?_)
        · have e : areSigns (.tuple vs) = false := by
            have hm : memb sgns x = false := by
              have hc : (!(memb sgns x)) = true := hc
              simpa using hc
            show (decide (vs.length ≤ 2) && vs.all (memb sgns)) = false
            rw [all_no hx hm, Bool.and_false]
          rw [e] at q
          exact fin q
        · refine ⟨_, rfl, rfl, fun i y hi e => ?_⟩
          by_cases z : i = k
          · rw [z, hx] at e
            cases e
            have hc : ¬ (!(memb sgns x)) = true := hc
            simpa using hc
          · exact hk i y (by omega) e
      · rintro _ _ ⟨s1, rfl, rfl, hk⟩
        have e : areSigns (.tuple vs) = true := by
          show (decide (vs.length ≤ 2) && vs.all (memb sgns)) = true
          rw [decide_eq_true l2, Bool.true_and]
          exact all_yes hk
        rw [e] at q
        exact fin q
  · rw [hd]
    have e : areSigns d = false := by
      unfold areSigns
      split
      · exact absurd rfl (hne _)
      · rfl
    rw [e] at q
    refine iteT (iteT ?_)
    exact fin q
theorem ok_is_frame {f fS : Addr} {fd fdS : FuncData} {cdv : Value} {k : Nat} (F : FunV K "is_frame" "is_frame" s_is_frame f fd cdv) (T : TP mg) (hK : KTy K) (Gb : Gbl K mg aL aS aU aN)
    (Gare_signs : FnG P w K mg base k fS fdS ["value"] (spD K Ts mfAreSigns)) (mare_signs : mg "are_signs" = some (.ref fS)) (kare_signs : PySem.W.keepIn K (.ref fS) = true) (bare_signs : Binds K fdS ["value"] []) :
    FnG P w K mg base (k + 1) f fd ["value"] (spD K Ts mfIsFrame) := by
  refine FnG.weak (okD F sc_is_frame (fun A outer s H E hg hr => ⟨_, (pss_cons (ps_if (PW.pt (pw_or (pt_not (pt_val (pe_callB (isiK K rfl) (by rfl) T.m_isinstance PyProof.Rows.boot_isinstance (pa_cons (pv 0) (pa_cons (pe_bltn (v := .ty "tuple") (by rfl) T.m_tuple PyProof.Rows.boot_tuple rfl) pa_nil))))) (pw_or (pt_cmpR (neK K rfl (units64 hr)) (pe_callB (lenK K rfl) (by rfl) T.m_len PySem.boot_len (pa_cons (pv 0) pa_nil)) pe_int (nomark _)) (pw_or1 (pt_not (pt_val (pe_callG Gare_signs hg hr (by rfl) mare_signs kare_signs bare_signs (pa_cons (pe_ix (ixK K rfl) (pv 0) pe_int (fun _ _ => rfl)) pa_nil)))))))) (pss_one (ps_ret pe_bl)) pss_nil)
    (pss_cons (ps_asg (pe_slice (slK K rfl) (pv 0) (po_some pe_int) po_none) (pg_tup rfl (pgs_cons (pg_name (i := 1) sc_is_frame.nd rfl (Or.inl rfl)) (pgs_cons (pg_name (i := 2) sc_is_frame.nd rfl (Or.inl rfl)) pgs_nil))))
    (pss_cons (ps_if (PW.pt (pw_or (pt_not (pt_val (pe_callB (isiK K rfl) (by rfl) T.m_isinstance PyProof.Rows.boot_isinstance (pa_cons (pv 1) (pa_cons (pe_bltn (v := .ty "tuple") (by rfl) T.m_tuple PyProof.Rows.boot_tuple rfl) pa_nil))))) (pw_or1 (pt_cmpR op_gt (pe_callB (lenK K rfl) (by rfl) T.m_len PySem.boot_len (pa_cons (pv 1) pa_nil)) (pe_globI (by rfl) Gb.g_MOST_SUPERS) (nomark _))))) (pss_one (ps_ret pe_bl)) pss_nil)
    (pss_one (ps_ret (pe_and (pe_callB (isiK K rfl) (by rfl) T.m_isinstance PyProof.Rows.boot_isinstance (pa_cons (pv 2) (pa_cons (pe_bltn (v := .ty "tuple") (by rfl) T.m_tuple PyProof.Rows.boot_tuple rfl) pa_nil))) (pe_one (pe_cmpR op_le (pe_callB (lenK K rfl) (by rfl) T.m_len PySem.boot_len (pa_cons (pv 2) pa_nil)) (pe_globI (by rfl) Gb.g_MOST_MEMBERS) (nomark _))))))))), by repeat first
        | (with_reducible apply ds_asg)
        | (with_reducible apply ds_par)
        | exact de_int
        | exact de_str
        | exact de_bl
        | exact de_non
        | exact de_var
        | exact dx_var
        | exact ds_retN
        | exact ds_next
        | exact ds_brk
        | exact ds_cont
        | exact dt_yes
        | exact dv_nil
        | exact da_nil
        | exact dgs_nil
        | exact dg_name
        | exact do_none
        | (with_reducible apply ds_seq)
        | (with_reducible apply ds_ret)
        | (with_reducible apply ds_if)
        | (with_reducible apply ds_forI)
        | (with_reducible apply ds_whileI)
        | (with_reducible apply ds_drop)
        | (apply dg_tupN 2; exact rfl)
        | (apply dg_tupN 3; exact rfl)
        | apply dgs_cons
        | apply di_any
        | apply di_range
        | apply dt_test
        | apply dt_B
        | apply dt_and
        | apply dt_or
        | apply dt_not
        | apply dx_of
        | apply de_tup
        | apply dv_cons
        | apply da_cons
        | apply do_some
        | apply de_if
        | apply de_not
        | apply de_and
        | apply de_or
        | (apply de_new; apply dn_lst)
        | apply de_op dr_ix
        | apply de_op dr_eq
        | apply de_op dr_ne
        | apply de_op dr_inA
        | apply de_op dr_catT
        | apply de_op dr_catL
        | apply de_op dr_add
        | apply de_op dr_sub
        | apply de_op dr_mul
        | apply de_op dr_mod
        | apply de_op dr_fdiv
        | apply de_op dr_lt
        | apply de_op dr_le
        | apply de_op dr_gt
        | apply de_op dr_ge
        | apply de_op dr_isN
        | apply de_op dr_notN
        | apply de_op dr_addS
        | apply de_slice
        | (apply de_isi; rotate_left 1; assumption; decide; rotate_right 1)
        | apply de_cb dc_len
        | apply de_cb dc_lenS
        | apply de_cb dc_int
        | apply de_cb dc_min2
        | apply de_cb dc_max2
        | apply de_cb dc_tuple
        | (apply de_new; apply dn_cb dcn_list)
        | apply de_call
        | apply de_m dm_append
        | apply de_m dm_insert
        | apply de_m dm_popAt
        | apply de_m0 dm_pop
        | apply de_extend
        | (apply de_new; apply dn_lcN)
        | (apply de_new; apply dn_rep; apply dn_lst)
        | (apply de_genN; rotate_left 2; assumption; rotate_right 2)
        | (with_reducible apply ds_augAdd)
        | apply dt_chain
        | apply de_chain
        | apply dt_truth
        | apply di_enumT
        | apply de_count
        | apply de_op dr_repT
⟩)) (spD_weak fun ss w P h => ?_)
  obtain ⟨d, rfl, hs, q⟩ := h
  refine ⟨rfl, ?_⟩
  dsimp only
  refine ⟨_, rfl, Sl.noConfusion, d, rfl, _, rfl, ?_⟩
  rcases tup_or d with ⟨vs, rfl⟩ | ⟨hd, hne⟩
  · rw [ty_tup vs]
    refine iteF ⟨_, rfl, Sl.noConfusion, _, seeAll_val, _, _, rfl, rfl, _, _, rfl, rfl, shp_int _, shp_int _, _, rfl, ?_⟩
    refine ite2 (fun hc => ?_) (fun hc => ?_)
    · have e : isFrame (.tuple vs) = false := by
        unfold isFrame
        split
        · rename_i s u m z
          cases z
          exact absurd hc (by show ¬ (!((3 : Int) == 3)) = true; decide)
        · rfl
      rw [e] at q
      exact fin q
    · have l3 : vs.length = 3 := by
        have hc : ¬ (!((vs.length : Int) == 3)) = true := hc
        have hc : ((vs.length : Int) == 3) = true := by simpa using hc
        have := eq_of_beq hc
        omega
      match vs, l3 with
      | [s, u, m], _ =>
        refine ⟨_, rfl, Sl.noConfusion, _, _, rfl, rfl, _, _, _, rfl, rfl, at0, s, rfl, shp_tup hs (by simp), _, rfl, ?_⟩
        cases es : areSigns s with
        | false =>
          have e : isFrame (.tuple [s, u, m]) = false := by
            show (areSigns s && _) = false
            rw [es, Bool.false_and]
          rw [e] at q
          exact iteT (fin q)
        | true =>
          have e : isFrame (.tuple [s, u, m]) = (fewT 2 u && fewT 3 m) := by
            show (areSigns s && _) = _
            rw [es, Bool.true_and]
          rw [e] at q
          refine iteF ?_
          refine ⟨_, rfl, Sl.noConfusion, _, rfl, _, rfl, .inr ⟨_, rfl, ?_⟩⟩
          rw [cut_tail]
          refine ⟨_, rfl, rfl, _, _, rfl, _, _, rfl, rfl, ?_⟩
          refine ⟨_, rfl, Sl.noConfusion, u, rfl, _, rfl, ?_⟩
          rcases tup_or u with ⟨us, rfl⟩ | ⟨hu, hun⟩
          · rw [ty_tup us]
            refine iteF ⟨_, rfl, Sl.noConfusion, _, seeAll_val, _, _, rfl, rfl, _, _, rfl, rfl, _, _, rfl, rfl, _, rfl, ?_⟩
            refine ite2 (fun hc => ?_) (fun hc => ?_)
            · have := of_decide_eq_true hc
              rw [show fewT 2 (.tuple us) = false from decide_eq_false (by omega), Bool.false_and] at q
              exact fin q
            · have l2 : us.length ≤ 2 := by
                by_cases z : (2 : Int) < us.length
                · exact absurd (decide_eq_true z) hc
                · omega
              rw [show fewT 2 (.tuple us) = true from decide_eq_true l2, Bool.true_and] at q
              refine ⟨_, rfl, Sl.noConfusion, m, rfl, _, rfl, ?_⟩
              rcases tup_or m with ⟨ms, rfl⟩ | ⟨hm, hmn⟩
              · rw [ty_tup ms]
                refine iteT ⟨_, rfl, Sl.noConfusion, _, seeAll_val, _, _, rfl, rfl, _, _, rfl, rfl, _, _, rfl, rfl, ?_⟩
                have e3 : decide ((ms.length : Int) ≤ 3) = fewT 3 (.tuple ms) := by
                  show decide _ = decide _
                  rw [decide_eq_decide]
                  omega
                rw [← e3] at q
                exact fin q
              · rw [hm]
                have e3 : fewT 3 m = false := by
                  unfold fewT
                  split
                  · exact absurd rfl (hmn _)
                  · rfl
                rw [e3] at q
                exact iteF (fin q)
          · rw [hu]
            have e3 : fewT 2 u = false := by
              unfold fewT
              split
              · exact absurd rfl (hun _)
              · rfl
            rw [e3, Bool.false_and] at q
            exact iteT (iteT (fin q))
  · rw [hd]
    have e : isFrame d = false := by
      unfold isFrame
      split
      · exact absurd rfl (hne _)
      · rfl
    rw [e] at q
    exact iteT (iteT (fin q))
end
end Kin

-- dwp3
namespace Kin
open PySem PySem.Spec PyProof.Rows L2 Dl
open Evl (Ex sz_of sz_lt)
abbrev s_parts_within : Stmt := topS 6
abbrev N_parts_within : List Str := ["heads", "value", "room", "leaves", "wide", "many", "inner"]
theorem sc_parts_within : FnScope N_parts_within ["heads", "value", "room", "leaves"] (defScope s_parts_within) := ⟨rfl, rfl, rfl, by decide +kernel, rfl, by decide +kernel, by decide +kernel⟩
def headsD (hs : List (List Nat)) : PyData := .tuple (hs.map fun h => .list (nats h))
def isB (d : PyData) : Bool := subTy (tyOf d) "bool"
def stepP (g : List PyData → Int × List PyData) (acc : Int × List PyData) (d : PyData) : Int × List PyData :=
  match d with
  | .tuple us => (acc.1 + ((g us).1 - 1), acc.2 ++ (g us).2)
  | d => (acc.1, acc.2 ++ [d])
def badHead (hs : List (List Nat)) (vs : List PyData) : Bool := !(decide (0 < vs.length) && decide (vs.length ≤ 3)) || (!(memb (nats (hs.getD vs.length [])) (vs.getD 0 .none)) || isB (vs.getD 0 .none))
/-- the parts of a type with the items vs, to a depth of room, and its leaves -/
def pw (hs : List (List Nat)) : Nat → List PyData → Int × List PyData
  | 0, _ => (99, [])
  | r + 1, vs => if badHead hs vs = true then (99, []) else if vs.length = 1 then (1, []) else (vs.drop 1).foldl (stepP (pw hs r)) ((vs.length : Nat), [])
theorem stepP_not {g : List PyData → Int × List PyData} {acc : Int × List PyData} {d : PyData} (h : ∀ vs, d ≠ .tuple vs) : stepP g acc d = (acc.1, acc.2 ++ [d]) := by
  cases d with
  | tuple vs => exact absurd rfl (h vs)
  | _ => rfl
theorem pw_bad {hs : List (List Nat)} {vs : List PyData} (h : badHead hs vs = true) : ∀ r : Nat, pw hs r vs = (99, [])
  | 0 => rfl
  | r + 1 => by
    unfold pw
    rw [if_pos h]
theorem eq_false_of_ne_true {b : Bool} (h : ¬ b = true) : b = false := by
  cases b
  · rfl
  · exact absurd rfl h
theorem pow2_pos (r : Nat) : 1 ≤ 2 ^ r := Nat.one_le_two_pow
theorem fold_len {g : List PyData → Int × List PyData} {b : Nat} (hb : 1 ≤ b) (h : ∀ us, (g us).2.length ≤ b) : ∀ (ds : List PyData) (acc : Int × List PyData), (ds.foldl (stepP g) acc).2.length ≤ acc.2.length + ds.length * b
  | [], acc => by
    show acc.2.length ≤ _
    omega
  | d :: ds, acc => by
    have ih := fold_len hb h ds (stepP g acc d)
    have e : (stepP g acc d).2.length ≤ acc.2.length + b := by
      rcases tup_or d with ⟨vs, rfl⟩ | ⟨_, hn⟩
      · show (acc.2 ++ (g vs).2).length ≤ _
        rw [List.length_append]
        have := h vs
        omega
      · rw [stepP_not hn]
        show (acc.2 ++ [d]).length ≤ _
        rw [List.length_append, List.length_singleton]
        omega
    show ((ds.foldl (stepP g) (stepP g acc d)).2.length) ≤ _
    rw [List.length_cons, Nat.add_mul]
    omega
theorem badHead_len {hs : List (List Nat)} {vs : List PyData} (h : ¬ badHead hs vs = true) : 0 < vs.length ∧ vs.length ≤ 3 := by
  cases e : (decide (0 < vs.length) && decide (vs.length ≤ 3)) with
  | false => exact absurd (by unfold badHead; rw [e]; rfl) h
  | true =>
    rw [Bool.and_eq_true] at e
    exact ⟨of_decide_eq_true e.1, of_decide_eq_true e.2⟩
theorem pw_len (hs : List (List Nat)) : ∀ (r : Nat) (vs : List PyData), (pw hs r vs).2.length ≤ 2 ^ r
  | 0, _ => Nat.zero_le _
  | r + 1, vs => by
    unfold pw
    split
    · exact Nat.zero_le _
    · rename_i hb
      split
      · exact Nat.zero_le _
      · have l := badHead_len hb
        have f := fold_len (pow2_pos r) (pw_len hs r) (vs.drop 1) (((vs.length : Nat) : Int), [])
        rw [List.length_drop] at f
        have e : (vs.length - 1) * 2 ^ r ≤ 2 * 2 ^ r := Nat.mul_le_mul_right _ (by omega)
        have e0 : ([] : List PyData).length = 0 := rfl
        rw [Nat.pow_succ]
        have f : (List.foldl (stepP (pw hs r)) (((vs.length : Nat) : Int), []) (List.drop 1 vs)).2.length ≤ 0 + (vs.length - 1) * 2 ^ r := f
        omega
/-- parts_within(heads, value, r, leaves) -/
def mfParts (r : Nat) : DF := fun ss w P => ∃ (hs : List (List Nat)) (vs : List PyData) (j : Nat) (ls : List PyData), ss = [.val (headsD hs), .val (.tuple vs), .val (.int (r : Nat)), .sh j] ∧ hs.length = 4 ∧ SeqAt.shaped (.tuple vs) = true ∧ w.os[j]? = some (some ls) ∧ ls.length + 2 ^ r ≤ 100000 ∧
  P (.int (pw hs r vs).1) ⟨w.n, w.os.set j (some (ls ++ (pw hs r vs).2))⟩
theorem set_same {os : List (Option (List PyData))} {j : Nat} {x : Option (List PyData)} (h : os[j]? = some x) : os.set j x = os := by
  refine List.ext_getElem? fun i => ?_
  by_cases e : j = i
  · subst e
    rw [List.getElem?_set_self (by
      rcases Nat.lt_or_ge j os.length with l | l
      · exact l
      · rw [List.getElem?_eq_none l] at h
        cases h), h]
  · rw [List.getElem?_set_ne e]
theorem get_set {os : List (Option (List PyData))} {j : Nat} {x y : Option (List PyData)} (h : os[j]? = some x) : (os.set j y)[j]? = some y := by
  rw [List.getElem?_set_self (by
    rcases Nat.lt_or_ge j os.length with l | l
    · exact l
    · rw [List.getElem?_eq_none l] at h
      cases h)]
theorem headsD_at {hs : List (List Nat)} {i : Nat} (h : i < hs.length) : atI (hs.map fun h => PyData.list (nats h)) (i : Int) = some (.list (nats (hs.getD i []))) := by
  refine atI_nat ?_
  rw [List.getElem?_map, List.getElem?_eq_getElem h, List.getD_eq_getElem?_getD, List.getElem?_eq_getElem h]
  rfl
section
variable {P : Program} {w : World} {K : PySem.W.Frag} {mg : Str → Option Value} {base : Heap} {Ts : List Addr} {aL aS aU aN : Addr}
theorem ok_parts_within {f : Addr} {fd : FuncData} {cdv : Value} (F : FunV K "parts_within" "parts_within" s_parts_within f fd cdv) (T : TP mg) (hK : KTy K) (Gb : Gbl K mg aL aS aU aN)
    (mparts_within : mg "parts_within" = some (.ref f)) (kparts_within : PySem.W.keepIn K (.ref f) = true) (bparts_within : Binds K fd ["heads", "value", "room", "leaves"] []) :
    ∀ r k : Nat, r < k → FnG P w K mg base k f fd ["heads", "value", "room", "leaves"] (spD K Ts (mfParts r))
  | _, 0, h => absurd h (Nat.not_lt_zero _)
  | r, k + 1, hrk => by
    have Gp : ∀ r', r = r' + 1 → FnG P w K mg base k f fd ["heads", "value", "room", "leaves"] (spD K Ts (mfParts r')) := fun r' e => ok_parts_within F T hK Gb mparts_within kparts_within bparts_within r' k (by omega)
    have Gparts_within : FnG P w K mg base k f fd ["heads", "value", "room", "leaves"] (spD K Ts fun ss w P => ∃ r', r = r' + 1 ∧ mfParts r' ss w P) := by
      cases r with
      | zero =>
        constructor
        · rintro vs H Q E ⟨pe, F, ss, n, P, z1, z2, z3, z4, ⟨r', z5, _⟩, z6⟩
          cases z5
        · rintro A outer s H args us vs Q E g r e b v ⟨pe, F, ss, n, P, z1, z2, z3, z4, ⟨r', z5, _⟩, z6⟩
          cases z5
      | succ r' => exact (Gp r' rfl).weak (spD_weak fun ss w P ⟨r2, e, h⟩ => (by cases e; exact h))
    refine FnG.weak (okD F sc_parts_within (fun A outer s H E hg hr => ⟨_, (pss_cons (ps_set (i := 4) sc_parts_within.nd rfl (Or.inl rfl) (pe_callB (lenK K rfl) (by rfl) T.m_len PySem.boot_len (pa_cons (pv 1) pa_nil)))
          (pss_cons (ps_if (PW.pt (pw_or (pt_not (pt_chain op_lt op_le pe_int (pv 4) (pe_globI (by rfl) Gb.g_MOST_ENTRIES))) (pw_or (pt_cmpR (notInK K rfl (units65 hr)) (pe_ix (ixK K rfl) (pv 1) pe_int (fun _ _ => rfl)) (pe_ix (ixK K rfl) (pv 0) (pv 4) (fun _ _ => rfl)) (by rfl)) (pw_or (pt_val (pe_callB (isiK K rfl) (by rfl) T.m_isinstance PyProof.Rows.boot_isinstance (pa_cons (pe_ix (ixK K rfl) (pv 1) pe_int (fun _ _ => rfl)) (pa_cons (pe_bltn (v := .ty "bool") (by rfl) T.m_bool PyProof.Rows.boot_bool rfl) pa_nil)))) (pw_or1 (pt_cmpR (eqK K rfl (units64 hr)) (pv 2) pe_int (nomark _))))))) (pss_one (ps_ret (pe_globI (by rfl) Gb.g_TOO_MANY))) pss_nil)
          (pss_cons (ps_if (pt_cmpR (eqK K rfl (units64 hr)) (pv 4) pe_int (nomark _)) (pss_one (ps_ret pe_int)) pss_nil)
          (pss_cons (ps_set (i := 5) sc_parts_within.nd rfl (Or.inl rfl) (pv 4))
          (pss_cons (ps_for PassesOwn.never rfl (pi_K K rfl (pe_slice (slK K rfl) (pv 1) (po_some pe_int) po_none)) (pg_name (i := 6) sc_parts_within.nd rfl (Or.inl rfl))
          (pss_one (ps_if (pt_val (pe_callB (isiK K rfl) (by rfl) T.m_isinstance PyProof.Rows.boot_isinstance (pa_cons (pv 6) (pa_cons (pe_bltn (v := .ty "tuple") (by rfl) T.m_tuple PyProof.Rows.boot_tuple rfl) pa_nil)))) (pss_one (ps_aug (i := 5) sc_parts_within.nd rfl (Or.inl rfl) (pe_op op_sub (pe_callG Gparts_within hg hr (by rfl) mparts_within kparts_within bparts_within (pa_cons (pv 0) (pa_cons (pv 6) (pa_cons (pe_op op_sub (pv 2) pe_int) (pa_cons (pv 3) pa_nil))))) pe_int) ip_add)) (pss_one (ps_expr (bmK K rfl (pe_bm PySem.F.plainAttrs_list PySem.F.slot_list_append PySem.F.type_list_append mt_append (pv 3) (pa_cons (pv 6) pa_nil))))))))
          (pss_one (ps_ret (pv 5)))))))), by repeat first
        | (with_reducible apply ds_asg)
        | (with_reducible apply ds_par)
        | exact de_int
        | exact de_str
        | exact de_bl
        | exact de_non
        | exact de_var
        | exact dx_var
        | exact ds_retN
        | exact ds_next
        | exact ds_brk
        | exact ds_cont
        | exact dt_yes
        | exact dv_nil
        | exact da_nil
        | exact dgs_nil
        | exact dg_name
        | exact do_none
        | (with_reducible apply ds_seq)
        | (with_reducible apply ds_ret)
        | (with_reducible apply ds_if)
        | (with_reducible apply ds_forI)
        | (with_reducible apply ds_whileI)
        | (with_reducible apply ds_drop)
        | (apply dg_tupN 2; exact rfl)
        | (apply dg_tupN 3; exact rfl)
        | apply dgs_cons
        | apply di_any
        | apply di_range
        | apply dt_test
        | apply dt_B
        | apply dt_and
        | apply dt_or
        | apply dt_not
        | apply dx_of
        | apply de_tup
        | apply dv_cons
        | apply da_cons
        | apply do_some
        | apply de_if
        | apply de_not
        | apply de_and
        | apply de_or
        | (apply de_new; apply dn_lst)
        | apply de_op dr_ix
        | apply de_op dr_eq
        | apply de_op dr_ne
        | apply de_op dr_inA
        | apply de_op dr_catT
        | apply de_op dr_catL
        | apply de_op dr_add
        | apply de_op dr_sub
        | apply de_op dr_mul
        | apply de_op dr_mod
        | apply de_op dr_fdiv
        | apply de_op dr_lt
        | apply de_op dr_le
        | apply de_op dr_gt
        | apply de_op dr_ge
        | apply de_op dr_isN
        | apply de_op dr_notN
        | apply de_op dr_addS
        | apply de_slice
        | (apply de_isi; rotate_left 1; assumption; decide; rotate_right 1)
        | apply de_cb dc_len
        | apply de_cb dc_lenS
        | apply de_cb dc_int
        | apply de_cb dc_min2
        | apply de_cb dc_max2
        | apply de_cb dc_tuple
        | (apply de_new; apply dn_cb dcn_list)
        | apply de_call
        | apply de_m dm_append
        | apply de_m dm_insert
        | apply de_m dm_popAt
        | apply de_m0 dm_pop
        | apply de_extend
        | (apply de_new; apply dn_lcN)
        | (apply de_new; apply dn_rep; apply dn_lst)
        | (apply de_genN; rotate_left 2; assumption; rotate_right 2)
        | (with_reducible apply ds_augAdd)
        | apply dt_chain
        | apply de_chain
        | apply dt_truth
        | apply di_enumT
        | apply de_count
        | apply de_op dr_repT⟩)) (spD_weak fun ss w P h => ?_)
    obtain ⟨hs, vs, j, ls, rfl, h4, hsh, hj, hl, q⟩ := h
    refine ⟨rfl, ?_⟩
    dsimp only
    refine ⟨_, rfl, Sl.noConfusion, _, seeAll_val, _, _, rfl, rfl, ?_⟩
    have q0 : ∀ c : Int, pw hs r vs = (c, []) → P (.int c) (cut w w) := fun c e => by
      rw [e] at q
      have q : P (.int c) ⟨w.n, w.os.set j (some (ls ++ []))⟩ := q
      rw [List.append_nil, set_same hj] at q
      exact fin q
    refine ⟨_, rfl, _, _, rfl, rfl, ?_⟩
    refine ite2 (fun c0 => ?_) (fun c0 => ?_)
    · refine ⟨_, rfl, _, rfl, ?_⟩
      refine ite2 (fun c3 => ?_) (fun c3 => ?_)
      · refine iteT (q0 99 (pw_bad ?_ r))
        unfold badHead
        have z : decide (vs.length ≤ 3) = false := decide_eq_false fun z => by
          have c3 : (!decide ((vs.length : Int) ≤ 3)) = true := c3
          rw [decide_eq_true (by omega : (vs.length : Int) ≤ 3)] at c3
          cases c3
        rw [z, Bool.and_false]
        rfl
      · have l3 : vs.length ≤ 3 := by
          by_cases z : (vs.length : Int) ≤ 3
          · omega
          · exact absurd (by rw [decide_eq_false z]; rfl) c3
        have l0 : 0 < vs.length := by
          have := of_decide_eq_true c0
          omega
        match vs, l0 with
        | x :: rest, _ =>
          have hx : SeqAt.shaped x = true := shp_tup hsh List.mem_cons_self
          have lh : (x :: rest).length < hs.length := by omega
          refine ⟨_, rfl, Sl.noConfusion, _, _, rfl, rfl, _, _, _, rfl, rfl, at0, _, rfl, Sl.noConfusion, _, rfl, Sl.noConfusion, _, _, rfl, rfl, _, _, _, rfl, rfl, headsD_at lh, _, _, rfl, rfl, _, rfl, hx, shp_nats _, _, rfl, ?_⟩
          refine ite2 (fun c4 => ?_) (fun c4 => ?_)
          · refine iteT (q0 99 (pw_bad ?_ r))
            have c4 : (!memb (nats (hs.getD (x :: rest).length [])) x) = true := c4
            show (_ || ((!memb (nats (hs.getD (x :: rest).length [])) x) || _)) = true
            rw [c4, Bool.true_or, Bool.or_true]
          · refine ⟨_, rfl, Sl.noConfusion, _, _, rfl, rfl, _, _, _, rfl, rfl, at0, x, rfl, _, rfl, ?_⟩
            refine ite2 (fun c5 => ?_) (fun c5 => ?_)
            · refine iteT (q0 99 (pw_bad ?_ r))
              have c5 : isB x = true := c5
              show (_ || (_ || isB x)) = true
              rw [c5, Bool.or_true, Bool.or_true]
            · refine ⟨_, rfl, Sl.noConfusion, _, _, rfl, rfl, shp_int _, shp_int _, _, rfl, ?_⟩
              refine ite2 (fun c6 => ?_) (fun c6 => ?_)
              · have z : r = 0 := by
                  have := eq_of_beq (show ((r : Int) == 0) = true from c6)
                  omega
                subst z
                exact q0 99 rfl
              · have z : r ≠ 0 := fun z => by
                  subst z
                  exact c6 rfl
                obtain ⟨r', rfl⟩ := Nat.exists_eq_succ_of_ne_zero z
                have nb : ¬ badHead hs (x :: rest) = true := by
                  unfold badHead
                  rw [decide_eq_true (by omega : 0 < (x :: rest).length), decide_eq_true l3]
                  have c4 : ¬ (!memb (nats (hs.getD (x :: rest).length [])) x) = true := c4
                  have c5 : ¬ isB x = true := c5
                  show ¬ ((!(true && true)) || ((!memb (nats (hs.getD (x :: rest).length [])) x) || isB x)) = true
                  rw [eq_false_of_ne_true c4, eq_false_of_ne_true c5]
                  decide
                refine ⟨_, rfl, Sl.noConfusion, _, _, rfl, rfl, shp_int _, shp_int _, _, rfl, ?_⟩
                refine ite2 (fun c7 => ?_) (fun c7 => ?_)
                · have e1 : (x :: rest).length = 1 := by
                    have := eq_of_beq (show (((x :: rest).length : Int) == 1) = true from c7)
                    omega
                  exact q0 1 (by unfold pw; rw [if_neg nb, if_pos e1])
                · have n1 : ¬ (x :: rest).length = 1 := fun z => c7 (by
                    show ((((x :: rest).length : Nat) : Int) == 1) = true
                    rw [z]
                    rfl)
                  have epw : pw hs (r' + 1) (x :: rest) = rest.foldl (stepP (pw hs r')) (((x :: rest).length : Nat), []) := by
                    unfold pw
                    rw [if_neg nb, if_neg n1]
                    rfl
                  rw [epw] at q
                  have lr : rest.length ≤ 2 := by rw [List.length_cons] at l3; omega
                  have bound : ∀ k, k < rest.length → ((rest.take k).foldl (stepP (pw hs r')) ((((x :: rest).length : Nat) : Int), [])).2.length ≤ 2 ^ r' := fun k hk => by
                    have f := fold_len (pow2_pos r') (pw_len hs r') (rest.take k) ((((x :: rest).length : Nat) : Int), [])
                    have l : (rest.take k).length ≤ 1 := by rw [List.length_take]; omega
                    have m := Nat.mul_le_mul_right (2 ^ r') l
                    have f : ((rest.take k).foldl (stepP (pw hs r')) ((((x :: rest).length : Nat) : Int), [])).2.length ≤ 0 + (rest.take k).length * 2 ^ r' := f
                    omega
                  rw [Nat.pow_succ] at hl
                  refine ⟨_, rfl, Sl.noConfusion, _, rfl, Sl.noConfusion, _, rfl, _, rfl, .inr ⟨_, rfl, _, rfl, ?_⟩⟩
                  rw [cut_tail]
                  refine ⟨fun k env w' => ∃ s6 : Sl, env = [.val (headsD hs), .val (.tuple (x :: rest)), .val (.int ((r' + 1 : Nat) : Int)), .sh j, .val (.int (((x :: rest).length : Nat) : Int)), .val (.int ((rest.take k).foldl (stepP (pw hs r')) (((x :: rest).length : Nat), [])).1), s6] ∧
                    w' = ⟨w.n, w.os.set j (some (ls ++ ((rest.take k).foldl (stepP (pw hs r')) (((x :: rest).length : Nat), [])).2))⟩, ⟨_, rfl, ?_⟩, ?_, ?_⟩
                  · show w = ⟨w.n, w.os.set j (some (ls ++ []))⟩
                    rw [List.append_nil, set_same hj]
                  · rintro k y _ _ hy ⟨s6, rfl, rfl⟩
                    have hk : rest.take (k + 1) = rest.take k ++ [y] := by rw [List.take_succ, hy]; rfl
                    have hys : SeqAt.shaped y = true := shp_tup hsh (List.mem_cons_of_mem _ (List.mem_of_getElem? hy))
                    have hkl : k < rest.length := by
                      rcases Nat.lt_or_ge k rest.length with l | l
                      · exact l
                      · rw [List.getElem?_eq_none l] at hy
                        cases hy
                    have bk := bound k hkl
                    have hn : (rest.take (k + 1)).foldl (stepP (pw hs r')) ((((x :: rest).length : Nat) : Int), []) = stepP (pw hs r') ((rest.take k).foldl (stepP (pw hs r')) ((((x :: rest).length : Nat) : Int), [])) y := by
                      rw [hk, List.foldl_append]
                      rfl
                    generalize (rest.take k).foldl (stepP (pw hs r')) ((((x :: rest).length : Nat) : Int), []) = acc at bk hn ⊢
                    refine ⟨_, rfl, Sl.noConfusion, y, rfl, _, rfl, ?_⟩
                    rcases tup_or y with ⟨us, rfl⟩ | ⟨hyt, hyn⟩
                    · rw [ty_tup us]
                      refine iteT ⟨_, rfl, _, rfl, Sl.noConfusion, _, rfl, Sl.noConfusion, _, rfl, Sl.noConfusion, _, _, rfl, rfl, _, _, rfl, rfl, _, rfl, Sl.noConfusion, r', rfl, hs, us, j, _, ?_, h4, hys, get_set hj, by rw [List.length_append]; omega, ?_⟩
                      · rw [show (((r' + 1 : Nat) : Int) - 1) = (r' : Int) by omega]
                      · refine ⟨_, _, rfl, rfl, _, _, rfl, rfl, _, rfl, ?_⟩
                        refine ⟨_, by rw [hn]; rfl, ?_⟩
                        rw [hn]
                        show Ws.mk _ _ = Ws.mk _ _
                        rw [List.set_set, List.append_assoc]
                        rfl
                    · rw [hyt]
                      refine iteF ⟨_, rfl, Sl.noConfusion, _, rfl, _, rfl, Sl.noConfusion, _, _, get_set hj, rfl, _, rfl, by rw [List.length_append]; have := pow2_pos r'; omega, ?_⟩
                      refine ⟨_, by rw [hn, stepP_not hyn]; rfl, ?_⟩
                      rw [hn, stepP_not hyn]
                      show Ws.mk _ _ = Ws.mk _ _
                      rw [List.set_set, List.append_assoc]
                  · rintro _ _ ⟨s6, rfl, rfl⟩
                    rw [List.take_length]
                    refine ⟨_, rfl, ?_⟩
                    show P _ (cut w ⟨w.n, w.os.set j _⟩)
                    rw [cut_set]
                    exact q
    · refine ⟨_, rfl, iteT (iteT (q0 99 (pw_bad ?_ r)))⟩
      unfold badHead
      have z : decide (0 < vs.length) = false := decide_eq_false fun z => c0 (decide_eq_true (by omega))
      rw [z, Bool.false_and]
      rfl
end
end Kin

-- dwp3
namespace Kin
open PySem PySem.Spec PyProof.Rows L2 Dl
open Evl (Ex sz_of sz_lt)
abbrev s_is_super : Stmt := topS 24
abbrev N_is_super : List Str := ["heads", "letters", "value", "leaves", "leaf"]
theorem sc_is_super : FnScope N_is_super ["heads", "letters", "value"] (defScope s_is_super) := ⟨rfl, rfl, rfl, by decide +kernel, rfl, by decide +kernel, by decide +kernel⟩
theorem fold_all {Q : PyData → Prop} {g : List PyData → Int × List PyData} : ∀ (ds : List PyData) (acc : Int × List PyData), (∀ us, .tuple us ∈ ds → ∀ x ∈ (g us).2, Q x) → (∀ d ∈ ds, Q d) → (∀ x ∈ acc.2, Q x) → ∀ x ∈ (ds.foldl (stepP g) acc).2, Q x
  | [], acc, _, _, h => h
  | d :: ds, acc, h1, h2, h => by
    refine fold_all ds (stepP g acc d) (fun us hu => h1 us (List.mem_cons_of_mem _ hu)) (fun e he => h2 e (List.mem_cons_of_mem _ he)) ?_
    rcases tup_or d with ⟨vs, rfl⟩ | ⟨_, hn⟩
    · intro x hx
      have hx : x ∈ acc.2 ++ (g vs).2 := hx
      rcases List.mem_append.mp hx with hx | hx
      · exact h x hx
      · exact h1 vs List.mem_cons_self x hx
    · rw [stepP_not hn]
      intro x hx
      have hx : x ∈ acc.2 ++ [d] := hx
      rcases List.mem_append.mp hx with hx | hx
      · exact h x hx
      · have e : x = d := by simpa using hx
        rw [e]
        exact h2 d List.mem_cons_self
theorem pw_lay (hs : List (List Nat)) : ∀ (r : Nat) (vs : List PyData), PyData.canLayAll0 vs = true → ∀ x ∈ (pw hs r vs).2, x.canLay0 = true ∧ x.depth ≤ PyData.depthAll vs
  | 0, _, _ => fun x hx => nomatch hx
  | r + 1, vs, hv => by
    unfold pw
    split
    · exact fun x hx => nomatch hx
    · split
      · exact fun x hx => nomatch hx
      · refine fold_all (Q := fun x => x.canLay0 = true ∧ x.depth ≤ PyData.depthAll vs) _ _ (fun us hu x hx => ?_) (fun d hd => ?_) (fun x hx => nomatch hx)
        · have hm := List.mem_of_mem_drop hu
          have l : PyData.canLayAll0 us = true := lay_mem hv hm
          have ih := pw_lay hs r us l x hx
          have d := depth_mem hm
          have e : (PyData.tuple us).depth = PyData.depthAll us + 1 := rfl
          exact ⟨ih.1, by omega⟩
        · have hm := List.mem_of_mem_drop hd
          exact ⟨lay_mem hv hm, depth_mem hm⟩
theorem lay_all : ∀ {xs : List PyData}, (∀ x ∈ xs, x.canLay0 = true) → PyData.canLayAll0 xs = true
  | [], _ => rfl
  | x :: xs, h => by
    show (x.canLay0 && PyData.canLayAll0 xs) = true
    rw [h x List.mem_cons_self, lay_all fun y hy => h y (List.mem_cons_of_mem _ hy)]
    rfl
theorem depth_all {n : Nat} : ∀ {xs : List PyData}, (∀ x ∈ xs, x.depth ≤ n) → PyData.depthAll xs ≤ n
  | [], _ => Nat.zero_le _
  | x :: xs, h => by
    show max x.depth (PyData.depthAll xs) ≤ n
    exact Nat.max_le.mpr ⟨h x List.mem_cons_self, depth_all fun y hy => h y (List.mem_cons_of_mem _ hy)⟩
theorem shp_of {xs : List PyData} {n : Nat} (hn : n ≤ 63) (h : ∀ x ∈ xs, x.canLay0 = true ∧ x.depth ≤ n) : SeqAt.shaped (.list xs) = true := by
  show (PyData.canLayAll0 xs && decide (PyData.depthAll xs + 1 ≤ 64)) = true
  have d := depth_all fun x hx => (h x hx).2
  rw [lay_all fun x hx => (h x hx).1, decide_eq_true (by omega)]
  rfl
theorem shp_pw {hs : List (List Nat)} {r : Nat} {vs : List PyData} (h : SeqAt.shaped (.tuple vs) = true) : SeqAt.shaped (.list (pw hs r vs).2) = true := by
  obtain ⟨a, b⟩ := shp_and h
  have e : (PyData.tuple vs).depth = PyData.depthAll vs + 1 := rfl
  exact shp_of (n := PyData.depthAll vs) (by omega) (pw_lay hs r vs a)
theorem shp_mem {xs : List PyData} {x : PyData} (h : SeqAt.shaped (.list xs) = true) (hm : x ∈ xs) : SeqAt.shaped x = true := shp_tup (xs := xs) h hm
/-- a leaf of those that may stand -/
def leafOk (lt ls : List PyData) (x : PyData) : Bool := memb lt x && decide ((ls.countP fun z => PyData.eqv z x) ≤ 1)
def isSup (hs : List (List Nat)) (lt : List PyData) : PyData → Bool
  | .tuple vs => decide ((pw hs 3 vs).1 ≤ 5) && (pw hs 3 vs).2.all (leafOk lt (pw hs 3 vs).2)
  | _ => false
theorem isSup_not {hs : List (List Nat)} {lt : List PyData} {d : PyData} (h : ∀ vs, d ≠ .tuple vs) : isSup hs lt d = false := by
  unfold isSup
  split
  · exact absurd rfl (h _)
  · rfl
def mfIsSuper : DF := fun ss w P => ∃ (hs : List (List Nat)) (lt : List PyData) (d : PyData), ss = [.val (headsD hs), .val (.tuple lt), .val d] ∧ hs.length = 4 ∧ SeqAt.shaped (.list lt) = true ∧ SeqAt.shaped d = true ∧ P (.bool (isSup hs lt d)) w
theorem finO {P : PyData → Ws → Prop} {w : Ws} {d : PyData} {l : List (Option (List PyData))} (q : P d w) : P d (cut w ⟨w.n, w.os ++ l⟩) := by
  rw [cut_app]
  exact q
section
variable {P : Program} {w : World} {K : PySem.W.Frag} {mg : Str → Option Value} {base : Heap} {Ts : List Addr} {aL aS aU aN : Addr}
theorem ok_is_super {f fP : Addr} {fd fdP : FuncData} {cdv : Value} {k : Nat} (F : FunV K "is_super" "is_super" s_is_super f fd cdv) (T : TP mg) (hK : KTy K) (Gb : Gbl K mg aL aS aU aN)
    (Gparts_within : FnG P w K mg base k fP fdP ["heads", "value", "room", "leaves"] (spD K Ts (mfParts 3))) (mparts_within : mg "parts_within" = some (.ref fP)) (kparts_within : PySem.W.keepIn K (.ref fP) = true) (bparts_within : Binds K fdP ["heads", "value", "room", "leaves"] []) :
    FnG P w K mg base (k + 1) f fd ["heads", "letters", "value"] (spD K Ts mfIsSuper) := by
  refine FnG.weak (okD F sc_is_super (fun A outer s H E hg hr => ⟨_, (pss_cons (ps_set (i := 3) sc_is_super.nd rfl (Or.inl rfl) (pe_lst pa_nil))
          (pss_cons (ps_if (PW.pt (pw_or (pt_not (pt_val (pe_callB (isiK K rfl) (by rfl) T.m_isinstance PyProof.Rows.boot_isinstance (pa_cons (pv 2) (pa_cons (pe_bltn (v := .ty "tuple") (by rfl) T.m_tuple PyProof.Rows.boot_tuple rfl) pa_nil))))) (pw_or1 (pt_cmpR op_gt (pe_callG Gparts_within hg hr (by rfl) mparts_within kparts_within bparts_within (pa_cons (pv 0) (pa_cons (pv 2) (pa_cons (pe_globI (by rfl) Gb.g_DEPTH_WITHIN) (pa_cons (pv 3) pa_nil))))) (pe_globI (by rfl) Gb.g_PARTS_WITHIN) (nomark _))))) (pss_one (ps_ret pe_bl)) pss_nil)
          (pss_cons (ps_for PassesOwn.never rfl (pi_K K rfl (pv 3)) (pg_name (i := 4) sc_is_super.nd rfl (Or.inl rfl))
          (pss_one (ps_if (PW.pt (pw_or (pt_cmpR (notInK K rfl (units65 hr)) (pv 4) (pv 1) (by rfl)) (pw_or1 (pt_cmpR op_gt (bmK K rfl (pe_bm PySem.F.plainAttrs_list PySem.F.slot_list_count PySem.F.type_list_count (countK K rfl (units65 hr)) (pv 3) (pa_cons (pv 4) pa_nil))) pe_int (nomark _))))) (pss_one (ps_ret pe_bl)) pss_nil)))
          (pss_one (ps_ret pe_bl))))), by repeat first
        | (with_reducible apply ds_own (i := 3); apply dn_lst)
        | (with_reducible apply ds_frz 3; with_reducible apply ds_forI)
        | (with_reducible apply ds_asg)
        | (with_reducible apply ds_par)
        | exact de_int
        | exact de_str
        | exact de_bl
        | exact de_non
        | exact de_var
        | exact dx_var
        | exact ds_retN
        | exact ds_next
        | exact ds_brk
        | exact ds_cont
        | exact dt_yes
        | exact dv_nil
        | exact da_nil
        | exact dgs_nil
        | exact dg_name
        | exact do_none
        | (with_reducible apply ds_seq)
        | (with_reducible apply ds_ret)
        | (with_reducible apply ds_if)
        | (with_reducible apply ds_forI)
        | (with_reducible apply ds_whileI)
        | (with_reducible apply ds_drop)
        | (apply dg_tupN 2; exact rfl)
        | (apply dg_tupN 3; exact rfl)
        | apply dgs_cons
        | apply di_any
        | apply di_range
        | apply dt_test
        | apply dt_B
        | apply dt_and
        | apply dt_or
        | apply dt_not
        | apply dx_of
        | apply de_tup
        | apply dv_cons
        | apply da_cons
        | apply do_some
        | apply de_if
        | apply de_not
        | apply de_and
        | apply de_or
        | (apply de_new; apply dn_lst)
        | apply de_op dr_ix
        | apply de_op dr_eq
        | apply de_op dr_ne
        | apply de_op dr_inA
        | apply de_op dr_catT
        | apply de_op dr_catL
        | apply de_op dr_add
        | apply de_op dr_sub
        | apply de_op dr_mul
        | apply de_op dr_mod
        | apply de_op dr_fdiv
        | apply de_op dr_lt
        | apply de_op dr_le
        | apply de_op dr_gt
        | apply de_op dr_ge
        | apply de_op dr_isN
        | apply de_op dr_notN
        | apply de_op dr_addS
        | apply de_slice
        | (apply de_isi; rotate_left 1; assumption; decide; rotate_right 1)
        | apply de_cb dc_len
        | apply de_cb dc_lenS
        | apply de_cb dc_int
        | apply de_cb dc_min2
        | apply de_cb dc_max2
        | apply de_cb dc_tuple
        | (apply de_new; apply dn_cb dcn_list)
        | apply de_call
        | apply de_m dm_append
        | apply de_m dm_insert
        | apply de_m dm_popAt
        | apply de_m0 dm_pop
        | apply de_extend
        | (apply de_new; apply dn_lcN)
        | (apply de_new; apply dn_rep; apply dn_lst)
        | (apply de_genN; rotate_left 2; assumption; rotate_right 2)
        | (with_reducible apply ds_augAdd)
        | apply dt_chain
        | apply de_chain
        | apply dt_truth
        | apply di_enumT
        | apply de_count
        | apply de_op dr_repT⟩)) (spD_weak fun ss w P h => ?_)
  obtain ⟨hs, lt, d, rfl, h4, hlt, hd, q⟩ := h
  refine ⟨rfl, ?_⟩
  dsimp only
  refine ⟨le0, _, rfl, Sl.noConfusion, d, rfl, _, rfl, ?_⟩
  rcases tup_or d with ⟨vs, rfl⟩ | ⟨hdt, hne⟩
  · rw [ty_tup vs]
    refine iteF ⟨_, rfl, Sl.noConfusion, _, rfl, Sl.noConfusion, _, rfl, Sl.noConfusion, hs, vs, w.os.length, [], rfl, h4, hd, get_last, by show 0 + 2 ^ 3 ≤ 100000; decide, ?_⟩
    rw [set_own, List.nil_append]
    refine ⟨_, _, rfl, rfl, _, _, rfl, rfl, _, rfl, ?_⟩
    refine ite2 (fun c1 => ?_) (fun c1 => ?_)
    · have e : isSup hs lt (.tuple vs) = false := by
        show (decide ((pw hs 3 vs).1 ≤ 5) && _) = false
        rw [decide_eq_false (by have := of_decide_eq_true c1; omega), Bool.false_and]
      rw [e] at q
      exact finO q
    · have e : isSup hs lt (.tuple vs) = (pw hs 3 vs).2.all (leafOk lt (pw hs 3 vs).2) := by
        show (decide ((pw hs 3 vs).1 ≤ 5) && _) = _
        rw [decide_eq_true (by
          by_cases z : (pw hs 3 vs).1 ≤ 5
          · exact z
          · exact absurd (decide_eq_true (by omega)) c1), Bool.true_and]
      rw [e] at q
      have hls := shp_pw (hs := hs) (r := 3) hd
      generalize (pw hs 3 vs).2 = ls at q hls ⊢
      refine ⟨w.os.length, ls, rfl, get_last, Nat.le_refl _, ?_⟩
      rw [set_own]
      refine ⟨_, rfl, _, rfl, ?_⟩
      refine ⟨fun k env w' => ∃ s4, env = [.val (headsD hs), .val (.tuple lt), .val (.tuple vs), .val (.list ls), s4] ∧ w' = ⟨w.n, w.os ++ [none]⟩ ∧ ∀ i x, i < k → ls[i]? = some x → leafOk lt ls x = true, ⟨_, rfl, rfl, fun i x hi => absurd hi (Nat.not_lt_zero _)⟩, ?_, ?_⟩
      · rintro k x _ _ hx ⟨s4, rfl, rfl, hk⟩
        have hxs := shp_mem hls (List.mem_of_getElem? hx)
        refine ⟨_, rfl, Sl.noConfusion, _, rfl, Sl.noConfusion, _, _, rfl, rfl, _, rfl, hxs, hlt, _, rfl, ?_⟩
        refine ite2 (fun c2 => ?_) (fun c2 => ?_)
        · have z : leafOk lt ls x = false := by
            have c2 : (!memb lt x) = true := c2
            show (memb lt x && _) = false
            have c3 : memb lt x = false := by simpa using c2
            rw [c3, Bool.false_and]
          rw [all_no hx z] at q
          exact iteT (finO q)
        · have c3 : memb lt x = true := by
            have c2 : ¬ (!memb lt x) = true := c2
            simpa using c2
          refine ⟨_, rfl, Sl.noConfusion, ls, rfl, _, rfl, Sl.noConfusion, _, rfl, hls, hxs, _, _, rfl, rfl, _, _, rfl, rfl, _, rfl, ?_⟩
          refine ite2 (fun c4 => ?_) (fun c4 => ?_)
          · have z : leafOk lt ls x = false := by
              have := of_decide_eq_true c4
              show (memb lt x && decide _) = false
              rw [decide_eq_false (by omega), Bool.and_false]
            rw [all_no hx z] at q
            exact finO q
          · refine ⟨_, rfl, rfl, fun i y hi ey => ?_⟩
            by_cases zz : i = k
            · rw [zz, hx] at ey
              cases ey
              show (memb lt x && decide _) = true
              rw [c3, decide_eq_true (by
                by_cases z : (1 : Int) < ((ls.countP fun z => PyData.eqv z x : Nat) : Int)
                · exact absurd (decide_eq_true z) c4
                · omega)]
              rfl
            · exact hk i y (by omega) ey
      · rintro _ _ ⟨s4, rfl, rfl, hk⟩
        rw [all_yes hk] at q
        exact finO q
  · rw [hdt]
    rw [isSup_not hne] at q
    exact iteT (iteT (finO q))
end
end Kin

-- dwp3
namespace Kin
open PySem PySem.Spec PyProof.Rows L2 Dl
open Evl (Ex sz_of sz_lt)
abbrev s_are_members : Stmt := topS 25
abbrev N_are_members : List Str := ["heads", "letters", "value", "names", "leaves", "member", "name", "use", "shape", "leaf"]
theorem sc_are_members : FnScope N_are_members ["heads", "letters", "value"] (defScope s_are_members) := ⟨rfl, rfl, rfl, by decide +kernel, rfl, by decide +kernel, by decide +kernel⟩
def uses3 : List PyData := [.str "get", .str "put", .str "both"]
def names10 : List PyData := [.int 0, .int 1, .int 2, .int 3, .int 4, .int 5, .int 6, .int 7, .int 8, .int 9]
theorem shp_uses : SeqAt.shaped (.list uses3) = true := by decide +kernel
theorem shp_names : SeqAt.shaped (.list names10) = true := by decide +kernel
/-- one more member -/
def mstep (hs : List (List Nat)) (st : List PyData × List PyData) : PyData → Option (List PyData × List PyData)
  | .tuple [nm, us, sh] => if (!(memb uses3 us) || (!(memb names10 nm) || (isB nm || memb st.1 nm))) = true then none else
      match sh with
      | .tuple vs => if 5 < (pw hs 3 vs).1 then none else some (st.1 ++ [nm], st.2 ++ (pw hs 3 vs).2)
      | d => some (st.1 ++ [nm], st.2 ++ [d])
  | _ => none
def mall (hs : List (List Nat)) : List PyData → List PyData × List PyData → Option (List PyData × List PyData)
  | [], st => some st
  | m :: ms, st => (mstep hs st m).bind (mall hs ms)
def areMems (hs : List (List Nat)) (lt ms : List PyData) : Bool :=
  match mall hs ms ([], []) with
  | none => false
  | some st => st.2.all (memb lt)
theorem mall_snoc (hs : List (List Nat)) : ∀ (ms : List PyData) (m : PyData) (st : List PyData × List PyData), mall hs (ms ++ [m]) st = (mall hs ms st).bind fun s => mstep hs s m
  | [], m, st => by
    show Option.bind (mstep hs st m) (mall hs []) = mstep hs st m
    cases mstep hs st m <;> rfl
  | x :: ms, m, st => by
    show (mstep hs st x).bind (mall hs (ms ++ [m])) = ((mstep hs st x).bind (mall hs ms)).bind _
    cases mstep hs st x with
    | none => rfl
    | some s => exact mall_snoc hs ms m s
theorem mall_none {hs : List (List Nat)} : ∀ {ms : List PyData} {st : List PyData × List PyData} {k : Nat}, mall hs (ms.take k) st = none → mall hs ms st = none
  | [], _, _, h => by
    rw [List.take_nil] at h
    exact h
  | x :: ms, st, 0, h => by cases h
  | x :: ms, st, k + 1, h => by
    have h : (mstep hs st x).bind (mall hs (ms.take k)) = none := h
    show (mstep hs st x).bind (mall hs ms) = none
    cases e : mstep hs st x with
    | none => rfl
    | some s =>
      rw [e] at h
      exact mall_none (k := k) h
/-- what the state is made of -/
structure StOk (n : Nat) (b : Nat) (st : List PyData × List PyData) : Prop where
  nm : ∀ x ∈ st.1, x.canLay0 = true ∧ x.depth ≤ n
  lf : ∀ x ∈ st.2, x.canLay0 = true ∧ x.depth ≤ n
  ln : st.1.length ≤ b
  ll : st.2.length ≤ 8 * b
def mfAreMems : DF := fun ss w P => ∃ (hs : List (List Nat)) (lt ms : List PyData), ss = [.val (headsD hs), .val (.tuple lt), .val (.tuple ms)] ∧ hs.length = 4 ∧ SeqAt.shaped (.list lt) = true ∧ SeqAt.shaped (.tuple ms) = true ∧ ms.length ≤ 1000 ∧ P (.bool (areMems hs lt ms)) w
theorem mstep_bad {hs : List (List Nat)} {st : List PyData × List PyData} {d : PyData} (h : ∀ a b c, d ≠ .tuple [a, b, c]) : mstep hs st d = none := by
  unfold mstep
  split
  · exact absurd rfl (h _ _ _)
  · rfl
theorem areMems_bad {hs : List (List Nat)} {lt ms : List PyData} {k : Nat} {m : PyData} {st : List PyData × List PyData} (hm : ms[k]? = some m) (hst : mall hs (ms.take k) ([], []) = some st) (h : mstep hs st m = none) : areMems hs lt ms = false := by
  have hk : ms.take (k + 1) = ms.take k ++ [m] := by rw [List.take_succ, hm]; rfl
  have e : mall hs (ms.take (k + 1)) ([], []) = none := by
    rw [hk, mall_snoc, hst]
    exact h
  unfold areMems
  rw [mall_none e]
theorem finO2 {P : PyData → Ws → Prop} {w : Ws} {n : Nat} {d : PyData} {x y : Option (List PyData)} (hn : n = w.n) (q : P d w) : P d (cut w ⟨n, w.os ++ [x] ++ [y]⟩) := by
  rw [cut_own2, hn]
  exact q
section
variable {P : Program} {w : World} {K : PySem.W.Frag} {mg : Str → Option Value} {base : Heap} {Ts : List Addr} {aL aS aU aN : Addr}
theorem ok_are_members {f fP : Addr} {fd fdP : FuncData} {cdv : Value} {k : Nat} (F : FunV K "are_members" "are_members" s_are_members f fd cdv) (T : TP mg) (hK : KTy K) (Gb : Gbl K mg aL aS aU aN)
    (Gparts_within : FnG P w K mg base k fP fdP ["heads", "value", "room", "leaves"] (spD K Ts (mfParts 3))) (mparts_within : mg "parts_within" = some (.ref fP)) (kparts_within : PySem.W.keepIn K (.ref fP) = true) (bparts_within : Binds K fdP ["heads", "value", "room", "leaves"] []) :
    FnG P w K mg base (k + 1) f fd ["heads", "letters", "value"] (spD K Ts mfAreMems) := by
  refine FnG.weak (okD F sc_are_members (fun A outer s H E hg hr => ⟨_, (pss_cons (ps_par rfl sc_are_members.nd (i := 3) (j := 4) rfl rfl (by decide) rfl rfl (pa_cons (pe_lst pa_nil) (pa_cons (pe_lst pa_nil) pa_nil)) (by with_unfolding_all rfl))
          (pss_cons (ps_for PassesOwn.never rfl (pi_K K rfl (pv 2)) (pg_name (i := 5) sc_are_members.nd rfl (Or.inl rfl))
          (pss_cons (ps_if (PW.pt (pw_or (pt_not (pt_val (pe_callB (isiK K rfl) (by rfl) T.m_isinstance PyProof.Rows.boot_isinstance (pa_cons (pv 5) (pa_cons (pe_bltn (v := .ty "tuple") (by rfl) T.m_tuple PyProof.Rows.boot_tuple rfl) pa_nil))))) (pw_or1 (pt_cmpR (neK K rfl (units64 hr)) (pe_callB (lenK K rfl) (by rfl) T.m_len PySem.boot_len (pa_cons (pv 5) pa_nil)) pe_int (nomark _))))) (pss_one (ps_ret pe_bl)) pss_nil)
          (pss_cons (ps_asg (pv 5) (pg_tup rfl (pgs_cons (pg_name (i := 6) sc_are_members.nd rfl (Or.inl rfl)) (pgs_cons (pg_name (i := 7) sc_are_members.nd rfl (Or.inl rfl)) (pgs_cons (pg_name (i := 8) sc_are_members.nd rfl (Or.inl rfl)) pgs_nil)))))
          (pss_cons (ps_if (PW.pt (pw_or (pt_cmpR (notInK K rfl (units65 hr)) (pv 7) (pe_globR (by rfl) Gb.g_USES) (by rfl)) (pw_or (pt_cmpR (notInK K rfl (units65 hr)) (pv 6) (pe_globR (by rfl) Gb.g_NAMES) (by rfl)) (pw_or (pt_val (pe_callB (isiK K rfl) (by rfl) T.m_isinstance PyProof.Rows.boot_isinstance (pa_cons (pv 6) (pa_cons (pe_bltn (v := .ty "bool") (by rfl) T.m_bool PyProof.Rows.boot_bool rfl) pa_nil)))) (pw_or1 (pt_cmpR (inK K rfl (units65 hr)) (pv 6) (pv 3) (by rfl))))))) (pss_one (ps_ret pe_bl)) pss_nil)
          (pss_cons (ps_expr (bmK K rfl (pe_bm PySem.F.plainAttrs_list PySem.F.slot_list_append PySem.F.type_list_append mt_append (pv 3) (pa_cons (pv 6) pa_nil))))
          (pss_one (ps_if (pt_not (pt_val (pe_callB (isiK K rfl) (by rfl) T.m_isinstance PyProof.Rows.boot_isinstance (pa_cons (pv 8) (pa_cons (pe_bltn (v := .ty "tuple") (by rfl) T.m_tuple PyProof.Rows.boot_tuple rfl) pa_nil))))) (pss_one (ps_expr (bmK K rfl (pe_bm PySem.F.plainAttrs_list PySem.F.slot_list_append PySem.F.type_list_append mt_append (pv 4) (pa_cons (pv 8) pa_nil))))) (pss_one (ps_if (pt_cmpR op_gt (pe_callG Gparts_within hg hr (by rfl) mparts_within kparts_within bparts_within (pa_cons (pv 0) (pa_cons (pv 8) (pa_cons (pe_globI (by rfl) Gb.g_DEPTH_WITHIN) (pa_cons (pv 4) pa_nil))))) (pe_globI (by rfl) Gb.g_PARTS_WITHIN) (nomark _)) (pss_one (ps_ret pe_bl)) pss_nil)))))))))
          (pss_cons (ps_for PassesOwn.never rfl (pi_K K rfl (pv 4)) (pg_name (i := 9) sc_are_members.nd rfl (Or.inl rfl))
          (pss_one (ps_if (pt_cmpR (notInK K rfl (units65 hr)) (pv 9) (pv 1) (by rfl)) (pss_one (ps_ret pe_bl)) pss_nil)))
          (pss_one (ps_ret pe_bl))))), by repeat first
        | (with_reducible apply ds_parOwn)
        | (apply dn_lst)
        | (with_reducible apply ds_frz 4; with_reducible apply ds_forI (g := gName 9))
        | exact de_c Gb.d_USES
        | exact de_c Gb.d_NAMES
        | (with_reducible apply ds_asg)
        | (with_reducible apply ds_par)
        | exact de_int
        | exact de_str
        | exact de_bl
        | exact de_non
        | exact de_var
        | exact dx_var
        | exact ds_retN
        | exact ds_next
        | exact ds_brk
        | exact ds_cont
        | exact dt_yes
        | exact dv_nil
        | exact da_nil
        | exact dgs_nil
        | exact dg_name
        | exact do_none
        | (with_reducible apply ds_seq)
        | (with_reducible apply ds_ret)
        | (with_reducible apply ds_if)
        | (with_reducible apply ds_forI)
        | (with_reducible apply ds_whileI)
        | (with_reducible apply ds_drop)
        | (apply dg_tupN 2; exact rfl)
        | (apply dg_tupN 3; exact rfl)
        | apply dgs_cons
        | apply di_any
        | apply di_range
        | apply dt_test
        | apply dt_B
        | apply dt_and
        | apply dt_or
        | apply dt_not
        | apply dx_of
        | apply de_tup
        | apply dv_cons
        | apply da_cons
        | apply do_some
        | apply de_if
        | apply de_not
        | apply de_and
        | apply de_or
        | (apply de_new; apply dn_lst)
        | apply de_op dr_ix
        | apply de_op dr_eq
        | apply de_op dr_ne
        | apply de_op dr_inA
        | apply de_op dr_catT
        | apply de_op dr_catL
        | apply de_op dr_add
        | apply de_op dr_sub
        | apply de_op dr_mul
        | apply de_op dr_mod
        | apply de_op dr_fdiv
        | apply de_op dr_lt
        | apply de_op dr_le
        | apply de_op dr_gt
        | apply de_op dr_ge
        | apply de_op dr_isN
        | apply de_op dr_notN
        | apply de_op dr_addS
        | apply de_slice
        | (apply de_isi; rotate_left 1; assumption; decide; rotate_right 1)
        | apply de_cb dc_len
        | apply de_cb dc_lenS
        | apply de_cb dc_int
        | apply de_cb dc_min2
        | apply de_cb dc_max2
        | apply de_cb dc_tuple
        | (apply de_new; apply dn_cb dcn_list)
        | apply de_call
        | apply de_m dm_append
        | apply de_m dm_insert
        | apply de_m dm_popAt
        | apply de_m0 dm_pop
        | apply de_extend
        | (apply de_new; apply dn_lcN)
        | (apply de_new; apply dn_rep; apply dn_lst)
        | (apply de_genN; rotate_left 2; assumption; rotate_right 2)
        | (with_reducible apply ds_augAdd)
        | apply dt_chain
        | apply de_chain
        | apply dt_truth
        | apply di_enumT
        | apply de_count
        | apply de_op dr_repT⟩)) (spD_weak fun ss w P h => ?_)
  obtain ⟨hs, lt, ms, rfl, h4, hlt, hms, hl, q⟩ := h
  refine ⟨rfl, ?_⟩
  dsimp only
  refine ⟨le0, le0, _, rfl, _, rfl, ?_⟩
  obtain ⟨lay, dep⟩ := shp_and hms
  have dep : PyData.depthAll ms + 1 ≤ 64 := dep
  refine ⟨fun k env w' => ∃ (st : List PyData × List PyData) (s5 s6 s7 s8 : Sl), env = [.val (headsD hs), .val (.tuple lt), .val (.tuple ms), .sh w.os.length, .sh (w.os.length + 1), s5, s6, s7, s8, .no] ∧ w' = ⟨w.n, w.os ++ [some st.1] ++ [some st.2]⟩ ∧ mall hs (ms.take k) ([], []) = some st ∧ StOk (PyData.depthAll ms) k st ∧ k ≤ ms.length,
    ⟨([], []), _, _, _, _, rfl, rfl, rfl, ⟨fun x hx => (nomatch hx), fun x hx => (nomatch hx), Nat.zero_le _, Nat.zero_le _⟩, Nat.zero_le _⟩, ?_, ?_⟩
  · rintro k m _ _ hm ⟨st, s5, s6, s7, s8, rfl, rfl, hst, ok, hkl⟩
    have hk1 : k < ms.length := by
      rcases Nat.lt_or_ge k ms.length with l | l
      · exact l
      · rw [List.getElem?_eq_none l] at hm
        cases hm
    have hk : ms.take (k + 1) = ms.take k ++ [m] := by rw [List.take_succ, hm]; rfl
    have hmm := List.mem_of_getElem? hm
    have hmd := depth_mem hmm
    have hml := lay_mem lay hmm
    refine ⟨_, rfl, Sl.noConfusion, m, rfl, _, rfl, ?_⟩
    rcases tup_or m with ⟨vs, rfl⟩ | ⟨hmt, hmn⟩
    · rw [ty_tup vs]
      refine iteF ⟨_, rfl, Sl.noConfusion, _, seeAll_val, _, _, rfl, rfl, _, _, rfl, rfl, shp_int _, shp_int _, _, rfl, ?_⟩
      refine ite2 (fun c1 => ?_) (fun c1 => ?_)
      · rw [areMems_bad hm hst (mstep_bad fun a b c e => by
          cases e
          exact absurd c1 (by show ¬ (!((3 : Int) == 3)) = true; decide))] at q
        exact finO2 rfl q
      · have l3 : vs.length = 3 := by
          have hc : ¬ (!((vs.length : Int) == 3)) = true := c1
          have hc : ((vs.length : Int) == 3) = true := by simpa using hc
          have := eq_of_beq hc
          omega
        match vs, l3 with
        | [nm, us, sh], _ =>
          have hme : (PyData.tuple [nm, us, sh]).depth = PyData.depthAll [nm, us, sh] + 1 := rfl
          have hnm : nm.canLay0 = true ∧ nm.depth ≤ PyData.depthAll ms := ⟨lay_mem (show PyData.canLayAll0 [nm, us, sh] = true from hml) (by simp), by have := depth_mem (xs := [nm, us, sh]) (x := nm) (by simp); omega⟩
          have husd : us.canLay0 = true ∧ us.depth ≤ PyData.depthAll ms := ⟨lay_mem (show PyData.canLayAll0 [nm, us, sh] = true from hml) (by simp), by have := depth_mem (xs := [nm, us, sh]) (x := us) (by simp); omega⟩
          have hshd : sh.canLay0 = true ∧ sh.depth ≤ PyData.depthAll ms := ⟨lay_mem (show PyData.canLayAll0 [nm, us, sh] = true from hml) (by simp), by have := depth_mem (xs := [nm, us, sh]) (x := sh) (by simp); omega⟩
          have shp1 : ∀ x : PyData, x.canLay0 = true ∧ x.depth ≤ PyData.depthAll ms → SeqAt.shaped x = true := fun x hx => by
            show (x.canLay0 && decide (x.depth ≤ 64)) = true
            rw [hx.1, decide_eq_true (by omega)]
            rfl
          refine ⟨_, rfl, Sl.noConfusion, _, rfl, rfl, _, _, rfl, _, _, rfl, _, _, rfl, rfl, ?_⟩
          have bad : (!(memb uses3 us) || (!(memb names10 nm) || (isB nm || memb st.1 nm))) = true → areMems hs lt ms = false := fun c => areMems_bad hm hst (by
            show (if (!(memb uses3 us) || (!(memb names10 nm) || (isB nm || memb st.1 nm))) = true then none else _) = none
            rw [if_pos c])
          refine ⟨_, rfl, Sl.noConfusion, _, _, rfl, rfl, _, rfl, shp1 us husd, shp_uses, _, rfl, ?_⟩
          refine ite2 (fun c2 => ?_) (fun c2 => ?_)
          · have c2 : (!memb uses3 us) = true := c2
            rw [bad (by rw [c2, Bool.true_or])] at q
            exact iteT (finO2 rfl q)
          · have c2 : ¬ (!memb uses3 us) = true := c2
            refine ⟨_, rfl, Sl.noConfusion, _, _, rfl, rfl, _, rfl, shp1 nm hnm, shp_names, _, rfl, ?_⟩
            refine ite2 (fun c3 => ?_) (fun c3 => ?_)
            · have c3 : (!memb names10 nm) = true := c3
              rw [bad (by rw [c3, Bool.true_or, Bool.or_true])] at q
              exact iteT (finO2 rfl q)
            · have c3 : ¬ (!memb names10 nm) = true := c3
              refine ⟨_, rfl, Sl.noConfusion, nm, rfl, _, rfl, ?_⟩
              refine ite2 (fun c4 => ?_) (fun c4 => ?_)
              · have c4 : isB nm = true := c4
                rw [bad (by rw [c4, Bool.true_or, Bool.or_true, Bool.or_true])] at q
                exact iteT (finO2 rfl q)
              · have c4 : ¬ isB nm = true := c4
                refine ⟨_, rfl, Sl.noConfusion, _, rfl, Sl.noConfusion, _, _, rfl, see_sh got1, _, rfl, shp1 nm hnm, shp_of (n := PyData.depthAll ms) (by omega) ok.nm, _, rfl, ?_⟩
                refine ite2 (fun c5 => ?_) (fun c5 => ?_)
                · have c5 : memb st.1 nm = true := c5
                  rw [bad (by rw [c5, Bool.or_true, Bool.or_true, Bool.or_true])] at q
                  exact finO2 rfl q
                · have c5 : ¬ memb st.1 nm = true := c5
                  have good : ¬ (!(memb uses3 us) || (!(memb names10 nm) || (isB nm || memb st.1 nm))) = true := by
                    rw [eq_false_of_ne_true c2, eq_false_of_ne_true c3, eq_false_of_ne_true c4, eq_false_of_ne_true c5]
                    decide
                  refine ⟨_, rfl, Sl.noConfusion, _, rfl, _, rfl, Sl.noConfusion, _, _, got1, rfl, _, rfl, by have := ok.ln; omega, ?_⟩
                  dsimp only
                  rw [put1]
                  have nm' : ∀ x ∈ st.1 ++ [nm], x.canLay0 = true ∧ x.depth ≤ PyData.depthAll ms := fun x hx => by
                    rcases List.mem_append.mp hx with hx | hx
                    · exact ok.nm x hx
                    · have e : x = nm := by simpa using hx
                      rw [e]
                      exact hnm
                  refine ⟨_, rfl, Sl.noConfusion, sh, rfl, _, rfl, ?_⟩
                  rcases tup_or sh with ⟨ws, rfl⟩ | ⟨hst2, hsn⟩
                  · rw [ty_tup ws]
                    refine iteF ⟨_, rfl, Sl.noConfusion, _, rfl, Sl.noConfusion, _, rfl, Sl.noConfusion, hs, ws, w.os.length + 1, st.2, rfl, h4, shp1 _ hshd, got2, by have := ok.ll; show st.2.length + 8 ≤ 100000; omega, ?_⟩
                    rw [put2]
                    refine ⟨_, _, rfl, rfl, _, _, rfl, rfl, _, rfl, ?_⟩
                    refine ite2 (fun c6 => ?_) (fun c6 => ?_)
                    · have c6 := of_decide_eq_true c6
                      rw [areMems_bad hm hst (by
                        show (if (!(memb uses3 us) || (!(memb names10 nm) || (isB nm || memb st.1 nm))) = true then none else if 5 < (pw hs 3 ws).1 then none else _) = none
                        rw [if_neg good, if_pos c6])] at q
                      exact finO2 rfl q
                    · have c6 : ¬ 5 < (pw hs 3 ws).1 := fun z => c6 (decide_eq_true z)
                      have es : mstep hs st (.tuple [nm, us, .tuple ws]) = some (st.1 ++ [nm], st.2 ++ (pw hs 3 ws).2) := by
                        show (if (!(memb uses3 us) || (!(memb names10 nm) || (isB nm || memb st.1 nm))) = true then none else if 5 < (pw hs 3 ws).1 then none else _) = _
                        rw [if_neg good, if_neg c6]
                      refine ⟨(st.1 ++ [nm], st.2 ++ (pw hs 3 ws).2), _, _, _, _, rfl, rfl, ?_, ⟨nm', fun x hx => ?_, ?_, ?_⟩, hk1⟩
                      · rw [hk, mall_snoc, hst]
                        exact es
                      · rcases List.mem_append.mp hx with hx | hx
                        · exact ok.lf x hx
                        · have z := pw_lay hs 3 ws (show PyData.canLayAll0 ws = true from hshd.1) x hx
                          have hd2 := hshd.2
                          have e : (PyData.tuple ws).depth = PyData.depthAll ws + 1 := rfl
                          exact ⟨z.1, by omega⟩
                      · show (st.1 ++ [nm]).length ≤ k + 1
                        rw [List.length_append, List.length_singleton]
                        have := ok.ln
                        omega
                      · show (st.2 ++ (pw hs 3 ws).2).length ≤ 8 * (k + 1)
                        rw [List.length_append]
                        have := ok.ll
                        have z : (pw hs 3 ws).2.length ≤ 8 := pw_len hs 3 ws
                        omega
                  · rw [hst2]
                    refine iteT ⟨_, rfl, Sl.noConfusion, _, rfl, _, rfl, Sl.noConfusion, _, _, got2, rfl, _, rfl, by have := ok.ll; omega, ?_⟩
                    rw [put2]
                    have es : mstep hs st (.tuple [nm, us, sh]) = some (st.1 ++ [nm], st.2 ++ [sh]) := by
                      unfold mstep
                      dsimp only
                      rw [if_neg good]
                      split
                      · exact absurd rfl (hsn _)
                      · rfl
                    refine ⟨(st.1 ++ [nm], st.2 ++ [sh]), _, _, _, _, rfl, rfl, ?_, ⟨nm', fun x hx => ?_, ?_, ?_⟩, hk1⟩
                    · rw [hk, mall_snoc, hst]
                      exact es
                    · rcases List.mem_append.mp hx with hx | hx
                      · exact ok.lf x hx
                      · have e : x = sh := by simpa using hx
                        rw [e]
                        exact hshd
                    · show (st.1 ++ [nm]).length ≤ k + 1
                      rw [List.length_append, List.length_singleton]
                      have := ok.ln
                      omega
                    · show (st.2 ++ [sh]).length ≤ 8 * (k + 1)
                      rw [List.length_append, List.length_singleton]
                      have := ok.ll
                      omega
    · rw [hmt]
      rw [areMems_bad hm hst (mstep_bad fun a b c e => hmn _ e)] at q
      exact iteT (iteT (finO2 rfl q))
  · rintro _ _ ⟨st, s5, s6, s7, s8, rfl, rfl, hst, ok, hkl⟩
    rw [List.take_length] at hst
    have e : areMems hs lt ms = st.2.all (memb lt) := by
      unfold areMems
      rw [hst]
    rw [e] at q
    refine ⟨w.os.length + 1, st.2, rfl, got2, Nat.le_succ _, ?_⟩
    dsimp only
    rw [put2]
    refine ⟨_, rfl, _, rfl, ?_⟩
    have hls : SeqAt.shaped (.list st.2) = true := shp_of (n := PyData.depthAll ms) (by omega) ok.lf
    refine ⟨fun k env w' => ∃ s9, env = [.val (headsD hs), .val (.tuple lt), .val (.tuple ms), .sh w.os.length, .val (.list st.2), s5, s6, s7, s8, s9] ∧ w' = ⟨w.n, w.os ++ [some st.1] ++ [none]⟩ ∧ ∀ i x, i < k → st.2[i]? = some x → memb lt x = true, ⟨_, rfl, rfl, fun i x hi => absurd hi (Nat.not_lt_zero _)⟩, ?_, ?_⟩
    · rintro k x _ _ hx ⟨s9, rfl, rfl, hk⟩
      refine ⟨_, rfl, Sl.noConfusion, _, rfl, Sl.noConfusion, _, _, rfl, rfl, _, rfl, shp_mem hls (List.mem_of_getElem? hx), hlt, _, rfl, ?_⟩
      refine ite2 (fun c2 => ?_) (fun c2 => ?_)
      · have c2 : (!memb lt x) = true := c2
        rw [all_no hx (by simpa using c2)] at q
        exact finO2 rfl q
      · refine ⟨_, rfl, rfl, fun i y hi ey => ?_⟩
        by_cases zz : i = k
        · rw [zz, hx] at ey
          cases ey
          have c2 : ¬ (!memb lt x) = true := c2
          simpa using c2
        · exact hk i y (by omega) ey
    · rintro _ _ ⟨s9, rfl, rfl, hk⟩
      rw [all_yes hk] at q
      exact finO2 rfl q
end
end Kin

-- dwp3
namespace Kin
open PySem PySem.Spec PyProof.Rows L2 Dl
open Evl (Ex sz_of sz_lt)
abbrev s_heads_of : Stmt := topS 5
abbrev N_heads_of : List Str := ["table", "heads", "number", "row"]
theorem sc_heads_of : FnScope N_heads_of ["table"] (defScope s_heads_of) := ⟨rfl, rfl, rfl, by decide +kernel, rfl, by decide +kernel, by decide +kernel⟩
def frzs (F : Hp) : List (Addr × List V) → Hp
  | [] => F
  | p :: ps => upd (frzs F ps) p.1 (.lst p.2)
theorem frzs_ne {F : Hp} {b : Addr} : ∀ {ps : List (Addr × List V)}, (∀ p ∈ ps, b ≠ p.1) → frzs F ps b = F b
  | [], _ => rfl
  | p :: ps, h => by
    show upd (frzs F ps) p.1 _ b = F b
    rw [upd_ne (h p List.mem_cons_self), frzs_ne fun q hq => h q (List.mem_cons_of_mem _ hq)]
theorem frzs_at {F : Hp} : ∀ {ps : List (Addr × List V)} {p : Addr × List V}, (ps.map (·.1)).Nodup → p ∈ ps → frzs F ps p.1 = some (.lst p.2)
  | q :: ps, p, nd, h => by
    rw [List.map_cons, List.nodup_cons] at nd
    show upd (frzs F ps) q.1 (.lst q.2) p.1 = _
    rcases List.mem_cons.mp h with rfl | h
    · exact upd_same
    · have n : p.1 ≠ q.1 := fun e => nd.1 (e ▸ List.mem_map.mpr ⟨p, h, rfl⟩)
      rw [upd_ne n]
      exact frzs_at nd.2 h
theorem frzs_ok {K : PySem.W.Frag} {pe : Pe} {F H F' H' : Hp} {w : Ws} : ∀ {ps : List (Addr × List V)}, (ps.map (·.1)).Nodup → (∀ p ∈ ps, H p.1 = none ∧ Far pe p.1 ∧ F' p.1 = none ∧ H' p.1 = some (.lst p.2)) → Fr pe F H F' H' → PenAt K pe F' H' w →
    Fr pe F H (frzs F' ps) H' ∧ PenAt K pe (frzs F' ps) H' w ∧ Ex F' (frzs F' ps)
  | [], _, _, f, p => ⟨f, p, fun _ _ z => z⟩
  | q :: ps, nd, h, f, p => by
    rw [List.map_cons, List.nodup_cons] at nd
    obtain ⟨a, b, c⟩ := frzs_ok nd.2 (fun r hr => h r (List.mem_cons_of_mem _ hr)) f p
    obtain ⟨h1, h2, h3, h4⟩ := h q List.mem_cons_self
    have n : frzs F' ps q.1 = none := by
      rw [frzs_ne fun r hr e => nd.1 (List.mem_map.mpr ⟨r, hr, e.symm⟩)]
      exact h3
    exact ⟨a.frz h1 h4 n, b.frz h2 n, c.trans (Ex.new n)⟩
def addHead (hs : List (List Nat)) (m i : Nat) : List (List Nat) := hs.set m (hs.getD m [] ++ [i])
def headsK (cs : List Nat) : Nat → List (List Nat)
  | 0 => [[], [], [], []]
  | k + 1 => addHead (headsK cs k) (cs.getD k 0 + 1) k
theorem headsK_len (cs : List Nat) : ∀ k, (headsK cs k).length = 4
  | 0 => rfl
  | k + 1 => by
    show ((headsK cs k).set _ _).length = 4
    rw [List.length_set, headsK_len cs k]
theorem headsK_small (cs : List Nat) : ∀ k m, ((headsK cs k).getD m []).length ≤ k
  | 0, m => by
    match m with
    | 0 => exact Nat.le_refl _
    | 1 => exact Nat.le_refl _
    | 2 => exact Nat.le_refl _
    | 3 => exact Nat.le_refl _
    | m + 4 => exact Nat.le_refl _
  | k + 1, m => by
    have ih := headsK_small cs k
    show (((headsK cs k).set (cs.getD k 0 + 1) ((headsK cs k).getD (cs.getD k 0 + 1) [] ++ [k])).getD m []).length ≤ k + 1
    rw [List.getD_eq_getElem?_getD]
    by_cases e : cs.getD k 0 + 1 = m
    · subst e
      by_cases l : cs.getD k 0 + 1 < (headsK cs k).length
      · rw [List.getElem?_set_self l]
        show ((headsK cs k).getD (cs.getD k 0 + 1) [] ++ [k]).length ≤ k + 1
        rw [List.length_append, List.length_singleton]
        have := ih (cs.getD k 0 + 1)
        omega
      · rw [List.getElem?_eq_none (by rw [List.length_set]; omega)]
        exact Nat.zero_le _
    · rw [List.getElem?_set_ne e]
      have := ih m
      rw [List.getD_eq_getElem?_getD] at this
      omega
/-- rows with cs signs -/
def RowsOf (cs : List Nat) (rows : List PyData) : Prop := rows.length = cs.length ∧ ∀ k row, rows[k]? = some row → ∃ sg rest, row = .tuple (.tuple sg :: rest) ∧ sg.length = cs.getD k 0 ∧ cs.getD k 0 ≤ 2
def mfHeads : DF := fun ss w P => ∃ (cs : List Nat) (rows : List PyData), ss = [.val (.tuple rows)] ∧ RowsOf cs rows ∧ rows.length ≤ 1000 ∧ P (headsD (headsK cs cs.length)) w
def lstV (hs : List (List Nat)) (m : Nat) : List V := (hs.getD m []).map fun (i : Nat) => V.int (i : Int)
section
variable {K : PySem.W.Frag} {Ts : List Addr} {te : TE} {ma : DTE}
theorem ints_dq {F : Hp} : ∀ r : List Nat, DqAll K F (r.map fun (i : Nat) => V.int (i : Int)) (nats r)
  | [] => .nil
  | i :: r => .cons (.int _) (ints_dq r)
theorem lstV_at {hs : List (List Nat)} {c i : Nat} (h : c < hs.length) : lstV (addHead hs c i) c = lstV hs c ++ [.int (i : Int)] := by
  unfold lstV addHead
  rw [List.getD_eq_getElem?_getD, List.getElem?_set_self h]
  show (hs.getD c [] ++ [i]).map _ = _
  rw [List.map_append]
  rfl
theorem lstV_ne {hs : List (List Nat)} {c m i : Nat} (h : c ≠ m) : lstV (addHead hs c i) m = lstV hs m := by
  unfold lstV addHead
  rw [List.getD_eq_getElem?_getD, List.getElem?_set_ne h, ← List.getD_eq_getElem?_getD]
/-- the body of heads_of -/
theorem ds_heads {kk : Nat} (hkk : kk = 2) {tix : TE} (hix : DE K Ts tix (fun env n P => ∃ (sg rest : List PyData), env[3]? = some (.val (.tuple (.tuple sg :: rest))) ∧ P (.int ((sg.length : Int) + 1)) n)) :
    DS K Ts (tSeq (tAsg (tTup (tCons (tLst tNil) (tCons (tLst tNil) (tCons (tLst tNil) (tCons (tLst tNil) tNil))))) (gName 1))
      (tSeq (tFor (iEnumT K (tCons (tVar 0) tNil)) (gTup K kk (gCons (gName 2) (gCons (gName 3) gNil))) (tDrop (tBM K "list" rAppend (tOp (fun x y H Q => rIxL K x y H Q ∨ rIxT K x y H Q) (tVar 1) tix) (tCons (tVar 2) tNil)))) (tRet (tVar 1))))
      (fun d env n => ∃ (cs : List Nat) (rows : List PyData), env = [.val (.tuple rows), .no, .no, .no] ∧ RowsOf cs rows ∧ rows.length ≤ 1000 ∧ d.rt (headsD (headsK cs cs.length)) n) := by
  subst hkk
  constructor
  rintro pe0 F0 H0 pe F H σ env n D d R ⟨cs, rows, rfl, ⟨hrl, hrow⟩, h1000, p⟩ M
  obtain ⟨vt, hv0, hdt⟩ := R.lv.er.sl 0 _ rfl
  have hσl : σ.length = 4 := R.lv.er.len
  refine ⟨Nat.zero_le _, fun p0 n0 => ⟨Nat.zero_le _, fun p1 n1 => ⟨Nat.zero_le _, fun p2 n2 => ⟨Nat.zero_le _, fun p3 n3 => ⟨by show 4 ≤ sizeLine; decide, fun a na => ?_⟩⟩⟩⟩⟩
  -- the five new objects
  have e0 : Ex H (upd H p0 (.lst [])) := Ex.new n0
  have e1 : Ex H (upd (upd H p0 (.lst [])) p1 (.lst [])) := e0.trans (Ex.new n1)
  have e2 : Ex H (upd (upd (upd H p0 (.lst [])) p1 (.lst [])) p2 (.lst [])) := e1.trans (Ex.new n2)
  have e3 := e2.trans (Ex.new n3 (o := .lst []))
  have e4 := e3.trans (Ex.new na (o := .tup [.ref p0, .ref p1, .ref p2, .ref p3]))
  have f0 : H p0 = none := n0
  have f1 : H p1 = none := Evl.fresh_back e0 n1
  have f2 : H p2 = none := Evl.fresh_back e1 n2
  have f3 : H p3 = none := Evl.fresh_back e2 n3
  have f4 : H a = none := Evl.fresh_back e3 na
  have d10 : p1 ≠ p0 := fun e => by rw [e, upd_same] at n1; cases n1
  have d21 : p2 ≠ p1 := fun e => by rw [e, upd_same] at n2; cases n2
  have d20 : p2 ≠ p0 := fun e => by rw [e, upd_ne d10.symm, upd_same] at n2; cases n2
  have d32 : p3 ≠ p2 := fun e => by rw [e, upd_same] at n3; cases n3
  have d31 : p3 ≠ p1 := fun e => by rw [e, upd_ne d21.symm, upd_same] at n3; cases n3
  have d30 : p3 ≠ p0 := fun e => by rw [e, upd_ne d20.symm, upd_ne d10.symm, upd_same] at n3; cases n3
  have da3 : a ≠ p3 := fun e => by rw [e, upd_same] at na; cases na
  have da2 : a ≠ p2 := fun e => by rw [e, upd_ne d32.symm, upd_same] at na; cases na
  have da1 : a ≠ p1 := fun e => by rw [e, upd_ne d31.symm, upd_ne d21.symm, upd_same] at na; cases na
  have da0 : a ≠ p0 := fun e => by rw [e, upd_ne d30.symm, upd_ne d20.symm, upd_ne d10.symm, upd_same] at na; cases na
  generalize hH5 : upd (upd (upd (upd (upd H p0 (.lst [])) p1 (.lst [])) p2 (.lst [])) p3 (.lst [])) a (.tup [.ref p0, .ref p1, .ref p2, .ref p3]) = H5 at e4 ⊢
  have nFa : F a = none := Evl.fresh_back R.lv.ex f4
  have fr5 : Fr pe F H (upd F a (.tup [.ref p0, .ref p1, .ref p2, .ref p3])) H5 := by
    refine ⟨Ex.new nFa, fun b u z => ?_, fun b u _ z => e4 b u z, fun b z y => ?_, fun b z y => ?_⟩
    · by_cases e : b = a
      · rw [e, upd_same] at z
        rw [e, ← hH5, upd_same]
        exact z
      · rw [upd_ne e] at z
        exact e4 b u (R.lv.ex b u z)
    · cases q : H b with
      | none => exact z q
      | some u => rw [e4 b u q] at y; cases y
    · by_cases e : b = a
      · exact absurd (e ▸ f4) z
      · rw [upd_ne e]
        exact y
  have pn5 : PenAt K pe (upd F a (.tup [.ref p0, .ref p1, .ref p2, .ref p3])) H5 n := R.lv.pn.pure fr5.ff e4 fr5.new
  let ps : List Addr := [p0, p1, p2, p3]
  have nd : ps.Nodup := by
    show [p0, p1, p2, p3].Nodup
    simp only [List.nodup_cons, List.mem_cons, List.not_mem_nil, or_false, not_or, List.nodup_nil, and_true, not_false_eq_true]
    exact ⟨⟨d10.symm, d20.symm, d30.symm⟩, ⟨d21.symm, d31.symm⟩, d32.symm⟩
  have fresh : ∀ q ∈ ps, H q = none ∧ Far pe q ∧ q ≠ a := by
    intro q hq
    have hq : q ∈ [p0, p1, p2, p3] := hq
    simp only [List.mem_cons, List.not_mem_nil, or_false] at hq
    rcases hq with rfl | rfl | rfl | rfl
    · exact ⟨f0, R.lv.pn.far f0, da0.symm⟩
    · exact ⟨f1, R.lv.pn.far f1, da1.symm⟩
    · exact ⟨f2, R.lv.pn.far f2, da2.symm⟩
    · exact ⟨f3, R.lv.pn.far f3, da3.symm⟩
  have at5 : ∀ (m : Nat) q, ps[m]? = some q → H5 q = some (.lst (lstV (headsK cs 0) m)) := by
    intro m q hq
    rw [← hH5]
    match m, hq with
    | 0, hq =>
      cases hq
      rw [upd_ne da0.symm, upd_ne d30.symm, upd_ne d20.symm, upd_ne d10.symm, upd_same]
      rfl
    | 1, hq =>
      cases hq
      rw [upd_ne da1.symm, upd_ne d31.symm, upd_ne d21.symm, upd_same]
      rfl
    | 2, hq =>
      cases hq
      rw [upd_ne da2.symm, upd_ne d32.symm, upd_same]
      rfl
    | 3, hq =>
      cases hq
      rw [upd_ne da3.symm, upd_same]
      rfl
  have ata : H5 a = some (.tup (ps.map V.ref)) := by rw [← hH5, upd_same]; rfl
  clear hH5
  -- the loop
  cases (show Dq K F vt (.tuple rows) from hdt) with
  | tup hs ha =>
  rename_i A xs
  obtain ⟨x0, x1, x2, x3, rfl⟩ : ∃ x0 x1 x2 x3, σ = [x0, x1, x2, x3] := by
    match σ, hσl with
    | [x0, x1, x2, x3], _ => exact ⟨x0, x1, x2, x3, rfl⟩
  have hx0 : x0 = some (V.ref A) := Option.some.inj hv0
  subst hx0
  have lx : xs.length = rows.length := dps_len ha
  have sqt : ∀ {F' H' : Hp}, Fr pe F H F' H' → SqT K H' A xs := fun f => Evl.ex_t (f.ff.trans f.fh) hs
  refine ⟨.ref A, rfl, A, xs, rfl, sqt fr5, fun i m σ' H' => m = rows.length - i ∧ i ≤ rows.length ∧ ∃ (F' : Hp) (s2 s3 : Option V), σ' = [some (.ref A), some (.ref a), s2, s3] ∧ Fr pe F H F' H' ∧ PenAt K pe F' H' n ∧
      (∀ (m : Nat) q, ps[m]? = some q → H' q = some (.lst (lstV (headsK cs i) m)) ∧ F' q = none) ∧ F' a = some (.tup (ps.map V.ref)),
    ⟨_, rfl, Nat.zero_le _, _, x2, x3, rfl, fr5, pn5, fun m q hq => ⟨at5 m q hq, ?_⟩, upd_same⟩, ?_⟩
  · obtain ⟨z1, z2, z3⟩ := fresh q (List.mem_of_getElem? hq)
    rw [upd_ne z3]
    exact Evl.fresh_back R.lv.ex z1
  rintro i _ σ' H' ⟨rfl, hil, F', s2, s3, rfl, fr, pn, hl, hFa⟩
  by_cases hlt : i < rows.length
  · refine .inr ⟨⟨xs, xs[i]'(by omega), sqt fr, by simp [show i < xs.length by omega]⟩, fun σ' H' => i + 1 ≤ rows.length ∧ ∃ (F' : Hp) (s2 s3 : Option V), σ' = [some (.ref A), some (.ref a), s2, s3] ∧ Fr pe F H F' H' ∧ PenAt K pe F' H' n ∧
      (∀ (m : Nat) q, ps[m]? = some q → H' q = some (.lst (lstV (headsK cs (i + 1)) m)) ∧ F' q = none) ∧ F' a = some (.tup (ps.map V.ref)),
      fun σ2 H2 h2 => ⟨rows.length - (i + 1), by omega, rfl, h2.1, h2.2⟩, fun x H2 y => ?_⟩
    obtain ⟨t, z, rfl, ht, rfl, hz⟩ := y
    obtain ⟨row, hr, hq⟩ := dps_get' ha (hz xs (sqt fr))
    obtain ⟨sg, rest, rfl, hsg, hc2⟩ := hrow i row hr
    have f := Fr.put (pe := pe) (o := .tup [.int (i : Nat), z]) fr.fh ht
    have nta : a ≠ t := ne_of_none (fr.fh _ _ hFa) ht
    refine ⟨t, [.int (i : Nat), z], rfl, SqT.of upd_same, rfl, .int (i : Nat), [z], rfl, z, [], rfl, rfl, ?_⟩
    refine ⟨.ref a, rfl, ?_⟩
    have er : EnvR K pe (upd F' t (.tup [.int (i : Nat), z])) [some (.ref A), some (.ref a), some (.int (i : Nat)), some z] [.val (.tuple rows), .no, .val (.int (i : Nat)), .val (.tuple (.tuple sg :: rest))] := by
      refine ⟨rfl, fun j s e => ?_⟩
      match j, e with
      | 0, e =>
        cases e
        exact ⟨_, rfl, dp_ex (fr.ff.trans f.ff) (.tup hs ha)⟩
      | 1, e =>
        cases e
        trivial
      | 2, e =>
        cases e
        exact ⟨_, rfl, .int _⟩
      | 3, e =>
        cases e
        exact ⟨_, rfl, dp_ex (fr.ff.trans f.ff) hq⟩
    have pn2 := pn.pure f.ff (Ex.new ht (o := .tup [.int (i : Nat), z])) f.new
    refine hix.run pe _ _ _ _ n (fun d n' => d = .int ((sg.length : Int) + 1) ∧ n' = n) _ ⟨er, f.fh, pn2, R.lv.tb⟩ ⟨sg, rest, rfl, rfl, rfl⟩ fun v F3 H3 d n' f3 p3 hd hP => ?_
    obtain ⟨rfl, rfl⟩ := hP
    have ev := dp_int hd
    subst ev
    have fr3 : Fr pe F H F3 H3 := (fr.trans f).trans f3
    have hFa3 : F3 a = some (.tup (ps.map V.ref)) := f3.ff _ _ (by rw [upd_ne nta]; exact hFa)
    have hcl : sg.length + 1 < ps.length := by show sg.length + 1 < 4; omega
    have hq1 : ps[sg.length + 1]? = some (ps[sg.length + 1]'hcl) := List.getElem?_eq_getElem hcl
    generalize ps[sg.length + 1]'hcl = q at hq1
    obtain ⟨hq2, nFq⟩ := hl _ q hq1
    obtain ⟨nHq, farq, nqa⟩ := fresh q (List.mem_of_getElem? hq1)
    have keep : ∀ (m : Nat) q', ps[m]? = some q' → H3 q' = some (.lst (lstV (headsK cs i) m)) ∧ F3 q' = none := fun m q' hm => by
      obtain ⟨y1, y2⟩ := hl m q' hm
      obtain ⟨_, far', _⟩ := fresh q' (List.mem_of_getElem? hm)
      have nt : q' ≠ t := ne_of_none y1 ht
      have y3 : (upd H' t (.tup [.int (i : Nat), z])) q' = some (.lst (lstV (headsK cs i) m)) := by rw [upd_ne nt]; exact y1
      exact ⟨f3.hh _ _ far'.1 y3, f3.new _ (by rw [y3]; simp) (by rw [upd_ne nt]; exact y2)⟩
    obtain ⟨hq3, nFq3⟩ := keep _ q hq1
    refine .inr ⟨a, ps.map V.ref, _, .ref q, rfl, rfl, SqT.of (f3.fh _ _ hFa3), ?_, .inl ⟨rfl, _, SqL.of hq3⟩, .int (i : Nat), rfl, q, _, .int (i : Nat), rfl, rfl, hq3, ?_, ?_⟩
    · show atI (ps.map V.ref) ((sg.length + 1 : Nat) : Int) = some (.ref q)
      refine atI_nat ?_
      rw [List.getElem?_map, hq1]
      rfl
    · refine sz_lt ?_
      unfold lstV
      rw [List.length_map]
      have := headsK_small cs i (sg.length + 1)
      omega
    · have fr4 : Fr pe F H F3 (upd H3 q (.lst (lstV (headsK cs i) (sg.length + 1) ++ [.int (i : Nat)]))) := by
        refine ⟨fr3.ff, fun b u z => ?_, fun b u nn z => ?_, fun b z y => ?_, fr3.new⟩
        · rw [upd_ne (ne_of_none z nFq3)]
          exact fr3.fh b u z
        · rw [upd_ne (ne_of_none z nHq)]
          exact fr3.hh b u nn z
        · by_cases e : b = q
          · rw [e, upd_same] at y
            cases y
          · rw [upd_ne e] at y
            exact fr3.dom b z y
      refine ⟨hlt, F3, _, _, rfl, fr4, p3.mut farq, fun m q' hm => ?_, hFa3⟩
      have ec : headsK cs (i + 1) = addHead (headsK cs i) (sg.length + 1) i := by
        rw [hsg]
        rfl
      rw [ec]
      by_cases e : sg.length + 1 = m
      · subst e
        have e2 : q' = q := Option.some.inj (hm.symm.trans hq1)
        rw [e2, upd_same, lstV_at (by rw [headsK_len]; omega)]
        exact ⟨rfl, nFq3⟩
      · have nq : q' ≠ q := fun e2 => e ((List.getElem?_inj (by
            rcases Nat.lt_or_ge (sg.length + 1) ps.length with l | l
            · exact l
            · rw [List.getElem?_eq_none l] at hq1
              cases hq1) nd).mp (by rw [hq1, hm, e2]))
        rw [upd_ne nq, lstV_ne e]
        exact keep m q' hm
  · have e : i = rows.length := by omega
    subst e
    refine .inl ⟨⟨xs, sqt fr, by omega⟩, ⟨.ref a, rfl, ?_⟩⟩
    rw [hrl] at hl
    have hlen := headsK_len cs cs.length
    generalize headsK cs cs.length = hs4 at hl hlen p ⊢
    obtain ⟨h0, h1, h2, h3, rfl⟩ : ∃ h0 h1 h2 h3, hs4 = [h0, h1, h2, h3] := by
      match hs4, hlen with
      | [h0, h1, h2, h3], _ => exact ⟨h0, h1, h2, h3, rfl⟩
    let L : List (Addr × List V) := [(p0, lstV [h0, h1, h2, h3] 0), (p1, lstV [h0, h1, h2, h3] 1), (p2, lstV [h0, h1, h2, h3] 2), (p3, lstV [h0, h1, h2, h3] 3)]
    have ndL : (L.map (·.1)).Nodup := nd
    have inL : ∀ r ∈ L, H r.1 = none ∧ Far pe r.1 ∧ F' r.1 = none ∧ H' r.1 = some (.lst r.2) := by
      intro r hr
      have hr : r ∈ [(p0, lstV [h0, h1, h2, h3] 0), (p1, lstV [h0, h1, h2, h3] 1), (p2, lstV [h0, h1, h2, h3] 2), (p3, lstV [h0, h1, h2, h3] 3)] := hr
      simp only [List.mem_cons, List.not_mem_nil, or_false] at hr
      rcases hr with rfl | rfl | rfl | rfl
      · obtain ⟨a1, a2, _⟩ := fresh p0 (show p0 ∈ [p0, p1, p2, p3] by simp)
        obtain ⟨b1, b2⟩ := hl 0 p0 rfl
        exact ⟨a1, a2, b2, b1⟩
      · obtain ⟨a1, a2, _⟩ := fresh p1 (show p1 ∈ [p0, p1, p2, p3] by simp)
        obtain ⟨b1, b2⟩ := hl 1 p1 rfl
        exact ⟨a1, a2, b2, b1⟩
      · obtain ⟨a1, a2, _⟩ := fresh p2 (show p2 ∈ [p0, p1, p2, p3] by simp)
        obtain ⟨b1, b2⟩ := hl 2 p2 rfl
        exact ⟨a1, a2, b2, b1⟩
      · obtain ⟨a1, a2, _⟩ := fresh p3 (show p3 ∈ [p0, p1, p2, p3] by simp)
        obtain ⟨b1, b2⟩ := hl 3 p3 rfl
        exact ⟨a1, a2, b2, b1⟩
    obtain ⟨g1, g2, g3⟩ := frzs_ok ndL inL fr pn
    have hat : ∀ r ∈ L, frzs F' L r.1 = some (.lst r.2) := fun r hr => frzs_at ndL hr
    refine M.rt pe (.ref a) _ _ (headsD [h0, h1, h2, h3]) n (R.fr.up R.ext g1) R.ext g2 (.tup (SqT.of (g3 _ _ hFa)) (.cons (.lst (hat (p0, lstV [h0, h1, h2, h3] 0) (by simp [L])) (ints_dq h0)) (.cons (.lst (hat (p1, lstV [h0, h1, h2, h3] 1) (by simp [L])) (ints_dq h1)) (.cons (.lst (hat (p2, lstV [h0, h1, h2, h3] 2) (by simp [L])) (ints_dq h2)) (.cons (.lst (hat (p3, lstV [h0, h1, h2, h3] 3) (by simp [L])) (ints_dq h3)) .nil))))) p
end
theorem DE.weak {K : PySem.W.Frag} {T : List Addr} {te : TE} {m m' : DTE} (h : DE K T te m) (i : ∀ env n P, m' env n P → m env n P) : DE K T te m' := ⟨fun pe F H σ env n P Q R p q => h.run pe F H σ env n P Q R (i env n P p) q⟩
section
variable {P : Program} {w : World} {K : PySem.W.Frag} {mg : Str → Option Value} {base : Heap} {Ts : List Addr} {aL aS aU aN : Addr}
theorem ok_heads_of {f : Addr} {fd : FuncData} {cdv : Value} {k : Nat} (F : FunV K "heads_of" "heads_of" s_heads_of f fd cdv) (T : TP mg) : FnG P w K mg base (k + 1) f fd ["table"] (spD K Ts mfHeads) := by
  refine FnG.weak (okD F sc_heads_of (fun A outer s H E hg hr => ⟨_, (pss_cons (ps_set (i := 1) sc_heads_of.nd rfl (Or.inl rfl) (pe_tup (pa_cons (pe_lst pa_nil) (pa_cons (pe_lst pa_nil) (pa_cons (pe_lst pa_nil) (pa_cons (pe_lst pa_nil) pa_nil))))))
          (pss_cons (ps_for PassesOwn.never rfl (pi_enumT K rfl (by rfl) T.m_enumerate (pa_cons (pv 0) pa_nil)) (pg_tup rfl (pgs_cons (pg_name (i := 2) sc_heads_of.nd rfl (Or.inl rfl)) (pgs_cons (pg_name (i := 3) sc_heads_of.nd rfl (Or.inl rfl)) pgs_nil)))
          (pss_one (ps_expr (bmK K rfl (pe_bm PySem.F.plainAttrs_list PySem.F.slot_list_append PySem.F.type_list_append mt_append (pe_ix (ixK K rfl) (pv 1) (pe_op op_add (pe_callB (lenK K rfl) (by rfl) T.m_len PySem.boot_len (pa_cons (pe_ix (ixK K rfl) (pv 3) pe_int (fun _ _ => rfl)) pa_nil)) pe_int) (fun _ _ => rfl)) (pa_cons (pv 2) pa_nil))))))
          (pss_one (ps_ret (pv 1))))), ds_heads rfl (DE.weak (de_op dr_add (dx_of (de_cb dc_len (da_cons (dx_of (de_op dr_ix dx_var (dx_of de_int))) da_nil))) (dx_of de_int)) (fun env n P ⟨sg, rest, e, p⟩ => ⟨_, e, Sl.noConfusion, _, _, rfl, rfl, _, _, _, rfl, rfl, at0, _, seeAll_val, _, _, rfl, rfl, _, _, rfl, rfl, _, _, rfl, rfl, p⟩))⟩)) (spD_weak fun ss w P h => ?_)
  obtain ⟨cs, rows, rfl, hr, h1, q⟩ := h
  exact ⟨rfl, cs, rows, rfl, hr, h1, fin q⟩
end
end Kin

-- dwp3
namespace Kin
open PySem PySem.Spec PyProof.Rows L2 Dl
open Evl (Ex sz_of sz_lt)
abbrev s_table_heads : Stmt := topS 26
abbrev N_table_heads : List Str := ["value", "row", "heads", "signs", "supers", "members", "letters", "one"]
theorem sc_table_heads : FnScope N_table_heads ["value"] (defScope s_table_heads) := ⟨rfl, rfl, rfl, by decide +kernel, rfl, by decide +kernel, by decide +kernel⟩
def lettersD (n : Nat) : List PyData := ([.str "a", .str "b"] : List PyData).take n
def signsOf : PyData → Nat
  | .tuple (.tuple sg :: _) => sg.length
  | _ => 0
def rowOkD (hs : List (List Nat)) : PyData → Bool
  | .tuple [.tuple sg, .tuple su, .tuple me] => su.all (isSup hs (lettersD sg.length)) && (me.isEmpty || areMems hs (lettersD sg.length) me)
  | _ => false
def headsOf (rows : List PyData) : List (List Nat) := headsK (rows.map signsOf) (rows.map signsOf).length
def tableHeads : PyData → Option (List (List Nat))
  | .tuple rows => if (decide (rows.length ≤ 5) && rows.all isFrame && rows.all (rowOkD (headsOf rows))) = true then some (headsOf rows) else none
  | _ => none
def optD : Option (List (List Nat)) → PyData
  | none => .none
  | some hs => headsD hs
theorem frame_form {d : PyData} (h : isFrame d = true) : ∃ sg su me, d = .tuple [.tuple sg, .tuple su, .tuple me] ∧ sg.length ≤ 2 ∧ su.length ≤ 2 ∧ me.length ≤ 3 := by
  unfold isFrame at h
  split at h
  · rename_i s u m
    rw [Bool.and_eq_true, Bool.and_eq_true] at h
    obtain ⟨h1, h2, h3⟩ := h
    unfold areSigns at h1
    unfold fewT at h2 h3
    split at h1
    · rename_i sg
      split at h2
      · rename_i su
        split at h3
        · rename_i me
          rw [Bool.and_eq_true] at h1
          exact ⟨sg, su, me, rfl, of_decide_eq_true h1.1, of_decide_eq_true h2, of_decide_eq_true h3⟩
        · cases h3
      · cases h2
    · cases h1
  · cases h
theorem shp_letters (n : Nat) : SeqAt.shaped (.list (lettersD n)) = true := by
  have h : ∀ k, k ≤ 2 → SeqAt.shaped (.list (lettersD k)) = true := by
    intro k hk
    have : k = 0 ∨ k = 1 ∨ k = 2 := by omega
    rcases this with rfl | rfl | rfl <;> decide +kernel
  by_cases l : n ≤ 2
  · exact h n l
  · have e : lettersD n = lettersD 2 := by
      unfold lettersD
      rw [List.take_of_length_le (by show 2 ≤ n; omega)]
      rfl
    rw [e]
    exact h 2 (Nat.le_refl _)
theorem cut_lettersD {n : Nat} (h : n ≤ 2) : Dl.cutD [PyData.str "a", .str "b"] none (some (n : Int)) = lettersD n := by
  have : n = 0 ∨ n = 1 ∨ n = 2 := by omega
  rcases this with rfl | rfl | rfl <;> rfl
def mfTH : DF := fun ss w P => ∃ d, ss = [.val d] ∧ SeqAt.shaped d = true ∧ P (optD (tableHeads d)) w
theorem th_not {d : PyData} (h : ∀ vs, d ≠ .tuple vs) : tableHeads d = none := by
  unfold tableHeads
  split
  · exact absurd rfl (h _)
  · rfl
theorem th_long {rows : List PyData} (h : ¬ rows.length ≤ 5) : tableHeads (.tuple rows) = none := by
  show (if (decide (rows.length ≤ 5) && rows.all isFrame && rows.all (rowOkD (headsOf rows))) = true then some (headsOf rows) else none) = none
  rw [decide_eq_false h, Bool.false_and, Bool.false_and, if_neg Bool.false_ne_true]
theorem th_frame {rows : List PyData} (h : rows.all isFrame = false) : tableHeads (.tuple rows) = none := by
  show (if (decide (rows.length ≤ 5) && rows.all isFrame && rows.all (rowOkD (headsOf rows))) = true then some (headsOf rows) else none) = none
  rw [h, Bool.and_false, Bool.false_and, if_neg Bool.false_ne_true]
theorem th_row {rows : List PyData} (h : rows.all (rowOkD (headsOf rows)) = false) : tableHeads (.tuple rows) = none := by
  show (if (decide (rows.length ≤ 5) && rows.all isFrame && rows.all (rowOkD (headsOf rows))) = true then some (headsOf rows) else none) = none
  rw [h, Bool.and_false, if_neg Bool.false_ne_true]
theorem th_yes {rows : List PyData} (h1 : rows.length ≤ 5) (h2 : rows.all isFrame = true) (h3 : rows.all (rowOkD (headsOf rows)) = true) : tableHeads (.tuple rows) = some (headsOf rows) := by
  show (if (decide (rows.length ≤ 5) && rows.all isFrame && rows.all (rowOkD (headsOf rows))) = true then some (headsOf rows) else none) = _
  rw [decide_eq_true h1, h2, h3]
  rfl
theorem and_no {a b : Bool} (h : a = false) : (a && b) = false := by rw [h]; rfl
section
variable {P : Program} {w : World} {K : PySem.W.Frag} {mg : Str → Option Value} {base : Heap} {Ts : List Addr} {aL aS aU aN : Addr}
theorem ok_table_heads {f fF fH fS fM : Addr} {fd fdF fdH fdS fdM : FuncData} {cdv : Value} {k : Nat} (F : FunV K "table_heads" "table_heads" s_table_heads f fd cdv) (T : TP mg) (hK : KTy K) (Gb : Gbl K mg aL aS aU aN)
    (Gis_frame : FnG P w K mg base k fF fdF ["value"] (spD K Ts mfIsFrame)) (mis_frame : mg "is_frame" = some (.ref fF)) (kis_frame : PySem.W.keepIn K (.ref fF) = true) (bis_frame : Binds K fdF ["value"] [])
    (Gheads_of : FnG P w K mg base k fH fdH ["table"] (spD K Ts mfHeads)) (mheads_of : mg "heads_of" = some (.ref fH)) (kheads_of : PySem.W.keepIn K (.ref fH) = true) (bheads_of : Binds K fdH ["table"] [])
    (Gis_super : FnG P w K mg base k fS fdS ["heads", "letters", "value"] (spD K Ts mfIsSuper)) (mis_super : mg "is_super" = some (.ref fS)) (kis_super : PySem.W.keepIn K (.ref fS) = true) (bis_super : Binds K fdS ["heads", "letters", "value"] [])
    (Gare_members : FnG P w K mg base k fM fdM ["heads", "letters", "value"] (spD K Ts mfAreMems)) (mare_members : mg "are_members" = some (.ref fM)) (kare_members : PySem.W.keepIn K (.ref fM) = true) (bare_members : Binds K fdM ["heads", "letters", "value"] []) :
    FnG P w K mg base (k + 1) f fd ["value"] (spD K Ts mfTH) := by
  refine FnG.weak (okD F sc_table_heads (fun A outer s H E hg hr => ⟨_, (pss_cons (ps_if (PW.pt (pw_or (pt_not (pt_val (pe_callB (isiK K rfl) (by rfl) T.m_isinstance PyProof.Rows.boot_isinstance (pa_cons (pv 0) (pa_cons (pe_bltn (v := .ty "tuple") (by rfl) T.m_tuple PyProof.Rows.boot_tuple rfl) pa_nil))))) (pw_or1 (pt_cmpR op_gt (pe_callB (lenK K rfl) (by rfl) T.m_len PySem.boot_len (pa_cons (pv 0) pa_nil)) (pe_globI (by rfl) Gb.g_MOST_CLASSES) (nomark _))))) (pss_one (ps_ret pe_non)) pss_nil)
          (pss_cons (ps_for PassesOwn.never rfl (pi_K K rfl (pv 0)) (pg_name (i := 1) sc_table_heads.nd rfl (Or.inl rfl))
          (pss_one (ps_if (pt_not (pt_val (pe_callG Gis_frame hg hr (by rfl) mis_frame kis_frame bis_frame (pa_cons (pv 1) pa_nil)))) (pss_one (ps_ret pe_non)) pss_nil)))
          (pss_cons (ps_set (i := 2) sc_table_heads.nd rfl (Or.inl rfl) (pe_callG Gheads_of hg hr (by rfl) mheads_of kheads_of bheads_of (pa_cons (pv 0) pa_nil)))
          (pss_cons (ps_for PassesOwn.never rfl (pi_K K rfl (pv 0)) (pg_tup rfl (pgs_cons (pg_name (i := 3) sc_table_heads.nd rfl (Or.inl rfl)) (pgs_cons (pg_name (i := 4) sc_table_heads.nd rfl (Or.inl rfl)) (pgs_cons (pg_name (i := 5) sc_table_heads.nd rfl (Or.inl rfl)) pgs_nil))))
          (pss_cons (ps_set (i := 6) sc_table_heads.nd rfl (Or.inl rfl) (pe_slice (slK K rfl) (pe_globR (by rfl) Gb.g_LETTERS) po_none (po_some (pe_callB (lenK K rfl) (by rfl) T.m_len PySem.boot_len (pa_cons (pv 3) pa_nil)))))
          (pss_cons (ps_for PassesOwn.never rfl (pi_K K rfl (pv 4)) (pg_name (i := 7) sc_table_heads.nd rfl (Or.inl rfl))
          (pss_one (ps_if (pt_not (pt_val (pe_callG Gis_super hg hr (by rfl) mis_super kis_super bis_super (pa_cons (pv 2) (pa_cons (pv 6) (pa_cons (pv 7) pa_nil)))))) (pss_one (ps_ret pe_non)) pss_nil)))
          (pss_one (ps_if (PW.pt (pw_and (truK K rfl (pv 5)) (pw_and1 (pt_not (pt_val (pe_callG Gare_members hg hr (by rfl) mare_members kare_members bare_members (pa_cons (pv 2) (pa_cons (pv 6) (pa_cons (pv 5) pa_nil))))))))) (pss_one (ps_ret pe_non)) pss_nil)))))
          (pss_one (ps_ret (pv 2))))))), by repeat first
        | exact de_c Gb.d_LETTERS
        | exact dx_of (de_c Gb.d_LETTERS)
        | (with_reducible apply ds_asg)
        | (with_reducible apply ds_par)
        | exact de_int
        | exact de_str
        | exact de_bl
        | exact de_non
        | exact de_var
        | exact dx_var
        | exact ds_retN
        | exact ds_next
        | exact ds_brk
        | exact ds_cont
        | exact dt_yes
        | exact dv_nil
        | exact da_nil
        | exact dgs_nil
        | exact dg_name
        | exact do_none
        | (with_reducible apply ds_seq)
        | (with_reducible apply ds_ret)
        | (with_reducible apply ds_if)
        | (with_reducible apply ds_forI)
        | (with_reducible apply ds_whileI)
        | (with_reducible apply ds_drop)
        | (apply dg_tupN 2; exact rfl)
        | (apply dg_tupN 3; exact rfl)
        | apply dgs_cons
        | apply di_any
        | apply di_range
        | apply dt_test
        | apply dt_B
        | apply dt_and
        | apply dt_or
        | apply dt_not
        | apply dx_of
        | apply de_tup
        | apply dv_cons
        | apply da_cons
        | apply do_some
        | apply de_if
        | apply de_not
        | apply de_and
        | apply de_or
        | (apply de_new; apply dn_lst)
        | apply de_op dr_ix
        | apply de_op dr_eq
        | apply de_op dr_ne
        | apply de_op dr_inA
        | apply de_op dr_catT
        | apply de_op dr_catL
        | apply de_op dr_add
        | apply de_op dr_sub
        | apply de_op dr_mul
        | apply de_op dr_mod
        | apply de_op dr_fdiv
        | apply de_op dr_lt
        | apply de_op dr_le
        | apply de_op dr_gt
        | apply de_op dr_ge
        | apply de_op dr_isN
        | apply de_op dr_notN
        | apply de_op dr_addS
        | apply de_slice
        | (apply de_isi; rotate_left 1; assumption; decide; rotate_right 1)
        | apply de_cb dc_len
        | apply de_cb dc_lenS
        | apply de_cb dc_int
        | apply de_cb dc_min2
        | apply de_cb dc_max2
        | apply de_cb dc_tuple
        | (apply de_new; apply dn_cb dcn_list)
        | apply de_call
        | apply de_m dm_append
        | apply de_m dm_insert
        | apply de_m dm_popAt
        | apply de_m0 dm_pop
        | apply de_extend
        | (apply de_new; apply dn_lcN)
        | (apply de_new; apply dn_rep; apply dn_lst)
        | (apply de_genN; rotate_left 2; assumption; rotate_right 2)
        | (with_reducible apply ds_augAdd)
        | apply dt_chain
        | apply de_chain
        | apply dt_truth
        | apply di_enumT
        | apply de_count
        | apply de_op dr_repT⟩)) (spD_weak fun ss w P h => ?_)
  obtain ⟨d, rfl, hs, q⟩ := h
  refine ⟨rfl, ?_⟩
  dsimp only
  refine ⟨_, rfl, Sl.noConfusion, d, rfl, _, rfl, ?_⟩
  rcases tup_or d with ⟨rows, rfl⟩ | ⟨hd, hne⟩
  · rw [ty_tup rows]
    refine iteF ⟨_, rfl, Sl.noConfusion, _, seeAll_val, _, _, rfl, rfl, _, _, rfl, rfl, _, _, rfl, rfl, _, rfl, ?_⟩
    refine ite2 (fun hc => ?_) (fun hc => ?_)
    · have := of_decide_eq_true hc
      rw [th_long (by omega)] at q
      exact fin q
    · have l5 : rows.length ≤ 5 := by
        by_cases z : (5 : Int) < rows.length
        · exact absurd (decide_eq_true z) hc
        · omega
      refine ⟨_, rfl, _, rfl, ?_⟩
      refine ⟨fun k env w' => ∃ s1, env = [.val (.tuple rows), s1, .no, .no, .no, .no, .no, .no] ∧ w = w' ∧ ∀ i x, i < k → rows[i]? = some x → isFrame x = true, ⟨_, rfl, rfl, fun i x hi => absurd hi (Nat.not_lt_zero _)⟩, ?_, ?_⟩
      · rintro k x _ _ hx ⟨s1, rfl, rfl, hk⟩
        refine ⟨_, rfl, Sl.noConfusion, x, rfl, shp_tup hs (List.mem_of_getElem? hx), _, rfl, ?_⟩
        refine ite2 (fun hc => ?_) (fun hc => ?_)
        · rw [th_frame (all_no hx (by simpa using hc))] at q
          exact fin q
        · refine ⟨_, rfl, rfl, fun i y hi e => ?_⟩
          by_cases z : i = k
          · rw [z, hx] at e
            cases e
            simpa using hc
          · exact hk i y (by omega) e
      · rintro _ _ ⟨s1, rfl, rfl, hk⟩
        have hfr : rows.all isFrame = true := all_yes hk
        have hro : RowsOf (rows.map signsOf) rows := by
          refine ⟨(List.length_map _).symm, fun i row e => ?_⟩
          obtain ⟨sg, su, me, rfl, l1, l2, l3⟩ := frame_form (List.all_eq_true.mp hfr row (List.mem_of_getElem? e))
          have eg : (rows.map signsOf).getD i 0 = sg.length := by
            rw [List.getD_eq_getElem?_getD, List.getElem?_map, e]
            rfl
          exact ⟨sg, _, rfl, eg.symm, by rw [eg]; exact l1⟩
        refine ⟨_, rfl, Sl.noConfusion, rows.map signsOf, rows, rfl, hro, by omega, ?_⟩
        have h4 : (headsOf rows).length = 4 := headsK_len _ _
        refine ⟨_, rfl, _, rfl, ?_⟩
        refine ⟨fun k env w' => ∃ s1 s3 s4 s5 s6 s7 : Sl, env = [.val (.tuple rows), s1, .val (headsD (headsOf rows)), s3, s4, s5, s6, s7] ∧ w = w' ∧ ∀ i x, i < k → rows[i]? = some x → rowOkD (headsOf rows) x = true, ⟨_, _, _, _, _, _, rfl, rfl, fun i x hi => absurd hi (Nat.not_lt_zero _)⟩, ?_, ?_⟩
        · rintro k x _ _ hx ⟨s1, s3, s4, s5, s6, s7, rfl, rfl, hk⟩
          have hxm := List.mem_of_getElem? hx
          have hxs := shp_tup hs hxm
          obtain ⟨sg, su, me, rfl, l1, l2, l3⟩ := frame_form (List.all_eq_true.mp hfr x hxm)
          have hsu : SeqAt.shaped (.tuple su) = true := shp_tup hxs (by simp)
          have hme : SeqAt.shaped (.tuple me) = true := shp_tup hxs (by simp)
          have er : rowOkD (headsOf rows) (.tuple [.tuple sg, .tuple su, .tuple me]) = (su.all (isSup (headsOf rows) (lettersD sg.length)) && (me.isEmpty || areMems (headsOf rows) (lettersD sg.length) me)) := rfl
          refine ⟨_, rfl, rfl, _, _, rfl, _, _, rfl, _, _, rfl, rfl, ?_⟩
          refine ⟨_, rfl, Sl.noConfusion, _, seeAll_val, _, _, rfl, rfl, _, rfl, _, rfl, .inr ⟨_, rfl, ?_⟩⟩
          rw [cut_lettersD l1]
          refine ⟨_, rfl, _, rfl, ?_⟩
          refine ⟨fun j env w' => ∃ s7 : Sl, env = [.val (.tuple rows), s1, .val (headsD (headsOf rows)), .val (.tuple sg), .val (.tuple su), .val (.tuple me), .val (.tuple (lettersD sg.length)), s7] ∧ w = w' ∧ ∀ i y, i < j → su[i]? = some y → isSup (headsOf rows) (lettersD sg.length) y = true, ⟨_, rfl, rfl, fun i x hi => absurd hi (Nat.not_lt_zero _)⟩, ?_, ?_⟩
          · rintro j y _ _ hy ⟨s7, rfl, rfl, hj⟩
            refine ⟨_, rfl, Sl.noConfusion, _, rfl, Sl.noConfusion, _, rfl, Sl.noConfusion, headsOf rows, lettersD sg.length, y, rfl, h4, shp_letters _, shp_tup hsu (List.mem_of_getElem? hy), _, rfl, ?_⟩
            refine ite2 (fun hc => ?_) (fun hc => ?_)
            · rw [th_row (all_no hx (by rw [er, all_no hy (by simpa using hc), Bool.false_and]))] at q
              exact fin q
            · refine ⟨_, rfl, rfl, fun i z hi e => ?_⟩
              by_cases zz : i = j
              · rw [zz, hy] at e
                cases e
                simpa using hc
              · exact hj i z (by omega) e
          · rintro _ _ ⟨s7, rfl, rfl, hj⟩
            have hsa : su.all (isSup (headsOf rows) (lettersD sg.length)) = true := all_yes hj
            have next : (me.isEmpty || areMems (headsOf rows) (lettersD sg.length) me) = true → ∀ (i : Nat) (z : PyData), i < k + 1 → rows[i]? = some z → rowOkD (headsOf rows) z = true := fun hm i z hi e => by
              by_cases zz : i = k
              · rw [zz, hx] at e
                cases e
                rw [er, hsa, hm]
                rfl
              · exact hk i z (by omega) e
            refine ⟨_, rfl, Sl.noConfusion, _, _, rfl, rfl, ?_⟩
            refine ite2 (fun hc => ?_) (fun hc => ?_)
            · have hem : me.isEmpty = false := by simpa using hc
              refine ⟨_, rfl, Sl.noConfusion, _, rfl, Sl.noConfusion, _, rfl, Sl.noConfusion, headsOf rows, lettersD sg.length, me, rfl, h4, shp_letters _, hme, by omega, _, rfl, ?_⟩
              refine ite2 (fun hc => ?_) (fun hc => ?_)
              · rw [th_row (all_no hx (by
                  have z : areMems (headsOf rows) (lettersD sg.length) me = false := by simpa using hc
                  rw [er, hem, z, Bool.or_self, Bool.and_false]))] at q
                exact fin q
              · exact ⟨_, _, _, _, _, _, rfl, rfl, next (by
                  have z : areMems (headsOf rows) (lettersD sg.length) me = true := by simpa using hc
                  rw [z, Bool.or_true])⟩
            · refine iteF ⟨_, _, _, _, _, _, rfl, rfl, next ?_⟩
              have hem : me.isEmpty = true := by simpa using hc
              rw [hem, Bool.true_or]
        · rintro _ _ ⟨s1, s3, s4, s5, s6, s7, rfl, rfl, hk⟩
          rw [th_yes l5 hfr (all_yes hk)] at q
          exact ⟨_, rfl, fin q⟩
  · rw [hd]
    rw [th_not hne] at q
    exact iteT (iteT (fin q))
end
end Kin

namespace Kin
open PySem PySem.Spec PyProof.Rows L2 Dl
open Evl (Ex sz_of sz_lt)
theorem headsK_mem {cs : List Nat} {n m : Nat} : ∀ k, (∀ i, i < k → cs.getD i 0 ≤ 2) → (n ∈ (headsK cs k).getD m [] ↔ n < k ∧ cs.getD n 0 + 1 = m)
  | 0, _ => by
    have e : (headsK cs 0).getD m [] = [] := by
      match m with
      | 0 => rfl
      | 1 => rfl
      | 2 => rfl
      | 3 => rfl
      | m + 4 => rfl
    rw [e]
    simp
  | k + 1, h => by
    have ih := headsK_mem (n := n) (m := m) k fun i hi => h i (by omega)
    have hk := h k (Nat.lt_succ_self k)
    show n ∈ ((headsK cs k).set (cs.getD k 0 + 1) ((headsK cs k).getD (cs.getD k 0 + 1) [] ++ [k])).getD m [] ↔ _
    rw [List.getD_eq_getElem?_getD]
    by_cases e : cs.getD k 0 + 1 = m
    · subst e
      rw [List.getElem?_set_self (by rw [headsK_len]; omega)]
      show n ∈ (headsK cs k).getD (cs.getD k 0 + 1) [] ++ [k] ↔ _
      rw [List.mem_append, ih, List.mem_singleton]
      constructor
      · rintro (⟨a, b⟩ | rfl)
        · exact ⟨by omega, b⟩
        · exact ⟨Nat.lt_succ_self _, rfl⟩
      · rintro ⟨a, b⟩
        by_cases z : n = k
        · exact .inr z
        · exact .inl ⟨by omega, b⟩
    · rw [List.getElem?_set_ne e, ← List.getD_eq_getElem?_getD, ih]
      constructor
      · rintro ⟨a, b⟩
        exact ⟨by omega, b⟩
      · rintro ⟨a, b⟩
        refine ⟨?_, b⟩
        rcases Nat.lt_or_ge n k with l | l
        · exact l
        · have : n = k := by omega
          subst this
          exact absurd b e
theorem memb_nats {r : List Nat} {n : Nat} (h : n ∈ r) : memb (nats r) (.int (n : Nat)) = true :=
  List.any_eq_true.mpr ⟨.int (n : Nat), List.mem_map.mpr ⟨n, h, rfl⟩, by rw [eqv_nat]; exact beq_self_eq_true n⟩
theorem eqv_str (a b : Str) : PyData.eqv (.str a) (.str b) = (a == b) := rfl
theorem memb_strs {r : List Str} {x : Str} (h : x ∈ r) : memb (r.map PyData.str) (.str x) = true :=
  List.any_eq_true.mpr ⟨.str x, List.mem_map.mpr ⟨x, h, rfl⟩, by rw [eqv_str]; exact beq_self_eq_true x⟩
/-- classes with as many arguments as ar says are in the heads -/
def HeadsFor (ar : List Nat) (hs : List (List Nat)) : Prop := ∀ n a, ar[n]? = some a → a ≤ 2 ∧ n ∈ hs.getD (a + 1) []
namespace Sh
/-- the parts of the arguments behind the first ones of each -/
def more : List Sh → Int
  | [] => 0
  | a :: as => ((parts a : Nat) : Int) - 1 + more as
theorem more_parts : ∀ as : List Sh, ((partsL as : Nat) : Int) = more as + as.length
  | [] => rfl
  | a :: as => by
    have ih := more_parts as
    show ((parts a + partsL as : Nat) : Int) = ((parts a : Nat) : Int) - 1 + more as + ((as.length + 1 : Nat) : Int)
    omega
theorem fold_ds {g : List PyData → Int × List PyData} : ∀ (as : List Sh) (acc : Int × List PyData), (∀ n bs, node n bs ∈ as → g (.int (n : Nat) :: ds bs) = (((parts (node n bs) : Nat) : Int), (vars (node n bs)).map PyData.str)) →
    (ds as).foldl (stepP g) acc = (acc.1 + more as, acc.2 ++ (varsL as).map PyData.str)
  | [], acc, _ => by
    show acc = (acc.1 + 0, acc.2 ++ [])
    rw [Int.add_zero, List.append_nil]
  | var x :: as, acc, h => by
    show (ds as).foldl (stepP g) (acc.1, acc.2 ++ [.str x]) = (acc.1 + (((1 : Nat) : Int) - 1 + more as), acc.2 ++ ([x] ++ varsL as).map PyData.str)
    rw [fold_ds as _ fun n bs hm => h n bs (List.mem_cons_of_mem _ hm), List.map_append, List.append_assoc]
    congr 1
    show acc.1 + more as = _
    omega
  | node n bs :: as, acc, h => by
    have e := h n bs List.mem_cons_self
    show (ds as).foldl (stepP g) (acc.1 + ((g (.int (n : Nat) :: ds bs)).1 - 1), acc.2 ++ (g (.int (n : Nat) :: ds bs)).2) = (acc.1 + (((parts (node n bs) : Nat) : Int) - 1 + more as), acc.2 ++ (vars (node n bs) ++ varsL as).map PyData.str)
    rw [fold_ds as _ fun n bs hm => h n bs (List.mem_cons_of_mem _ hm), e, List.map_append, List.append_assoc]
    congr 1
    show acc.1 + (((parts (node n bs) : Nat) : Int) - 1) + more as = _
    omega
theorem okAs_mem {ar : List Nat} : ∀ {as : List Sh} {a : Sh}, okAs ar as → a ∈ as → okA ar a
  | b :: as, a, h, hm => by
    rcases List.mem_cons.mp hm with rfl | hm
    · exact h.1
    · exact okAs_mem h.2 hm
theorem ds_len (as : List Sh) : (ds as).length = as.length := by rw [ds_map, List.length_map]
theorem varsL_nil {as : List Sh} (h : as.length = 0) : varsL as = [] := by
  rw [List.eq_nil_of_length_eq_zero h]
  rfl
theorem pw_node {ar : List Nat} {hs : List (List Nat)} (H : HeadsFor ar hs) : ∀ (r n : Nat) (as : List Sh), okA ar (node n as) → dep (node n as) ≤ r → pw hs r (.int (n : Nat) :: ds as) = (((parts (node n as) : Nat) : Int), (vars (node n as)).map PyData.str)
  | 0, n, as, _, h => by
    have h : deps as + 1 ≤ 0 := h
    omega
  | r + 1, n, as, ⟨h1, h2⟩, hd => by
    have hd : deps as + 1 ≤ r + 1 := hd
    obtain ⟨l2, hm⟩ := H n _ h1
    have nb : ¬ badHead hs (.int (n : Nat) :: ds as) = true := by
      unfold badHead
      rw [List.length_cons, ds_len, decide_eq_true (by omega), decide_eq_true (by omega)]
      show ¬ ((!(true && true)) || ((!memb (nats (hs.getD (as.length + 1) [])) (.int (n : Nat))) || subTy "int" "bool")) = true
      rw [memb_nats hm]
      decide
    unfold pw
    rw [if_neg nb]
    have le : ((PyData.int ((n : Nat) : Int)) :: ds as).length = as.length + 1 := by rw [List.length_cons, ds_len]
    by_cases e : as.length = 0
    · rw [if_pos (by rw [le, e])]
      have e2 := List.eq_nil_of_length_eq_zero e
      subst e2
      rfl
    · rw [if_neg (by rw [le]; omega)]
      show (ds as).foldl (stepP (pw hs r)) _ = _
      rw [fold_ds as _ fun m bs hmem => pw_node H r m bs (okAs_mem h2 hmem) (by have := deps_le hmem; omega)]
      show (((((PyData.int ((n : Nat) : Int)) :: ds as).length : Nat) : Int) + more as, [] ++ (varsL as).map PyData.str) = (((partsL as + 1 : Nat) : Int), (varsL as).map PyData.str)
      have := more_parts as
      rw [le, List.nil_append]
      congr 1
      omega
end Sh
theorem lettersD_map (m : Nat) : lettersD m = (letters m).map PyData.str := by
  unfold lettersD letters
  rw [List.map_take]
  rfl
theorem count_le_one {x : Str} : ∀ {vs : List Str}, vs.Nodup → (vs.countP fun y => y == x) ≤ 1
  | [], _ => Nat.zero_le _
  | y :: vs, h => by
    rw [List.nodup_cons] at h
    rw [List.countP_cons]
    have ih := count_le_one (x := x) h.2
    by_cases e : (y == x) = true
    · have e2 := eq_of_beq e
      have z : (vs.countP fun y => y == x) = 0 := by
        rw [List.countP_eq_zero]
        intro a ha e3
        have e4 := eq_of_beq e3
        exact h.1 (by rw [e2, ← e4]; exact ha)
      rw [z, if_pos e]
      exact Nat.le_refl _
    · rw [if_neg e]
      omega
theorem count_one {vs : List Str} {x : Str} (h : vs.Nodup) : ((vs.map PyData.str).countP fun z => PyData.eqv z (.str x)) ≤ 1 := by
  rw [List.countP_map]
  have e : ((fun z => PyData.eqv z (.str x)) ∘ PyData.str) = fun y => y == x := by
    funext y
    rfl
  rw [e]
  exact count_le_one h
theorem isSup_ok {ar : List Nat} {hs : List (List Nat)} {m top : Nat} {s : Sh} (H : HeadsFor ar hs) (o : SupOk ar m top s) : isSup hs (lettersD m) s.d = true := by
  obtain ⟨n, as, rfl, _⟩ := o.node
  have e := Sh.pw_node H 3 n as o.ok o.dep
  show (decide ((pw hs 3 (.int (n : Nat) :: Sh.ds as)).1 ≤ 5) && (pw hs 3 (.int (n : Nat) :: Sh.ds as)).2.all (leafOk (lettersD m) (pw hs 3 (.int (n : Nat) :: Sh.ds as)).2)) = true
  rw [e]
  have h5 := o.parts
  rw [decide_eq_true (show (((Sh.parts (.node n as) : Nat) : Int) ≤ 5) by omega), Bool.true_and, List.all_eq_true]
  intro x hx
  obtain ⟨y, hy, rfl⟩ := List.mem_map.mp hx
  show (memb (lettersD m) (.str y) && decide _) = true
  rw [lettersD_map, memb_strs (o.vars y hy), decide_eq_true (count_one o.once)]
  rfl
theorem uses_ok {u : Str} (h : u ∈ (["get", "put", "both"] : List Str)) : memb uses3 (.str u) = true := memb_strs h
theorem names_ok {n : Nat} (h : n ≤ 9) : memb names10 (.int (n : Nat)) = true := by
  have e : names10 = nats [0, 1, 2, 3, 4, 5, 6, 7, 8, 9] := rfl
  rw [e]
  refine memb_nats ?_
  have : n = 0 ∨ n = 1 ∨ n = 2 ∨ n = 3 ∨ n = 4 ∨ n = 5 ∨ n = 6 ∨ n = 7 ∨ n = 8 ∨ n = 9 := by omega
  rcases this with rfl | rfl | rfl | rfl | rfl | rfl | rfl | rfl | rfl | rfl <;> simp
theorem memb_nats_no {r : List Nat} {n : Nat} (h : n ∉ r) : memb (nats r) (.int (n : Nat)) = false := by
  cases e : memb (nats r) (.int (n : Nat)) with
  | false => rfl
  | true =>
    obtain ⟨z, hz, e2⟩ := List.any_eq_true.mp e
    obtain ⟨k, hk, rfl⟩ := List.mem_map.mp hz
    rw [eqv_nat] at e2
    exact absurd ((eq_of_beq e2) ▸ hk) h
theorem mall_ok {ar : List Nat} {hs : List (List Nat)} {m : Nat} (H : HeadsFor ar hs) : ∀ (ms : List (Nat × Str × Sh)) (r : List Nat) (ls : List Str), (∀ x ∈ ms, x.1 ≤ 9 ∧ x.2.1 ∈ (["get", "put", "both"] : List Str) ∧ MemOk ar m x.2.2) → (r ++ ms.map (·.1)).Nodup → (∀ x ∈ ls, x ∈ letters m) →
    ∃ (r' : List Nat) (ls' : List Str), mall hs (ms.map memD) (nats r, ls.map PyData.str) = some (nats r', ls'.map PyData.str) ∧ ∀ x ∈ ls', x ∈ letters m
  | [], r, ls, _, _, hl => ⟨r, ls, rfl, hl⟩
  | (nm, u, sh) :: ms, r, ls, h, nd, hl => by
    obtain ⟨h1, h2, h3⟩ := h (nm, u, sh) List.mem_cons_self
    have hno : nm ∉ r := by
      rw [List.map_cons, List.nodup_append] at nd
      exact fun hm => nd.2.2 nm hm nm List.mem_cons_self rfl
    have good : ¬ (!(memb uses3 (.str u)) || (!(memb names10 (.int (nm : Nat))) || (isB (.int (nm : Nat)) || memb (nats r) (.int (nm : Nat))))) = true := by
      rw [uses_ok h2, names_ok h1, memb_nats_no hno]
      show ¬ (!true || (!true || (false || false))) = true
      decide
    have nd' : ((r ++ [nm]) ++ ms.map (·.1)).Nodup := by
      rw [List.append_assoc]
      exact nd
    have hl' : ∀ x ∈ ls ++ sh.vars, x ∈ letters m := fun x hx => by
      rcases List.mem_append.mp hx with hx | hx
      · exact hl x hx
      · exact h3.vars x hx
    obtain ⟨r', ls', e, hl2⟩ := mall_ok H ms (r ++ [nm]) (ls ++ sh.vars) (fun x hx => h x (List.mem_cons_of_mem _ hx)) nd' hl'
    refine ⟨r', ls', ?_, hl2⟩
    show (mstep hs (nats r, ls.map PyData.str) (.tuple [.int (nm : Nat), .str u, sh.d])).bind (mall hs (ms.map memD)) = _
    have es : mstep hs (nats r, ls.map PyData.str) (.tuple [.int (nm : Nat), .str u, sh.d]) = some (nats (r ++ [nm]), (ls ++ sh.vars).map PyData.str) := by
      cases sh with
      | var x =>
        show (if (!(memb uses3 (.str u)) || (!(memb names10 (.int (nm : Nat))) || (isB (.int (nm : Nat)) || memb (nats r) (.int (nm : Nat))))) = true then none else some (nats r ++ [.int (nm : Nat)], ls.map PyData.str ++ [.str x])) = _
        rw [if_neg good, nats_snoc, List.map_append]
        rfl
      | node n as =>
        have ep := Sh.pw_node H 3 n as h3.ok h3.dep
        show (if (!(memb uses3 (.str u)) || (!(memb names10 (.int (nm : Nat))) || (isB (.int (nm : Nat)) || memb (nats r) (.int (nm : Nat))))) = true then none else
          if 5 < (pw hs 3 (.int (n : Nat) :: Sh.ds as)).1 then none else some (nats r ++ [.int (nm : Nat)], ls.map PyData.str ++ (pw hs 3 (.int (n : Nat) :: Sh.ds as)).2)) = _
        have h5 : Sh.parts (.node n as) ≤ 5 := h3.parts
        rw [if_neg good, ep, if_neg (show ¬ (5 : Int) < ((Sh.parts (.node n as) : Nat) : Int) by omega), nats_snoc, List.map_append]
    rw [es]
    exact e
theorem areMems_ok {ar : List Nat} {hs : List (List Nat)} {m : Nat} {r : Row} (H : HeadsFor ar hs) (o : RowOk ar m r) : areMems hs (lettersD m) (r.mems.map memD) = true := by
  obtain ⟨r', ls', e, hl⟩ := mall_ok H r.mems [] [] o.mem (by rw [List.nil_append]; exact o.once) (fun x hx => nomatch hx)
  unfold areMems
  have e : mall hs (r.mems.map memD) ([], []) = some (nats r', ls'.map PyData.str) := e
  rw [e, lettersD_map]
  show (ls'.map PyData.str).all _ = true
  rw [List.all_eq_true]
  intro x hx
  obtain ⟨y, hy, rfl⟩ := List.mem_map.mp hx
  exact memb_strs (hl y hy)
theorem signs_ok {r : Row} {ar : List Nat} {m : Nat} (o : RowOk ar m r) (h2 : m ≤ 2) : areSigns (.tuple (r.signs.map PyData.str)) = true := by
  show (decide ((r.signs.map PyData.str).length ≤ 2) && (r.signs.map PyData.str).all (memb sgns)) = true
  rw [List.length_map, decide_eq_true (by rw [o.signs]; exact h2), Bool.true_and, List.all_eq_true]
  intro x hx
  obtain ⟨y, hy, rfl⟩ := List.mem_map.mp hx
  exact memb_strs (r := ["+", "-", "=", "*"]) (o.sign y hy)
/-- a drawn table is one -/
theorem tab_heads {ar : List Nat} {t : List Row} (o : TabOk ar t) : tableHeads (tabD t) = some (headsK ar ar.length) := by
  have hrow : ∀ x ∈ t.map Row.d, ∃ (k : Nat) (r : Row), x = r.d ∧ t[k]? = some r ∧ RowOk ar (ar.getD k 0) r := by
    intro x hx
    obtain ⟨r, hr, rfl⟩ := List.mem_map.mp hx
    obtain ⟨k, hk, e⟩ := List.mem_iff_getElem.mp hr
    exact ⟨k, r, rfl, by rw [List.getElem?_eq_getElem hk, e], o.row k r (by rw [List.getElem?_eq_getElem hk, e])⟩
  have two : ∀ k, ar.getD k 0 ≤ 2 := fun k => by
    rw [List.getD_eq_getElem?_getD]
    cases e : ar[k]? with
    | none => exact Nat.zero_le _
    | some y => exact o.two y (List.mem_of_getElem? e)
  have es : (t.map Row.d).map signsOf = ar := by
    refine List.ext_getElem? fun k => ?_
    rw [List.getElem?_map, List.getElem?_map]
    cases e : t[k]? with
    | none =>
      rcases Nat.lt_or_ge k t.length with l | l
      · rw [List.getElem?_eq_getElem l] at e
        cases e
      · rw [List.getElem?_eq_none (by have := o.len; omega)]
        rfl
    | some r =>
      have z := (o.row k r e).signs
      have hk : k < ar.length := by
        rcases Nat.lt_or_ge k t.length with l | l
        · have := o.len
          omega
        · rw [List.getElem?_eq_none l] at e
          cases e
      show some ((r.signs.map PyData.str).length) = _
      rw [List.length_map, z, List.getD_eq_getElem?_getD, List.getElem?_eq_getElem hk]
      rfl
  have eh : headsOf (t.map Row.d) = headsK ar ar.length := by
    unfold headsOf
    rw [es]
  have H : HeadsFor ar (headsK ar ar.length) := by
    intro n a e
    have hn : n < ar.length := by
      rcases Nat.lt_or_ge n ar.length with l | l
      · exact l
      · rw [List.getElem?_eq_none l] at e
        cases e
    refine ⟨o.two a (List.mem_of_getElem? e), (headsK_mem ar.length fun i _ => two i).mpr ⟨hn, ?_⟩⟩
    rw [List.getD_eq_getElem?_getD, e]
    rfl
  unfold tabD
  rw [th_yes, eh]
  · rw [List.length_map, o.len]
    exact o.few
  · rw [List.all_eq_true]
    intro x hx
    obtain ⟨k, r, rfl, e, ok⟩ := hrow x hx
    show (areSigns (.tuple (r.signs.map PyData.str)) && (decide ((r.sups.map Sh.d).length ≤ 2) && decide ((r.mems.map memD).length ≤ 3))) = true
    rw [signs_ok ok (two k), List.length_map, List.length_map, decide_eq_true ok.sups, decide_eq_true ok.mems]
    rfl
  · rw [List.all_eq_true, eh]
    intro x hx
    obtain ⟨k, r, rfl, e, ok⟩ := hrow x hx
    show ((r.sups.map Sh.d).all (isSup (headsK ar ar.length) (lettersD (r.signs.map PyData.str).length)) && ((r.mems.map memD).isEmpty || areMems (headsK ar ar.length) (lettersD (r.signs.map PyData.str).length) (r.mems.map memD))) = true
    rw [List.length_map, ok.signs, areMems_ok H ok, Bool.or_true, Bool.and_true, List.all_eq_true]
    intro y hy
    obtain ⟨s, hs, rfl⟩ := List.mem_map.mp hy
    exact isSup_ok H (ok.sup s hs)
end Kin

namespace Kin
open PySem PySem.Spec PyProof.Rows L2 Dl
open Evl (Ex sz_of sz_lt)
namespace Sh
mutual
theorem d_lay : ∀ s : Sh, (∀ x ∈ vars s, PyData.canLay0 (.str x) = true) → s.d.canLay0 = true ∧ s.d.depth ≤ dep s
  | var x, h => ⟨h x (show x ∈ [x] by simp), Nat.le_refl _⟩
  | node n as, h => by
    obtain ⟨a, b⟩ := ds_lay as h
    exact ⟨show ((PyData.int (n : Nat)).canLay0 && PyData.canLayAll0 (ds as)) = true by rw [a]; rfl, show max (0 : Nat) (PyData.depthAll (ds as)) + 1 ≤ deps as + 1 by omega⟩
theorem ds_lay : ∀ as : List Sh, (∀ x ∈ varsL as, PyData.canLay0 (.str x) = true) → PyData.canLayAll0 (ds as) = true ∧ PyData.depthAll (ds as) ≤ deps as
  | [], _ => ⟨rfl, Nat.le_refl _⟩
  | a :: as, h => by
    obtain ⟨x, y⟩ := d_lay a fun z hz => h z (List.mem_append_left _ hz)
    obtain ⟨u, v⟩ := ds_lay as fun z hz => h z (List.mem_append_right _ hz)
    exact ⟨show (a.d.canLay0 && PyData.canLayAll0 (ds as)) = true by rw [x, u]; rfl, show max a.d.depth (PyData.depthAll (ds as)) ≤ max (dep a) (deps as) by omega⟩
end
end Sh
/-- may be laid, to a depth -/
def Flat (n : Nat) (d : PyData) : Prop := d.canLay0 = true ∧ d.depth ≤ n
theorem Flat.tup {n : Nat} {ds : List PyData} (h : ∀ x ∈ ds, Flat n x) : Flat (n + 1) (.tuple ds) :=
  ⟨lay_all fun x hx => (h x hx).1, show PyData.depthAll ds + 1 ≤ n + 1 from Nat.succ_le_succ (depth_all fun x hx => (h x hx).2)⟩
theorem Flat.mono {n m : Nat} {d : PyData} (h : Flat n d) (l : n ≤ m) : Flat m d := ⟨h.1, Nat.le_trans h.2 l⟩
theorem Flat.shp {n : Nat} {d : PyData} (h : Flat n d) (l : n ≤ 64) : SeqAt.shaped d = true := by
  show (d.canLay0 && decide (d.depth ≤ 64)) = true
  rw [h.1, decide_eq_true (Nat.le_trans h.2 l)]
  rfl
theorem flat_str {l : List Str} (all : ∀ x ∈ l, PyData.canLay0 (.str x) = true) {x : Str} (h : x ∈ l) (n : Nat) : Flat n (.str x) := ⟨all x h, Nat.zero_le _⟩
theorem lay_signs : ∀ x ∈ (["+", "-", "=", "*"] : List Str), PyData.canLay0 (.str x) = true := by decide +kernel
theorem lay_uses : ∀ x ∈ (["get", "put", "both"] : List Str), PyData.canLay0 (.str x) = true := by decide +kernel
theorem flat_row {ar : List Nat} {m : Nat} {r : Row} (o : RowOk ar m r) : Flat 6 r.d := by
  refine Flat.tup (n := 5) fun x hx => ?_
  have hx : x ∈ [PyData.tuple (r.signs.map PyData.str), .tuple (r.sups.map Sh.d), .tuple (r.mems.map memD)] := hx
  simp only [List.mem_cons, List.not_mem_nil, or_false] at hx
  rcases hx with rfl | rfl | rfl
  · refine Flat.tup fun y hy => ?_
    obtain ⟨z, hz, rfl⟩ := List.mem_map.mp hy
    exact flat_str lay_signs (o.sign z hz) _
  · refine Flat.tup fun y hy => ?_
    obtain ⟨s, hs, rfl⟩ := List.mem_map.mp hy
    have q := Sh.d_lay s fun x hx => letters_ok x ((o.sup s hs).vars x hx)
    have := (o.sup s hs).dep
    exact ⟨q.1, by omega⟩
  · refine Flat.tup fun y hy => ?_
    obtain ⟨s, hs, rfl⟩ := List.mem_map.mp hy
    obtain ⟨h1, h2, h3⟩ := o.mem s hs
    refine Flat.tup (n := 3) fun z hz => ?_
    have hz : z ∈ [PyData.int (s.1 : Nat), .str s.2.1, s.2.2.d] := hz
    simp only [List.mem_cons, List.not_mem_nil, or_false] at hz
    rcases hz with rfl | rfl | rfl
    · exact ⟨rfl, Nat.zero_le _⟩
    · exact flat_str lay_uses h2 _
    · have q := Sh.d_lay s.2.2 fun x hx => letters_ok x (h3.vars x hx)
      have := h3.dep
      exact ⟨q.1, by omega⟩
theorem flat_rows {ar : List Nat} {t : List Row} (o : TabOk ar t) : ∀ x ∈ t.map Row.d, Flat 6 x := by
  intro x hx
  obtain ⟨r, hr, rfl⟩ := List.mem_map.mp hx
  obtain ⟨k, hk, e⟩ := List.mem_iff_getElem.mp hr
  exact flat_row (o.row k r (by rw [List.getElem?_eq_getElem hk, e]))
theorem flat_tab {ar : List Nat} {t : List Row} (o : TabOk ar t) : Flat 7 (tabD t) := Flat.tup (flat_rows o)
theorem shp_tab {ar : List Nat} {t : List Row} (o : TabOk ar t) : SeqAt.shaped (tabD t) = true := (flat_tab o).shp (by decide)
/-- those of bads that don't know the table -/
def bads0 : List PyData := (bads []).drop 3
theorem bads0_no : ∀ z ∈ bads0, tableHeads z = none ∧ SeqAt.shaped z = true := by
  have h : (bads0.all fun z => (tableHeads z).isNone && SeqAt.shaped z) = true := by decide +kernel
  intro z hz
  have q := List.all_eq_true.mp h z hz
  rw [Bool.and_eq_true] at q
  exact ⟨Option.isNone_iff_eq_none.mp q.1, q.2⟩
theorem bads_no {ar : List Nat} {t : List Row} (o : TabOk ar t) : ∀ z ∈ bads t, tableHeads z = none ∧ SeqAt.shaped z = true := by
  intro z hz
  have hz : z ∈ [PyData.none, .list (t.map Row.d), .tuple (t.map Row.d ++ [.tuple [], .tuple [], .tuple []])] ++ bads0 := hz
  rcases List.mem_append.mp hz with hz | hz
  · simp only [List.mem_cons, List.not_mem_nil, or_false] at hz
    rcases hz with rfl | rfl | rfl
    · exact ⟨rfl, rfl⟩
    · exact ⟨rfl, shp_tab o⟩
    · refine ⟨?_, ?_⟩
      · refine th_frame (List.all_eq_false.mpr ⟨.tuple [], by simp, by decide⟩)
      · refine Flat.shp (n := 7) (Flat.tup fun x hx => ?_) (by decide)
        rcases List.mem_append.mp hx with hx | hx
        · exact flat_rows o x hx
        · have e : x = .tuple [] := by simpa using hx
          rw [e]
          exact ⟨rfl, by decide⟩
  · exact bads0_no z hz
end Kin

namespace Dl
open PySem PySem.Spec PyProof.Rows L2
open Evl (Ex sz_of sz_lt)
/-- a def's promise that may raise, told of calls within which no repr runs -/
structure FnX (P : Program) (w : World) (K : PySem.W.Frag) (mg : Str → Option Value) (base : Heap) (k : Nat) (f : Addr) (fd : FuncData) (ps : List Str) (sp : Sp) : Prop where
  len : ∀ vs H Q E, sp vs H Q E → vs.length = ps.length
  run : ∀ (A : Around) (outer : List PySem.Env) (s : Shared) (H : Hp) (args : Args) (us : List Value) (vs : List V) (Q : VK) (E : XK), A.guards = some [] → Room k A → Env0 P w K mg base A outer s H →
    BindsTo s fd args (ps.zip us) → Vals vs us → sp vs H Q E → codeAny (model P w) A (.call (.ref f) args) (CR (L2.CX P w) outer P w H s Q E) s
theorem FnX.weak {P : Program} {w : World} {K : PySem.W.Frag} {mg : Str → Option Value} {base : Heap} {k : Nat} {f : Addr} {fd : FuncData} {ps : List Str} {sp sp' : Sp} (F : FnX P w K mg base k f fd ps sp) (h : ∀ vs H Q E, sp' vs H Q E → sp vs H Q E) : FnX P w K mg base k f fd ps sp' :=
  ⟨fun vs H Q E z => F.len vs H Q E (h vs H Q E z), fun A outer s H args us vs Q E g r e b v z => F.run A outer s H args us vs Q E g r e b v (h vs H Q E z)⟩
section
variable {X : Cx} {k : Nat} {f : Addr} {fd : FuncData} {ps : List Str} {sp : Sp} {x : Str} {p pos : Pos} {e : Expr} {es : List Expr} {t : TA} {E : L2.St → XK}
theorem runX {pins : List (Addr × Obj)} {σ : L2.St} {H : Hp} {s : Shared} {Q : VK} {us : List Value} {vs : List V} (F : FnX X.prog X.w X.K X.mg X.base k f fd ps sp) (g : X.A.guards = some [])
    (hr : Room k X.A) (hb : Binds X.K fd ps []) (hx : PassesAt (L2.CX X.prog X.w) X σ (E σ)) (I : Inv X pins σ H s) (r : Vals vs us) (h : sp vs H Q (E σ)) :
    wpAny (model X.prog X.w) X.A (call (.ref f) us) (EP X pins σ Q) X.xe s := by
  have hl : us.length = ps.length := r.length.symm.trans (F.len vs H Q _ h)
  have b : BindsTo s fd ⟨us, []⟩ (ps.zip us) := by
    have b0 := hb s us I.kIn (by rw [List.append_nil]; exact hl)
    rwa [List.append_nil] at b0
  have run := F.run X.A X.stack s H ⟨us, []⟩ us vs Q (E σ) g hr I.env0 b r h
  refine wpAny_call (codeAny_mono run ?_)
  intro res s2 hq
  match res, hq with
  | .error e, hq => exact hx pins H s e s2 I hq
  | .ok (.ret u), hq => exact I.after hq
  | .ok .next, hq => exact hq.elim
  | .ok .brk, hq => exact hq.elim
  | .ok .cont, hq => exact hq.elim
/-- f(a, ..), f may raise -/
theorem pe_callX (F : FnX X.prog X.w X.K X.mg X.base k f fd ps sp) (g : X.A.guards = some []) (hr : Room k X.A) (hg : Gl X x) (hm : X.mg x = some (.ref f))
    (hk : PySem.W.keepIn X.K (.ref f) = true) (hb : Binds X.K fd ps []) (hx : ∀ σ, PassesAt (L2.CX X.prog X.w) X σ (E σ)) (ha : PA X (e :: es) t) (hdb : (x == ("__debug__" : Str)) = false := by decide)
    (he : starEach (e :: es) X.env = (false, eval e X.env) :: starEach es X.env := by rfl)
    (hpl : (backTo pos (starEach es X.env)).any (·.1) = false := by rfl) : PE X (.Call (.Name x p) (e :: es) [] pos) (tCallS sp E t) := by
  constructor
  intro pins s σ H Q I h
  refine wpAny_Call_Name_kw (ld_glob I hg hm ?_ hdb)
  have args := ha.run pos pins s σ H _ I h
  refine PySem.W.callWith_K (h₀ := X.base) I.ok.mod.kin hk (thn args ?_) he hpl
  rintro us s1 ⟨vs, H1, I1, r, q⟩
  exact ⟨I1.kIn, runX F g hr hb (hx σ) I1 r q⟩
end
/-- a statement that may raise: t E, where E is what is wished of an error -/
structure DSX (K : PySem.W.Frag) (T : List Addr) (t : XK → TS) (m : (Value → Ws → Prop) → DTS) : Prop where
  run : ∀ (pe0 : Pe) (F0 H0 : Hp) (pe : Pe) (F H : Hp) (σ : L2.St) (env : Env) (n : Ws) (D : Ends) (d : DEnds) (E : XK) (PE : Value → Ws → Prop), Rl K T pe0 F0 H0 pe F H σ env n → m PE d env n → Meets K T pe0 F0 H0 F D d →
    (∀ cls pe' F' H' n', Fr pe0 F0 H0 F' H' → Ext pe0 pe' H0 → PenAt K pe' F' H' n' → PE cls n' → E cls none H') → t E D σ H
/-- what a def does with its arguments, and what it raises -/
abbrev DFX := List Sl → Ws → (PyData → Ws → Prop) → (Value → Ws → Prop) → Prop
def spX (K : PySem.W.Frag) (T : List Addr) (mf : DFX) : Sp := fun vs H Q E => ∃ (pe : Pe) (F : Hp) (ss : List Sl) (n : Ws) (P : PyData → Ws → Prop) (PE : Value → Ws → Prop), pe.tabs = T ∧ Ex F H ∧ PenAt K pe F H n ∧ ArgsR K pe F vs ss ∧ mf ss n P PE ∧
  (∀ v F' H' d n', Fr pe F H F' H' → PenAt K pe F' H' n' → Dq K F' v d → P d n' → Q v H') ∧ ∀ cls F' H' n', Fr pe F H F' H' → PenAt K pe F' H' n' → PE cls n' → E cls none H'
theorem spX_weak {K : PySem.W.Frag} {T : List Addr} {mf mf' : DFX} (h : ∀ ss w P PE, mf' ss w P PE → mf ss w P PE) (vs : List V) (H : Hp) (Q : VK) (E : XK) (z : spX K T mf' vs H Q E) : spX K T mf vs H Q E := by
  obtain ⟨pe, F, ss, n, P, PE, z1, z2, z3, z4, z5, z6⟩ := z
  exact ⟨pe, F, ss, n, P, PE, z1, z2, z3, z4, h _ _ _ _ z5, z6⟩
section
variable {K : PySem.W.Frag} {T : List Addr} {ta tb te : TE} {tas : TA} {ma mb m : DTE} {mx my : DTX} {mv : DTA} {tt tu : TT} {mt mu : DTT} {t1 t2 : TS} {m1 m2 : DTS} {x1 x2 : XK → TS} {n1 n2 : (Value → Ws → Prop) → DTS}
theorem dsx_of (h : DS K T t1 m1) : DSX K T (fun _ => t1) (fun _ => m1) := ⟨fun pe0 F0 H0 pe F H σ env n D d E PE R p M _ => h.run pe0 F0 H0 pe F H σ env n D d R p M⟩
theorem dsx_seq (h : DSX K T x1 n1) (g : DSX K T x2 n2) : DSX K T (fun E => tSeq (x1 E) (x2 E)) (fun PE d env n => n1 PE { d with nx := n2 PE d } env n) := by
  constructor
  intro pe0 F0 H0 pe F H σ env n D d E PE R p M me
  exact h.run pe0 F0 H0 pe F H σ env n _ _ E PE R p ⟨M.bs, fun pe' σ' env' F' H' n' e R' q => g.run pe0 F0 H0 pe' F' H' σ' env' n' D d E PE R' q (M.later e) me, M.rt, M.bk, M.ct⟩ me
theorem dsx_if (c : DT K T tt mt) (h : DSX K T x1 n1) (g : DSX K T x2 n2) : DSX K T (fun E => tIfS tt (x1 E) (x2 E)) (fun PE d env n => mt env n fun b n' => if b = true then n1 PE d env n' else n2 PE d env n') := by
  constructor
  intro pe0 F0 H0 pe F H σ env n D d E PE R p M me
  refine c.run pe F H σ env n _ _ R.lv p fun b F1 H1 n' f1 p1 g1 => ?_
  cases b with
  | true =>
    rw [if_pos rfl] at g1 ⊢
    exact h.run pe0 F0 H0 pe F1 H1 σ env n' D d E PE (R.step f1 p1) g1 (M.later f1.ff) me
  | false =>
    rw [if_neg Bool.false_ne_true] at g1 ⊢
    exact g.run pe0 F0 H0 pe F1 H1 σ env n' D d E PE (R.step f1 p1) g1 (M.later f1.ff) me
/-- raise C('..') -/
theorem dsx_raise {c : Value} : DSX K T (fun E => fun _ _ H => E c none H) (fun PE _ _ n => PE c n) := by
  constructor
  intro pe0 F0 H0 pe F H σ env n D d E PE R p M me
  exact me c pe F H n R.fr R.ext R.lv.pn p
/-- f(..) -/
theorem dsx_drop {mf : DFX} (h : DA K T tas mv) : DSX K T (fun E => tDrop (fun σ H Q => tas σ H fun vs H1 => spX K T mf vs H1 Q E)) (fun PE d env n => mv env n fun ss n1 => mf ss n1 (fun _ n2 => d.nx env n2) PE) := by
  constructor
  intro pe0 F0 H0 pe F H σ env n D d E PE R p M me
  refine h.run pe F H σ env n _ _ R.lv p fun vs F1 H1 ss n1 f1 p1 h1 g1 => ?_
  have R1 := R.step f1 p1
  refine ⟨pe, F1, ss, n1, _, _, R.lv.tb, f1.fh, p1, h1, g1, fun v F2 H2 z n2 f2 p2 h2 g2 => ?_, fun cls F2 H2 n2 f2 p2 g2 => ?_⟩
  · exact M.nx pe σ env F2 H2 n2 (f1.ff.trans f2.ff) (R1.step f2 p2) g2
  · exact me cls pe F2 H2 n2 (R1.step f2 p2).fr R.ext p2 g2
/-- x = f(..) -/
theorem dsx_asg {mf : DFX} {g : TG} {mg : DTG} (h : DA K T tas mv) (hg : DG K g mg) : DSX K T (fun E => tAsg (fun σ H Q => tas σ H fun vs H1 => spX K T mf vs H1 Q E) g) (fun PE d env n => mv env n fun ss n1 => mf ss n1 (fun x n2 => mg (.val x) env fun env' => d.nx env' n2) PE) := by
  constructor
  intro pe0 F0 H0 pe F H σ env n D d E PE R p M me
  refine h.run pe F H σ env n _ _ R.lv p fun vs F1 H1 ss n1 f1 p1 h1 g1 => ?_
  have R1 := R.step f1 p1
  refine ⟨pe, F1, ss, n1, _, _, R.lv.tb, f1.fh, p1, h1, g1, fun v F2 H2 z n2 f2 p2 h2 g2 => ?_, fun cls F2 H2 n2 f2 p2 g2 => ?_⟩
  · have R2 := R1.step f2 p2
    exact hg.run pe F2 H2 σ env v (.val z) _ _ R2.lv.er R2.lv.ex h2 g2 fun σ' env' R' p' => M.nx pe σ' env' F2 H2 n2 (f1.ff.trans f2.ff) (R2.env R') p'
  · exact me cls pe F2 H2 n2 (R1.step f2 p2).fr R.ext p2 g2
/-- return f(..) -/
theorem dsx_ret {mf : DFX} (h : DA K T tas mv) : DSX K T (fun E => tRet (fun σ H Q => tas σ H fun vs H1 => spX K T mf vs H1 Q E)) (fun PE d env n => mv env n fun ss n1 => mf ss n1 d.rt PE) := by
  constructor
  intro pe0 F0 H0 pe F H σ env n D d E PE R p M me
  refine h.run pe F H σ env n _ _ R.lv p fun vs F1 H1 ss n1 f1 p1 h1 g1 => ?_
  have R1 := R.step f1 p1
  refine ⟨pe, F1, ss, n1, _, _, R.lv.tb, f1.fh, p1, h1, g1, fun v F2 H2 z n2 f2 p2 h2 g2 => ?_, fun cls F2 H2 n2 f2 p2 g2 => ?_⟩
  · exact M.rt pe v F2 H2 z n2 (R1.step f2 p2).fr R.ext p2 h2 g2
  · exact me cls pe F2 H2 n2 (R1.step f2 p2).fr R.ext p2 g2
end
/-- what a def that may raise does by its body's reading -/
def mfxOf (np nN : Nat) (m : (Value → Ws → Prop) → DTS) : DFX := fun ss w P PE => ss.length = np ∧ m (fun c w' => PE c (cut w w')) ⟨w.os.length, fun _ w' => P .none (cut w w'), fun d w' => P d (cut w w'), fun _ _ => False, fun _ _ => False⟩ (ss ++ List.replicate (nN - np) .no) w
section
variable {P : Program} {w : World} {K : PySem.W.Frag} {mg : Str → Option Value} {base : Heap} {T : List Addr}
/-- THE RULE for a def that may raise -/
theorem okX {x qual : Str} {st : Stmt} {f : Addr} {fd : FuncData} {cdv : Value} {N ps : List Str} {k : Nat} {m : (Value → Ws → Prop) → DTS} (F : FunV K x qual st f fd cdv) (S : FnScope N ps (defScope st))
    (hbody : ∀ (A : Around) (outer : List PySem.Env) (s : Shared) (H : Hp), (A.deeper (envOfC qual (defScope st) s.heap.objs.size f cdv)).guards = some [] →
      Room k (A.deeper (envOfC qual (defScope st) s.heap.objs.size f cdv)) → ∃ t : XK → TS, (∀ E, PSs (cxOf (L2.CX P w) P w K mg base N qual (defScope st) f cdv A outer s H E) (defBody st) (t E)) ∧ DSX K T t m) :
    FnX P w K mg base (k + 1) f fd ps (spX K T (mfxOf ps.length N.length m)) := by
  obtain ⟨oc, od, kV, doc, pm, an, ct, osl, rfl, lk, hcd⟩ := F
  have len : ∀ vs H Q E, spX K T (mfxOf ps.length N.length m) vs H Q E → vs.length = ps.length := by
    rintro vs H Q E ⟨pe, F, ss, n, P, PE, z1, z2, z3, z4, ⟨z5, z6⟩, z7⟩
    rw [z4.len, z5]
  constructor
  · exact len
  intro A outer s H args us vs Q E g r e0 hb rv hsp
  have grow : ∀ b o, base.get? b = some o → s.heap.get? b = some o := fun b o e => (e0.bs b o e).1
  have inK := e0.mod.kin.keeps grow
  have kinds : ∀ y ∈ ps.zip us, (defScope st).names.lookup y.1 = some .local ∨
      ((defScope st).names.lookup y.1 = some .cell ∧ ((cellsFrom (s.heap.objs.size + 1) (defScope st).names []).lookup y.1).isSome = true) := by
    intro y hy
    have q := S.par y.1 (List.of_mem_zip (show (y.1, y.2) ∈ ps.zip us from hy)).1
    exact q.imp_right fun c => ⟨c, PySem.W.cellsFrom_some _ _ _ (.inl c)⟩
  have code := PySem.W.codeRec_of inK hcd
  refine codeAny_call_function r.depth (inK _ _ lk) rfl S.co S.gen rfl code (hb _ _ _ _ (wpAny_newFunctionEnv_cells S.kind kinds ?_))
  intro env he s1 hc
  subst he
  refine ⟨(e0.mod.nolimit.keeps grow).keeps hc.toInCall.keep, codeAny_func ?_⟩
  obtain ⟨t, ht, ds⟩ := hbody A outer s H (guards_deeper g) (r.deeper _)
  have hl := len _ _ _ _ hsp
  have I := inv_start (E := E) (CX := L2.CX P w) S r.hd e0 hl rv hc
  obtain ⟨pe, Fz, ss, n, Pz, PE, z1, z2, z3, z4, ⟨z5, z6⟩, z7, z8⟩ := hsp
  have hq : t E { nx := fun _ H' => Q .non H', rt := Q } (L2.start N vs) H := by
    have er : EnvR K pe Fz (L2.start N vs) (ss ++ List.replicate (N.length - ps.length) .no) := by
      unfold L2.start
      rw [hl]
      exact args_env _ z4
    refine ds.run pe Fz H pe Fz H _ _ n _ _ E _ ⟨⟨er, z2, z3, z1⟩, Fr.refl z2, Ext.refl pe H⟩ z6 ⟨z3.len.symm, ?_, ?_, ?_, ?_⟩ ?_
    · intro pe' σ' env' F' H' n' e R q
      exact z7 _ F' H' .none _ R.fr (R.lv.pn.cut R.ext z3.len) .non q
    · intro pe' v F' H' y n' f e p h q
      exact z7 v F' H' y _ f (p.cut e z3.len) h q
    · intro pe' σ' env' F' H' n' e R q
      exact q.elim
    · intro pe' σ' env' F' H' n' e R q
      exact q.elim
    · intro cls pe' F' H' n' f e p q
      exact z8 cls F' H' _ f (p.cut e z3.len) q
  have body := (ht E).run [] s1 (L2.start N vs) H _ I hq
  refine wpAny_mono body ?_ fun e s' hs => hs
  intro fl s' hs
  match fl, hs with
  | .ret u, ⟨v, σ', H', J, rv, q⟩ => exact ⟨v, H', J.os, J.bare, J.base, J.hok, rv, q⟩
  | .next, ⟨σ', H', J, q⟩ => exact ⟨V.non, H', J.os, J.bare, J.base, J.hok, rfl, q⟩
  | .brk, ⟨_, _, _, q⟩ => exact q.elim
  | .cont, ⟨_, _, _, q⟩ => exact q.elim
end
end Dl

-- dwp3
namespace Kin
open PySem PySem.Spec PyProof.Rows L2 Dl
open Evl (Ex sz_of sz_lt)
abbrev s_check_table : Stmt := topS 27
abbrev N_check_table : List Str := ["table", "heads"]
theorem sc_check_table : FnScope N_check_table ["table"] (defScope s_check_table) := ⟨rfl, rfl, rfl, by decide +kernel, rfl, by decide +kernel, by decide +kernel⟩
/-- a class of error of the program's own -/
structure ErrC (K : PySem.W.Frag) (mg : Str → Option Value) (x : Str) (C : Addr) : Prop where
  g : mg x = some (.ref C)
  ex : PySem.W.excIn K C [.type "ValueError", .type "Exception", .type "BaseException", .type "object"] "ValueError.__new__" = true
  k : PySem.W.keepIn K (.ref C) = true
  b : PySem.W.subIn K (.ref C) (.type "BaseException") = some true
  t : PySem.W.typeIn K (.ref C) = some (.type "type")
  e : PySem.W.exmOne K (.ref C) (.ref C) = some true
/-- check_table(d) -/
def mfCheck (C : Addr) : DFX := fun ss w P PE => ∃ d, ss = [.val d] ∧ SeqAt.shaped d = true ∧ (∀ hs, tableHeads d = some hs → P (headsD hs) w) ∧ (tableHeads d = none → PE (.ref C) w)
section
variable {P : Program} {w : World} {K : PySem.W.Frag} {mg : Str → Option Value} {base : Heap} {Ts : List Addr} {aL aS aU aN C : Addr}
theorem ok_check_table {f fT : Addr} {fd fdT : FuncData} {cdv : Value} {k : Nat} (F : FunV K "check_table" "check_table" s_check_table f fd cdv) (T : TP mg) (XInvalidTable : ErrC K mg "InvalidTable" C)
    (Gtable_heads : FnG P w K mg base k fT fdT ["value"] (spD K Ts mfTH)) (mtable_heads : mg "table_heads" = some (.ref fT)) (ktable_heads : PySem.W.keepIn K (.ref fT) = true) (btable_heads : Binds K fdT ["value"] []) :
    FnX P w K mg base (k + 1) f fd ["table"] (spX K Ts (mfCheck C)) := by
  refine FnX.weak (okX F sc_check_table (fun A outer s H hg hr => ⟨_, fun E => (pss_cons (ps_set (i := 1) sc_check_table.nd rfl (Or.inl rfl) (pe_callG Gtable_heads hg hr (by rfl) mtable_heads ktable_heads btable_heads (pa_cons (pv 0) pa_nil)))
          (pss_cons (ps_if (pt_cmpR op_isN (pv 1) pe_non (nomark _)) (pss_one (ps_raise rfl (takes_of rfl rfl rfl rfl) (pmk_own PySem.F.excBase_ValueError XInvalidTable.ex XInvalidTable.g XInvalidTable.k (raises_own XInvalidTable.b XInvalidTable.t) rfl))) pss_nil)
          (pss_one (ps_ret (pv 1))))), dsx_seq (dsx_of (by repeat first
        | (with_reducible apply ds_asg)
        | (with_reducible apply ds_par)
        | exact de_int
        | exact de_str
        | exact de_bl
        | exact de_non
        | exact de_var
        | exact dx_var
        | exact ds_retN
        | exact ds_next
        | exact ds_brk
        | exact ds_cont
        | exact dt_yes
        | exact dv_nil
        | exact da_nil
        | exact dgs_nil
        | exact dg_name
        | exact do_none
        | (with_reducible apply ds_seq)
        | (with_reducible apply ds_ret)
        | (with_reducible apply ds_if)
        | (with_reducible apply ds_forI)
        | (with_reducible apply ds_whileI)
        | (with_reducible apply ds_drop)
        | (apply dg_tupN 2; exact rfl)
        | (apply dg_tupN 3; exact rfl)
        | apply dgs_cons
        | apply di_any
        | apply di_range
        | apply dt_test
        | apply dt_B
        | apply dt_and
        | apply dt_or
        | apply dt_not
        | apply dx_of
        | apply de_tup
        | apply dv_cons
        | apply da_cons
        | apply do_some
        | apply de_if
        | apply de_not
        | apply de_and
        | apply de_or
        | (apply de_new; apply dn_lst)
        | apply de_op dr_ix
        | apply de_op dr_eq
        | apply de_op dr_ne
        | apply de_op dr_inA
        | apply de_op dr_catT
        | apply de_op dr_catL
        | apply de_op dr_add
        | apply de_op dr_sub
        | apply de_op dr_mul
        | apply de_op dr_mod
        | apply de_op dr_fdiv
        | apply de_op dr_lt
        | apply de_op dr_le
        | apply de_op dr_gt
        | apply de_op dr_ge
        | apply de_op dr_isN
        | apply de_op dr_notN
        | apply de_op dr_addS
        | apply de_slice
        | (apply de_isi; rotate_left 1; assumption; decide; rotate_right 1)
        | apply de_cb dc_len
        | apply de_cb dc_lenS
        | apply de_cb dc_int
        | apply de_cb dc_min2
        | apply de_cb dc_max2
        | apply de_cb dc_tuple
        | (apply de_new; apply dn_cb dcn_list)
        | apply de_call
        | apply de_m dm_append
        | apply de_m dm_insert
        | apply de_m dm_popAt
        | apply de_m0 dm_pop
        | apply de_extend
        | (apply de_new; apply dn_lcN)
        | (apply de_new; apply dn_rep; apply dn_lst)
        | (apply de_genN; rotate_left 2; assumption; rotate_right 2)
        | (with_reducible apply ds_augAdd)
        | apply dt_chain
        | apply de_chain
        | apply dt_truth
        | apply di_enumT
        | apply de_count
        | apply de_op dr_repT)) (dsx_seq (dsx_if (by repeat first
        | (with_reducible apply ds_asg)
        | (with_reducible apply ds_par)
        | exact de_int
        | exact de_str
        | exact de_bl
        | exact de_non
        | exact de_var
        | exact dx_var
        | exact ds_retN
        | exact ds_next
        | exact ds_brk
        | exact ds_cont
        | exact dt_yes
        | exact dv_nil
        | exact da_nil
        | exact dgs_nil
        | exact dg_name
        | exact do_none
        | (with_reducible apply ds_seq)
        | (with_reducible apply ds_ret)
        | (with_reducible apply ds_if)
        | (with_reducible apply ds_forI)
        | (with_reducible apply ds_whileI)
        | (with_reducible apply ds_drop)
        | (apply dg_tupN 2; exact rfl)
        | (apply dg_tupN 3; exact rfl)
        | apply dgs_cons
        | apply di_any
        | apply di_range
        | apply dt_test
        | apply dt_B
        | apply dt_and
        | apply dt_or
        | apply dt_not
        | apply dx_of
        | apply de_tup
        | apply dv_cons
        | apply da_cons
        | apply do_some
        | apply de_if
        | apply de_not
        | apply de_and
        | apply de_or
        | (apply de_new; apply dn_lst)
        | apply de_op dr_ix
        | apply de_op dr_eq
        | apply de_op dr_ne
        | apply de_op dr_inA
        | apply de_op dr_catT
        | apply de_op dr_catL
        | apply de_op dr_add
        | apply de_op dr_sub
        | apply de_op dr_mul
        | apply de_op dr_mod
        | apply de_op dr_fdiv
        | apply de_op dr_lt
        | apply de_op dr_le
        | apply de_op dr_gt
        | apply de_op dr_ge
        | apply de_op dr_isN
        | apply de_op dr_notN
        | apply de_op dr_addS
        | apply de_slice
        | (apply de_isi; rotate_left 1; assumption; decide; rotate_right 1)
        | apply de_cb dc_len
        | apply de_cb dc_lenS
        | apply de_cb dc_int
        | apply de_cb dc_min2
        | apply de_cb dc_max2
        | apply de_cb dc_tuple
        | (apply de_new; apply dn_cb dcn_list)
        | apply de_call
        | apply de_m dm_append
        | apply de_m dm_insert
        | apply de_m dm_popAt
        | apply de_m0 dm_pop
        | apply de_extend
        | (apply de_new; apply dn_lcN)
        | (apply de_new; apply dn_rep; apply dn_lst)
        | (apply de_genN; rotate_left 2; assumption; rotate_right 2)
        | (with_reducible apply ds_augAdd)
        | apply dt_chain
        | apply de_chain
        | apply dt_truth
        | apply di_enumT
        | apply de_count
        | apply de_op dr_repT) dsx_raise (dsx_of ds_next)) (dsx_of (by repeat first
        | (with_reducible apply ds_asg)
        | (with_reducible apply ds_par)
        | exact de_int
        | exact de_str
        | exact de_bl
        | exact de_non
        | exact de_var
        | exact dx_var
        | exact ds_retN
        | exact ds_next
        | exact ds_brk
        | exact ds_cont
        | exact dt_yes
        | exact dv_nil
        | exact da_nil
        | exact dgs_nil
        | exact dg_name
        | exact do_none
        | (with_reducible apply ds_seq)
        | (with_reducible apply ds_ret)
        | (with_reducible apply ds_if)
        | (with_reducible apply ds_forI)
        | (with_reducible apply ds_whileI)
        | (with_reducible apply ds_drop)
        | (apply dg_tupN 2; exact rfl)
        | (apply dg_tupN 3; exact rfl)
        | apply dgs_cons
        | apply di_any
        | apply di_range
        | apply dt_test
        | apply dt_B
        | apply dt_and
        | apply dt_or
        | apply dt_not
        | apply dx_of
        | apply de_tup
        | apply dv_cons
        | apply da_cons
        | apply do_some
        | apply de_if
        | apply de_not
        | apply de_and
        | apply de_or
        | (apply de_new; apply dn_lst)
        | apply de_op dr_ix
        | apply de_op dr_eq
        | apply de_op dr_ne
        | apply de_op dr_inA
        | apply de_op dr_catT
        | apply de_op dr_catL
        | apply de_op dr_add
        | apply de_op dr_sub
        | apply de_op dr_mul
        | apply de_op dr_mod
        | apply de_op dr_fdiv
        | apply de_op dr_lt
        | apply de_op dr_le
        | apply de_op dr_gt
        | apply de_op dr_ge
        | apply de_op dr_isN
        | apply de_op dr_notN
        | apply de_op dr_addS
        | apply de_slice
        | (apply de_isi; rotate_left 1; assumption; decide; rotate_right 1)
        | apply de_cb dc_len
        | apply de_cb dc_lenS
        | apply de_cb dc_int
        | apply de_cb dc_min2
        | apply de_cb dc_max2
        | apply de_cb dc_tuple
        | (apply de_new; apply dn_cb dcn_list)
        | apply de_call
        | apply de_m dm_append
        | apply de_m dm_insert
        | apply de_m dm_popAt
        | apply de_m0 dm_pop
        | apply de_extend
        | (apply de_new; apply dn_lcN)
        | (apply de_new; apply dn_rep; apply dn_lst)
        | (apply de_genN; rotate_left 2; assumption; rotate_right 2)
        | (with_reducible apply ds_augAdd)
        | apply dt_chain
        | apply de_chain
        | apply dt_truth
        | apply di_enumT
        | apply de_count
        | apply de_op dr_repT)))⟩)) (spX_weak fun ss w P PE h => ?_)
  obtain ⟨d, rfl, hs, hy, hn⟩ := h
  refine ⟨rfl, ?_⟩
  dsimp only
  refine ⟨_, rfl, Sl.noConfusion, d, rfl, hs, ?_⟩
  cases e : tableHeads d with
  | none => exact ⟨_, rfl, Sl.noConfusion, _, _, rfl, rfl, rfl, _, rfl, iteT (by rw [cut_self]; exact hn e)⟩
  | some h => exact ⟨_, rfl, Sl.noConfusion, _, _, rfl, rfl, rfl, _, rfl, iteF ⟨_, rfl, fin (hy h e)⟩⟩
end
end Kin

namespace Dl
open PySem PySem.Spec PyProof.Rows L2
open Evl (Ex sz_of sz_lt)
def intsD (ns : List Int) : List PyData := ns.map PyData.int
theorem dq_bools {K : PySem.W.Frag} {F : Hp} : ∀ {bs : List Bool} {vs : List V}, DqAll K F vs (bs.map PyData.bool) → vs = bs.map V.bl
  | [], vs, h => by
    cases h
    rfl
  | b :: bs, vs, h => by
    cases h with
    | cons a c => rw [dp_bl a, dq_bools c]; rfl
theorem dq_ints {K : PySem.W.Frag} {F : Hp} : ∀ {ns : List Int} {vs : List V}, DqAll K F vs (intsD ns) → vs = ns.map V.int
  | [], vs, h => by
    cases h
    rfl
  | b :: bs, vs, h => by
    cases h with
    | cons a c => rw [dp_int a, dq_ints c]; rfl
theorem ints_dq' {K : PySem.W.Frag} {F : Hp} : ∀ ns : List Int, DqAll K F (ns.map V.int) (intsD ns)
  | [] => .nil
  | i :: r => .cons (.int _) (ints_dq' r)
section
variable {X : Cx} (K : PySem.W.Frag) (hK : X.K = K)
include hK
theorem allK (hc : X.calm = true) : CallR X (.builtin "all") (rAll K) := hK ▸ cr_all hc
theorem maxK (hc : X.calm = true) : CallR X (.builtin "max") (rMax K) := hK ▸ cr_max hc
theorem minK (hc : X.calm = true) : CallR X (.builtin "min") (rMin K) := hK ▸ cr_min hc
theorem sortedK : CallR X (.builtin "sorted") (rSortedI K) := hK ▸ cr_sortedI
theorem lenSetK {a : Expr} {ta : TE} {p p2 q pos : Pos} (hc : X.calm = true) (hg : Gl X "len") (hm : X.mg "len" = none) (hg2 : Gl X "set") (hm2 : X.mg "set" = none) (ha : PE X a ta)
    (na : starEach [a] X.env = (false, eval a X.env) :: starEach [] X.env := by rfl) : PE X (.Call (.Name "len" p) [.Call (.Name "set" p2) [a] [] q] [] pos) (tLenSetI K ta) := hK ▸ pe_lenSetI hc hg hm hg2 hm2 ha na
end
section
variable {K : PySem.W.Frag} {T : List Addr} {ta te : TE} {m : DTE} {mx my : DTX}
theorem dc_all : DC K (rAll K) (fun ds P => ∃ bs : List Bool, ds = [.list (bs.map PyData.bool)] ∧ P (.bool (bs.all id))) := by
  constructor
  rintro pe F H xs ds P Q ex h ⟨bs, rfl, p⟩ q
  obtain ⟨x, rfl, hx⟩ := one1 h
  obtain ⟨a, vs, rfl, z1, z2⟩ := dz_list ex hx
  have e := dq_bools z2
  subst e
  exact ⟨a, bs, rfl, SqL.of z1, q _ F H _ (.refl ex) (fun _ _ z => z) (.bl _) p⟩
theorem dc_max : DC K (rMax K) (fun ds P => ∃ ns : List Int, ds = [.list (intsD ns)] ∧ 0 < ns.length ∧ ∀ m, m ∈ ns → (∀ y, y ∈ ns → y ≤ m) → P (.int m)) := by
  constructor
  rintro pe F H xs ds P Q ex h ⟨ns, rfl, h0, p⟩ q
  obtain ⟨x, rfl, hx⟩ := one1 h
  obtain ⟨a, vs, rfl, z1, z2⟩ := dz_list ex hx
  have e := dq_ints z2
  subst e
  exact ⟨a, ns, rfl, SqL.of z1, h0, fun m hm hy => q _ F H _ (.refl ex) (fun _ _ z => z) (.int _) (p m hm hy)⟩
theorem dc_min : DC K (rMin K) (fun ds P => ∃ ns : List Int, ds = [.list (intsD ns)] ∧ 0 < ns.length ∧ ∀ m, m ∈ ns → (∀ y, y ∈ ns → m ≤ y) → P (.int m)) := by
  constructor
  rintro pe F H xs ds P Q ex h ⟨ns, rfl, h0, p⟩ q
  obtain ⟨x, rfl, hx⟩ := one1 h
  obtain ⟨a, vs, rfl, z1, z2⟩ := dz_list ex hx
  have e := dq_ints z2
  subst e
  exact ⟨a, ns, rfl, SqL.of z1, h0, fun m hm hy => q _ F H _ (.refl ex) (fun _ _ z => z) (.int _) (p m hm hy)⟩
theorem dcn_sorted : DCN K (rSortedI K) (fun ds P => ∃ ns : List Int, ds = [.list (intsD ns)] ∧ ∀ ns' : List Int, ns'.Perm ns → ns'.Pairwise (· ≤ ·) → P (intsD ns')) := by
  constructor
  rintro F H xs ds P Q ex h ⟨ns, rfl, p⟩ q
  obtain ⟨x, rfl, hx⟩ := one1 h
  obtain ⟨a, vs, rfl, z1, z2⟩ := dz_list ex hx
  have e := dq_ints z2
  subst e
  exact ⟨a, ns, rfl, SqL.of z1, fun ns' l hp ho nl => q l _ (intsD ns') nl (ints_dq' ns') (p ns' hp ho)⟩
theorem de_lenSet (h : DX K T ta mx) : DE K T (tLenSetI K ta) (fun env n P => mx env n fun s n1 => ∃ ns : List Int, see n1 s = some (.list (intsD ns)) ∧ ns.length < 64 ∧ ns.Nodup ∧ P (.int ns.length) n1) := by
  constructor
  intro pe F H σ env n P Q R p q
  refine h.run pe F H σ env n _ _ R p fun x F1 H1 s n1 f1 p1 h1 ⟨ns, e1, l, nd, g1⟩ => ?_
  obtain ⟨a, vs, rfl, z1, z2⟩ := dz_list f1.fh (see_dz p1 h1 e1)
  have e := dq_ints z2
  subst e
  exact ⟨a, ns, rfl, SqL.of z1, l, nd, q _ F1 H1 _ n1 f1 p1 (.int _) g1⟩
theorem upTo_dq {F : Hp} {k : Nat} : DqAll K F (rgV 0 (k : Int)) (upTo k) := by
  have h : ∀ r : List Nat, DqAll K F (r.map fun i => V.int (0 + (i : Nat))) (r.map fun (i : Nat) => PyData.int i) := by
    intro r
    induction r with
    | nil => exact .nil
    | cons i r ih =>
      refine .cons ?_ ih
      show Dq K F (.int (0 + (i : Nat))) (.int (i : Nat))
      rw [Int.zero_add]
      exact .int _
  unfold rgV upTo
  rw [show ((k : Int) - 0).toNat = k by omega]
  exact h _
theorem dn_listRg (h : DE K T te m) : DN K T (tLstRg (tRg1 te)) (fun env n P => m env n fun d n1 => ∃ k : Nat, d = .int (k : Nat) ∧ k ≤ 1000 ∧ P (upTo k) n1) := by
  constructor
  intro pe F H σ env n P Q R p q
  refine h.run pe F H σ env n _ _ R p fun v F1 H1 d n1 f1 p1 h1 ⟨k, e, l, g1⟩ => ?_
  subst e
  have ev := dp_int h1
  subst ev
  refine ⟨k, rfl, RgOk.of_le (by omega) (by omega) (by omega) (by omega), fun r nr => ?_⟩
  exact q r F1 _ _ _ n1 (f1.trans (Fr.mine f1.fh nr)) (p1.mut (p1.far nr)) (fresh0 f1 nr) upd_same (Evl.fresh_back f1.fh nr) upTo_dq g1
theorem dc_repr : DC K (rRepr K) (fun ds P => ∃ d, ds = [d] ∧ d.showable = true ∧ d.hasDict = false ∧ d.depth ≤ 60 ∧ d.shown.length ≤ sizeLine ∧ P (.str d.shown)) := by
  constructor
  rintro pe F H xs ds P Q ex h ⟨d, rfl, h1, h2, h3, h4, p⟩ q
  obtain ⟨x, rfl, hx⟩ := one1 h
  exact ⟨x, d, rfl, hx.dp ex, h1, h2, h3, h4, q _ F H _ (.refl ex) (fun _ _ z => z) (.str _) p⟩
end
end Dl

-- dwp4
namespace Kin
open PySem PySem.Spec PyProof.Rows L2 Dl
open Evl (Ex sz_of sz_lt)
structure TQ (mg : Str → Option Value) : Prop extends TP mg where
  m_all : mg "all" = none
  m_sorted : mg "sorted" = none
  m_set : mg "set" = none
  m_repr : mg "repr" = none
  m_min : mg "min" = none
  m_max : mg "max" = none
theorem any_nats {r : List Nat} {n : Nat} : ((nats r).any fun z => PyData.eqv z (.int (n : Nat))) = decide (n ∈ r) := by
  by_cases h : n ∈ r
  · rw [decide_eq_true h]
    exact memb_nats h
  · rw [decide_eq_false h]
    exact memb_nats_no h
end Kin

namespace Dl
open PySem PySem.Spec PyProof.Rows L2
open Evl (Ex sz_of sz_lt)
section
variable {K : PySem.W.Frag} {T : List Addr} {ta tb te : TE} {m : DTE} {tt tt1 : TT} {mt mt1 : DTT}
theorem keeps_tup2 {i j k : Nat} {vs : List Nat} (hi : i ∈ vs) (hj : j ∈ vs) : Keeps (gTup K k (gCons (gName i) (gCons (gName j) gNil))) vs := by
  rintro v σ H Q ⟨a, xs, rfl, hs, hl, x, r, rfl, y, r2, rfl, h1, h2⟩
  exact ⟨a, _, rfl, hs, hl, x, _, rfl, y, _, rfl, h1, by rw [wipe_set hj, wipe_set hi, wipe_wipe fun _ z => z], h2⟩
theorem keeps_tup3 {i j l k : Nat} {vs : List Nat} (hi : i ∈ vs) (hj : j ∈ vs) (hl : l ∈ vs) : Keeps (gTup K k (gCons (gName i) (gCons (gName j) (gCons (gName l) gNil)))) vs := by
  rintro v σ H Q ⟨a, xs, rfl, hs, hk, x, r, rfl, y, r2, rfl, z, r3, rfl, h1, h2⟩
  exact ⟨a, _, rfl, hs, hk, x, _, rfl, y, _, rfl, z, _, rfl, h1, by rw [wipe_set hl, wipe_set hj, wipe_set hi, wipe_wipe fun _ z => z], h2⟩
def wLc2 (mg : DTG) (mt : DTT) (mi1 : DTV) (mg1 : DTG) (mt1 : DTT) (me : DTE) (vs1 : List Nat) (env : Env) (P : List PyData → Ws → Prop) : List PyData → List PyData → Ws → Prop
  | acc, [], n => P acc n
  | acc, x :: xs, n => mg (.val x) env fun env' => mt env' n fun b n1 => if b = true then mi1 env' n1 fun es n2 => wLc mg1 mt1 me (wipeE env' vs1) (fun acc' n3 => wLc2 mg mt mi1 mg1 mt1 me vs1 env P acc' xs n3) acc es n2 else wLc2 mg mt mi1 mg1 mt1 me vs1 env P acc xs n1
theorem dn_lc2 {wi wi1 : TI} {mi mi1 : DTV} {g g1 : TG} {mg mg1 : DTG} {vs vs1 : List Nat} (hi : DI K T wi mi) (hg : DG K g mg) (kg : Keeps g vs) (ht : DT K T tt mt) (hi1 : DI K T wi1 mi1) (hg1 : DG K g1 mg1) (kg1 : Keeps g1 vs1) (ht1 : DT K T tt1 mt1) (h : DE K T te m) :
    DN K T (tLc2 wi g tt wi1 g1 tt1 te vs vs1) (fun env n P => mi env n fun ds n1 => wLc2 mg mt mi1 mg1 mt1 m vs1 (wipeE env vs) P [] ds n1) := by
  constructor
  intro pe F H σ env n P Q R p q
  refine hi.run pe F H σ env n _ _ R p fun J F1 H1 ds n1 f1 p1 W g1' D nD => ?_
  have far := p1.far nD
  have nF1 : F1 D = none := Evl.fresh_back f1.fh nD
  have nD0 : H D = none := fresh0 f1 nD
  refine ⟨fun i k H' => k = ds.length - i ∧ i ≤ ds.length ∧ ∃ F' n' acc accV, Fr pe F1 H1 F' H' ∧ PenAt K pe F' H' n' ∧ F' D = none ∧ H' D = some (.lst accV) ∧ DqAll K F' accV acc ∧ wLc2 mg mt mi1 mg1 mt1 m vs1 (wipeE env vs) P acc (ds.drop i) n',
    ⟨_, rfl, Nat.zero_le _, F1, n1, [], [], Fr.mine f1.fh nD, p1.mut far, nF1, upd_same, .nil, g1'⟩, ?_⟩
  rintro i k H' ⟨rfl, hil, F', n', acc, accV, f2, p2, nF, hD, hA, w⟩
  have wk := W pe F' H' f2.ff f2.fh
  by_cases hlt : i < ds.length
  · obtain ⟨go, yl⟩ := wk.1 i hlt
    refine .inr ⟨go, fun H2 => i + 1 ≤ ds.length ∧ ∃ F' n' acc accV, Fr pe F1 H1 F' H2 ∧ PenAt K pe F' H2 n' ∧ F' D = none ∧ H2 D = some (.lst accV) ∧ DqAll K F' accV acc ∧ wLc2 mg mt mi1 mg1 mt1 m vs1 (wipeE env vs) P acc (ds.drop (i + 1)) n',
      fun H2 h2 => ⟨ds.length - (i + 1), by omega, rfl, h2.1, h2.2⟩, fun x H2 y => ?_⟩
    obtain ⟨F2, z, f3, e2, hz, hd⟩ := yl x H2 y
    rw [drop_at hd] at w
    have f4 := f2.trans f3
    have er2 : EnvR K pe F2 (wipe σ vs) (wipeE env vs) := ((R.er.ff f1.ff).ff f4.ff).wipe vs
    refine kg x σ H2 _ ?_
    refine hg.run pe F2 H2 _ (wipeE env vs) x (.val z) _ _ er2 f3.fh hz w fun σ3 env3 R3 w3 => ?_
    have p3 : PenAt K pe F2 H2 n' := p2.pure f3.ff e2 f3.new
    have L3 : Lv K T pe F2 H2 σ3 env3 n' := ⟨R3, f3.fh, p3, R.tb⟩
    refine ht.run pe F2 H2 σ3 env3 n' _ _ L3 w3 fun b F5 H5 n5 f5 p5 w5 => ?_
    have nF2 : F2 D = none := f3.new D (by rw [hD]; simp) nF
    have hD2 : H2 D = some (.lst accV) := e2 _ _ hD
    have keepD : ∀ {Fa Ha Fb Hb : Hp} {aV : List V}, Fr pe Fa Ha Fb Hb → Ha D = some (.lst aV) → Fa D = none → Hb D = some (.lst aV) ∧ Fb D = none := fun {Fa Ha Fb Hb aV} f h1 h2 =>
      ⟨f.hh D _ far.1 h1, f.new D (by rw [h1]; simp) h2⟩
    obtain ⟨hD5, nF5⟩ := keepD f5 hD2 nF2
    cases b with
    | false =>
      rw [if_neg Bool.false_ne_true] at w5 ⊢
      exact ⟨hlt, F5, n5, acc, accV, f4.trans f5, p5, nF5, hD5, dp_exs (f3.ff.trans f5.ff) hA, w5⟩
    | true =>
      rw [if_pos rfl] at w5 ⊢
      have L5 := L3.step f5 p5
      refine hi1.run pe F5 H5 σ3 env3 n5 _ _ L5 w5 fun J1 F6 H6 es n6 f6 p6 W1 w6 => ?_
      have L6 := L5.step f6 p6
      obtain ⟨hD6, nF6⟩ := keepD f6 hD5 nF5
      have f16 := (f4.trans f5).trans f6
      refine ⟨fun j k H' => k = es.length - j ∧ j ≤ es.length ∧ ∃ F' n' acc accV, Ex F6 F' ∧ Fr pe F1 H1 F' H' ∧ PenAt K pe F' H' n' ∧ F' D = none ∧ H' D = some (.lst accV) ∧ DqAll K F' accV acc ∧
          wLc mg1 mt1 m (wipeE env3 vs1) (fun acc' n3 => wLc2 mg mt mi1 mg1 mt1 m vs1 (wipeE env vs) P acc' (ds.drop (i + 1)) n3) acc (es.drop j) n',
        ⟨_, rfl, Nat.zero_le _, F6, n6, acc, accV, Evl.Ex.refl _, f16, p6, nF6, hD6, dp_exs ((f3.ff.trans f5.ff).trans f6.ff) hA, w6⟩, ?_⟩
      rintro j _ H7 ⟨rfl, hjl, F7, n7, acc7, accV7, e7, f7, p7, nF7, hD7, hA7, w7⟩
      have wk1 := W1 pe F7 H7 e7 f7.fh
      by_cases hlt1 : j < es.length
      · obtain ⟨go1, yl1⟩ := wk1.1 j hlt1
        refine .inr ⟨go1, fun H' => j + 1 ≤ es.length ∧ ∃ F' n' acc accV, Ex F6 F' ∧ Fr pe F1 H1 F' H' ∧ PenAt K pe F' H' n' ∧ F' D = none ∧ H' D = some (.lst accV) ∧ DqAll K F' accV acc ∧
            wLc mg1 mt1 m (wipeE env3 vs1) (fun acc' n3 => wLc2 mg mt mi1 mg1 mt1 m vs1 (wipeE env vs) P acc' (ds.drop (i + 1)) n3) acc (es.drop (j + 1)) n',
          fun H2 h2 => ⟨es.length - (j + 1), by omega, rfl, h2.1, h2.2⟩, fun x1 H8 y1 => ?_⟩
        obtain ⟨F8, z1, f8, e8, hz1, hd1⟩ := yl1 x1 H8 y1
        rw [drop_at hd1] at w7
        have er8 : EnvR K pe F8 (wipe σ3 vs1) (wipeE env3 vs1) := ((L6.er.ff e7).ff f8.ff).wipe vs1
        refine kg1 x1 σ3 H8 _ ?_
        refine hg1.run pe F8 H8 _ (wipeE env3 vs1) x1 (.val z1) _ _ er8 f8.fh hz1 w7 fun σ9 env9 R9 w9 => ?_
        have p8 : PenAt K pe F8 H8 n7 := p7.pure f8.ff e8 f8.new
        have L9 : Lv K T pe F8 H8 σ9 env9 n7 := ⟨R9, f8.fh, p8, R.tb⟩
        refine ht1.run pe F8 H8 σ9 env9 n7 _ _ L9 w9 fun b F10 H10 n10 f10 p10 w10 => ?_
        have nF8 : F8 D = none := f8.new D (by rw [hD7]; simp) nF7
        have hD8 : H8 D = some (.lst accV7) := e8 _ _ hD7
        obtain ⟨hD10, nF10⟩ := keepD f10 hD8 nF8
        cases b with
        | false =>
          rw [if_neg Bool.false_ne_true] at w10 ⊢
          exact ⟨hlt1, F10, n10, acc7, accV7, (e7.trans f8.ff).trans f10.ff, (f7.trans f8).trans f10, p10, nF10, hD10, dp_exs (f8.ff.trans f10.ff) hA7, w10⟩
        | true =>
          rw [if_pos rfl] at w10 ⊢
          refine h.run pe F10 H10 σ9 env9 n10 _ _ (L9.step f10 p10) w10 fun v F11 H11 yv n11 f11 p11 h11 ⟨l11, w11⟩ => ?_
          obtain ⟨hD11, nF11⟩ := keepD f11 hD10 nF10
          have aV := dps_app (dp_exs f11.ff (dp_exs (f8.ff.trans f10.ff) hA7)) (.cons h11 .nil)
          have f12 : Fr pe F1 H1 F11 (upd H11 D (.lst (accV7 ++ [v]))) := by
            have f8' := ((f7.trans f8).trans f10).trans f11
            refine ⟨f8'.ff, fun b u z => ?_, fun b u n z => ?_, fun b z y => ?_, f8'.new⟩
            · rw [upd_ne (ne_of_none z nF11)]
              exact f8'.fh b u z
            · rw [upd_ne (ne_of_none z nD)]
              exact f8'.hh b u n z
            · by_cases e : b = D
              · rw [e, upd_same] at y
                cases y
              · rw [upd_ne e] at y
                exact f8'.dom b z y
          refine ⟨accV7, hD11, by rw [dps_len hA7]; exact sz_lt l11, hlt1, F11, n11, acc7 ++ [yv], accV7 ++ [v], ((e7.trans f8.ff).trans f10.ff).trans f11.ff, f12, p11.mut far, nF11, upd_same, aV, w11⟩
      · have e : j = es.length := by omega
        subst e
        rw [List.drop_length] at w7
        exact .inl ⟨wk1.2, hlt, F7, n7, acc7, accV7, f7, p7, nF7, hD7, hA7, w7⟩
  · have e : i = ds.length := by omega
    subst e
    rw [List.drop_length] at w
    exact .inl ⟨wk.2, q D F' H' accV acc n' (f1.trans f2) p2 nD0 hD nF hA w⟩
/-- a comprehension whose elements are all kept -/
theorem wLc_all {α : Type} {env : Env} {P : List PyData → Ws → Prop} {mg : DTG} {me : DTE} (g f : α → PyData) : ∀ (as : List α) (acc : List PyData) (n : Ws), (∀ a ∈ as, ∀ Q : Env → Prop, (∀ env', (∀ Q' : PyData → Ws → Prop, Q' (f a) n → me env' n Q') → Q env') → mg (.val (g a)) env Q) →
    acc.length + as.length ≤ 100000 → P (acc ++ as.map f) n → wLc mg (fun _ n P => P true n) me env P acc (as.map g) n
  | [], acc, n, _, _, q => by
    rw [List.map_nil, List.append_nil] at q
    exact q
  | a :: as, acc, n, h, l, q => by
    rw [List.length_cons] at l
    unfold List.map wLc
    dsimp only
    refine h a List.mem_cons_self _ fun env' he => ?_
    rw [if_pos rfl]
    refine he _ ⟨by omega, ?_⟩
    refine wLc_all g f as (acc ++ [f a]) n (fun y hy => h y (List.mem_cons_of_mem _ hy)) (by rw [List.length_append, List.length_singleton]; omega) ?_
    rw [List.append_assoc]
    exact q
end
/-- a tuple target with its K told -/
theorem pg_tupK {X : Cx} (K : PySem.W.Frag) (hK : X.K = K) (n : Nat) {es : List Expr} {k : Nat} {t : TGs} {pos : Pos} (hc : X.calm = true) (h : PGs X es t)
    (hn : (assignEach es X.env).length = n := by rfl) (hst : (assignEach es X.env).findIdx? (·.1) = none := by rfl) : PG X (.Tuple es k pos) (gTup K n t) := hK ▸ pg_tup hc h hn hst
end Dl

namespace Dl
open PySem PySem.Spec PyProof.Rows L2
open Evl (Ex sz_of sz_lt)
def tChain3 (r r' r2 : R2) (ta tb tc td : TE) : TE := fun σ H Q => ta σ H fun x H1 => tb σ H1 fun y H2 => r x y H2 fun z H3 => ∃ k, z = .bl k ∧
  (if k = true then tc σ H3 fun w H4 => r' y w H4 fun z' H5 => ∃ k', z' = .bl k' ∧ (if k' = true then td σ H5 fun v H6 => r2 w v H6 Q else Q (.bl false) H5) else Q (.bl false) H3)
theorem pt_chain3 {X : Cx} {a b c d : Expr} {ta tb tc td : TE} {pos : Pos} {op op' op2 : CmpOp} {r r' r2 : R2} (ho : OpR X (compareOp op) r) (ho' : OpR X (compareOp op') r') (ho2 : OpR X (compareOp op2) r2) (ha : PE X a ta) (hb : PE X b tb) (hc : PE X c tc) (hd : PE X d td)
    (hm : lastMarks [op, op', op2] [b, c, d] = false := by with_unfolding_all rfl) : PT X (.Compare a [op, op', op2] [b, c, d] pos) (tTest (tChain3 r r' r2 ta tb tc td)) := by
  refine ⟨fun pins s σ H Q I h => ?_⟩
  refine isTrue_chain (thn (ha.run pins s σ H _ I h) fun v s1 ⟨x, H1, I1, r1, q1⟩ => test_link (thn (hb.run pins s1 σ H1 _ I1 q1) fun u s2 ⟨y, H2, I2, r2, q2⟩ =>
    thn (ho pins s2 σ H2 x y v u _ I2 r1 r2 q2) fun e s3 ⟨z, H3, I3, r3, k, e1, q3⟩ => ?_)) hm
  subst e1
  cases r3
  refine wpAny_truthy_bool ?_
  cases k with
  | false =>
    obtain ⟨k', e', q'⟩ := q3
    cases e'
    exact ite_ff ⟨H3, I3, q'⟩
  | true =>
    refine ite_tt (test_link (thn (hc.run pins s3 σ H3 _ I3 q3) fun w' s4 ⟨z', H4, I4, r4, q4⟩ => thn (ho' pins s4 σ H4 y z' u w' _ I4 r2 r4 q4) fun d' s5 ⟨z2, H5, I5, r5, k2, e2, q5⟩ => ?_))
    subst e2
    cases r5
    refine wpAny_truthy_bool ?_
    cases k2 with
    | false =>
      obtain ⟨k', e', q'⟩ := q5
      cases e'
      exact ite_ff ⟨H5, I5, q'⟩
    | true =>
      refine ite_tt (test_last (thn (hd.run pins s5 σ H5 _ I5 q5) fun w2 s6 ⟨z3, H6, I6, r6, q6⟩ => thn (ho2 pins s6 σ H6 z' z3 w' w2 _ I6 r4 r6 q6) fun d2 s7 ⟨z4, H7, I7, r7, k3, e3, q7⟩ => ?_))
      subst e3
      cases r7
      exact wpAny_truthy_bool ⟨H7, I7, q7⟩
section
variable {K : PySem.W.Frag} {T : List Addr} {ta tb tc td : TE} {ma mb mc md : DTE}
theorem dt_chain3 {c c' c2 : Int → Int → Bool} (ha : DE K T ta ma) (hb : DE K T tb mb) (hc : DE K T tc mc) (hd : DE K T td md) : DT K T (tTest (tChain3 (rI0 fun i j => .bl (c i j)) (rI0 fun i j => .bl (c' i j)) (rI0 fun i j => .bl (c2 i j)) ta tb tc td))
    (fun env n P => ma env n fun d n1 => mb env n1 fun e n2 => ∃ i j : Int, d = .int i ∧ e = .int j ∧ if c i j = true then mc env n2 fun g n3 => ∃ k : Int, g = .int k ∧ (if c' j k = true then md env n3 fun h n4 => ∃ l : Int, h = .int l ∧ P (c2 k l) n4 else P false n3) else P false n2) := by
  constructor
  intro pe F H σ env n P Q R p q
  refine ha.run pe F H σ env n _ _ R p fun x F1 H1 d n1 f1 p1 h1 g1 => ?_
  refine hb.run pe F1 H1 σ env n1 _ _ (R.step f1 p1) g1 fun y F2 H2 e n2 f2 p2 h2 ⟨i, j, e1, e2, g2⟩ => ?_
  subst e1 e2
  have ex := dp_int h1
  have ey := dp_int h2
  subst ex ey
  refine ⟨i, j, rfl, rfl, c i j, rfl, ?_⟩
  cases z : c i j with
  | false =>
    rw [z, if_neg Bool.false_ne_true] at g2
    rw [if_neg Bool.false_ne_true]
    exact ⟨false, rfl, q false F2 H2 n2 (f1.trans f2) p2 g2⟩
  | true =>
    rw [z, if_pos rfl] at g2
    rw [if_pos rfl]
    have R2 := (R.step f1 p1).step f2 p2
    refine hc.run pe F2 H2 σ env n2 _ _ R2 g2 fun u F3 H3 g n3 f3 p3 h3 ⟨k, e3, g3⟩ => ?_
    subst e3
    have eu := dp_int h3
    subst eu
    refine ⟨j, k, rfl, rfl, c' j k, rfl, ?_⟩
    have f13 := (f1.trans f2).trans f3
    cases z2 : c' j k with
    | false =>
      rw [z2, if_neg Bool.false_ne_true] at g3
      rw [if_neg Bool.false_ne_true]
      exact ⟨false, rfl, q false F3 H3 n3 f13 p3 g3⟩
    | true =>
      rw [z2, if_pos rfl] at g3
      rw [if_pos rfl]
      refine hd.run pe F3 H3 σ env n3 _ _ (R2.step f3 p3) g3 fun u4 F4 H4 g' n4 f4 p4 h4 ⟨l, e4, g4⟩ => ?_
      subst e4
      have eu4 := dp_int h4
      subst eu4
      exact ⟨k, l, rfl, rfl, c2 k l, rfl, q _ F4 H4 n4 (f13.trans f4) p4 g4⟩
end
end Dl

namespace Dl
open PySem PySem.Spec PyProof.Rows L2
open Evl (Ex sz_of sz_lt)
theorem FnG.ofX {P : Program} {w : World} {K : PySem.W.Frag} {mg : Str → Option Value} {base : Heap} {T : List Addr} {k : Nat} {f : Addr} {fd : FuncData} {ps : List Str} {mf : DFX} (F : FnX P w K mg base k f fd ps (spX K T mf)) :
    FnG P w K mg base k f fd ps (spD K T fun ss w P => mf ss w P fun _ _ => False) := by
  constructor
  · rintro vs H Q E ⟨pe, Fz, ss, n, Pz, z1, z2, z3, z4, z5, z6⟩
    exact F.len vs H Q (fun _ _ _ => False) ⟨pe, Fz, ss, n, Pz, fun _ _ => False, z1, z2, z3, z4, z5, z6, fun _ _ _ _ _ _ q => q.elim⟩
  · rintro A outer s H args us vs Q E g r e b v ⟨pe, Fz, ss, n, Pz, z1, z2, z3, z4, z5, z6⟩
    refine codeAny_mono (F.run A outer s H args us vs Q (fun _ _ _ => False) g r e b v ⟨pe, Fz, ss, n, Pz, fun _ _ => False, z1, z2, z3, z4, z5, z6, fun _ _ _ _ _ _ q => q.elim⟩) ?_
    intro res s2 hq
    match res, hq with
    | .error e, ⟨_, _, _, _, _, _, _, _, _, _, _, _, h⟩ => exact h.elim
    | .ok (.ret u), hq => exact hq
    | .ok .next, hq => exact hq.elim
    | .ok .brk, hq => exact hq.elim
    | .ok .cont, hq => exact hq.elim
end Dl

namespace L2
open PySem PySem.Spec PyProof.Rows
abbrev newSet (w : World) : Obj := { cls := .type "set", dict := none, data := .set #[] 0 (.fresh 0 0 (!w.params.followText "set-order")) }
/-- the heap with a new set -/
abbrev withSet (w : World) (h : Heap) : Heap := h.push (newSet w)
section
variable {P : Program} {w : World} {A : Around} {E : Value → Shared → Prop} {s : Shared} {l : Addr} {its : Array Value} {ns : List Int}
/-- the new set is filled -/
theorem fill_set {Q : Value → Shared → Prop} (hd : A.handled = none) (hl : s.heap.IsList l its) (hi : IntsAre its.toList ns) (few : ns.length + 1 < scanBound)
    (h : ∀ (h' : Heap) (tk c : Nat), SetR w h' s.heap.objs.size (fun j => decide (j ∈ ns)) c → c ≤ ns.length → (∀ b o, s.heap.get? b = some o → h'.get? b = some o) → Q .none { s with heap := h', toks := tk }) :
    codeAny (model P w) A (.call (.builtin "set.__init__") ⟨[.ref s.heap.objs.size, .ref l], []⟩) (wants Q E) { s with heap := withSet w s.heap } := by
  have here : (withSet w s.heap).get? s.heap.objs.size = some (newSet w) := Heap.get?_push_size _ rfl
  have ty : Shared.TypeIs { s with heap := withSet w s.heap } (.ref s.heap.objs.size) "set" := ⟨_, here, rfl⟩
  have len : its.size = ns.length := by
    have z := IntsAre.length hi
    rwa [Array.length_toList] at z
  refine codeAny_call_builtin F.called_set.init.plain F.entry_set_init (check_set_init_1 ty ?_)
  obtain ⟨⟨cls, dict, data, slots⟩, hol, hc, n, hdt⟩ := hl
  dsimp only at hc hdt
  subst hc hdt
  have old : (withSet w s.heap).get? l = some { cls := .type "list", dict := dict, data := .seq its n, slots := slots } := Heap.get?_push_of_some _ hol
  have f1 := F.sub_list_set
  have f2 := F.sub_list_frozenset
  have f3 : (Value.type "list" == Value.type "dict") = false := by decide
  have il : (withSet w s.heap).IsList l its := ⟨_, old, rfl, n, rfl⟩
  have lt : l < s.heap.objs.size := Heap.lt_size hol
  have sz : (withSet w s.heap).objs.size = s.heap.objs.size + 1 := Heap.size_push ..
  unfold Builtin.«set.__init__» noKeywords Builtin.Frozenset.updateFrom
  generalize hI : pyIter = I
  wp_walk
  subst hI
  refine wpAny_pyIter_list il (wpAny_bind (wpAny_runValue ?_))
  have hd3 : A.in1.in1.handled = none := by simp [hd]
  have n1 : l ≠ (withSet w s.heap).objs.size := by rw [sz]; exact Nat.ne_of_lt (Nat.lt_succ_of_lt lt)
  have n2 : s.heap.objs.size ∉ [(withSet w s.heap).objs.size, l] := by
    intro z
    rcases List.mem_cons.mp z with z | z
    · rw [sz] at z
      exact absurd z (Nat.ne_of_lt (Nat.lt_succ_self _))
    · have : s.heap.objs.size = l := by simpa using z
      exact absurd this (Nat.ne_of_gt lt)
  have val : ∀ (i : Nat) (v : Value), its[i]? = some v → ∃ k t, ns[i]? = some k ∧ v = .int k t := by
    intro i v e
    have li : i < ns.length := len ▸ (Array.getElem?_eq_some_iff.mp e).1
    obtain ⟨t, ev⟩ := IntsAre.int_at hi i v (by rwa [Array.getElem?_toList])
    have eg : ns.getD i 0 = ns[i] := by rw [List.getD_eq_getElem?_getD, List.getElem?_eq_getElem li]; rfl
    exact ⟨ns[i], t, List.getElem?_eq_getElem li, by rw [ev, eg]⟩
  refine set_update_ints (Walks.list hd3 _ l n1 its).toS s.heap.objs.size n2 ns len few val (its.size - 0) 0 _ (by omega) (Nat.zero_le _) ⟨⟨_, Heap.get?_push_size _ rfl, rfl, rfl⟩, il.push _⟩ ?_ ?_
  · exact ⟨0, Nat.le_refl 0, setR_new_at (Heap.get?_push_of_some _ here)⟩
  · rintro ⟨h', g2, d2, tk, os⟩ c mv hc R
    obtain rfl : g2 = s.gens := mv.gens
    obtain rfl : d2 = s.drawn := mv.drawn
    obtain rfl : os = s.os := mv.os
    show wpAny _ _ _ _ _ _
    refine wpAny_pure ?_
    show wpAny _ _ (ret Value.none) _ _ _
    refine wpAny_pure (h h' tk c R (len ▸ hc) fun b o e => ?_)
    have lb := Heap.lt_size e
    refine mv.heap b o ?_ (Heap.get?_push_of_some _ (Heap.get?_push_of_some _ e))
    intro z
    rcases List.mem_cons.mp z with z | z
    · exact absurd z (Nat.ne_of_lt lb)
    · rcases List.mem_cons.mp z with z | z
      · rw [sz] at z
        exact absurd z (Nat.ne_of_lt (Nat.lt_succ_of_lt lb))
      · cases z
/-- set(xs) -/
theorem call_setL {Q : Value → Shared → Prop} (hd : A.handled = none) (hl : s.heap.IsList l its) (hi : IntsAre its.toList ns) (few : ns.length + 1 < scanBound)
    (h : ∀ (h' : Heap) (tk c : Nat), SetR w h' s.heap.objs.size (fun j => decide (j ∈ ns)) c → c ≤ ns.length → (∀ b o, s.heap.get? b = some o → h'.get? b = some o) → Q (.ref s.heap.objs.size) { s with heap := h', toks := tk }) :
    wpAny (model P w) A (call (.type "set") [.ref l]) Q E s := by
  obtain ⟨c, tl, g1⟩ := F.called_set.mro
  have g2 := F.called_set.made
  have g3 := F.called_set.sub
  have g4 := F.called_set.notType
  have g5 := F.called_set.canCreate
  have g6 := F.typeCall_set_1 (.ref l)
  have g7 := F.called_set.init.lookup
  refine wpAny_call (codeAny_of_tree (wpAny_pure ⟨Code.quiet_builtin _ (by decide +kernel), codeAny_builtin F.entry_type_call ?_⟩))
  rw [Around.under_plain (weight_type_call_type "set" [.ref l] []) rfl]
  repeat (any_goals (first | assumption | wp_step))
  refine codeAny_mono (code_set_led1 (.ref l) (E := E) (Q₁ := fun x s1 => x = .ref s.heap.objs.size ∧ s1 = { s with heap := withSet w s.heap }) ⟨rfl, rfl⟩) fun r s1 z => ?_
  match r, z with
  | .error e, z => exact z
  | .ok .next, z => exact z.elim
  | .ok .brk, z => exact z.elim
  | .ok .cont, z => exact z.elim
  | .ok (.ret v), ⟨e1, e2⟩ =>
    subst e1 e2
    have here : (withSet w s.heap).get? s.heap.objs.size = some (newSet w) := Heap.get?_push_size _ rfl
    have ty : Shared.TypeIs { s with heap := withSet w s.heap } (.ref s.heap.objs.size) "set" := ⟨_, here, rfl⟩
    have g8 := F.called_set.init.bind (.ref s.heap.objs.size)
    repeat (any_goals (first | assumption | wp_step))
    refine codeAny_mono (fill_set (E := E) (Q := fun x s2 => x = .none ∧ ∃ h' tk c, s2 = { s with heap := h', toks := tk } ∧ SetR w h' s.heap.objs.size (fun j => decide (j ∈ ns)) c ∧ c ≤ ns.length ∧ ∀ b o, s.heap.get? b = some o → h'.get? b = some o) (by simp [hd]) hl hi few
      fun h' tk c R hc k => ⟨rfl, h', tk, c, rfl, R, hc, k⟩) fun r2 s2 z2 => ?_
    match r2, z2 with
    | .error e, z2 => exact z2
    | .ok .next, z2 => exact z2.elim
    | .ok .brk, z2 => exact z2.elim
    | .ok .cont, z2 => exact z2.elim
    | .ok (.ret x), ⟨e1, h', tk, c, e2, R, hc, k⟩ =>
      subst e1 e2
      repeat (any_goals (first | assumption | wp_step))
      exact h h' tk c R hc k
end
end L2

namespace Dl
open PySem PySem.Spec PyProof.Rows L2
open Evl (Ex sz_of sz_lt)
/-- set(xs), xs a list of ints -/
def rSetL (K : PySem.W.Frag) (w : World) : List V → Hp → VK → Prop := fun xs H Q => ∃ (l : Addr) (ns : List Int), xs = [.ref l] ∧ SqL K H l (ns.map V.int) ∧ ns.length < 64 ∧ ∀ a c, H a = none → c ≤ ns.length → Q (.ref a) (upd H a (SetO w a (fun j => decide (j ∈ ns)) c))
theorem cr_setL {X : Cx} (hc : X.calm = true) : CallR X (.type "set") (rSetL X.K X.w) := by
  intro pins s σ H xs us Q I r h
  obtain ⟨l, ns, rfl, hl, hf, q⟩ := h
  rw [Vals.ref1 r]
  obtain ⟨its, rv, pl, hz⟩ := I.list hl
  have hn : H s.heap.objs.size = none := I.hok.fresh (Nat.le_refl _)
  refine call_setL (ns := ns) (I.ok.hd hc) pl.isList (by simpa using rv.ints) (by unfold scanBound; omega) fun h' tk c R hcn k => ?_
  exact ⟨.ref s.heap.objs.size, upd H s.heap.objs.size (SetO X.w s.heap.objs.size (fun j => decide (j ∈ ns)) c), I.laid (t' := tk) k (Nat.le_refl _) (setO_new R), rfl, q _ c hn hcn⟩
theorem setK {X : Cx} (K : PySem.W.Frag) (w : World) (hK : X.K = K) (hw : X.w = w) (hc : X.calm = true) : CallR X (.type "set") (rSetL K w) := hK ▸ hw ▸ cr_setL hc
theorem sortedSetK {X : Cx} (w : World) (hw : X.w = w) (hc : X.calm = true) : CallR X (.builtin "sorted") (rSortedSet w) := hw ▸ cr_sortedSet hc
section
variable {K : PySem.W.Frag} {T : List Addr} {te : TE} {mx : DTX} {w : World}
theorem dn_sortedSet (h : DX K T te mx) : DN K T (tCB (rSortedSet w) (tCons (tCB (rSetL K w) (tCons te tNil)) tNil))
    (fun env n P => mx env n fun s n1 => ∃ ns : List Int, see n1 s = some (.list (intsD ns)) ∧ ns.length < 64 ∧ ∀ out : List Int, out.Pairwise (· < ·) → (∀ k, k ∈ out ↔ k ∈ ns) → P (intsD out) n1) := by
  constructor
  intro pe F H σ env n P Q R p q
  refine h.run pe F H σ env n _ _ R p fun x F1 H1 s n1 f1 p1 h1 ⟨ns, e1, l, g1⟩ => ?_
  obtain ⟨a, vs, rfl, z1, z2⟩ := dz_list f1.fh (see_dz p1 h1 e1)
  have e := dq_ints z2
  subst e
  refine ⟨a, ns, rfl, SqL.of z1, l, fun b c nb hc => ?_⟩
  have f2 := f1.trans (Fr.mine (o := SetO w b (fun j => decide (j ∈ ns)) c) f1.fh nb)
  have p2 : PenAt K pe F1 (upd H1 b (SetO w b (fun j => decide (j ∈ ns)) c)) n1 := p1.mut (p1.far nb)
  refine ⟨b, _, c, rfl, upd_same, by omega, fun out r ho hm hl nr => ?_⟩
  exact q r F1 _ _ _ n1 (f2.trans (Fr.mine f2.fh nr)) (p2.mut (p2.far nr)) (fresh0 f2 nr) upd_same (Evl.fresh_back f2.fh nr) (ints_dq' out) (g1 out ho fun k => (hm k).trans (by rw [decide_eq_true_eq]))
end
end Dl

namespace Dl
open PySem PySem.Spec PyProof.Rows L2
open Evl (Ex sz_of sz_lt)
abbrev DFN := List Sl → Ws → (List PyData → Ws → Prop) → Prop
abbrev DFXN := List Sl → Ws → (List PyData → Ws → Prop) → (Value → Ws → Prop) → Prop
def spN (K : PySem.W.Frag) (T : List Addr) (mf : DFN) : Sp := fun vs H Q _ => ∃ (pe : Pe) (F : Hp) (ss : List Sl) (n : Ws) (P : List PyData → Ws → Prop), pe.tabs = T ∧ Ex F H ∧ PenAt K pe F H n ∧ ArgsR K pe F vs ss ∧ mf ss n P ∧
  ∀ p F' H' us xs n', Fr pe F H F' H' → PenAt K pe F' H' n' → H p = none → H' p = some (.lst us) → F' p = none → DqAll K F' us xs → P xs n' → Q (.ref p) H'
def spXN (K : PySem.W.Frag) (T : List Addr) (mf : DFXN) : Sp := fun vs H Q E => ∃ (pe : Pe) (F : Hp) (ss : List Sl) (n : Ws) (P : List PyData → Ws → Prop) (PE : Value → Ws → Prop), pe.tabs = T ∧ Ex F H ∧ PenAt K pe F H n ∧ ArgsR K pe F vs ss ∧ mf ss n P PE ∧
  (∀ p F' H' us xs n', Fr pe F H F' H' → PenAt K pe F' H' n' → H p = none → H' p = some (.lst us) → F' p = none → DqAll K F' us xs → P xs n' → Q (.ref p) H') ∧ ∀ cls F' H' n', Fr pe F H F' H' → PenAt K pe F' H' n' → PE cls n' → E cls none H'
theorem spXN_weak {K : PySem.W.Frag} {T : List Addr} {mf mf' : DFXN} (h : ∀ ss w P PE, mf' ss w P PE → mf ss w P PE) (vs : List V) (H : Hp) (Q : VK) (E : XK) (z : spXN K T mf' vs H Q E) : spXN K T mf vs H Q E := by
  obtain ⟨pe, F, ss, n, P, PE, z1, z2, z3, z4, z5, z6⟩ := z
  exact ⟨pe, F, ss, n, P, PE, z1, z2, z3, z4, h _ _ _ _ z5, z6⟩
/-- its list as data -/
theorem spX_ofN {K : PySem.W.Frag} {T : List Addr} {mf : DFXN} (vs : List V) (H : Hp) (Q : VK) (E : XK) (z : spX K T (fun ss w P PE => mf ss w (fun xs n => P (.list xs) n) PE) vs H Q E) : spXN K T mf vs H Q E := by
  obtain ⟨pe, F, ss, n, P, PE, z1, z2, z3, z4, z5, z6, z7⟩ := z
  exact ⟨pe, F, ss, n, _, PE, z1, z2, z3, z4, z5, fun p F' H' us xs n' f pn np hp nF ha g => z6 _ _ _ _ n' (f.frz np hp nF) (pn.frz (z3.far np) nF) (.lst upd_same (dp_exs (Ex.new nF) ha)) g, z7⟩
/-- no error: as a def that doesn't raise -/
theorem FnG.ofXN {P : Program} {w : World} {K : PySem.W.Frag} {mg : Str → Option Value} {base : Heap} {T : List Addr} {k : Nat} {f : Addr} {fd : FuncData} {ps : List Str} {mf : DFXN} (F : FnX P w K mg base k f fd ps (spXN K T mf)) :
    FnG P w K mg base k f fd ps (spN K T fun ss w P => mf ss w P fun _ _ => False) := by
  constructor
  · rintro vs H Q E ⟨pe, Fz, ss, n, Pz, z1, z2, z3, z4, z5, z6⟩
    exact F.len vs H Q (fun _ _ _ => False) ⟨pe, Fz, ss, n, Pz, fun _ _ => False, z1, z2, z3, z4, z5, z6, fun _ _ _ _ _ _ q => q.elim⟩
  · rintro A outer s H args us vs Q E g r e b v ⟨pe, Fz, ss, n, Pz, z1, z2, z3, z4, z5, z6⟩
    refine codeAny_mono (F.run A outer s H args us vs Q (fun _ _ _ => False) g r e b v ⟨pe, Fz, ss, n, Pz, fun _ _ => False, z1, z2, z3, z4, z5, z6, fun _ _ _ _ _ _ q => q.elim⟩) ?_
    intro res s2 hq
    match res, hq with
    | .error e, ⟨_, _, _, _, _, _, _, _, _, _, _, _, h⟩ => exact h.elim
    | .ok (.ret u), hq => exact hq
    | .ok .next, hq => exact hq.elim
    | .ok .brk, hq => exact hq.elim
    | .ok .cont, hq => exact hq.elim
/-- statements that return new lists alone -/
structure DSXN (K : PySem.W.Frag) (T : List Addr) (t : XK → TS) (m : Nat → (Value → Ws → Prop) → (List PyData → Ws → Prop) → Env → Ws → Prop) : Prop where
  run : ∀ (pe0 : Pe) (F0 H0 : Hp) (pe : Pe) (F H : Hp) (σ : L2.St) (env : Env) (n : Ws) (D : Ends) (b : Nat) (E : XK) (PE : Value → Ws → Prop) (P : List PyData → Ws → Prop), Rl K T pe0 F0 H0 pe F H σ env n → m b PE P env n → pe0.sh.length = b →
    (∀ p pe' F' H' us xs n', Fr pe0 F0 H0 F' H' → Ext pe0 pe' H0 → PenAt K pe' F' H' n' → H0 p = none → H' p = some (.lst us) → F' p = none → DqAll K F' us xs → P xs n' → D.rt (.ref p) H') →
    (∀ cls pe' F' H' n', Fr pe0 F0 H0 F' H' → Ext pe0 pe' H0 → PenAt K pe' F' H' n' → PE cls n' → E cls none H') → t E D σ H
section
variable {K : PySem.W.Frag} {T : List Addr} {te : TE} {tas : TA} {mn : DTN} {mv : DTA} {x1 x2 : XK → TS} {n1 : (Value → Ws → Prop) → DTS} {m2 : Nat → (Value → Ws → Prop) → (List PyData → Ws → Prop) → Env → Ws → Prop}
theorem dsxn_ret (h : DN K T te mn) : DSXN K T (fun _ => tRet te) (fun _ _ P env n => mn env n P) := by
  constructor
  intro pe0 F0 H0 pe F H σ env n D b E PE P R p hb q e
  refine h.run pe F H σ env n _ _ R.lv p fun a F1 H1 us xs n1 f1 p1 np hp nF ha g => ?_
  exact q a pe F1 H1 us xs n1 (R.step f1 p1).fr R.ext p1 (fresh0 R.fr np) hp nF ha g
theorem dsxn_seq (h : DSX K T x1 n1) (g : DSXN K T x2 m2) : DSXN K T (fun E => tSeq (x1 E) (x2 E)) (fun b PE P env n => n1 PE ⟨b, m2 b PE P, fun _ _ => False, fun _ _ => False, fun _ _ => False⟩ env n) := by
  constructor
  intro pe0 F0 H0 pe F H σ env n D b E PE P R p hb q e
  refine h.run pe0 F0 H0 pe F H σ env n _ _ E PE R p ⟨hb, ?_, ?_, ?_, ?_⟩ e
  · intro pe' σ' env' F' H' n' _ R' z
    exact g.run pe0 F0 H0 pe' F' H' σ' env' n' D b E PE P R' z hb q e
  · intro pe' v F' H' x n' f ex pn hd z
    exact z.elim
  · intro pe' σ' env' F' H' n' _ R' z
    exact z.elim
  · intro pe' σ' env' F' H' n' _ R' z
    exact z.elim
/-- f(..), f returns a new list -/
theorem dn_callN {mf : DFN} (h : DA K T tas mv) : DN K T (tCallD (spN K T mf) tas) (fun env n P => mv env n fun ss n1 => mf ss n1 P) := by
  constructor
  intro pe F H σ env n P Q R p q
  refine h.run pe F H σ env n _ _ R p fun vs F1 H1 ss n1 f1 p1 h1 g1 => ?_
  exact ⟨pe, F1, ss, n1, P, R.tb, f1.fh, p1, h1, g1, fun a F2 H2 us xs n2 f2 p2 na ha nf dq g => q a F2 H2 us xs n2 (f1.trans f2) p2 (fresh0 f1 na) ha nf dq g⟩
end
/-- what such a def does by its body's reading -/
def mfxnOf (np nN : Nat) (m : Nat → (Value → Ws → Prop) → (List PyData → Ws → Prop) → Env → Ws → Prop) : DFXN := fun ss w P PE => ss.length = np ∧ m w.os.length (fun c w' => PE c (cut w w')) (fun xs w' => P xs (cut w w')) (ss ++ List.replicate (nN - np) .no) w
section
variable {P : Program} {w : World} {K : PySem.W.Frag} {mg : Str → Option Value} {base : Heap} {T : List Addr}
/-- THE RULE for a def that returns new lists and may raise -/
theorem okXN {x qual : Str} {st : Stmt} {f : Addr} {fd : FuncData} {cdv : Value} {N ps : List Str} {k : Nat} {m : Nat → (Value → Ws → Prop) → (List PyData → Ws → Prop) → Env → Ws → Prop} (F : FunV K x qual st f fd cdv) (S : FnScope N ps (defScope st))
    (hbody : ∀ (A : Around) (outer : List PySem.Env) (s : Shared) (H : Hp), (A.deeper (envOfC qual (defScope st) s.heap.objs.size f cdv)).guards = some [] →
      Room k (A.deeper (envOfC qual (defScope st) s.heap.objs.size f cdv)) → ∃ t : XK → TS, (∀ E, PSs (cxOf (L2.CX P w) P w K mg base N qual (defScope st) f cdv A outer s H E) (defBody st) (t E)) ∧ DSXN K T t m) :
    FnX P w K mg base (k + 1) f fd ps (spXN K T (mfxnOf ps.length N.length m)) := by
  obtain ⟨oc, od, kV, doc, pm, an, ct, osl, rfl, lk, hcd⟩ := F
  have len : ∀ vs H Q E, spXN K T (mfxnOf ps.length N.length m) vs H Q E → vs.length = ps.length := by
    rintro vs H Q E ⟨pe, F, ss, n, P, PE, z1, z2, z3, z4, ⟨z5, z6⟩, z7⟩
    rw [z4.len, z5]
  constructor
  · exact len
  intro A outer s H args us vs Q E g r e0 hb rv hsp
  have grow : ∀ b o, base.get? b = some o → s.heap.get? b = some o := fun b o e => (e0.bs b o e).1
  have inK := e0.mod.kin.keeps grow
  have kinds : ∀ y ∈ ps.zip us, (defScope st).names.lookup y.1 = some .local ∨
      ((defScope st).names.lookup y.1 = some .cell ∧ ((cellsFrom (s.heap.objs.size + 1) (defScope st).names []).lookup y.1).isSome = true) := by
    intro y hy
    have q := S.par y.1 (List.of_mem_zip (show (y.1, y.2) ∈ ps.zip us from hy)).1
    exact q.imp_right fun c => ⟨c, PySem.W.cellsFrom_some _ _ _ (.inl c)⟩
  have code := PySem.W.codeRec_of inK hcd
  refine codeAny_call_function r.depth (inK _ _ lk) rfl S.co S.gen rfl code (hb _ _ _ _ (wpAny_newFunctionEnv_cells S.kind kinds ?_))
  intro env he s1 hc
  subst he
  refine ⟨(e0.mod.nolimit.keeps grow).keeps hc.toInCall.keep, codeAny_func ?_⟩
  obtain ⟨t, ht, ds⟩ := hbody A outer s H (guards_deeper g) (r.deeper _)
  have hl := len _ _ _ _ hsp
  have I := inv_start (E := E) (CX := L2.CX P w) S r.hd e0 hl rv hc
  obtain ⟨pe, Fz, ss, n, Pz, PE, z1, z2, z3, z4, ⟨z5, z6⟩, z7, z8⟩ := hsp
  have hq : t E { nx := fun _ H' => Q .non H', rt := Q } (L2.start N vs) H := by
    have er : EnvR K pe Fz (L2.start N vs) (ss ++ List.replicate (N.length - ps.length) .no) := by
      unfold L2.start
      rw [hl]
      exact args_env _ z4
    refine ds.run pe Fz H pe Fz H _ _ n _ _ E _ _ ⟨⟨er, z2, z3, z1⟩, Fr.refl z2, Ext.refl pe H⟩ z6 z3.len.symm ?_ ?_
    · intro p pe' F' H' us xs n' f e pn np hp nF ha q
      exact z7 p F' H' us xs _ f (pn.cut e z3.len) np hp nF ha q
    · intro cls pe' F' H' n' f e p q
      exact z8 cls F' H' _ f (p.cut e z3.len) q
  have body := (ht E).run [] s1 (L2.start N vs) H _ I hq
  refine wpAny_mono body ?_ fun e s' hs => hs
  intro fl s' hs
  match fl, hs with
  | .ret u, ⟨v, σ', H', J, rv, q⟩ => exact ⟨v, H', J.os, J.bare, J.base, J.hok, rv, q⟩
  | .next, ⟨σ', H', J, q⟩ => exact ⟨V.non, H', J.os, J.bare, J.base, J.hok, rfl, q⟩
  | .brk, ⟨_, _, _, q⟩ => exact q.elim
  | .cont, ⟨_, _, _, q⟩ => exact q.elim
end
end Dl


namespace Dl
open PySem PySem.Spec PyProof.Rows L2
open Evl (Ex sz_of sz_lt)
section
variable {K : PySem.W.Frag} {T : List Addr} {ta tb : TE}
theorem ds_parVO {i j : Nat} {ma : DTE} {mo : DTN} (ha : DE K T ta ma) (hb : DN K T tb mo) : DS K T (tPar i j (tCons ta (tCons tb tNil))) (fun d env n => ma env n fun x n1 => mo env n1 fun ys n2 =>
    d.nx ((env.set i (.val x)).set j (.sh n2.os.length)) ⟨n2.n, n2.os ++ [some ys]⟩) := by
  constructor
  intro pe0 F0 H0 pe F H σ env n D d R p M
  refine ha.run pe F H σ env n _ _ R.lv p fun v F1 H1 x n1 f1 p1 hv g1 => ?_
  have R1 := R.step f1 p1
  refine hb.run pe F1 H1 σ env n1 _ _ R1.lv g1 fun b F2 H2 us ys n2 f2 p2 np2 hp2 nF2 hu g2 => ?_
  have R2 := R1.step f2 p2
  have p4 := p2.more (p1.far np2) hp2 nF2 hu
  have nb0 : H0 b = none := by
    cases z : H0 b with
    | none => rfl
    | some u => exact absurd np2 (R1.fr.dom b (by rw [z]; simp))
  refine ⟨v, .ref b, rfl, M.nx _ _ _ F2 H2 _ (f1.ff.trans f2.ff) ⟨⟨?_, f2.fh, p4, R.lv.tb⟩, R2.fr, R.ext.more nb0⟩ g2⟩
  refine ((R2.lv.er.more).set i (s := .val x) ⟨v, rfl, dp_ex f2.ff hv⟩).set j (s := .sh n2.os.length) ⟨b, ?_, rfl⟩
  show (pe.sh ++ [b])[n2.os.length]? = some b
  have l : pe.sh.length = n2.os.length := p2.len.symm
  rw [← l]
  exact get_last
end
end Dl


namespace Dl
open PySem PySem.Spec PyProof.Rows L2
open Evl (Ex sz_of sz_lt)
abbrev strLe (x y : Str) : Bool := !decide (y.cps.toList < x.cps.toList)
abbrev rLeS : R2 := fun x y H Q => ∃ i j, x = .str i ∧ y = .str j ∧ Q (.bl (strLe i j)) H
section
variable {K : PySem.W.Frag} {T : List Addr} {ta tb tc : TE} {ma mb mc : DTE}
theorem de_chainS (ha : DE K T ta ma) (hb : DE K T tb mb) (hc : DE K T tc mc) : DE K T (tChain rLeS rLeS ta tb tc)
    (fun env n P => ma env n fun d n1 => mb env n1 fun e n2 => ∃ i j : Str, d = .str i ∧ e = .str j ∧ if strLe i j = true then mc env n2 fun g n3 => ∃ k : Str, g = .str k ∧ P (.bool (strLe j k)) n3 else P (.bool false) n2) := by
  constructor
  intro pe F H σ env n P Q R p q
  refine ha.run pe F H σ env n _ _ R p fun x F1 H1 d n1 f1 p1 h1 g1 => ?_
  refine hb.run pe F1 H1 σ env n1 _ _ (R.step f1 p1) g1 fun y F2 H2 e n2 f2 p2 h2 ⟨i, j, e1, e2, g2⟩ => ?_
  subst e1 e2
  have ex := dp_str h1
  have ey := dp_str h2
  subst ex ey
  refine ⟨i, j, rfl, rfl, strLe i j, rfl, ?_⟩
  cases z : strLe i j with
  | false =>
    rw [z, if_neg Bool.false_ne_true] at g2
    rw [if_neg Bool.false_ne_true]
    exact q _ F2 H2 _ n2 (f1.trans f2) p2 (.bl _) g2
  | true =>
    rw [z, if_pos rfl] at g2
    rw [if_pos rfl]
    refine hc.run pe F2 H2 σ env n2 _ _ ((R.step f1 p1).step f2 p2) g2 fun u F3 H3 g n3 f3 p3 h3 ⟨k, e3, g3⟩ => ?_
    subst e3
    have eu := dp_str h3
    subst eu
    exact ⟨j, k, rfl, rfl, q _ F3 H3 _ n3 ((f1.trans f2).trans f3) p3 (.bl _) g3⟩
end
end Dl

-- dwp4
namespace Kin
open PySem PySem.Spec PyProof.Rows L2 Dl
open Evl (Ex sz_of sz_lt)
abbrev s_is_variable : Stmt := topS 4
abbrev N_is_variable : List Str := ["value"]
theorem sc_is_variable : FnScope N_is_variable ["value"] (defScope s_is_variable) := ⟨rfl, rfl, rfl, by decide +kernel, rfl, by decide +kernel, by decide +kernel⟩
abbrev s_parts_of : Stmt := topS 7
abbrev N_parts_of : List Str := ["shape", "found", "number", "inner", "place", "part"]
theorem sc_parts_of : FnScope N_parts_of ["shape"] (defScope s_parts_of) := ⟨rfl, rfl, rfl, by decide +kernel, rfl, by decide +kernel, by decide +kernel⟩
abbrev s_places : Stmt := topS 39
abbrev N_places : List Str := ["_law_shape", "_law_found", "_law_k", "_law_place", "_law_part"]
theorem sc_places : FnScope N_places ["_law_shape"] (defScope s_places) := ⟨rfl, rfl, rfl, by decide +kernel, rfl, by decide +kernel, by decide +kernel⟩
structure TS (mg : Str → Option Value) : Prop extends TQ mg where
  m_int : mg "int" = none
  m_str : mg "str" = none
def isVar : PyData → Bool
  | .str z => z.length == 1 && (strLe "a" z && strLe z "z")
  | _ => false
def mfIsVar : DF := fun ss w P => ∃ d, ss = [.val d] ∧ (∀ z, d = .str z → z.length ≤ 1000) ∧ P (.bool (isVar d)) w
mutual
/-- the places of a shape with their parts -/
def plF : Sh → List (List Nat × Sh)
  | .var x => [([], .var x)]
  | .node n as => ([], .node n as) :: plL 0 as
def plL : Nat → List Sh → List (List Nat × Sh)
  | _, [] => []
  | k, a :: as => (plF a).map (fun x => (k :: x.1, x.2)) ++ plL (k + 1) as
end
namespace Sh
mutual
/-- letters from a to z as variables, few arguments -/
def small : Sh → Prop
  | var x => isVar (.str x) = true ∧ x.length ≤ 1000
  | node _ as => as.length ≤ 2 ∧ smalls as
def smalls : List Sh → Prop
  | [] => True
  | a :: as => small a ∧ smalls as
end
end Sh
def plD (x : List Nat × Sh) : PyData := .tuple [.tuple (nats x.1), x.2.d]
section
variable {P : Program} {w : World} {K : PySem.W.Frag} {mg : Str → Option Value} {base : Heap} {Ts : List Addr}
theorem ok_is_variable {f : Addr} {fd : FuncData} {cdv : Value} {k : Nat} (F : FunV K "is_variable" "is_variable" s_is_variable f fd cdv) (T : TS mg) (kt : KTy K) : FnG P w K mg base (k + 1) f fd ["value"] (spD K Ts mfIsVar) := by
  refine FnG.weak (okD F sc_is_variable (fun A outer s H E hg hr => ⟨_, (pss_one (ps_ret (pe_and (pe_callB (isiK K rfl) (by rfl) T.m_isinstance PyProof.Rows.boot_isinstance (pa_cons (pv 0) (pa_cons (pe_bltn (v := .ty "str") (by rfl) T.m_str PyProof.Rows.boot_str rfl) pa_nil))) (pe_and (pe_cmpR (eqK K rfl (units64 hr)) (pe_callB call_len_str (by rfl) T.m_len PySem.boot_len (pa_cons (pv 0) pa_nil)) pe_int (nomark _)) (pe_one (pe_chain op_le_str op_le_str pe_str (pv 0) pe_str)))))), by repeat first
        | apply de_chainS
        | (with_reducible apply ds_asg)
        | (with_reducible apply ds_par)
        | exact de_int
        | exact de_str
        | exact de_bl
        | exact de_non
        | exact de_var
        | exact dx_var
        | exact ds_retN
        | exact ds_next
        | exact ds_brk
        | exact ds_cont
        | exact dt_yes
        | exact dv_nil
        | exact da_nil
        | exact dgs_nil
        | exact dg_name
        | exact do_none
        | (with_reducible apply ds_seq)
        | (with_reducible apply ds_ret)
        | (with_reducible apply ds_if)
        | (with_reducible apply ds_forI)
        | (with_reducible apply ds_whileI)
        | (with_reducible apply ds_drop)
        | (apply dg_tupN 2; exact rfl)
        | (apply dg_tupN 3; exact rfl)
        | apply dgs_cons
        | apply di_any
        | apply di_range
        | apply dt_test
        | apply dt_B
        | apply dt_and
        | apply dt_or
        | apply dt_not
        | apply dx_of
        | apply de_tup
        | apply dv_cons
        | apply da_cons
        | apply do_some
        | apply de_if
        | apply de_not
        | apply de_and
        | apply de_or
        | (apply de_new; apply dn_lst)
        | apply de_op dr_ix
        | apply de_op dr_eq
        | apply de_op dr_ne
        | apply de_op dr_inA
        | apply de_op dr_catT
        | apply de_op dr_catL
        | apply de_op dr_add
        | apply de_op dr_sub
        | apply de_op dr_mul
        | apply de_op dr_mod
        | apply de_op dr_fdiv
        | apply de_op dr_lt
        | apply de_op dr_le
        | apply de_op dr_gt
        | apply de_op dr_ge
        | apply de_op dr_isN
        | apply de_op dr_notN
        | apply de_op dr_addS
        | apply de_slice
        | (apply de_isi; rotate_left 1; assumption; decide; rotate_right 1)
        | apply de_cb dc_len
        | apply de_cb dc_lenS
        | apply de_cb dc_int
        | apply de_cb dc_min2
        | apply de_cb dc_max2
        | apply de_cb dc_tuple
        | (apply de_new; apply dn_cb dcn_list)
        | apply de_call
        | apply de_m dm_append
        | apply de_m dm_insert
        | apply de_m dm_popAt
        | apply de_m0 dm_pop
        | apply de_extend
        | (apply de_new; apply dn_lcN)
        | (apply de_new; apply dn_rep; apply dn_lst)
        | (apply de_genN; rotate_left 2; assumption; rotate_right 2)
        | (with_reducible apply ds_augAdd)
        | apply dt_chain
        | apply de_chain
        | apply dt_truth
        | apply di_enumT
        | apply de_count
        | apply de_op dr_repT
        | apply de_cb dc_all
        | apply de_cb dc_max
        | apply de_cb dc_min
        | (apply de_new; apply dn_cb dcn_sorted)
        | apply de_lenSet
        | (apply de_new; apply dn_listRg)
        | apply de_cb dc_repr⟩)) (spD_weak fun ss w P h => ?_)
  obtain ⟨d, rfl, hz, q⟩ := h
  refine ⟨rfl, ?_⟩
  dsimp only
  cases d with
  | str z =>
    have e1 : sizeLine = 16777216 := by decide
    refine ⟨_, rfl, Sl.noConfusion, _, rfl, true, rfl, iteT ⟨_, rfl, Sl.noConfusion, _, rfl, z, rfl, by rw [e1]; have := hz z rfl; omega, _, _, rfl, rfl, shp_int _, shp_int _, z.length == 1, congrArg PyData.bool (eqv_nat z.length 1), ?_⟩⟩
    have q : P (.bool (z.length == 1 && (strLe "a" z && strLe z "z"))) w := q
    cases h1 : z.length == 1 with
    | false =>
      rw [h1, Bool.false_and] at q
      exact iteF (fin q)
    | true =>
      rw [h1, Bool.true_and] at q
      refine iteT ⟨_, rfl, _, _, rfl, rfl, ?_⟩
      cases h2 : strLe "a" z with
      | false =>
        rw [h2, Bool.false_and] at q
        exact iteF (fin q)
      | true =>
        rw [h2, Bool.true_and] at q
        exact iteT ⟨_, rfl, fin q⟩
  | int i => exact ⟨_, rfl, Sl.noConfusion, _, rfl, false, rfl, iteF (fin q)⟩
  | bool b => exact ⟨_, rfl, Sl.noConfusion, _, rfl, false, rfl, iteF (fin q)⟩
  | none => exact ⟨_, rfl, Sl.noConfusion, _, rfl, false, rfl, iteF (fin q)⟩
  | list x => exact ⟨_, rfl, Sl.noConfusion, _, rfl, false, rfl, iteF (fin q)⟩
  | tuple x => exact ⟨_, rfl, Sl.noConfusion, _, rfl, false, rfl, iteF (fin q)⟩
  | dict x => exact ⟨_, rfl, Sl.noConfusion, _, rfl, false, rfl, iteF (fin q)⟩
mutual
theorem plF_len : ∀ s : Sh, (plF s).length = s.parts
  | .var x => rfl
  | .node n as => by
    show (plL 0 as).length + 1 = Sh.partsL as + 1
    rw [plL_len]
theorem plL_len : ∀ (k : Nat) (as : List Sh), (plL k as).length = Sh.partsL as
  | _, [] => rfl
  | k, a :: as => by
    show ((plF a).map _ ++ plL (k + 1) as).length = a.parts + Sh.partsL as
    rw [List.length_append, List.length_map, plF_len, plL_len]
end
mutual
theorem plF_deep : ∀ (s : Sh), ∀ y ∈ plF s, y.1.length + 1 ≤ s.parts
  | .var x, y, h => by
    have h : y ∈ [(([], .var x) : List Nat × Sh)] := h
    rw [List.mem_singleton.mp h]
    exact Nat.le_refl _
  | .node n as, y, h => by
    rcases List.mem_cons.mp h with rfl | h
    · show 0 + 1 ≤ Sh.partsL as + 1
      omega
    · have := plL_deep 0 as y h
      show _ ≤ Sh.partsL as + 1
      omega
theorem plL_deep : ∀ (k : Nat) (as : List Sh), ∀ y ∈ plL k as, y.1.length ≤ Sh.partsL as
  | _, [], y, h => by cases h
  | k, a :: as, y, h => by
    show _ ≤ a.parts + Sh.partsL as
    rcases List.mem_append.mp h with h | h
    · obtain ⟨z, hz, rfl⟩ := List.mem_map.mp h
      have := plF_deep a z hz
      show z.1.length + 1 ≤ _
      omega
    · have := plL_deep (k + 1) as y h
      omega
end
theorem partsL_le : ∀ {as : List Sh} {a : Sh}, a ∈ as → a.parts ≤ Sh.partsL as
  | b :: as, a, h => by
    show a.parts ≤ b.parts + Sh.partsL as
    rcases List.mem_cons.mp h with rfl | h
    · omega
    · have := partsL_le h
      omega
theorem small_mem : ∀ {as : List Sh} {a : Sh}, Sh.smalls as → a ∈ as → a.small
  | b :: as, a, ⟨h1, h2⟩, h => by
    rcases List.mem_cons.mp h with rfl | h
    · exact h1
    · exact small_mem h2 h
theorem plL_app : ∀ (k : Nat) (xs ys : List Sh), plL k (xs ++ ys) = plL k xs ++ plL (k + xs.length) ys
  | k, [], ys => rfl
  | k, x :: xs, ys => by
    show (plF x).map _ ++ plL (k + 1) (xs ++ ys) = ((plF x).map _ ++ plL (k + 1) xs) ++ plL (k + (xs.length + 1)) ys
    rw [plL_app (k + 1) xs ys, List.append_assoc, show k + 1 + xs.length = k + (xs.length + 1) by omega]
theorem partsL_take : ∀ (as : List Sh) (i : Nat), Sh.partsL (as.take i) ≤ Sh.partsL as
  | [], i => by rw [List.take_nil]; exact Nat.le_refl _
  | a :: as, 0 => Nat.zero_le _
  | a :: as, i + 1 => by
    show a.parts + Sh.partsL (as.take i) ≤ a.parts + Sh.partsL as
    have := partsL_take as i
    omega
/-- parts_of(shape), to a depth below k -/
def mfPl : Nat → DF
  | 0 => fun _ _ _ => False
  | k + 1 => fun ss w P => ∃ s : Sh, ss = [.val s.d] ∧ s.dep ≤ k ∧ s.small ∧ s.parts ≤ 1000 ∧ P (.list ((plF s).map plD)) w
theorem ok_parts_of {f fV : Addr} {fd fdV : FuncData} {cdv : Value} (F : FunV K "parts_of" "parts_of" s_parts_of f fd cdv) (T : TS mg) (kt : KTy K)
    (Gis_variable : FnG P w K mg base 1 fV fdV ["value"] (spD K Ts mfIsVar)) (mis_variable : mg "is_variable" = some (.ref fV)) (kis_variable : PySem.W.keepIn K (.ref fV) = true) (bis_variable : Binds K fdV ["value"] [])
    (mparts_of : mg "parts_of" = some (.ref f)) (kparts_of : PySem.W.keepIn K (.ref f) = true) (bparts_of : Binds K fd ["shape"] []) : ∀ k : Nat, FnG P w K mg base (k + 1) f fd ["shape"] (spD K Ts (mfPl k))
  | 0 => ⟨fun vs H Q E ⟨pe, F, ss, n, P, z1, z2, z3, z4, z5, z6⟩ => z5.elim, fun A outer s H args us vs Q E g r e b v ⟨pe, F, ss, n, P, z1, z2, z3, z4, z5, z6⟩ => z5.elim⟩
  | k + 1 => by
    have Gparts_of := ok_parts_of F T kt Gis_variable mis_variable kis_variable bis_variable mparts_of kparts_of bparts_of k
    have Gis_variable : FnG P w K mg base (k + 1) fV fdV ["value"] (spD K Ts mfIsVar) := ⟨Gis_variable.len, fun A outer s H args us vs Q E g r => Gis_variable.run A outer s H args us vs Q E g (r.mono (by omega))⟩
    refine FnG.weak (okD F sc_parts_of (fun A outer s H E hg hr => ⟨_, (pss_cons (ps_set (i := 1) sc_parts_of.nd rfl (Or.inl rfl) (pe_lst (pa_cons (pe_tup (pa_cons (pe_tup pa_nil) (pa_cons (pv 0) pa_nil))) pa_nil)))
          (pss_cons (ps_if (pt_not (pt_val (pe_callG Gis_variable hg hr (by rfl) mis_variable kis_variable bis_variable (pa_cons (pv 0) pa_nil)))) (pss_one (ps_for PassesOwn.never rfl (pi_enumT K rfl (by rfl) T.m_enumerate (pa_cons (pe_slice (slK K rfl) (pv 0) (po_some pe_int) po_none) pa_nil)) (pg_tup rfl (pgs_cons (pg_name (i := 2) sc_parts_of.nd rfl (Or.inr rfl)) (pgs_cons (pg_name (i := 3) sc_parts_of.nd rfl (Or.inl rfl)) pgs_nil)))
          (pss_one (ps_expr (bmK K rfl (pe_bm PySem.F.plainAttrs_list PySem.F.slot_list_extend PySem.F.type_list_extend mt_extend (pv 1) (pa_cons (pe_lc (own := [("place", 4), ("part", 5)]) (tt := tYes) rfl sc_parts_of.nd (pi_K K rfl (pe_callG Gparts_of hg hr (by rfl) mparts_of kparts_of bparts_of (pa_cons (pv 3) pa_nil))) (blkOk_by (N := N_parts_of) (sc := defScope s_parts_of) (by decide +kernel)) (fun _ _ _ _ _ => (pg_tupK K rfl 2 rfl (pgs_cons (pg_name (i := 4) sc_parts_of.nd rfl (Or.inl rfl)) (pgs_cons (pg_name (i := 5) sc_parts_of.nd rfl (Or.inl rfl)) pgs_nil)))) (fun _ _ _ _ _ => pts_nil) (fun _ _ _ _ _ => (pe_tup (pa_cons (pe_op (catK K rfl) (pe_tup (pa_cons (pv 2) pa_nil)) (pv 4)) (pa_cons (pv 5) pa_nil))))) pa_nil))))))) pss_nil)
          (pss_one (ps_ret (pv 1))))), by repeat first
        | (with_reducible apply ds_own (i := 1); apply dn_lst)
        | (with_reducible apply ds_frz 1; with_reducible apply ds_ret (te := tVar 1))
        | (apply de_new; apply dn_lc)
        | exact keeps_tup2 (by simp) (by simp)
        | exact dt_yes
        | (with_reducible apply ds_asg)
        | (with_reducible apply ds_par)
        | exact de_int
        | exact de_str
        | exact de_bl
        | exact de_non
        | exact de_var
        | exact dx_var
        | exact ds_retN
        | exact ds_next
        | exact ds_brk
        | exact ds_cont
        | exact dt_yes
        | exact dv_nil
        | exact da_nil
        | exact dgs_nil
        | exact dg_name
        | exact do_none
        | (with_reducible apply ds_seq)
        | (with_reducible apply ds_ret)
        | (with_reducible apply ds_if)
        | (with_reducible apply ds_forI)
        | (with_reducible apply ds_whileI)
        | (with_reducible apply ds_drop)
        | (apply dg_tupN 2; exact rfl)
        | (apply dg_tupN 3; exact rfl)
        | apply dgs_cons
        | apply di_any
        | apply di_range
        | apply dt_test
        | apply dt_B
        | apply dt_and
        | apply dt_or
        | apply dt_not
        | apply dx_of
        | apply de_tup
        | apply dv_cons
        | apply da_cons
        | apply do_some
        | apply de_if
        | apply de_not
        | apply de_and
        | apply de_or
        | (apply de_new; apply dn_lst)
        | apply de_op dr_ix
        | apply de_op dr_eq
        | apply de_op dr_ne
        | apply de_op dr_inA
        | apply de_op dr_catT
        | apply de_op dr_catL
        | apply de_op dr_add
        | apply de_op dr_sub
        | apply de_op dr_mul
        | apply de_op dr_mod
        | apply de_op dr_fdiv
        | apply de_op dr_lt
        | apply de_op dr_le
        | apply de_op dr_gt
        | apply de_op dr_ge
        | apply de_op dr_isN
        | apply de_op dr_notN
        | apply de_op dr_addS
        | apply de_slice
        | (apply de_isi; rotate_left 1; assumption; decide; rotate_right 1)
        | apply de_cb dc_len
        | apply de_cb dc_lenS
        | apply de_cb dc_int
        | apply de_cb dc_min2
        | apply de_cb dc_max2
        | apply de_cb dc_tuple
        | (apply de_new; apply dn_cb dcn_list)
        | apply de_call
        | apply de_m dm_append
        | apply de_m dm_insert
        | apply de_m dm_popAt
        | apply de_m0 dm_pop
        | apply de_extend
        | (apply de_new; apply dn_lcN)
        | (apply de_new; apply dn_rep; apply dn_lst)
        | (apply de_genN; rotate_left 2; assumption; rotate_right 2)
        | (with_reducible apply ds_augAdd)
        | apply dt_chain
        | apply de_chain
        | apply dt_truth
        | apply di_enumT
        | apply de_count
        | apply de_op dr_repT
        | apply de_cb dc_all
        | apply de_cb dc_max
        | apply de_cb dc_min
        | (apply de_new; apply dn_cb dcn_sorted)
        | apply de_lenSet
        | (apply de_new; apply dn_listRg)
        | apply de_cb dc_repr⟩)) (spD_weak fun ss w P h => ?_)
    obtain ⟨s, rfl, hd, hs, hp, q⟩ := h
    refine ⟨rfl, ?_⟩
    dsimp only
    cases s with
    | var x =>
      refine ⟨le0, _, rfl, le2, le1, _, rfl, Sl.noConfusion, _, rfl, (fun z e => by cases e; exact hs.2), isVar (.str x), rfl, ?_⟩
      rw [hs.1]
      refine iteF ⟨w.os.length, _, rfl, get_own, Nat.le_refl _, _, rfl, ?_⟩
      rw [set_own]
      exact finO q
    | node o as =>
      refine ⟨le0, _, rfl, le2, le1, _, rfl, Sl.noConfusion, _, rfl, (fun z e => by cases e), false, rfl, iteT ⟨_, rfl, Sl.noConfusion, 1, rfl, _, rfl, .inr ⟨_, rfl, _, rfl, ?_⟩⟩⟩
      rw [cut_tail, Sh.ds_map]
      have hd : Sh.deps as + 1 ≤ k := hd
      have hs : as.length ≤ 2 ∧ Sh.smalls as := hs
      have hp : Sh.partsL as + 1 ≤ 1000 := hp
      refine ⟨fun i env n => ∃ s2 s3 s4 s5 : Sl, env = [.val (Sh.node o as).d, .sh w.os.length, s2, s3, s4, s5] ∧ n = ⟨w.n, w.os ++ [some (plD ([], .node o as) :: (plL 0 (as.take i)).map plD)]⟩, ⟨_, _, _, _, rfl, rfl⟩, ?_, ?_⟩
      · rintro i x _ _ hx ⟨s2, s3, s4, s5, rfl, rfl⟩
        rw [pairsOf_get, List.getElem?_map] at hx
        cases ea : as[i]? with
        | none => rw [ea] at hx; cases hx
        | some a =>
          rw [ea] at hx
          have hx : PyData.tuple [.int (0 + i : Nat), a.d] = x := Option.some.inj hx
          rw [Nat.zero_add] at hx
          subst hx
          have ha := List.mem_of_getElem? ea
          have h1 := Sh.deps_le ha
          have h2 := partsL_le ha
          have h3 := partsL_take as i
          refine ⟨_, rfl, rfl, _, _, rfl, _, _, rfl, rfl, ?_⟩
          obtain ⟨k', rfl⟩ : ∃ k', k = k' + 1 := ⟨k - 1, by omega⟩
          have l1 := plF_len a
          have l2 := plL_len 0 (as.take i)
          refine ⟨_, rfl, Sl.noConfusion, _, rfl, _, rfl, Sl.noConfusion, a, rfl, by omega, small_mem hs.2 ha, by omega, _, rfl, ?_⟩
          refine wLc_all plD (fun x => plD (i :: x.1, x.2)) (plF a) [] _ (fun y hy Q hQ => ⟨_, rfl, rfl, _, _, rfl, _, _, rfl, rfl, hQ _ fun Q' q' => ⟨_, rfl, le1, _, rfl, Sl.noConfusion, _, _, rfl, rfl, _, _, rfl, rfl, ?_, _, rfl, le2, q'⟩⟩) (by rw [List.length_nil]; omega) ?_
          · have := plF_deep a y hy
            rw [nats_len]
            show 1 + _ ≤ _
            omega
          · rw [List.nil_append]
            refine ⟨_, _, get_own, rfl, ?_, _, _, _, _, rfl, ?_⟩
            · show ((plL 0 (as.take i)).map plD).length + 1 + _ ≤ _
              rw [List.length_map, List.length_map]
              omega
            · show (⟨w.n, (w.os ++ [some _]).set w.os.length (some _)⟩ : Ws) = _
              rw [set_own, List.take_add_one, ea, plL_app]
              have li : i < as.length := (List.getElem?_eq_some_iff.mp ea).1
              have e2 : 0 + (as.take i).length = i := by rw [List.length_take]; omega
              rw [e2]
              have e3 : plL i (some a).toList = (plF a).map fun x => (i :: x.1, x.2) := List.append_nil _
              rw [e3, List.map_append, List.map_map]
              rfl
      · rintro _ _ ⟨s2, s3, s4, s5, rfl, rfl⟩
        rw [pairsOf_len, List.length_map, List.take_length]
        refine ⟨w.os.length, _, rfl, get_own, Nat.le_refl _, _, rfl, ?_⟩
        rw [set_own]
        exact finO q
end
end Kin

-- dwp4
namespace Kin
open PySem PySem.Spec PyProof.Rows L2 Dl
open Evl (Ex sz_of sz_lt)
section
variable {P : Program} {w : World} {K : PySem.W.Frag} {mg : Str → Option Value} {base : Heap} {Ts : List Addr}
theorem ok_places {f : Addr} {fd : FuncData} {cdv : Value} (F : FunV K "_law_places" "_law_places" s_places f fd cdv) (T : TS mg) (kt : KTy K)
    (m_law_places : mg "_law_places" = some (.ref f)) (k_law_places : PySem.W.keepIn K (.ref f) = true) (b_law_places : Binds K fd ["_law_shape"] []) : ∀ k : Nat, FnG P w K mg base k f fd ["_law_shape"] (spD K Ts (mfPl k))
  | 0 => ⟨fun vs H Q E ⟨pe, F, ss, n, P, z1, z2, z3, z4, z5, z6⟩ => z5.elim, fun A outer s H args us vs Q E g r e b v ⟨pe, F, ss, n, P, z1, z2, z3, z4, z5, z6⟩ => z5.elim⟩
  | k + 1 => by
    have G_law_places := ok_places F T kt m_law_places k_law_places b_law_places k
    refine FnG.weak (okD F sc_places (fun A outer s H E hg hr => ⟨_, (pss_cons (ps_set (i := 1) sc_places.nd rfl (Or.inl rfl) (pe_lst (pa_cons (pe_tup (pa_cons (pe_tup pa_nil) (pa_cons (pv 0) pa_nil))) pa_nil)))
          (pss_cons (ps_if (pt_val (pe_callB (isiK K rfl) (by rfl) T.m_isinstance PyProof.Rows.boot_isinstance (pa_cons (pv 0) (pa_cons (pe_bltn (v := .ty "tuple") (by rfl) T.m_tuple PyProof.Rows.boot_tuple rfl) pa_nil)))) (pss_one (ps_for PassesOwn.never rfl (pi_range1 (by rfl) T.m_range (pa_cons (pe_op op_sub (pe_callB (lenK K rfl) (by rfl) T.m_len PySem.boot_len (pa_cons (pv 0) pa_nil)) pe_int) pa_nil)) (pg_name (i := 2) sc_places.nd rfl (Or.inl rfl))
          (pss_one (ps_for PassesOwn.never rfl (pi_K K rfl (pe_callG G_law_places hg hr (by rfl) m_law_places k_law_places b_law_places (pa_cons (pe_ix (ixK K rfl) (pv 0) (pe_op op_add (pv 2) pe_int) (fun _ _ => rfl)) pa_nil))) (pg_tup rfl (pgs_cons (pg_name (i := 3) sc_places.nd rfl (Or.inl rfl)) (pgs_cons (pg_name (i := 4) sc_places.nd rfl (Or.inl rfl)) pgs_nil)))
          (pss_one (ps_expr (bmK K rfl (pe_bm PySem.F.plainAttrs_list PySem.F.slot_list_append PySem.F.type_list_append mt_append (pv 1) (pa_cons (pe_tup (pa_cons (pe_op (catK K rfl) (pe_tup (pa_cons (pv 2) pa_nil)) (pv 3)) (pa_cons (pv 4) pa_nil))) pa_nil))))))))) pss_nil)
          (pss_one (ps_ret (pv 1))))), by repeat first
        | (with_reducible apply ds_own (i := 1); apply dn_lst)
        | (with_reducible apply ds_frz 1; with_reducible apply ds_ret (te := tVar 1))
        | (with_reducible apply ds_asg)
        | (with_reducible apply ds_par)
        | exact de_int
        | exact de_str
        | exact de_bl
        | exact de_non
        | exact de_var
        | exact dx_var
        | exact ds_retN
        | exact ds_next
        | exact ds_brk
        | exact ds_cont
        | exact dt_yes
        | exact dv_nil
        | exact da_nil
        | exact dgs_nil
        | exact dg_name
        | exact do_none
        | (with_reducible apply ds_seq)
        | (with_reducible apply ds_ret)
        | (with_reducible apply ds_if)
        | (with_reducible apply ds_forI)
        | (with_reducible apply ds_whileI)
        | (with_reducible apply ds_drop)
        | (apply dg_tupN 2; exact rfl)
        | (apply dg_tupN 3; exact rfl)
        | apply dgs_cons
        | apply di_any
        | apply di_range
        | apply dt_test
        | apply dt_B
        | apply dt_and
        | apply dt_or
        | apply dt_not
        | apply dx_of
        | apply de_tup
        | apply dv_cons
        | apply da_cons
        | apply do_some
        | apply de_if
        | apply de_not
        | apply de_and
        | apply de_or
        | (apply de_new; apply dn_lst)
        | apply de_op dr_ix
        | apply de_op dr_eq
        | apply de_op dr_ne
        | apply de_op dr_inA
        | apply de_op dr_catT
        | apply de_op dr_catL
        | apply de_op dr_add
        | apply de_op dr_sub
        | apply de_op dr_mul
        | apply de_op dr_mod
        | apply de_op dr_fdiv
        | apply de_op dr_lt
        | apply de_op dr_le
        | apply de_op dr_gt
        | apply de_op dr_ge
        | apply de_op dr_isN
        | apply de_op dr_notN
        | apply de_op dr_addS
        | apply de_slice
        | (apply de_isi; rotate_left 1; assumption; decide; rotate_right 1)
        | apply de_cb dc_len
        | apply de_cb dc_lenS
        | apply de_cb dc_int
        | apply de_cb dc_min2
        | apply de_cb dc_max2
        | apply de_cb dc_tuple
        | (apply de_new; apply dn_cb dcn_list)
        | apply de_call
        | apply de_m dm_append
        | apply de_m dm_insert
        | apply de_m dm_popAt
        | apply de_m0 dm_pop
        | apply de_extend
        | (apply de_new; apply dn_lcN)
        | (apply de_new; apply dn_rep; apply dn_lst)
        | (apply de_genN; rotate_left 2; assumption; rotate_right 2)
        | (with_reducible apply ds_augAdd)
        | apply dt_chain
        | apply de_chain
        | apply dt_truth
        | apply di_enumT
        | apply de_count
        | apply de_op dr_repT
        | apply de_cb dc_all
        | apply de_cb dc_max
        | apply de_cb dc_min
        | (apply de_new; apply dn_cb dcn_sorted)
        | apply de_lenSet
        | (apply de_new; apply dn_listRg)
        | apply de_cb dc_repr⟩)) (spD_weak fun ss w P h => ?_)
    obtain ⟨s, rfl, hd, hs, hp, q⟩ := h
    refine ⟨rfl, ?_⟩
    dsimp only
    cases s with
    | var x =>
      refine ⟨le0, _, rfl, le2, le1, _, rfl, Sl.noConfusion, _, rfl, false, rfl, iteF ⟨w.os.length, _, rfl, get_own, Nat.le_refl _, _, rfl, ?_⟩⟩
      rw [set_own]
      exact finO q
    | node o as =>
      have hd : Sh.deps as + 1 ≤ k := hd
      have hs : as.length ≤ 2 ∧ Sh.smalls as := hs
      have hp : Sh.partsL as + 1 ≤ 1000 := hp
      refine ⟨le0, _, rfl, le2, le1, _, rfl, Sl.noConfusion, _, rfl, true, rfl, iteT ?_⟩
      have ld : (Sh.ds as).length = as.length := by rw [Sh.ds_map, List.length_map]
      refine ⟨_, rfl, Sl.noConfusion, _, rfl, _, _, rfl, rfl, _, _, rfl, rfl, _, _, rfl, rfl, as.length, ?_, by omega, by omega, ?_⟩
      · show PyData.int ((((Sh.ds as).length + 1 : Nat) : Int) - 1) = _
        rw [ld]
        exact congrArg PyData.int (by omega)
      refine ⟨fun i env n => ∃ s2 s3 s4 : Sl, env = [.val (Sh.node o as).d, .sh w.os.length, s2, s3, s4] ∧ n = ⟨w.n, w.os ++ [some (plD ([], .node o as) :: (plL 0 (as.take i)).map plD)]⟩, ⟨_, _, _, rfl, rfl⟩, ?_, ?_⟩
      · rintro i x _ _ hx ⟨s2, s3, s4, rfl, rfl⟩
        have hi : i < as.length := upTo_at hx
        obtain rfl := upTo_val hx
        have ea : as[i]? = some as[i] := List.getElem?_eq_getElem hi
        have ha : as[i] ∈ as := List.getElem_mem hi
        generalize as[i] = a at ea ha
        have h1 := Sh.deps_le ha
        have h2 := partsL_le ha
        have h3 := partsL_take as i
        have l1 := plF_len a
        have l2 := plL_len 0 (as.take i)
        obtain ⟨k', rfl⟩ : ∃ k', k = k' + 1 := ⟨k - 1, by omega⟩
        have hat : atI (.int o :: Sh.ds as) (((i + 1 : Nat)) : Int) = some a.d := atI_nat (by show (Sh.ds as)[i]? = _; rw [Sh.ds_map, List.getElem?_map, ea]; rfl)
        refine ⟨_, rfl, Sl.noConfusion, _, rfl, Sl.noConfusion, _, _, rfl, rfl, _, _, rfl, rfl, _, _, rfl, rfl, _, _, _, rfl, rfl, hat, a, rfl, by omega, small_mem hs.2 ha, by omega, _, rfl, ?_⟩
        refine ⟨fun j env n => ∃ s3 s4 : Sl, env = [.val (Sh.node o as).d, .sh w.os.length, .val (.int (i : Nat)), s3, s4] ∧ n = ⟨w.n, w.os ++ [some ((plD ([], .node o as) :: (plL 0 (as.take i)).map plD) ++ ((plF a).take j).map fun y => plD (i :: y.1, y.2))]⟩, ⟨_, _, rfl, by rw [List.take_zero, List.map_nil, List.append_nil]⟩, ?_, ?_⟩
        · rintro j x _ _ hx ⟨s3, s4, rfl, rfl⟩
          rw [List.getElem?_map] at hx
          cases ey : (plF a)[j]? with
          | none => rw [ey] at hx; cases hx
          | some y =>
            rw [ey] at hx
            have hx : plD y = x := Option.some.inj hx
            subst hx
            have hy := List.mem_of_getElem? ey
            have := plF_deep a y hy
            have l3 : ((plF a).take j).length ≤ (plF a).length := by rw [List.length_take]; omega
            refine ⟨_, rfl, rfl, _, _, rfl, _, _, rfl, rfl, ?_⟩
            refine ⟨_, rfl, Sl.noConfusion, _, rfl, _, rfl, le1, _, rfl, Sl.noConfusion, _, _, rfl, rfl, _, _, rfl, rfl, ?_, _, rfl, le2, _, _, get_own, rfl, _, rfl, ?_, ?_⟩
            · rw [nats_len]
              show 1 + _ ≤ _
              omega
            · show (((plL 0 (as.take i)).map plD) ++ _).length + 1 < 100000
              rw [List.length_append, List.length_map, List.length_map]
              omega
            · refine ⟨_, _, rfl, ?_⟩
              show (⟨w.n, (w.os ++ [some _]).set w.os.length (some _)⟩ : Ws) = _
              rw [set_own, List.take_add_one, ey, List.map_append, List.append_assoc]
              rfl
        · rintro _ _ ⟨s3, s4, rfl, rfl⟩
          refine ⟨_, _, _, rfl, ?_⟩
          rw [List.length_map, List.take_length, List.take_add_one, ea, plL_app]
          have e2 : 0 + (as.take i).length = i := by rw [List.length_take]; omega
          rw [e2]
          have e3 : plL i (some a).toList = (plF a).map fun x => (i :: x.1, x.2) := List.append_nil _
          rw [e3, List.map_append, List.map_map]
          rfl
      · rintro _ _ ⟨s2, s3, s4, rfl, rfl⟩
        have e : (Dl.upTo ((as.length : Nat) : Int).toNat).length = as.length := by unfold Dl.upTo; rw [List.length_map, List.length_range]; rfl
        rw [e, List.take_length]
        refine ⟨w.os.length, _, rfl, get_own, Nat.le_refl _, _, rfl, ?_⟩
        rw [set_own]
        exact finO q
end
end Kin

namespace Dl
open PySem PySem.Spec PyProof.Rows L2
open Evl (Ex sz_of sz_lt)
def valV (u : Value) : V := (absV u).getD .non
abbrev dLe : PyData → PyData → Bool := PySem.W.dataLe false id
/-- sorted(xs), xs a list of alike data -/
def rSortedD (K : PySem.W.Frag) : List V → Hp → VK → Prop := fun xs H Q => ∃ (a : Addr) (vs : List V) (ds : List PyData), xs = [.ref a] ∧ SqL K H a vs ∧ DpAll K H vs ds ∧ PySem.W.AllAlike ds ∧ PySem.W.Sortable ds ∧ (∀ d ∈ ds, d.depth ≤ 50) ∧ ds.length ≤ 1000 ∧
  ∀ p us, H p = none → (∀ R : V → PyData → Prop, Paired R vs ds → Paired R us (ds.mergeSort dLe)) → Q (.ref p) (upd H p (.lst us))
theorem each_pair {R : V → PyData → Prop} : ∀ {vs : List V} {us : List Value} {ds : List PyData}, Vals vs us → Paired R vs ds → PySem.W.EachIs (fun u d => R (valV u) d) us ds
  | _, _, _, .nil, .nil => .nil
  | _, _, _, .cons (a := x) r t, .cons h t' => .cons (by show R (valV _) _; unfold valV; rw [r.abs]; exact h) (each_pair t t')
theorem pair_each {R : V → PyData → Prop} : ∀ {us : List Value} {ds : List PyData}, PySem.W.EachIs (fun u d => R (valV u) d) us ds → Paired R (us.map valV) ds
  | _, _, .nil => .nil
  | _, _, .cons h t => .cons h (pair_each t)
theorem vals_each : ∀ {vs : List V} {us : List Value}, Vals vs us → ∀ u ∈ us, RelV (valV u) u
  | _, _, .nil, _, h => by cases h
  | _, _, .cons (a := x) r t, u, h => by
    rcases List.mem_cons.mp h with rfl | h
    · unfold valV
      rw [r.abs]
      exact r
    · exact vals_each t u h
theorem vals_of_each : ∀ {us : List Value}, (∀ u ∈ us, RelV (valV u) u) → Vals (us.map valV) us
  | [], _ => .nil
  | u :: us, h => .cons (h u List.mem_cons_self) (vals_of_each fun v hv => h v (List.mem_cons_of_mem _ hv))
theorem each_and {α β : Type} {R S : α → β → Prop} : ∀ {us : List α} {ds : List β}, PySem.W.EachIs R us ds → PySem.W.EachIs S us ds → PySem.W.EachIs (fun u d => R u d ∧ S u d) us ds
  | _, _, .nil, .nil => .nil
  | _, _, .cons a b, .cons c d => .cons ⟨a, c⟩ (each_and b d)
theorem each_all {α β : Type} {p : α → Prop} : ∀ {us : List α} {ds : List β}, us.length = ds.length → (∀ u ∈ us, p u) → PySem.W.EachIs (fun u (_ : β) => p u) us ds
  | [], [], _, _ => .nil
  | u :: us, d :: ds, l, h => .cons (h u List.mem_cons_self) (each_all (Nat.succ.inj l) fun v hv => h v (List.mem_cons_of_mem _ hv))
theorem each_left {α β : Type} {p : α → Prop} : ∀ {us : List α} {ds : List β}, PySem.W.EachIs (fun u (_ : β) => p u) us ds → ∀ u ∈ us, p u
  | _, _, .nil, _, h => by cases h
  | _, _, .cons a b, u, h => by
    rcases List.mem_cons.mp h with rfl | h
    · exact a
    · exact each_left b u h
theorem each_forall {α β γ : Type} {C : γ → Prop} {R : γ → α → β → Prop} : ∀ {us : List α} {ds : List β}, us.length = ds.length → (∀ S, C S → PySem.W.EachIs (R S) us ds) → PySem.W.EachIs (fun u d => ∀ S, C S → R S u d) us ds
  | [], [], _, _ => .nil
  | u :: us, d :: ds, l, h => .cons (fun S c => by cases h S c with | cons a _ => exact a) (each_forall (Nat.succ.inj l) fun S c => by cases h S c with | cons _ b => exact b)
theorem each_imp {α β : Type} {R S : α → β → Prop} (f : ∀ u d, R u d → S u d) : ∀ {us : List α} {ds : List β}, PySem.W.EachIs R us ds → PySem.W.EachIs S us ds
  | _, _, .nil => .nil
  | _, _, .cons a b => .cons (f _ _ a) (each_imp f b)
theorem cr_sortedD {X : Cx} (hu : X.A.units + 65 < cLine) : CallR X (.builtin "sorted") (rSortedD X.K) := by
  intro pins s σ H xs us Q I r h
  obtain ⟨a, vs, ds, rfl, hs, hd, hal, hk, hdp, hl, q⟩ := h
  rw [Vals.ref1 r]
  obtain ⟨its, rv, pl, hz⟩ := I.list hs
  obtain ⟨as, rd⟩ := Dp.readsAll I ds vs its hd rv
  have er : PySem.W.EachIs (fun v b => ∃ as, Reads s.heap v (id b) as) its ds := PySem.W.readsAll_each id (by rw [List.map_id]; exact rd)
  have len : its.length = ds.length := er.length
  have e : PySem.W.EachIs (fun u d => RelV (valV u) u ∧ ∀ S : V → PyData → Prop, Paired S vs ds → S (valV u) d) its ds :=
    each_and (each_all len (vals_each rv)) (each_forall len fun S c => each_pair rv c)
  have e1 : sizeLine = 16777216 := by decide
  refine PySem.W.sorted_data (enc := id) pl.isList e er (by rw [List.map_id]; exact hal) (by rw [List.map_id]; exact hk) (by rw [e1]; omega) (fun b hb => ?_) fun out ho eo => ?_
  · have := hdp b hb
    show _ + 2 + b.depth < cLine
    omega
  · obtain ⟨c, hc⟩ := sortedAll_at s.heap its out.toArray
    have vo : Vals (out.map valV) out := vals_of_each (each_left (each_imp (fun u d h => h.1) eo))
    refine ⟨.ref (s.heap.objs.size + 1), upd H (s.heap.objs.size + 1) (.lst (out.map valV)), I.laid (t' := s.toks) (fun b o e => sortedAll_old e) (Nat.le_succ _) ⟨?_, out, c, vo, hc⟩, rfl, q _ _ (I.hok.fresh (Nat.le_succ _)) fun R hR => pair_each (each_imp (fun u d h => h.2 R hR) eo)⟩
    rw [List.length_map, ho, e1]
    omega
theorem sortedDK {X : Cx} (K : PySem.W.Frag) (hK : X.K = K) (hu : X.A.units + 65 < cLine) : CallR X (.builtin "sorted") (rSortedD K) := hK ▸ cr_sortedD hu
section
variable {K : PySem.W.Frag} {T : List Addr}
theorem pair_dq {F : Hp} : ∀ {vs : List V} {ds : List PyData}, Paired (fun v d => Dq K F v d) vs ds → DqAll K F vs ds
  | _, _, .nil => .nil
  | _, _, .cons a b => .cons a (pair_dq b)
theorem dq_pair {F : Hp} : ∀ {vs : List V} {ds : List PyData}, DqAll K F vs ds → Paired (fun v d => Dq K F v d) vs ds
  | _, _, .nil => .nil
  | _, _, .cons a b => .cons a (dq_pair b)
theorem dps_of {H : Hp} : ∀ {vs : List V} {ds : List PyData}, DqAll K H vs ds → DpAll K H vs ds
  | _, _, .nil => .nil
  | _, _, .cons a b => .cons a.dp (dps_of b)
theorem dcn_sortedD : DCN K (rSortedD K) (fun ds P => ∃ xs, ds = [.list xs] ∧ PySem.W.AllAlike xs ∧ PySem.W.Sortable xs ∧ (∀ d ∈ xs, d.depth ≤ 50) ∧ xs.length ≤ 1000 ∧ P (xs.mergeSort dLe)) := by
  constructor
  rintro F H xs ds P Q ex h ⟨ys, rfl, h1, h2, h3, h4, p⟩ q
  obtain ⟨x, rfl, hx⟩ := one1 h
  obtain ⟨a, vs, rfl, z1, z2⟩ := dz_list ex hx
  exact ⟨a, vs, ys, rfl, SqL.of z1, dps_of (dp_exs ex z2), h1, h2, h3, h4, fun r us nr hR => q r us _ nr (pair_dq (hR _ (dq_pair z2))) p⟩
end
end Dl

namespace Dl
open PySem PySem.Spec PyProof.Rows L2
open Evl (Ex sz_of sz_lt)
/-- a written dict: what it tells, as data -/
def DctK (K : PySem.W.Frag) (w : World) (a : Addr) (kvs : List (Str × PyData)) : Prop := ∀ z d, (z, d) ∈ kvs → ∃ v, KDct K w a z v ∧ ∀ F, Dq K F v d
theorem ixDK {X : Cx} (K : PySem.W.Frag) (w : World) (hK : X.K = K) (hw : X.w = w) : IxR X (rIxD K w) := hK ▸ hw ▸ ix_kdict
theorem ixSK {X : Cx} : IxR X rIxS := ix_str
theorem indexK {X : Cx} (K : PySem.W.Frag) (hK : X.K = K) (hu : X.A.units + 65 < cLine) : MtR X "list.index" (rIndexD K) := hK ▸ mt_indexD hu
section
variable {K : PySem.W.Frag} {T : List Addr} {ta tb te : TE} {tas : TA} {ma mb m : DTE} {mx my : DTX} {w : World} {a : Addr} {kvs : List (Str × PyData)}
/-- D[x] -/
theorem de_dct (D : DctK K w a kvs) (h : DE K T tb mb) : DE K T (tOp (rIxD K w) (tC (.ref a)) tb) (fun env n P => mb env n fun d n1 => ∃ z e, d = .str z ∧ (z, e) ∈ kvs ∧ P e n1) := by
  constructor
  intro pe F H σ env n P Q R p q
  refine h.run pe F H σ env n _ _ R p fun x F1 H1 d n1 f1 p1 h1 ⟨z, e, ed, hm, g1⟩ => ?_
  subst ed
  have ex := dp_str h1
  subst ex
  obtain ⟨v, hv, hd⟩ := D z e hm
  exact ⟨a, z, v, rfl, rfl, hv, q v F1 H1 e n1 f1 p1 (hd F1) g1⟩
/-- 'ab'[i] -/
theorem dr_ixS : DR K rIxS (fun d e P => ∃ z i c, d = .str z ∧ e = .int i ∧ z.length ≤ sizeLine ∧ atI z.cps.toList i = some c ∧ P (.str ⟨#[c]⟩)) := by
  constructor
  rintro pe F H x y d e P Q ex hx hy ⟨z, i, c, rfl, rfl, h1, h2, p⟩ q
  exact ⟨z, i, c, dz_str hx, dz_int hy, h1, h2, q _ F H _ (.refl ex) (fun _ _ z => z) (.str _) p⟩
/-- for c in text -/
def chars (z : Str) : List PyData := z.cps.toList.map fun c => .str ⟨#[c]⟩
theorem di_str (h : DE K T te m) : DI K T (iStr te) (fun env n P => m env n fun d n1 => ∃ z, d = .str z ∧ P (chars z) n1) := by
  constructor
  intro pe F H σ env n P R' R p q
  refine h.run pe F H σ env n _ _ R p fun v F1 H1 x n1 f1 p1 h1 ⟨z, e, g1⟩ => ?_
  subst e
  have ev := dp_str h1
  subst ev
  have l : (chars z).length = z.cps.size := by unfold chars; rw [List.length_map]; exact Array.length_toList
  refine ⟨z, rfl, q _ F1 H1 _ n1 f1 p1 (fun pe F2 H2 e1 e2 => ⟨fun i hi => ⟨by rw [l] at hi; exact hi, fun x H3 y => ?_⟩, Nat.le_of_eq l.symm⟩) g1⟩
  obtain ⟨rfl, c, hc, rfl⟩ := y
  refine ⟨F2, .str ⟨#[c]⟩, .refl e2, fun _ _ z => z, .str _, ?_⟩
  unfold chars
  rw [List.getElem?_map, Array.getElem?_toList, hc]
  rfl
/-- xs.index(x) -/
theorem de_index (h : DX K T te mx) (ha : DX K T ta my) : DE K T (tBM K "list" (rIndexD K) te (tCons ta tNil)) (fun env n P => mx env n fun s n1 => ∃ ds, s = .val (.list ds) ∧ my env n1 fun t n2 => ∃ (d : PyData) (j : Nat) (z : PyData), see n2 t = some d ∧ SeqAt.shaped (.list ds) = true ∧ SeqAt.shaped d = true ∧
    ds[j]? = some z ∧ PyData.eqv z d = true ∧ (∀ (m : Nat) (z' : PyData), m < j → ds[m]? = some z' → PyData.eqv z' d = false) ∧ P (.int (j : Nat)) n2) := by
  constructor
  intro pe F H σ env n P Q R p q
  refine h.run pe F H σ env n _ _ R p fun x F1 H1 s n1 f1 p1 h1 ⟨ds, e, g1⟩ => ?_
  subst e
  have h1 : Dq K F1 x (.list ds) := h1
  obtain ⟨a, vs, rfl, z1, z2⟩ := dz_list f1.fh (.fz h1)
  refine ⟨.inl ⟨rfl, vs, SqL.of z1⟩, ?_⟩
  refine ha.run pe F1 H1 σ env n1 _ _ (R.step f1 p1) g1 fun y F2 H2 t n2 f2 p2 h2 ⟨d, j, z, e2, s1, s2, e3, e4, e5, g2⟩ => ?_
  refine ⟨a, y, d, ds, j, z, rfl, rfl, ((dp_ex f2.fh (dp_ex f2.ff h1))).dp, (see_dz p2 h2 e2).dp f2.fh, s1, s2, e3, e4, e5, ?_⟩
  exact q _ F2 H2 _ n2 (f1.trans f2) p2 (.int _) g2
end
end Dl

namespace Dl
open PySem PySem.Spec PyProof.Rows L2
open Evl (Ex sz_of sz_lt)
section
variable {P : Program} {w : World} {K : PySem.W.Frag} {mg : Str → Option Value} {base : Heap} {T : List Addr}
theorem okN {x qual : Str} {st : Stmt} {f : Addr} {fd : FuncData} {cdv : Value} {N ps : List Str} {k : Nat} {m : Nat → (Value → Ws → Prop) → (List PyData → Ws → Prop) → Env → Ws → Prop} (F : FunV K x qual st f fd cdv) (S : FnScope N ps (defScope st))
    (hbody : ∀ (A : Around) (outer : List PySem.Env) (s : Shared) (H : Hp) (E : XK), (A.deeper (envOfC qual (defScope st) s.heap.objs.size f cdv)).guards = some [] →
      Room k (A.deeper (envOfC qual (defScope st) s.heap.objs.size f cdv)) → ∃ t : TS, PSs (cxOf CX0 P w K mg base N qual (defScope st) f cdv A outer s H E).nox (defBody st) t ∧ DSXN K T (fun _ => t) m) :
    FnG P w K mg base (k + 1) f fd ps (spN K T fun ss n P => mfxnOf ps.length N.length m ss n P fun _ _ => False) := by
  obtain ⟨oc, od, kV, doc, pm, an, ct, osl, rfl, lk, hcd⟩ := F
  have len : ∀ vs H Q E, spN K T (fun ss n P => mfxnOf ps.length N.length m ss n P fun _ _ => False) vs H Q E → vs.length = ps.length := by
    rintro vs H Q E ⟨pe, F, ss, n, P, z1, z2, z3, z4, ⟨z5, z6⟩, z7⟩
    rw [z4.len, z5]
  constructor
  · exact len
  intro A outer s H args us vs Q E g r e0 hb rv hsp
  have grow : ∀ b o, base.get? b = some o → s.heap.get? b = some o := fun b o e => (e0.bs b o e).1
  have inK := e0.mod.kin.keeps grow
  have kinds : ∀ y ∈ ps.zip us, (defScope st).names.lookup y.1 = some .local ∨
      ((defScope st).names.lookup y.1 = some .cell ∧ ((cellsFrom (s.heap.objs.size + 1) (defScope st).names []).lookup y.1).isSome = true) := by
    intro y hy
    have q := S.par y.1 (List.of_mem_zip (show (y.1, y.2) ∈ ps.zip us from hy)).1
    exact q.imp_right fun c => ⟨c, PySem.W.cellsFrom_some _ _ _ (.inl c)⟩
  have code := PySem.W.codeRec_of inK hcd
  refine codeAny_call_function r.depth (inK _ _ lk) rfl S.co S.gen rfl code (hb _ _ _ _ (wpAny_newFunctionEnv_cells S.kind kinds ?_))
  intro env he s1 hc
  subst he
  refine ⟨(e0.mod.nolimit.keeps grow).keeps hc.toInCall.keep, codeAny_func ?_⟩
  obtain ⟨t, ht, ds⟩ := hbody A outer s H E (guards_deeper g) (r.deeper _)
  have hl := len _ _ _ _ hsp
  have I := inv_start (E := E) (CX := CX0) S r.hd e0 hl rv hc
  obtain ⟨pe, Fz, ss, n, Pz, z1, z2, z3, z4, ⟨z5, z6⟩, z7⟩ := hsp
  have hq : t { nx := fun _ H' => Q .non H', rt := Q } (L2.start N vs) H := by
    have er : EnvR K pe Fz (L2.start N vs) (ss ++ List.replicate (N.length - ps.length) .no) := by
      unfold L2.start
      rw [hl]
      exact args_env _ z4
    refine ds.run pe Fz H pe Fz H _ _ n _ _ (fun _ _ _ => False) (fun _ _ => False) _ ⟨⟨er, z2, z3, z1⟩, Fr.refl z2, Ext.refl pe H⟩ z6 z3.len.symm ?_ ?_
    · intro p pe' F' H' us xs n' f e pn np hp nF ha q
      exact z7 p F' H' us xs _ f (pn.cut e z3.len) np hp nF ha q
    · intro cls pe' F' H' n' f e p q
      exact q.elim
  have body := ht.nox.run [] s1 (L2.start N vs) H _ I hq
  refine wpAny_mono body ?_ fun e s' hs => hs
  intro fl s' hs
  match fl, hs with
  | .ret u, ⟨v, σ', H', J, rv, q⟩ => exact ⟨v, H', J.os, J.bare, J.base, J.hok, rv, q⟩
  | .next, ⟨σ', H', J, q⟩ => exact ⟨V.non, H', J.os, J.bare, J.base, J.hok, rfl, q⟩
  | .brk, ⟨_, _, _, q⟩ => exact q.elim
  | .cont, ⟨_, _, _, q⟩ => exact q.elim
end
end Dl

namespace Dl
open PySem PySem.Spec PyProof.Rows L2
open Evl (Ex sz_of sz_lt)
section
variable {K : PySem.W.Frag} {T : List Addr}
theorem dsxn_own (k : Nat) : DSXN K T (fun _ => tRet (tVar k)) (fun b _ P env n => ∃ i xs, env[k]? = some (.sh i) ∧ n.os[i]? = some (some xs) ∧ b ≤ i ∧ P xs n) := by
  constructor
  rintro pe0 F0 H0 pe F H σ env n D b E PE P R ⟨i, xs, e1, e2, hb, p⟩ hb0 q e
  obtain ⟨a, h1, h2⟩ := R.lv.er.sl k _ e1
  obtain ⟨vs, h3, h4, nF⟩ := R.lv.pn.sh i a xs h1 e2
  have na0 : H0 a = none := by
    obtain ⟨ex, e3, e4⟩ := R.ext.sh
    refine e4 a ?_
    rw [e3, List.getElem?_append_right (by rw [hb0]; exact hb)] at h1
    exact List.mem_of_getElem? h1
  exact ⟨_, h2, q a pe F H vs xs n R.fr R.ext R.lv.pn na0 h3 nF h4 p⟩
end
section
variable {K : PySem.W.Frag} {T : List Addr} {te : TE} {m : DTE} {ta tb : XK → TE} {tas : TA} {ma mb mx : (Value → Ws → Prop) → DTE} {mv : DTA} {tt : TT} {mt : DTT} {x1 : XK → TS} {n1 : (Value → Ws → Prop) → DTS} {tx : XK → TE}
theorem de_neg (h : DE K T te m) : DE K T (tUn (rU fun i => .int (-i)) te) (fun env n P => m env n fun d n1 => ∃ i : Int, d = .int i ∧ P (.int (-i)) n1) := by
  constructor
  intro pe F H σ env n P Q R p q
  refine h.run pe F H σ env n _ _ R p fun x F1 H1 d n1 f1 p1 h1 ⟨i, e, g⟩ => ?_
  subst e
  have ex := dp_int h1
  subst ex
  exact ⟨i, rfl, q _ F1 H1 _ n1 f1 p1 (.int _) g⟩
/-- an expression that may raise -/
structure DEX (K : PySem.W.Frag) (T : List Addr) (te : XK → TE) (m : (Value → Ws → Prop) → DTE) : Prop where
  run : ∀ (pe : Pe) (F H : Hp) (σ : L2.St) (env : Env) (n : Ws) (P : PyData → Ws → Prop) (Q : VK) (E : XK) (PE : Value → Ws → Prop), Lv K T pe F H σ env n → m PE env n P →
    (∀ v F' H' d n', Fr pe F H F' H' → PenAt K pe F' H' n' → Dq K F' v d → P d n' → Q v H') → (∀ cls F' H' n', Fr pe F H F' H' → PenAt K pe F' H' n' → PE cls n' → E cls none H') → te E σ H Q
theorem dex_call {mf : DFX} (h : DA K T tas mv) : DEX K T (fun E σ H Q => tas σ H fun vs H1 => spX K T mf vs H1 Q E) (fun PE env n P => mv env n fun ss n1 => mf ss n1 P PE) := by
  constructor
  intro pe F H σ env n P Q E PE R p q e
  refine h.run pe F H σ env n _ _ R p fun vs F1 H1 ss n1 f1 p1 h1 g1 => ?_
  exact ⟨pe, F1, ss, n1, P, PE, R.tb, f1.fh, p1, h1, g1, fun v F2 H2 z n2 f2 p2 h2 g2 => q v F2 H2 z n2 (f1.trans f2) p2 h2 g2, fun cls F2 H2 n2 f2 p2 g2 => e cls F2 H2 n2 (f1.trans f2) p2 g2⟩
theorem dex_if (c : DT K T tt mt) (h : DEX K T ta ma) (g : DEX K T tb mb) : DEX K T (fun E => tIf tt (ta E) (tb E)) (fun PE env n P => mt env n fun b n1 => if b = true then ma PE env n1 P else mb PE env n1 P) := by
  constructor
  intro pe F H σ env n P Q E PE R p q e
  refine c.run pe F H σ env n _ _ R p fun b F1 H1 n1 f1 p1 g1 => ?_
  have R1 := R.step f1 p1
  cases b with
  | true =>
    rw [if_pos rfl] at g1 ⊢
    exact h.run pe F1 H1 σ env n1 _ _ E PE R1 g1 (fun v F2 H2 d n2 f2 p2 h2 g2 => q v F2 H2 d n2 (f1.trans f2) p2 h2 g2) fun cls F2 H2 n2 f2 p2 g2 => e cls F2 H2 n2 (f1.trans f2) p2 g2
  | false =>
    rw [if_neg Bool.false_ne_true] at g1 ⊢
    exact g.run pe F1 H1 σ env n1 _ _ E PE R1 g1 (fun v F2 H2 d n2 f2 p2 h2 g2 => q v F2 H2 d n2 (f1.trans f2) p2 h2 g2) fun cls F2 H2 n2 f2 p2 g2 => e cls F2 H2 n2 (f1.trans f2) p2 g2
theorem dsx_retE (h : DEX K T tx mx) : DSX K T (fun E => tRet (tx E)) (fun PE d env n => mx PE env n d.rt) := by
  constructor
  intro pe0 F0 H0 pe F H σ env n D d E PE R p M me
  refine h.run pe F H σ env n _ _ E PE R.lv p (fun v F2 H2 z n2 f2 p2 h2 g2 => ?_) fun cls F2 H2 n2 f2 p2 g2 => ?_
  · exact M.rt pe v F2 H2 z n2 (R.step f2 p2).fr R.ext p2 h2 g2
  · exact me cls pe F2 H2 n2 (R.step f2 p2).fr R.ext p2 g2
/-- what clauses do that return words -/
def wCatch (K : PySem.W.Frag) (cls : Value) (rt : PyData → Prop) (miss : Prop) : List (Value × Str) → Prop
  | [] => miss
  | (c, x) :: cs => ∃ b, PySem.W.exmOne K cls c = some b ∧ if b = true then rt (.str x) else wCatch K cls rt miss cs
abbrev clausesOf (cs : List (Value × Str)) : List (Value × (Addr → Value → Option Addr → TS)) := cs.map fun c => (c.1, fun _ _ _ => tRet (tC (.str c.2)))
/-- try .. except C: return 'one' except D: return 'two' .. -/
theorem dsx_tryN (cs : List (Value × Str)) (h : DSX K T x1 n1) :
    DSX K T (fun E D σ H => x1 (fun cls d H' => wMany K (fun cls d _ H => E cls d H) D (clausesOf cs) cls d σ H') D σ H)
      (fun PE d env n => n1 (fun cls n' => wCatch K cls (fun x => d.rt x n') (PE cls n') cs) d env n) := by
  constructor
  intro pe0 F0 H0 pe F H σ env n D d E PE R p M me
  refine h.run pe0 F0 H0 pe F H σ env n D d _ _ R p M fun cls pe' F' H' n' f e pn g => ?_
  have go : ∀ cs : List (Value × Str), wCatch K cls (fun x => d.rt x n') (PE cls n') cs → wMany K (fun cls d _ H => E cls d H) D (clausesOf cs) cls none σ H' := by
    intro cs
    induction cs with
    | nil => exact fun g => me cls pe' F' H' n' f e pn g
    | cons c cs ih =>
      rintro ⟨b, hb, g⟩
      refine ⟨b, hb, fun z a ha => ?_, fun z => ?_⟩
      · rw [if_pos z] at g
        exact M.rt pe' _ F' H' _ n' f e pn (.str _) g
      · rw [z, if_neg Bool.false_ne_true] at g
        exact ih g
  exact go cs g
/-- arguments that may raise -/
structure DAX (K : PySem.W.Frag) (T : List Addr) (ta : XK → TA) (m : (Value → Ws → Prop) → DTA) : Prop where
  run : ∀ (pe : Pe) (F H : Hp) (σ : L2.St) (env : Env) (n : Ws) (P : List Sl → Ws → Prop) (Q : List V → Hp → Prop) (E : XK) (PE : Value → Ws → Prop), Lv K T pe F H σ env n → m PE env n P →
    (∀ vs F' H' ss n', Fr pe F H F' H' → PenAt K pe F' H' n' → ArgsR K pe F' vs ss → P ss n' → Q vs H') → (∀ cls F' H' n', Fr pe F H F' H' → PenAt K pe F' H' n' → PE cls n' → E cls none H') → ta E σ H Q
theorem dax_of {ta : TA} {m : DTA} (h : DA K T ta m) : DAX K T (fun _ => ta) (fun _ => m) := by
  constructor
  intro pe F H σ env n P Q E PE R p q e
  exact h.run pe F H σ env n P Q R p q
theorem dax_cons {tx : XK → TE} {mx : (Value → Ws → Prop) → DTE} {ta : XK → TA} {ma : (Value → Ws → Prop) → DTA} (h : DEX K T tx mx) (g : DAX K T ta ma) :
    DAX K T (fun E => tCons (tx E) (ta E)) (fun PE env n P => mx PE env n fun d n1 => ma PE env n1 fun ss n2 => P (.val d :: ss) n2) := by
  constructor
  intro pe F H σ env n P Q E PE R p q e
  refine h.run pe F H σ env n _ _ E PE R p (fun x F1 H1 d n1 f1 p1 h1 g1 => ?_) e
  refine g.run pe F1 H1 σ env n1 _ _ E PE (R.step f1 p1) g1 (fun vs F2 H2 ss n2 f2 p2 h2 g2 => ?_) fun cls F2 H2 n2 f2 p2 g2 => e cls F2 H2 n2 (f1.trans f2) p2 g2
  exact q (x :: vs) F2 H2 (.val d :: ss) n2 (f1.trans f2) p2 ⟨dp_ex f2.ff h1, h2⟩ g2
theorem dex_callA {tas : XK → TA} {mv : (Value → Ws → Prop) → DTA} {mf : DFX} (h : DAX K T tas mv) : DEX K T (fun E σ H Q => tas E σ H fun vs H1 => spX K T mf vs H1 Q E) (fun PE env n P => mv PE env n fun ss n1 => mf ss n1 P PE) := by
  constructor
  intro pe F H σ env n P Q E PE R p q e
  refine h.run pe F H σ env n _ _ E PE R p (fun vs F1 H1 ss n1 f1 p1 h1 g1 => ?_) e
  exact ⟨pe, F1, ss, n1, P, PE, R.tb, f1.fh, p1, h1, g1, fun v F2 H2 z n2 f2 p2 h2 g2 => q v F2 H2 z n2 (f1.trans f2) p2 h2 g2, fun cls F2 H2 n2 f2 p2 g2 => e cls F2 H2 n2 (f1.trans f2) p2 g2⟩
theorem dsx_dropE {tx : XK → TE} {mx : (Value → Ws → Prop) → DTE} (h : DEX K T tx mx) : DSX K T (fun E => tDrop (tx E)) (fun PE d env n => mx PE env n fun _ n1 => d.nx env n1) := by
  constructor
  intro pe0 F0 H0 pe F H σ env n D d E PE R p M me
  refine h.run pe F H σ env n _ _ E PE R.lv p (fun v F2 H2 z n2 f2 p2 h2 g2 => ?_) fun cls F2 H2 n2 f2 p2 g2 => ?_
  · exact M.nx pe σ env F2 H2 n2 f2.ff (R.step f2 p2) g2
  · exact me cls pe F2 H2 n2 (R.step f2 p2).fr R.ext p2 g2
end
end Dl

namespace L2
open PySem PySem.Spec PyProof.Rows
abbrev tupO (its : Array Value) (n : Nat) (dd : Option Addr) (sl : Array (Option Value)) : Obj := { cls := .type "tuple", dict := dd, data := .seq its n, slots := sl }
theorem mul_one_tup (l : Addr) (its : Array Value) (n : Nat) (dd : Option Addr) (sl : Array (Option Value)) (u : Tok) (hne : its.isEmpty = false) :
    Meets (Builtin.«tuple.__mul__» ⟨[.ref l, .int 1 u], []⟩) (fun _ R s => s.heap.get? l = some (tupO its n dd sl) ∧ R (.ok (.ret (.ref l))) s) :=
  .of_wp fun prog w A R s h => by
    obtain ⟨hp, g, d, tk, os⟩ := s
    obtain ⟨hl, h⟩ := h
    have ix := AutoSeq1.idx_int
    wp_walk using wpAny_loadPart' hl
    exact ⟨_, rfl, h⟩
theorem mul_zero_tup (l : Addr) (its : Array Value) (n : Nat) (dd : Option Addr) (sl : Array (Option Value)) (u : Tok) (hne : its.isEmpty = false) :
    Meets (Builtin.«tuple.__mul__» ⟨[.ref l, .int 0 u], []⟩) (fun _ R s => s.heap.get? l = some (tupO its n dd sl) ∧
      R (.ok (.ret (Value.ref s.heap.objs.size))) { s with heap := s.heap.push { cls := Value.type "tuple", data := Data.seq #[] }, toks := s.toks }) :=
  .of_wp fun prog w A R s h => by
    obtain ⟨hp, g, d, tk, os⟩ := s
    obtain ⟨hl, h⟩ := h
    have ix := AutoSeq1.idx_int
    wp_walk using wpAny_loadPart' hl
    exact ⟨_, rfl, h⟩
/-- t * 1, t * 0 -/
def rRepS (K : PySem.W.Frag) : R2 := fun x y H Q => ∃ (l : Addr) (xs : List V), x = .ref l ∧ SqT K H l xs ∧ xs ≠ [] ∧ ((y = .int 1 ∧ Q (.ref l) H) ∨ (y = .int 0 ∧ ∀ p, H p = none → Q (.ref p) (upd H p (.tup []))))
theorem op_repS {X : Cx} : OpR X (binaryOp .Mult) (rRepS X.K) := by
  intro pins s σ H x y v u Q I rx ry h
  obtain ⟨l, xs, rfl, hT, ne, h⟩ := h
  cases rx
  obtain ⟨its, r, ⟨⟨cls, dd, data, sl⟩, ho, hc, n, hd⟩, hs⟩ := I.tuple hT
  dsimp only at hc hd
  subst hc hd
  have full : its.toArray.isEmpty = false := by
    cases its with
    | nil => cases r with | nil => exact absurd rfl ne
    | cons a b => rfl
  rcases h with ⟨rfl, q⟩ | ⟨rfl, q⟩
  · obtain ⟨t, rfl⟩ := ry
    refine wpAny_binaryOp_repeat_ref (T := "tuple") (U := "int") (by decide) ⟨_, ho, rfl⟩ (fun z => typeIs_int z 1 t) noFill_tuple_mul F.fills_int_mul F.slot_int_rmul repeat_tuple F.slot_int_index.lookup ?_
    refine call_meets F.slot_int_rmul (typeIs_int s 1 t) F.entry_int_rmul (F.args_int_rmul_2 _ _) (int_rmul_tuple 1 t l its.toArray n dd sl) ⟨ho, rfl, ⟨_, ho, rfl⟩, ?_⟩
    exact call_meets F.slot_tuple_mul ⟨_, ho, rfl⟩ F.entry_tuple_mul (F.args_tuple_mul_2 _ _) (mul_one_tup l its.toArray n dd sl t full) ⟨ho, .ref l, H, I, rfl, q⟩
  · obtain ⟨t, rfl⟩ := ry
    refine wpAny_binaryOp_repeat_ref (T := "tuple") (U := "int") (by decide) ⟨_, ho, rfl⟩ (fun z => typeIs_int z 0 t) noFill_tuple_mul F.fills_int_mul F.slot_int_rmul repeat_tuple F.slot_int_index.lookup ?_
    refine call_meets F.slot_int_rmul (typeIs_int s 0 t) F.entry_int_rmul (F.args_int_rmul_2 _ _) (int_rmul_tuple 0 t l its.toArray n dd sl) ⟨ho, rfl, ⟨_, ho, rfl⟩, ?_⟩
    refine call_meets F.slot_tuple_mul ⟨_, ho, rfl⟩ F.entry_tuple_mul (F.args_tuple_mul_2 _ _) (mul_zero_tup l its.toArray n dd sl t full) ⟨ho, ?_⟩
    refine ⟨.ref s.heap.objs.size, _, I.laid (t' := s.toks) (o := .tup []) (fun b ob z => Heap.get?_push_of_some _ z) (Nat.le_refl _) ?_, rfl, q _ (I.hok.fresh (Nat.le_refl _))⟩
    exact ⟨Nat.zero_le _, [], .nil, IsTup.new _ _⟩
def rRepA (K : PySem.W.Frag) : R2 := fun x y H Q => rRepT K x y H Q ∨ rRepS K x y H Q
theorem repAK {X : Cx} (K : PySem.W.Frag) (hK : X.K = K) : OpR X (binaryOp .Mult) (rRepA K) := by
  subst hK
  intro pins s σ H x y v u Q I rx ry h
  rcases h with h | h
  · exact op_repT pins s σ H x y v u Q I rx ry h
  · exact op_repS pins s σ H x y v u Q I rx ry h
end L2
namespace Dl
open PySem PySem.Spec PyProof.Rows L2
open Evl (Ex sz_of sz_lt)
theorem dr_repA {K : PySem.W.Frag} : DR K (rRepA K) (fun d e P => ∃ (ds : List PyData) (k : Nat), d = .tuple ds ∧ e = .int (k : Nat) ∧ ds ≠ [] ∧ k ≤ 1000 ∧ ds.length ≤ 1000 ∧ P (.tuple (List.replicate k ds).flatten)) := by
  constructor
  rintro pe F H x y d e P Q ex hx hy ⟨ds, k, rfl, rfl, h0, h2, h3, p⟩ q
  by_cases hk : 2 ≤ k
  · exact .inl (dr_repT.run pe F H x y _ _ P Q ex hx hy ⟨ds, k, rfl, rfl, h0, by omega, by omega, h3, p⟩ q)
  · refine .inr ?_
    obtain ⟨a, vs, rfl, z1, z2⟩ := dz_tup hx
    have ey := dz_int hy
    subst ey
    have l := dps_len z2
    refine ⟨a, vs, rfl, Evl.ex_t ex z1, fun e => h0 (by rw [e] at l; exact List.eq_nil_of_length_eq_zero l.symm), ?_⟩
    rcases (show k = 1 ∨ k = 0 by omega) with rfl | rfl
    · refine .inl ⟨rfl, q _ F H _ (.refl ex) (fun _ _ z => z) (.tup z1 z2) ?_⟩
      have e : (List.replicate 1 ds).flatten = ds := by simp
      rw [e] at p
      exact p
    · refine .inr ⟨rfl, fun r nr => ?_⟩
      have f := Fr.put (pe := pe) (o := .tup []) ex nr
      exact q _ _ _ (.tuple []) f (Ex.new nr) (.tup (SqT.of upd_same) .nil) p
end Dl

namespace Dl
open PySem PySem.Spec PyProof.Rows L2
open Evl (Ex sz_of sz_lt)
theorem revK {X : Cx} (K : PySem.W.Frag) (hK : X.K = K) {e : Expr} {te : TE} {k : Nat} {p1 p2 p3 pos : Pos} (he : PE X e te) : PE X (.Subscript e (.Slice none none (some (.UnaryOp .USub (.Constant (.int 1) k p1) p2)) p3) pos) (tRevL K te) := hK ▸ pe_revL he
section
variable {K : PySem.W.Frag} {T : List Addr} {te : TE} {mx : DTX}
theorem dps_rev {F : Hp} {vs : List V} {ds : List PyData} (h : DqAll K F vs ds) : DqAll K F vs.reverse ds.reverse := by
  have one : ∀ {x : V} {d : PyData}, Dq K F x d → DqAll K F [x] [d] := fun h => .cons h .nil
  have go : ∀ {vs : List V} {ds : List PyData}, DqAll K F vs ds → DqAll K F vs.reverse ds.reverse := by
    intro vs
    induction vs with
    | nil => intro ds h; cases h; exact .nil
    | cons v vs ih =>
      intro ds h
      cases h with
      | cons a b =>
        rw [List.reverse_cons, List.reverse_cons]
        exact dps_app (ih b) (one a)
  exact go h
theorem dn_revL (h : DX K T te mx) : DN K T (tRevL K te) (fun env n P => mx env n fun s n1 => ∃ xs, see n1 s = some (.list xs) ∧ P xs.reverse n1) := by
  constructor
  intro pe F H σ env n P Q R p q
  refine h.run pe F H σ env n _ _ R p fun x F1 H1 s n1 f1 p1 h1 ⟨xs, e1, g1⟩ => ?_
  obtain ⟨a, vs, rfl, z1, z2⟩ := dz_list f1.fh (see_dz p1 h1 e1)
  refine ⟨a, vs, rfl, SqL.of z1, fun r nr => ?_⟩
  exact q r F1 _ _ _ n1 (f1.trans (Fr.mine f1.fh nr)) (p1.mut (p1.far nr)) (fresh0 f1 nr) upd_same (Evl.fresh_back f1.fh nr) (dps_rev z2) g1
end
end Dl

namespace Ds
open PySem PySem.Spec PyProof.Rows L2
mutual
/-- data as a key -/
def kf : PyData → NestedKey
  | .int i => .num i
  | .bool b => .num (if b = true then 1 else 0)
  | .str x => .text x
  | .tuple xs => .tup (kfs xs)
  | _ => .none
def kfs : List PyData → List NestedKey
  | [] => []
  | x :: xs => kf x :: kfs xs
end
mutual
/-- no list, no dict in it -/
def hb : PyData → Bool
  | .tuple xs => hbs xs
  | .list _ => false
  | .dict _ => false
  | _ => true
def hbs : List PyData → Bool
  | [] => true
  | x :: xs => hb x && hbs xs
end
mutual
theorem reads_key {h : Heap} : ∀ {v : Value} {d : PyData} {as : List Addr}, Reads h v d as → hb d = true → NestedIs h (kf d) v
  | _, _, _, .none, _ => .none
  | _, _, _, .bool b, _ => .bool rfl
  | _, _, _, .int i t, _ => .int i t
  | _, _, _, .str x t, _ => .text x t
  | _, _, _, .tuple a b c r, g => .tup a b c (reads_keys r g)
  | _, _, _, .list _ _ _ _, g => by cases g
  | _, _, _, .dict _ _ _ _ _, g => by cases g
theorem reads_keys {h : Heap} : ∀ {vs : List Value} {ds : List PyData} {as : List Addr}, ReadsAll h vs ds as → hbs ds = true → NestedAll h (kfs ds) vs
  | _, _, _, .nil, _ => .nil
  | _, _, _, .cons r t, g => by
    have g := Bool.and_eq_true_iff.mp g
    exact .cons (reads_key r g.1) (reads_keys t g.2)
end
section
variable {P : Program} {w : World}
/-- of no class statement, n levels down -/
def Cls0 (P : Program) (w : World) (n : Nat) (s : Shared) (v : Value) : Prop := ∀ (A : Around) (E : Value → Shared → Prop) (Q : Bool → Shared → Prop), Q false s → wpAny (model P w) A (ofAClassStatement n v) Q E s
/-- whether its hash is by value is told, either way -/
def HvAt (P : Program) (w : World) (n : Nat) (s : Shared) (v : Value) : Prop := ∀ (A : Around) (E : Value → Shared → Prop) (Q : Bool → Shared → Prop), (∀ b, Q b s) → wpAny (model P w) A (hashByValue n v) Q E s
theorem cls_tup {n : Nat} {s : Shared} {a : Addr} {o : Obj} {vs : Array Value} {m : Nat} (g : s.heap.get? a = some o) (c : o.cls = .type "tuple") (d : o.data = .seq vs m) (each : ∀ v ∈ vs.toList, Cls0 P w n s v) : Cls0 P w (n + 1) s (.ref a) := fun A E Q q => by
  have ty : s.TypeIs (.ref a) "tuple" := ⟨o, g, c⟩
  unfold ofAClassStatement; refine wpAny_bind (wpAny_typeOf ty ?_); dsimp only
  simp only [show (("tuple" : String) == "tuple") = true by decide, if_true]
  try (refine wpAny_bind (wpAny_pure ?_))
  try simp only [Bool.not_true, Bool.false_eq_true, if_false]
  show wpAny _ _ (seqItems? (.ref a) >>= _) _ _ s; refine wpAny_bind (wpAny_seqItems g d ?_); dsimp only
  refine wpAny_bind ?_; show wpAny _ _ (forIn vs _ _) _ _ s; rw [← Array.forIn_toList]
  refine wpAny_forIn_list _ (fun l r z => (r.1 = none ∧ z = s) ∧ ∀ v ∈ l, Cls0 P w n s v) _ ?_ ?_ _ _ ⟨⟨rfl, rfl⟩, each⟩
  · rintro v l r z ⟨⟨e1, rfl⟩, all⟩
    refine wpAny_bind (all v List.mem_cons_self _ _ _ ?_); simp only [Bool.false_eq_true, if_false]
    exact wpAny_pure ⟨⟨rfl, rfl⟩, fun u hu => all u (List.mem_cons_of_mem _ hu)⟩
  · rintro ⟨r1, r2⟩ z ⟨⟨e1, rfl⟩, _⟩
    dsimp only at e1; subst e1
    exact wpAny_pure q
theorem hv_tup {n : Nat} {s : Shared} {a : Addr} {o : Obj} {vs : Array Value} {m : Nat} (g : s.heap.get? a = some o) (c : o.cls = .type "tuple") (d : o.data = .seq vs m) (each : ∀ v ∈ vs.toList, HvAt P w n s v) : HvAt P w (n + 1) s (.ref a) := fun A E Q q => by
  have ty : s.TypeIs (.ref a) "tuple" := ⟨o, g, c⟩
  unfold hashByValue; refine wpAny_bind (wpAny_specialOf ty F.slot_tuple_hash.lookup ?_)
  show wpAny _ _ (seqItems? (.ref a) >>= _) _ _ s; refine wpAny_bind (wpAny_seqItems g d ?_)
  refine wpAny_bind ?_; show wpAny _ _ (forIn vs _ _) _ _ s; rw [← Array.forIn_toList]
  refine wpAny_forIn_list _ (fun l r z => (r.1 = none ∧ z = s) ∧ ∀ v ∈ l, HvAt P w n s v) _ ?_ ?_ _ _ ⟨⟨rfl, rfl⟩, each⟩
  · rintro v l r z ⟨⟨e1, rfl⟩, all⟩
    refine wpAny_bind (all v List.mem_cons_self _ _ _ fun b => ?_)
    cases b with
    | true =>
      simp only [Bool.not_true, Bool.false_eq_true, if_false]
      exact wpAny_pure ⟨⟨rfl, rfl⟩, fun u hu => all u (List.mem_cons_of_mem _ hu)⟩
    | false =>
      simp only [Bool.not_false, if_true]
      exact wpAny_pure (wpAny_pure (q _))
  · rintro ⟨r1, r2⟩ z ⟨⟨e1, rfl⟩, _⟩
    dsimp only at e1; subst e1
    exact wpAny_pure (q _)
mutual
theorem cls_key : ∀ (k : NestedKey) (v : Value) (n : Nat) (s : Shared), NestedIs s.heap k v → k.depth ≤ n → Cls0 P w n s v ∧ HvAt P w n s v
  | .none, _, n, s, x, _ => by cases x; exact ⟨fun A E Q q => by cases n <;> exact wpAny_pure q, fun A E Q q => by cases n <;> exact wpAny_pure (q _)⟩
  | .num i, _, n, s, x, _ => by cases x <;> exact ⟨fun A E Q q => by cases n <;> exact wpAny_pure q, fun A E Q q => by cases n <;> exact wpAny_pure (q _)⟩
  | .text y, _, n, s, x, _ => by cases x; exact ⟨fun A E Q q => by cases n <;> exact wpAny_pure q, fun A E Q q => by cases n <;> exact wpAny_pure (q _)⟩
  | .tup ks, _, 0, s, x, hn => absurd hn (Nat.not_succ_le_zero _)
  | .tup ks, _, n + 1, s, x, hn => by
    cases x with
    | tup g c d r =>
      have e := cls_keys ks _ n s r (Nat.le_of_succ_le_succ hn)
      exact ⟨cls_tup g c d fun v h => (e v h).1, hv_tup g c d fun v h => (e v h).2⟩
theorem cls_keys : ∀ (ks : List NestedKey) (vs : List Value) (n : Nat) (s : Shared), NestedAll s.heap ks vs → NestedKey.depthAll ks ≤ n → ∀ v ∈ vs, Cls0 P w n s v ∧ HvAt P w n s v
  | [], _, n, s, x, _, v, h => by cases x; cases h
  | k :: ks, _, n, s, x, hn, v, h => by
    cases x with
    | cons x1 x2 =>
      have hn : max k.depth (NestedKey.depthAll ks) ≤ n := hn
      rcases List.mem_cons.mp h with e | h
      · rw [e]; exact cls_key k _ n s x1 (by omega)
      · exact cls_keys ks _ n s x2 (by omega) v h
end
/-- d stands at a, fit for a set -/
def In (h : Heap) (d : PyData) (a : Addr) : Prop := NestedIs h (kf d) (.ref a) ∧ (kf d).depth ≤ 8
theorem In.keep {h h' : Heap} {d : PyData} {a : Addr} (x : In h d a) (k : ∀ b o, h.get? b = some o → h'.get? b = some o) : In h' d a := ⟨NestedIs.at (fun b o _ _ e _ => k b o e) _ _ x.1, x.2⟩
theorem In.but {h h' : Heap} {d : PyData} {a b : Addr} {o : Obj} {es : Array (Int × Value)} {ep : Nat} {t : SetTable} (x : In h d b) (g : h.get? a = some o) (dt : o.data = .set es ep t) (sb : Heap.SameBut a h h') : In h' d b := by
  refine ⟨NestedIs.at (fun c u vs n e eu => ?_) _ _ x.1, x.2⟩
  refine (sb.2 c fun z => ?_).trans e
  subst z
  obtain rfl := Option.some.inj (g.symm.trans e)
  rw [dt] at eu
  cases eu
/-- a search among keys tells nothing -/
theorem unseen {A : Around} {E : Value → Shared → Prop} {s : Shared} {d : PyData} {b : Addr} {Q : Bool → Shared → Prop} (x : In s.heap d b) {ys : List Value} (all : ∀ y ∈ ys, ∃ d' c, y = Value.ref c ∧ In s.heap d' c) (q : Q false s) : wpAny (model P w) A (searchCouldBeSeen (.ref b) ys) Q E s := by
  unfold searchCouldBeSeen; refine wpAny_bind ?_
  refine wpAny_forIn_list _ (fun l r z => (r.1 = none ∧ z = s) ∧ ∀ y ∈ l, ∃ d' c, y = Value.ref c ∧ In s.heap d' c) _ ?_ ?_ _ _ ⟨⟨rfl, rfl⟩, all⟩
  · rintro v l r z ⟨⟨e1, rfl⟩, all⟩
    obtain ⟨d', c, rfl, xc⟩ := all v List.mem_cons_self
    have next : ∀ y ∈ l, ∃ d' c, y = Value.ref c ∧ In z.heap d' c := fun u hu => all u (List.mem_cons_of_mem _ hu)
    dsimp only
    by_cases same : (b == c || (carriedByValue (.ref b) && carriedByValue (.ref c))) = true
    · exact wp_if_pos same (wpAny_pure ⟨⟨rfl, rfl⟩, next⟩)
    · refine wp_if_neg same ?_
      refine wpAny_bind (quiet_key _ _ 8 _ x.1 x.2 _ _ _ ?_); simp only [Bool.not_true, Bool.false_eq_true, if_false]
      refine wpAny_bind (quiet_key _ _ 8 _ xc.1 xc.2 _ _ _ ?_); simp only [Bool.not_true, Bool.false_eq_true, if_false]
      refine wpAny_bind ((cls_key _ _ 8 _ x.1 x.2).1 _ _ _ ?_); simp only [Bool.false_eq_true, if_false]
      refine wpAny_bind ((cls_key _ _ 8 _ xc.1 xc.2).1 _ _ _ ?_); simp only [Bool.false_eq_true, if_false]
      exact wpAny_pure ⟨⟨rfl, rfl⟩, next⟩
  · rintro ⟨r1, r2⟩ z ⟨⟨e1, rfl⟩, _⟩
    dsimp only at e1; subst e1
    exact wpAny_pure q
end
end Ds

namespace Ds
open PySem PySem.Spec PyProof.Rows L2
abbrev Rw := Addr × PyData
/-- the hash of a row -/
abbrev rh (w : World) (p : Rw) : Int := (kf p.2).hash w
abbrev re (w : World) (p : Rw) : Int × Value := (rh w p, .ref p.1)
/-- at a stands a set of the rows L -/
structure Set_ (w : World) (h : Heap) (a : Addr) (L : List Rw) (es : Array (Int × Value)) (ep : Nat) (t : SetTable) : Prop where
  at_ : ∃ o, h.get? a = some o ∧ o.ExactSet ∧ o.data = .set es ep t
  es_ : es.toList = L.map (re w)
  ok : TabOk t (L.map (rh w))
  once : (L.map fun p => kf p.2).Nodup
  each : ∀ p ∈ L, In h p.2 p.1
  order : w.params.followText "set-order" = true ∨ t.led = true
  room : L.length * 5 < t.mask * 3
  few : L.length < 64
section
variable {P : Program} {w : World} {A : Around} {E : Value → Shared → Prop} {s : Shared} {a : Addr} {L : List Rw} {es : Array (Int × Value)} {ep : Nat} {t : SetTable}
theorem es_len {L : List Rw} (e : es.toList = L.map (re w)) : es.size = L.length := by
  have z := congrArg List.length e
  rwa [Array.length_toList, List.length_map] at z
theorem es_at {L : List Rw} (e : es.toList = L.map (re w)) (i : Nat) : es[i]? = (L[i]?).map (re w) := by
  rw [← Array.getElem?_toList, e, List.getElem?_map]
theorem fits_of {n : Nat} (d : t.dummies = #[]) (z : t.place.size = n) (m : n ≤ t.mask) : t.fits n = true := by
  unfold SetTable.fits SetTable.fill
  rw [d, Bool.and_eq_true, beq_iff_eq, decide_eq_true_eq]
  exact ⟨z, by show t.place.size + 0 ≤ _; omega⟩
theorem Set_.fits (R : Set_ w s.heap a L es ep t) : t.fits es.size = true := by
  have h1 := R.ok.sz
  have h2 := R.room
  rw [List.length_map] at h1
  rw [es_len R.es_]
  exact fits_of R.ok.dm h1 (by omega)
theorem not_gave (h : MaskOk t.mask) : ¬ t.gaveWay = true := by
  unfold SetTable.gaveWay
  rw [mask_odd h]
  decide
theorem nth_dum (m : Nat) : ∀ (n : Nat) (p : SetTable.Probe), p.dummy = none → (nth m p n).dummy = none
  | 0, _, h => h
  | n + 1, p, h => nth_dum m n (adv m p) (by unfold adv; split <;> exact h)
/-- the steps of the way of a hash -/
abbrev st (m : Nat) (h : Int) (c : Nat) : SetTable.Probe := nth m (runAt m (SetTable.bits h % (m + 1)) (SetTable.bits h)) c
theorem look (R : Set_ w s.heap a L es ep t) {x : Addr} {d : PyData} (hx : In s.heap d x) (hu : A.units + 8 < cLine) {K : Nat} (hf : K < 10 * SetTable.turns t.mask)
    (out_ : way t.mask ((kf d).hash w) K ∉ t.place.toList) (in_ : ∀ c, c < K → way t.mask ((kf d).hash w) c ∈ t.place.toList) {Q : SetFound → Shared → Prop}
    (yes : (∃ p : Rw, p ∈ L ∧ kf p.2 = kf d) → Q (.there none) s) (no : (∀ p : Rw, p ∈ L → kf p.2 ≠ kf d) → Q (.free (way t.mask ((kf d).hash w) K) false) s) :
    ∀ (f c : Nat) (stand : Option SetTable.Probe), stand.getD (t.probeStart ((kf d).hash w)) = st t.mask ((kf d).hash w) c → c ≤ K → K - c < f →
      (∀ (q i : Nat) (p : Rw), q < c → t.place.toList[i]? = some (way t.mask ((kf d).hash w) q) → L[i]? = some p → kf p.2 ≠ kf d) →
      wpAny (model P w) A (setSearchFrom a (.ref x) ((kf d).hash w) true f stand) Q E s
  | 0, _, _, _, _, l, _ => absurd l (Nat.not_lt_zero _)
  | f + 1, c, stand, e0, hc, l, before => by
    obtain ⟨o, go, ex, gd⟩ := R.at_
    have sz : t.place.size = L.length := by have z := R.ok.sz; rwa [List.length_map] at z
    rw [setSearchFrom_succ]; refine wpAny_bind (wpAny_setState_of go gd R.fits ?_); dsimp only
    refine wp_if_neg (not_gave R.ok.mok) ?_
    try (refine wpAny_bind (wpAny_pure ?_))
    have shift : ∀ q, nth t.mask (st t.mask ((kf d).hash w) c) q = st t.mask ((kf d).hash w) (c + q) := fun q => (nth_add _ _ _ _).symm
    have shj : ∀ q, (nth t.mask (st t.mask ((kf d).hash w) c) q).j = way t.mask ((kf d).hash w) (c + q) := fun q => congrArg (·.j) (shift q)
    have eK : c + (K - c) = K := Nat.add_sub_cancel' hc
    have hashes : ∀ (i : Nat) (p : Rw), L[i]? = some p → (es[i]?.map Prod.fst).getD 0 = rh w p := fun i p e => by rw [es_at R.es_, e]; rfl
    have found := go_spec t R.ok.ris R.ok.dm (fun i : Nat => (es[i]?.map Prod.fst).getD 0) ((kf d).hash w) (10 * SetTable.turns t.mask) (K - c) _ (nth_dum _ c _ rfl) (Nat.lt_of_le_of_lt (Nat.sub_le _ _) hf)
      (fun q hq => by rw [shj]; exact in_ _ (by omega)) (by rw [shj, eK]; exact out_)
    rcases found with ⟨q, i, hq, hi, hh, hno, hp⟩ | ⟨hno, hp⟩
    · have hp : t.probe (fun i : Nat => (es[i]?.map Prod.fst).getD 0) ((kf d).hash w) (stand.getD (t.probeStart ((kf d).hash w))) = some (.candidate (way t.mask ((kf d).hash w) (c + q)) i (st t.mask ((kf d).hash w) (c + (q + 1)))) := by
        rw [e0, ← shj, ← shift]; exact hp
      rw [shj] at hi
      obtain ⟨p, ep'⟩ : ∃ p, L[i]? = some p := by
        have z := (List.getElem?_eq_some_iff.mp hi).1
        rw [Array.length_toList, sz] at z
        exact ⟨_, List.getElem?_eq_getElem z⟩
      have mem := List.mem_of_getElem? ep'
      have ee : es[i]? = some (rh w p, .ref p.1) := by rw [es_at R.es_, ep']; rfl
      have live := slot_live R.ok.ris hi
      have go2 : wpAny (model P w) A (searchRest a (.ref x) ((kf d).hash w) true f es t (way t.mask ((kf d).hash w) (c + q)) i (st t.mask ((kf d).hash w) (c + (q + 1)))) Q E s := by
        unfold searchRest; rw [ee]; dsimp only
        refine wpAny_bind (wpAny_holding ((nestedKind P w).eqBool hu (R.each p mem) hx ?_)); refine wpAny_bind (wpAny_setState_of go gd R.fits ?_); dsimp only
        by_cases same : kf p.2 = kf d
        · exact wp_if_pos (by rw [decide_eq_true same]; rfl) (wpAny_pure (yes ⟨p, mem, same⟩))
        · refine wp_if_neg (by rw [decide_eq_false same]; decide) ?_
          try (refine wpAny_bind (wpAny_pure ?_))
          rw [sameMem]; dsimp only
          simp only [if_true, live, ee]
          refine wpAny_bind (wpAny_isSame_ref_self (wpAny_bind (wpAny_pure ?_))); simp only [if_true]
          refine wp_if_neg (by rw [decide_eq_false same]; decide) ?_
          refine look R hx hu hf out_ in_ yes no f (c + (q + 1)) _ rfl (by omega) (by omega) fun q' i' p' lt ei el => ?_
          rcases Nat.lt_trichotomy q' (c + q) with z | z | z
          · rcases Nat.lt_or_ge q' c with y | y
            · exact before q' i' p' y ei el
            · intro e
              refine hno (q' - c) i' (by omega) (by rw [shj, Nat.add_sub_cancel' y]; exact ei) ?_
              exact (hashes i' p' el).trans (congrArg (NestedKey.hash w) e)
          · have z2 := slot_live R.ok.ris ei
            rw [z, live] at z2
            injection z2 with z2
            rw [← z2, ep'] at el
            obtain rfl := Option.some.inj el
            exact same
          · omega
      rw [hp]; dsimp only
      by_cases led : t.led = true
      · refine wp_if_neg (by rw [led]; decide) ?_
        try (refine wpAny_bind (wpAny_pure ?_))
        exact go2
      · refine wp_if_pos (by rw [Bool.eq_false_iff.mpr led]; rfl) ?_
        refine wpAny_bind (unseen hx (fun y hy => ?_) ?_)
        · obtain ⟨e, he, rfl⟩ := List.mem_map.mp hy
          have he2 : e ∈ es.toList := by
            have z : e ∈ es ∧ e.1 = (kf d).hash w := by simpa using he
            simpa using z.1
          rw [R.es_] at he2
          obtain ⟨r, hr, rfl⟩ := List.mem_map.mp he2
          exact ⟨r.2, r.1, rfl, R.each r hr⟩
        · refine wp_if_neg (by decide) ?_
          try (refine wpAny_bind (wpAny_pure ?_))
          exact go2
    · have hp : t.probe (fun i : Nat => (es[i]?.map Prod.fst).getD 0) ((kf d).hash w) (stand.getD (t.probeStart ((kf d).hash w))) = some (.empty (way t.mask ((kf d).hash w) K) none) := by
        have z := shj (K - c)
        rw [eK] at z
        rw [e0, ← z]; exact hp
      rw [hp]; dsimp only
      refine wpAny_pure (no fun p hp2 e => ?_)
      obtain ⟨i, li, ei⟩ := List.getElem_of_mem hp2
      have el : L[i]? = some p := by rw [List.getElem?_eq_getElem li, ei]
      have eh : (L.map (rh w))[i]? = some ((kf d).hash w) := by rw [List.getElem?_map, el]; exact congrArg (fun z => some (NestedKey.hash w z)) e
      have ej := List.getElem?_eq_getElem (l := t.place.toList) (i := i) (by rw [Array.length_toList, sz]; exact li)
      obtain ⟨c', lc, ec⟩ := R.ok.before out_ eh ej
      rw [← ec] at ej
      rcases Nat.lt_or_ge c' c with z | z
      · exact before c' i p z ej el e
      · refine hno (c' - c) i (by omega) (by rw [shj, Nat.add_sub_cancel' z]; exact ej) ?_
        exact (hashes i p el).trans (congrArg (NestedKey.hash w) e)
end
end Ds

namespace Ds
open PySem PySem.Spec PyProof.Rows L2
theorem pick_all {α : Type} (l : List α) : (List.range l.length).filterMap (fun i => l[i]?) = l := by
  induction l with
  | nil => rfl
  | cons x l ih =>
    rw [List.length_cons, List.range_succ_eq_map, List.filterMap_cons_some (f := fun i => (x :: l)[i]?) (b := x) rfl, List.filterMap_map]
    exact congrArg (x :: ·) ih
theorem pick_map {α β : Type} (f : α → β) (l : List α) (order : List Nat) : order.filterMap (fun i => (l.map f)[i]?) = (order.filterMap fun i => l[i]?).map f := by
  induction order with
  | nil => rfl
  | cons i order ih =>
    cases e : l[i]? with
    | none =>
      rw [List.filterMap_cons_none (by rw [List.getElem?_map, e]; rfl), List.filterMap_cons_none e]
      exact ih
    | some x =>
      rw [List.filterMap_cons_some (b := f x) (by rw [List.getElem?_map, e]; rfl), List.filterMap_cons_some e, ih]
      rfl
theorem pick_getD {l : List Int} {order : List Nat} (h : ∀ i ∈ order, i < l.length) : (order.map fun i => l.toArray.getD i 0) = order.filterMap fun i => l[i]? := by
  induction order with
  | nil => rfl
  | cons i order ih =>
    have hi := h i List.mem_cons_self
    rw [List.filterMap_cons_some (List.getElem?_eq_getElem hi), List.map_cons, ih fun j hj => h j (List.mem_cons_of_mem _ hj)]
    congr 1
    simp [Array.getD, hi]
theorem put_in {α : Type} (l : List α) (n : Nat) (x : α) : (l.take n ++ x :: l.drop n).Perm (x :: l) := by
  have z : (l.take n ++ x :: l.drop n).Perm (x :: (l.take n ++ l.drop n)) := List.perm_middle
  rwa [List.take_append_drop] at z
/-- what adding does with the new table -/
def after (a : Addr) (es1 : Array (Int × Value)) (t2 : SetTable) (n : Nat) : Sem Bool := do
  storeSet a es1 t2
  if !false && t2.tooFull then setRelay a (SetTable.grown n)
  return true
section
variable {P : Program} {w : World} {A : Around} {E : Value → Shared → Prop} {s : Shared} {a : Addr} {L : List Rw} {es : Array (Int × Value)} {ep : Nat} {t : SetTable}
theorem relay {o : Obj} (go : s.heap.get? a = some o) (ex : o.ExactSet) (gd : o.data = .set es ep t) (e : es.toList = L.map (re w)) (sz : t.place.size = L.length) (dm : t.dummies = #[]) (le : L.length ≤ t.mask)
    (once : (L.map fun p => kf p.2).Nodup) (each : ∀ p ∈ L, In s.heap p.2 p.1) (order : w.params.followText "set-order" = true ∨ t.led = true) (few : L.length < 64) {wanted M : Nat}
    (hw : SetTable.sizeAbove wanted - 1 = M) (hM : MaskOk M) (h128 : SetTable.sizeAbove wanted ≤ 128) (room : L.length * 5 < M * 3) {Q : Unit → Shared → Prop}
    (q : ∀ h' L' es' ep' t', Heap.SameBut a s.heap h' → Set_ w h' a L' es' ep' t' → L'.Perm L → Q () { s with heap := h' }) : wpAny (model P w) A (setRelay a wanted) Q E s := by
  have len := es_len e
  have fit : t.fits es.size = true := by rw [len]; exact fits_of dm sz le
  have eh : es.map (·.1) = (L.map (rh w)).toArray := by
    apply Array.ext'
    rw [Array.toList_map, e, List.map_map]
    rfl
  obtain ⟨t', ord, r1, r2, r3, r4, r5, r6, r7⟩ := relaid_ok t (hs := es.map (·.1)) hw hM (by rw [Array.size_map, len]; omega)
  rw [Array.size_map, len] at r2
  have lt : ∀ i ∈ ord.toList, i < L.length := fun i hi => List.mem_range.mp (r2.mem_iff.mp hi)
  have pm : (ord.toList.filterMap fun i => L[i]?).Perm L := by
    have z := r2.filterMap fun i => L[i]?
    rwa [pick_all] at z
  have ee : (ord.filterMap (es[·]?)).toList = (ord.toList.filterMap fun i => L[i]?).map (re w) := by
    rw [← pick_map]
    have z : (ord.filterMap (es[·]?)).toList = ord.toList.filterMap (es[·]?) := by simp
    rw [z]
    congr 1
    funext i
    rw [es_at e, List.getElem?_map]
  have el : (ord.filterMap (es[·]?)).size = es.size := by rw [es_len ee, pm.length_eq, len]
  rw [eh, pick_getD (fun i hi => by rw [List.length_map]; exact lt i hi), pick_map] at r3
  generalize (ord.toList.filterMap fun i => L[i]?) = L2 at pm ee r3
  rw [setRelay_eq]; refine wpAny_bind (wpAny_setState_of go gd fit ?_); dsimp only
  refine wp_if_neg (by rw [sizeLine_eq]; omega) ?_
  try (refine wpAny_bind (wpAny_pure ?_))
  rw [r1]; dsimp only
  refine wpAny_bind ?_; refine wp_if_neg (by rw [el]; simp) ?_
  try (refine wpAny_bind (wpAny_pure ?_))
  refine wpAny_pure ?_; dsimp only
  generalize (ord.filterMap (es[·]?)) = es2 at ee el ⊢
  refine wpAny_storeSet_of go gd ?_ (by rw [el, len, sizeLine_eq]; omega)
  have sb : Heap.SameBut a s.heap (s.heap.update a (Obj.putSet es2 t')) := Heap.SameBut.update ..
  exact q _ L2 es2 (ep + 1) t' sb ⟨⟨_, store_at go gd, ⟨ex.1, ex.2.1, ex.2.2⟩, rfl⟩, ee, r3, (pm.map _).nodup_iff.mpr once, fun p hp => (each p (pm.mem_iff.mp hp)).but go gd sb, by rw [r5]; exact order, by rw [pm.length_eq, r4]; exact room, by rw [pm.length_eq]; exact few⟩ pm
/-- adding -/
theorem add (R : Set_ w s.heap a L es ep t) {x : Addr} {d : PyData} (hx : In s.heap d x) (hu : A.units + 8 < cLine) (few : L.length + 1 < 64) {Q : Bool → Shared → Prop}
    (q : ∀ b h' L' es' ep' t', Heap.SameBut a s.heap h' → Set_ w h' a L' es' ep' t' → ((∃ p : Rw, p ∈ L ∧ kf p.2 = kf d) ∧ L' = L ∨ L'.Perm ((x, d) :: L)) → Q b { s with heap := h' }) :
    wpAny (model P w) A (setAddHashed a (.ref x) ((kf d).hash w)) Q E s := by
  obtain ⟨o, go, ex, gd⟩ := R.at_
  have len := es_len R.es_
  have hroom := R.room
  have sz : t.place.size = L.length := by have z := R.ok.sz; rwa [List.length_map] at z
  obtain ⟨K, f1, f2, f3⟩ := R.ok.first (by rw [List.length_map]; omega) ((kf d).hash w)
  have small : K < 100000 := by
    have z : 10 * SetTable.turns t.mask ≤ 1420 := by
      unfold SetTable.turns
      rcases R.ok.mok with z | z | z <;> omega
    omega
  unfold setAddHashed; refine wpAny_holding ?_
  rw [show (100000 : Nat) = 99999 + 1 from rfl, setAddHashedIn_succ]; refine wpAny_bind (wpAny_setState_of go gd R.fits ?_); dsimp only
  refine wp_if_neg (by simp [byScan, Value.scannable]) ?_
  try (refine wpAny_bind (wpAny_pure ?_))
  refine wpAny_bind ?_
  unfold setSearch
  refine look R hx hu f1 f2 f3 (fun old => ?_) (fun new => ?_) 100000 0 none rfl (Nat.zero_le _) (by omega) (fun q i p lt => absurd lt (Nat.not_lt_zero _))
  · dsimp only
    exact wpAny_pure (q false s.heap L es ep t (Heap.SameBut.refl a s.heap) R (.inl ⟨old, rfl⟩))
  dsimp only; refine wpAny_bind (wpAny_setState_of go gd R.fits ?_); dsimp only
  obtain ⟨q1, q2, q3, q4, q5, q6, q7, q8, q9⟩ := R.ok.put f2 f3
  generalize t.put (way t.mask ((kf d).hash w) K) = pt at q1 q3 q4 q5 q6 q7 q8 q9 ⊢
  obtain ⟨t1, n⟩ := pt
  dsimp only at q1 q3 q4 q5 q6 q7 q8 q9 ⊢
  subst q1
  have pm := put_in L (SetTable.below t.place (way t.mask ((kf d).hash w) K)) (x, d)
  have e1 : (SetTable.insertAt es (SetTable.below t.place (way t.mask ((kf d).hash w) K)) ((kf d).hash w, Value.ref x)).toList = (L.take (SetTable.below t.place (way t.mask ((kf d).hash w) K)) ++ (x, d) :: L.drop (SetTable.below t.place (way t.mask ((kf d).hash w) K))).map (re w) := by
    rw [SetTable.toList_insertAt, R.es_, List.map_append, List.map_cons, List.map_take, List.map_drop]
  have e3 : (L.take (SetTable.below t.place (way t.mask ((kf d).hash w) K)) ++ (x, d) :: L.drop (SetTable.below t.place (way t.mask ((kf d).hash w) K))).map (rh w) = (L.map (rh w)).take (SetTable.below t.place (way t.mask ((kf d).hash w) K)) ++ (kf d).hash w :: (L.map (rh w)).drop (SetTable.below t.place (way t.mask ((kf d).hash w) K)) := by
    rw [List.map_append, List.map_cons, List.map_take, List.map_drop]
  rw [← e3] at q3
  generalize SetTable.insertAt es (SetTable.below t.place (way t.mask ((kf d).hash w) K)) ((kf d).hash w, Value.ref x) = es1 at e1 ⊢
  generalize L.take (SetTable.below t.place (way t.mask ((kf d).hash w) K)) ++ (x, d) :: L.drop (SetTable.below t.place (way t.mask ((kf d).hash w) K)) = L1 at pm e1 q3
  have len1 : L1.length = L.length + 1 := pm.length_eq
  have once1 : (L1.map fun p => kf p.2).Nodup := by
    refine (pm.map _).nodup_iff.mpr ?_
    rw [List.map_cons]
    refine List.nodup_cons.mpr ⟨fun z => ?_, R.once⟩
    obtain ⟨p, hp, e⟩ := List.mem_map.mp z
    exact new p hp e
  -- whatever is kept of "plain"
  suffices go1 : ∀ t2 : SetTable, t2.place = t1.place → t2.dummies = t1.dummies → t2.mask = t1.mask → t2.led = t1.led → t2.fill = t1.fill → t2.tooFull = t1.tooFull → TabOk t2 (L1.map (rh w)) →
      wpAny (model P w) A (after a es1 t2 (es.size + 1)) Q E s by
    have both : ∀ b : Bool, wpAny (model P w) A (after a es1 (if b then t1 else { t1 with plain := false }) (es.size + 1)) Q E s := fun b => by
      cases b with
      | true => exact go1 t1 rfl rfl rfl rfl rfl rfl q3
      | false => exact go1 { t1 with plain := false } rfl rfl rfl rfl rfl rfl ⟨q3.ris, q3.dm, q3.sz, q3.mok, q3.bd, q3.reach⟩
    by_cases pl : t1.plain = true
    · first
        | (refine wpAny_bind ?_; refine wp_if_pos pl ?_; refine (cls_key _ _ 8 _ hx.1 hx.2).2 _ _ _ fun b => ?_; exact both b)
        | (refine wp_if_pos pl (wpAny_bind ((cls_key _ _ 8 _ hx.1 hx.2).2 _ _ _ fun b => ?_)); exact both b)
    · first
        | (refine wpAny_bind ?_; refine wp_if_neg pl ?_; exact wpAny_pure (both true))
        | (refine wp_if_neg pl (wpAny_bind (wpAny_pure (both true))))
  intro t2 p1 p2 p3 p4 p5 p6 ok2
  unfold after
  refine wpAny_bind (wpAny_storeSet_of go gd ?_ (by rw [es_len e1, len1, sizeLine_eq]; omega))
  have sb : Heap.SameBut a s.heap (s.heap.update a (Obj.putSet es1 t2)) := Heap.SameBut.update ..
  have go2 := store_at (es' := es1) (t' := t2) go gd
  generalize s.heap.update a (Obj.putSet es1 t2) = h1 at sb go2 ⊢
  have each1 : ∀ p ∈ L1, In h1 p.2 p.1 := fun p hp => by
    rcases List.mem_cons.mp (pm.mem_iff.mp hp) with z | z
    · rw [z]; exact hx.but go gd sb
    · exact (R.each p z).but go gd sb
  have led1 : w.params.followText "set-order" = true ∨ t2.led = true := by rw [p4, q5]; exact R.order
  have fill1 : t2.tooFull = true ↔ (L.length + 1) * 5 ≥ t.mask * 3 := by
    unfold SetTable.tooFull
    rw [decide_eq_true_eq, p5, q9, p3, q4, List.length_map]
  by_cases full : t2.tooFull = true
  · have hfull := fill1.mp full
    have sz1 : t2.place.size = L1.length := by have z := ok2.sz; rwa [List.length_map] at z
    have m2 : t2.mask = t.mask := p3.trans q4
    have two : (t.mask = 7 ∧ L.length = 4) ∨ (t.mask = 31 ∧ L.length = 18) := by
      rcases R.ok.mok with z | z | z
      · exact .inl ⟨z, by omega⟩
      · exact .inr ⟨z, by omega⟩
      · omega
    have go3 : ∀ M, SetTable.sizeAbove (SetTable.grown (L.length + 1)) - 1 = M → MaskOk M → SetTable.sizeAbove (SetTable.grown (L.length + 1)) ≤ 128 → (L.length + 1) * 5 < M * 3 →
        wpAny (model P w) A (setRelay a (SetTable.grown (L.length + 1))) (fun _ z => wpAny (model P w) A (pure true) Q E z) E { s with heap := h1 } := fun M w1 w2 w3 w4 =>
      relay (s := { s with heap := h1 }) go2 ⟨ex.1, ex.2.1, ex.2.2⟩ rfl e1 sz1 ok2.dm (by rw [len1, m2]; omega) once1 each1 led1 (by omega) w1 w2 w3 (by rw [len1]; exact w4) fun h2 L2 es2 ep2 t3 sb2 R2 pm2 =>
        wpAny_pure (q true h2 L2 es2 ep2 t3 (sb.trans sb2) R2 (.inr (pm2.trans pm)))
    rw [len]
    first
      | (refine wpAny_bind ?_; refine wp_if_pos (by rw [full]; rfl) ?_)
      | (refine wp_if_pos (by rw [full]; rfl) ?_; refine wpAny_bind ?_)
    rcases two with ⟨_, z⟩ | ⟨_, z⟩
    · exact go3 31 (by rw [z, size_20]) (.inr (.inl rfl)) (by rw [z, size_20]; decide) (by omega)
    · exact go3 127 (by rw [z, size_76]) (.inr (.inr rfl)) (by rw [z, size_76]; decide) (by omega)
  · have hroom2 : ¬ (L.length + 1) * 5 ≥ t.mask * 3 := fun z => full (fill1.mpr z)
    first
      | refine wp_if_neg (by rw [Bool.eq_false_iff.mpr full]; decide) ?_
      | (refine wpAny_bind ?_; refine wp_if_neg (by rw [Bool.eq_false_iff.mpr full]; decide) ?_; refine wpAny_pure ?_)
    exact wpAny_pure (q true h1 L1 es1 (ep + 1) t2 sb ⟨⟨_, go2, ⟨ex.1, ex.2.1, ex.2.2⟩, rfl⟩, e1, ok2, once1, each1, led1, by rw [len1, p3, q4]; omega, by omega⟩ (.inr pm))
end
end Ds

namespace Ds
open PySem PySem.Spec PyProof.Rows L2
/-- what the set has of the first i items -/
structure Has (ks : List Rw) (i : Nat) (L : List Rw) : Prop where
  sub : ∀ p ∈ L, p ∈ ks.take i
  all : ∀ p ∈ ks.take i, ∃ r : Rw, r ∈ L ∧ kf r.2 = kf p.2
  len : L.length ≤ i
theorem take_one {α : Type} {l : List α} {i : Nat} {x : α} (h : l[i]? = some x) : l.take (i + 1) = l.take i ++ [x] := by
  rw [List.take_add_one, h]
  rfl
theorem has_none (ks : List Rw) : Has ks 0 [] := ⟨(fun p h => nomatch h), fun p h => (by rw [List.take_zero] at h; cases h), Nat.le_refl _⟩
theorem Has.next {ks L L' : List Rw} {i : Nat} {p : Rw} (g : Has ks i L) (e : ks[i]? = some p) (c : (∃ r : Rw, r ∈ L ∧ kf r.2 = kf p.2) ∧ L' = L ∨ L'.Perm (p :: L)) : Has ks (i + 1) L' := by
  have et := take_one e
  rcases c with ⟨⟨r, hr, er⟩, rfl⟩ | pm
  · refine ⟨fun z hz => by rw [et]; exact List.mem_append_left _ (g.sub z hz), fun z hz => ?_, Nat.le_succ_of_le g.len⟩
    rw [et] at hz
    rcases List.mem_append.mp hz with y | y
    · exact g.all z y
    · rw [List.mem_singleton.mp y]; exact ⟨r, hr, er⟩
  · refine ⟨fun z hz => ?_, fun z hz => ?_, by rw [pm.length_eq]; exact Nat.succ_le_succ g.len⟩
    · rw [et]
      rcases List.mem_cons.mp (pm.mem_iff.mp hz) with y | y
      · rw [y]; exact List.mem_append_right _ List.mem_cons_self
      · exact List.mem_append_left _ (g.sub z y)
    · rw [et] at hz
      rcases List.mem_append.mp hz with y | y
      · obtain ⟨r, hr, er⟩ := g.all z y
        exact ⟨r, pm.mem_iff.mpr (List.mem_cons_of_mem _ hr), er⟩
      · rw [List.mem_singleton.mp y]; exact ⟨p, pm.mem_iff.mpr List.mem_cons_self, rfl⟩
section
variable {P : Program} {w : World} {A : Around} {E : Value → Shared → Prop} {s : Shared}
theorem Set_.moved {h h' : Heap} {a : Addr} {L : List Rw} {es : Array (Int × Value)} {ep : Nat} {t : SetTable} (R : Set_ w h a L es ep t) (ka : ∀ o, h.get? a = some o → h'.get? a = some o) (each : ∀ p ∈ L, In h' p.2 p.1) : Set_ w h' a L es ep t := by
  obtain ⟨o, g, r⟩ := R.at_
  exact { R with at_ := ⟨o, ka o g, r⟩, each := each }
theorem set_fresh {h : Heap} {a : Addr} (g : h.get? a = some (newSet w)) : Set_ w h a [] #[] 0 (.fresh 0 0 (!w.params.followText "set-order")) where
  at_ := ⟨_, g, ⟨rfl, rfl, rfl⟩, rfl⟩
  es_ := rfl
  ok := ⟨List.Pairwise.nil, rfl, rfl, .inl rfl, (fun x hx => by cases hx), fun i h j hi => (by rw [List.map_nil, List.getElem?_nil] at hi; cases hi)⟩
  once := List.nodup_nil
  each := fun p h => nomatch h
  order := by
    cases e : w.params.followText "set-order" with
    | true => exact .inl rfl
    | false => exact .inr rfl
  room := by show 0 * 5 < 7 * 3; decide
  few := by show 0 < 64; decide
/-- the loop that fills it -/
theorem loop {I : Addr} {fp wr : List Addr} {G : Array GenState → Array GenState → Prop} {n : Nat} {Pv : Nat → Value → Prop} {St : Nat → Shared → Prop} {R : Result → Shared → Prop} (W : WalksS P w A.in1 I fp wr G n Pv St)
    (S : Addr) (hS : S ∉ fp) (ks : List Rw) (hn : n = ks.length) (few : ks.length < 64) (val : ∀ i v, Pv i v → ∃ p, ks[i]? = some p ∧ v = .ref p.1) (h0 : Heap) (hk : ∀ p ∈ ks, In h0 p.2 p.1) (g0 : h0.get? S = none) (w0 : ∀ b ∈ wr, h0.get? b = none) (hu : A.in1.units + 8 < cLine)
    (q : ∀ z L es ep t, Moved (S :: wr) G s z → Set_ w z.heap S L es ep t → Has ks n L → (∀ b o, h0.get? b = some o → z.heap.get? b = some o) → R (.ok (.ret .none)) z) :
    ∀ (j i : Nat) (z : Shared), n - i = j → i ≤ n → St i z → Moved (S :: wr) G s z → (∀ b o, h0.get? b = some o → z.heap.get? b = some o) → (∃ L es ep t, Set_ w z.heap S L es ep t ∧ Has ks i L) →
      codeAny (model P w) A (.builtin "set.update.loop" ⟨[.ref S, .ref I], []⟩) R z := by
  have nS : S ∉ wr := fun h => hS (W.sub _ h)
  have up : ∀ b ∈ wr, b ∈ S :: wr := fun b h => List.mem_cons_of_mem _ h
  have stay : ∀ {z z' : Shared}, Moved wr G z z' → (∀ b o, h0.get? b = some o → z.heap.get? b = some o) → ∀ b o, h0.get? b = some o → z'.heap.get? b = some o := fun m k b o e =>
    m.heap b o (fun z => by rw [w0 b z] at e; cases e) (k b o e)
  intro j
  induction j with
  | zero =>
    intro i z hj hi hst mv kp ⟨L, es, ep, t, T, g⟩
    obtain rfl : i = n := by omega
    refine codeAny_builtin F.entry_set_update_loop ?_; rw [Around.under_plainId F.plain_set_update_loop _]
    show wpAny _ A.in1 (pyNext (.ref I) >>= _) _ _ z; refine wpAny_bind (W.done z _ _ hst fun z' m => ?_)
    have kp' := stay m kp
    have T' : Set_ w z'.heap S L es ep t := T.moved (fun o e => m.heap S o nS e) fun p hp => (hk p (List.mem_of_mem_take (g.sub p hp))).keep kp'
    exact wpAny_pure (q z' L es ep t (mv.trans W.gtrans (m.mono up)) T' g kp')
  | succ j ih =>
    intro i z hj hi hst mv kp ⟨L, es, ep, t, T, g⟩
    have lt : i < n := by omega
    refine codeAny_builtin F.entry_set_update_loop ?_; rw [Around.under_plainId F.plain_set_update_loop _]
    show wpAny _ A.in1 (pyNext (.ref I) >>= _) _ _ z; refine wpAny_bind (W.item i z _ _ lt hst fun v z' hP hst' m => ?_)
    obtain ⟨p, ep', rfl⟩ := val i v hP
    have kp' := stay m kp
    have T' : Set_ w z'.heap S L es ep t := T.moved (fun o e => m.heap S o nS e) fun p hp => (hk p (List.mem_of_mem_take (g.sub p hp))).keep kp'
    have hx : In z'.heap p.2 p.1 := (hk p (List.mem_of_getElem? ep')).keep kp'
    show wpAny _ A.in1 (holding [Value.ref p.1] (setAdd S (.ref p.1)) >>= _) _ _ z'; refine wpAny_bind (wpAny_holding ?_)
    unfold setAdd; refine wpAny_holding ?_
    refine wpAny_bind ((nestedKind P w).pyHash hu hx ?_)
    refine add (s := { z' with toks := z'.toks + (kf p.2).draws }) T' hx hu (by have := g.len; omega) fun b h' L' es' ep2 t' sb T2 c => ?_
    have kp2 : ∀ b o, h0.get? b = some o → h'.get? b = some o := fun b o e => (sb.2 b (fun y => by rw [y, g0] at e; cases e)).trans (kp' b o e)
    refine wpAny_pure ⟨plainId_quiet F.plain_set_update_loop _, ih (i + 1) _ (by omega) lt (W.frame _ z' _ _ hst' (Nat.le_add_right _ _) fun b hb o e => ?_) ?_ kp2 ⟨L', es', ep2, t', T2, g.next ep' c⟩⟩
    · rw [sb.2 b fun y : b = S => hS (y ▸ hb)]; exact e
    · refine mv.trans W.gtrans ((m.mono up).then_heap (Nat.le_add_right _ _) fun b o nb e => ?_)
      rw [sb.2 b fun y : b = S => nb (y ▸ List.mem_cons_self)]; exact e
end
end Ds

namespace Ds
open PySem PySem.Spec PyProof.Rows L2
section
variable {P : Program} {w : World} {A : Around} {E : Value → Shared → Prop} {s : Shared} {l : Addr} {its : Array Value} {ks : List Rw}
theorem nowhere {h : Heap} {b : Addr} (z : h.objs.size ≤ b) : h.get? b = none := by
  cases e : h.get? b with
  | none => rfl
  | some o => exact absurd (Nat.lt_of_lt_of_le (Heap.lt_size e) z) (Nat.lt_irrefl _)
/-- the new set is filled -/
theorem fill {Q : Value → Shared → Prop} (hd : A.handled = none) (hl : s.heap.IsList l its) (hi : its.toList = ks.map fun p => Value.ref p.1) (hk : ∀ p ∈ ks, In s.heap p.2 p.1) (few : ks.length < 64) (hu : A.units + 16 < cLine)
    (q : ∀ (h' : Heap) (tk : Nat) L es ep t, Set_ w h' s.heap.objs.size L es ep t → Has ks ks.length L → (∀ b o, s.heap.get? b = some o → h'.get? b = some o) → Q .none { s with heap := h', toks := tk }) :
    codeAny (model P w) A (.call (.builtin "set.__init__") ⟨[.ref s.heap.objs.size, .ref l], []⟩) (wants Q E) { s with heap := withSet w s.heap } := by
  have here : (withSet w s.heap).get? s.heap.objs.size = some (newSet w) := Heap.get?_push_size _ rfl
  have ty : Shared.TypeIs { s with heap := withSet w s.heap } (.ref s.heap.objs.size) "set" := ⟨_, here, rfl⟩
  have len : its.size = ks.length := by
    have z := congrArg List.length hi
    rwa [Array.length_toList, List.length_map] at z
  refine codeAny_call_builtin F.called_set.init.plain F.entry_set_init (check_set_init_1 ty ?_)
  obtain ⟨⟨cls, dict, data, slots⟩, hol, hc, n, hdt⟩ := hl
  dsimp only at hc hdt
  subst hc hdt
  have old : (withSet w s.heap).get? l = some { cls := .type "list", dict := dict, data := .seq its n, slots := slots } := Heap.get?_push_of_some _ hol
  have f1 := F.sub_list_set
  have f2 := F.sub_list_frozenset
  have f3 : (Value.type "list" == Value.type "dict") = false := by decide
  have il : (withSet w s.heap).IsList l its := ⟨_, old, rfl, n, rfl⟩
  have lt : l < s.heap.objs.size := Heap.lt_size hol
  have sz : (withSet w s.heap).objs.size = s.heap.objs.size + 1 := Heap.size_push ..
  unfold Builtin.«set.__init__» noKeywords Builtin.Frozenset.updateFrom
  generalize hI : pyIter = I
  wp_walk
  subst hI
  refine wpAny_pyIter_list il (wpAny_bind (wpAny_runValue ?_))
  have hd3 : A.in1.in1.handled = none := by simp [hd]
  have n1 : l ≠ (withSet w s.heap).objs.size := by rw [sz]; exact Nat.ne_of_lt (Nat.lt_succ_of_lt lt)
  have n2 : s.heap.objs.size ∉ [(withSet w s.heap).objs.size, l] := by
    intro z
    rcases List.mem_cons.mp z with z | z
    · rw [sz] at z; exact absurd z (Nat.ne_of_lt (Nat.lt_succ_self _))
    · have : s.heap.objs.size = l := by simpa using z
      exact absurd this (Nat.ne_of_gt lt)
  have val : ∀ (i : Nat) (v : Value), its[i]? = some v → ∃ p, ks[i]? = some p ∧ v = .ref p.1 := by
    intro i v e
    rw [← Array.getElem?_toList, hi, List.getElem?_map] at e
    cases e2 : ks[i]? with
    | none => rw [e2] at e; cases e
    | some p => rw [e2] at e; exact ⟨p, rfl, (Option.some.inj e).symm⟩
  refine loop (Walks.list hd3 _ l n1 its).toS s.heap.objs.size n2 ks len few val s.heap hk (nowhere (Nat.le_refl _)) (fun b hb => nowhere (by rw [List.mem_singleton.mp hb, sz]; exact Nat.le_succ _)) (by show _ + 8 < cLine; simp only [Around.in1_units]; omega) ?_ (its.size - 0) 0 _ (by omega) (Nat.zero_le _) ⟨⟨_, Heap.get?_push_size _ rfl, rfl, rfl⟩, il.push _⟩
    (Moved.refl fun _ => rfl) (fun b o e => Heap.get?_push_of_some _ (Heap.get?_push_of_some _ e)) ⟨[], #[], 0, _, set_fresh (Heap.get?_push_of_some _ here), has_none ks⟩
  rintro ⟨h', g2, d2, tk, os⟩ L es ep t mv T g kp
  obtain rfl : g2 = s.gens := mv.gens
  obtain rfl : d2 = s.drawn := mv.drawn
  obtain rfl : os = s.os := mv.os
  rw [len] at g
  show wpAny _ _ _ _ _ _
  refine wpAny_pure ?_
  show wpAny _ _ (ret Value.none) _ _ _
  exact wpAny_pure (q h' tk L es ep t T g kp)
/-- set(xs) -/
theorem call_set {Q : Value → Shared → Prop} (hd : A.handled = none) (hl : s.heap.IsList l its) (hi : its.toList = ks.map fun p => Value.ref p.1) (hk : ∀ p ∈ ks, In s.heap p.2 p.1) (few : ks.length < 64) (hu : A.units + 20 < cLine)
    (h : ∀ (h' : Heap) (tk : Nat) L es ep t, Set_ w h' s.heap.objs.size L es ep t → Has ks ks.length L → (∀ b o, s.heap.get? b = some o → h'.get? b = some o) → Q (.ref s.heap.objs.size) { s with heap := h', toks := tk }) :
    wpAny (model P w) A (call (.type "set") [.ref l]) Q E s := by
  obtain ⟨c, tl, g1⟩ := F.called_set.mro
  have g2 := F.called_set.made
  have g3 := F.called_set.sub
  have g4 := F.called_set.notType
  have g5 := F.called_set.canCreate
  have g6 := F.typeCall_set_1 (.ref l)
  have g7 := F.called_set.init.lookup
  refine wpAny_call (codeAny_of_tree (wpAny_pure ⟨Code.quiet_builtin _ (by decide +kernel), codeAny_builtin F.entry_type_call ?_⟩))
  rw [Around.under_plain (weight_type_call_type "set" [.ref l] []) rfl]
  repeat (any_goals (first | assumption | wp_step))
  refine codeAny_mono (code_set_led1 (.ref l) (E := E) (Q₁ := fun x s1 => x = .ref s.heap.objs.size ∧ s1 = { s with heap := withSet w s.heap }) ⟨rfl, rfl⟩) fun r s1 z => ?_
  match r, z with
  | .error e, z => exact z
  | .ok .next, z => exact z.elim
  | .ok .brk, z => exact z.elim
  | .ok .cont, z => exact z.elim
  | .ok (.ret v), ⟨e1, e2⟩ =>
    subst e1 e2
    have here : (withSet w s.heap).get? s.heap.objs.size = some (newSet w) := Heap.get?_push_size _ rfl
    have ty : Shared.TypeIs { s with heap := withSet w s.heap } (.ref s.heap.objs.size) "set" := ⟨_, here, rfl⟩
    have g8 := F.called_set.init.bind (.ref s.heap.objs.size)
    repeat (any_goals (first | assumption | wp_step))
    refine codeAny_mono (fill (E := E) (Q := fun x s2 => x = .none ∧ ∃ h' tk L es ep t, s2 = { s with heap := h', toks := tk } ∧ Set_ w h' s.heap.objs.size L es ep t ∧ Has ks ks.length L ∧ ∀ b o, s.heap.get? b = some o → h'.get? b = some o) (by simp [hd]) hl hi hk few (by simp only [Around.in1_units]; omega)
      fun h' tk L es ep t R hc k => ⟨rfl, h', tk, L, es, ep, t, rfl, R, hc, k⟩) fun r2 s2 z2 => ?_
    match r2, z2 with
    | .error e, z2 => exact z2
    | .ok .next, z2 => exact z2.elim
    | .ok .brk, z2 => exact z2.elim
    | .ok .cont, z2 => exact z2.elim
    | .ok (.ret x), ⟨e1, h', tk, L, es, ep, t, e2, R, hc, k⟩ =>
      subst e1 e2
      repeat (any_goals (first | assumption | wp_step))
      exact h h' tk L es ep t R hc k
end
end Ds

namespace Ds
open PySem PySem.Spec PyProof.Rows L2
mutual
theorem kf_one : ∀ {x y : PyData}, PySem.W.alike x y = true → hb x = true → kf x = kf y → x = y
  | .none, .none, _, _, _ => rfl
  | .bool b, .bool c, _, _, e => by
    cases b <;> cases c
    · rfl
    · exact absurd (NestedKey.num.inj e) (by decide)
    · exact absurd (NestedKey.num.inj e) (by decide)
    · rfl
  | .int i, .int j, _, _, e => by rw [NestedKey.num.inj e]
  | .str x, .str y, _, _, e => by rw [NestedKey.text.inj e]
  | .tuple xs, .tuple ys, a, g, e => by rw [kfs_one (show PySem.W.alikeAll xs ys = true from a) (show hbs xs = true from g) (NestedKey.tup.inj e)]
  | .list _, _, _, g, _ => by cases g
  | .dict _, _, _, g, _ => by cases g
  | .none, .bool _, a, _, _ | .none, .int _, a, _, _ | .none, .str _, a, _, _ | .none, .list _, a, _, _ | .none, .tuple _, a, _, _ | .none, .dict _, a, _, _ => by simp [PySem.W.alike] at a
  | .bool _, .none, a, _, _ | .bool _, .int _, a, _, _ | .bool _, .str _, a, _, _ | .bool _, .list _, a, _, _ | .bool _, .tuple _, a, _, _ | .bool _, .dict _, a, _, _ => by simp [PySem.W.alike] at a
  | .int _, .none, a, _, _ | .int _, .bool _, a, _, _ | .int _, .str _, a, _, _ | .int _, .list _, a, _, _ | .int _, .tuple _, a, _, _ | .int _, .dict _, a, _, _ => by simp [PySem.W.alike] at a
  | .str _, .none, a, _, _ | .str _, .bool _, a, _, _ | .str _, .int _, a, _, _ | .str _, .list _, a, _, _ | .str _, .tuple _, a, _, _ | .str _, .dict _, a, _, _ => by simp [PySem.W.alike] at a
  | .tuple _, .none, a, _, _ | .tuple _, .bool _, a, _, _ | .tuple _, .int _, a, _, _ | .tuple _, .str _, a, _, _ | .tuple _, .list _, a, _, _ | .tuple _, .dict _, a, _, _ => by simp [PySem.W.alike] at a
theorem kfs_one : ∀ {xs ys : List PyData}, PySem.W.alikeAll xs ys = true → hbs xs = true → kfs xs = kfs ys → xs = ys
  | [], [], _, _, _ => rfl
  | [], _ :: _, _, _, e => nomatch e
  | _ :: _, [], _, _, e => nomatch e
  | x :: xs, y :: ys, a, g, e => by
    have a := Bool.and_eq_true_iff.mp (show (PySem.W.alike x y && PySem.W.alikeAll xs ys) = true from a)
    have g := Bool.and_eq_true_iff.mp (show (hb x && hbs xs) = true from g)
    have e := List.cons.inj (show kf x :: kfs xs = kf y :: kfs ys from e)
    rw [kf_one a.1 g.1 e.1, kfs_one a.2 g.2 e.2]
end
mutual
theorem toks_one : ∀ {x y : PyData} {l m : List (Int ⊕ List Nat)}, PySem.W.alike x y = true → hb x = true → PySem.W.keyToks x ++ l = PySem.W.keyToks y ++ m → x = y ∧ l = m
  | .none, .none, _, _, _, _, e => ⟨rfl, e⟩
  | .bool b, .bool c, _, _, _, _, e => by
    have e := List.cons.inj e
    have e1 := Sum.inl.inj e.1
    refine ⟨?_, e.2⟩
    cases b <;> cases c
    · rfl
    · exact absurd e1 (by decide)
    · exact absurd e1 (by decide)
    · rfl
  | .int i, .int j, _, _, _, _, e => by
    have e := List.cons.inj e
    exact ⟨by rw [Sum.inl.inj e.1], e.2⟩
  | .str x, .str y, _, _, _, _, e => by
    have e := List.cons.inj e
    exact ⟨by rw [PySem.W.str_of_cps (Sum.inr.inj e.1)], e.2⟩
  | .tuple xs, .tuple ys, l, m, a, g, e => by
    obtain ⟨h1, h2⟩ := tokss_one (show PySem.W.alikeAll xs ys = true from a) (show hbs xs = true from g) e
    exact ⟨by rw [h1], h2⟩
  | .list _, _, _, _, _, g, _ => by cases g
  | .dict _, _, _, _, _, g, _ => by cases g
  | .none, .bool _, _, _, a, _, _ | .none, .int _, _, _, a, _, _ | .none, .str _, _, _, a, _, _ | .none, .list _, _, _, a, _, _ | .none, .tuple _, _, _, a, _, _ | .none, .dict _, _, _, a, _, _ => by simp [PySem.W.alike] at a
  | .bool _, .none, _, _, a, _, _ | .bool _, .int _, _, _, a, _, _ | .bool _, .str _, _, _, a, _, _ | .bool _, .list _, _, _, a, _, _ | .bool _, .tuple _, _, _, a, _, _ | .bool _, .dict _, _, _, a, _, _ => by simp [PySem.W.alike] at a
  | .int _, .none, _, _, a, _, _ | .int _, .bool _, _, _, a, _, _ | .int _, .str _, _, _, a, _, _ | .int _, .list _, _, _, a, _, _ | .int _, .tuple _, _, _, a, _, _ | .int _, .dict _, _, _, a, _, _ => by simp [PySem.W.alike] at a
  | .str _, .none, _, _, a, _, _ | .str _, .bool _, _, _, a, _, _ | .str _, .int _, _, _, a, _, _ | .str _, .list _, _, _, a, _, _ | .str _, .tuple _, _, _, a, _, _ | .str _, .dict _, _, _, a, _, _ => by simp [PySem.W.alike] at a
  | .tuple _, .none, _, _, a, _, _ | .tuple _, .bool _, _, _, a, _, _ | .tuple _, .int _, _, _, a, _, _ | .tuple _, .str _, _, _, a, _, _ | .tuple _, .list _, _, _, a, _, _ | .tuple _, .dict _, _, _, a, _, _ => by simp [PySem.W.alike] at a
theorem tokss_one : ∀ {xs ys : List PyData} {l m : List (Int ⊕ List Nat)}, PySem.W.alikeAll xs ys = true → hbs xs = true → PySem.W.keyToksAll xs ++ l = PySem.W.keyToksAll ys ++ m → xs = ys ∧ l = m
  | [], [], _, _, _, _, e => ⟨rfl, (List.cons.inj e).2⟩
  | [], _ :: _, _, _, _, _, e => absurd (Sum.inl.inj (List.cons.inj e).1) (by decide)
  | _ :: _, [], _, _, _, _, e => absurd (Sum.inl.inj (List.cons.inj e).1) (by decide)
  | x :: xs, y :: ys, l, m, a, g, e => by
    have a := Bool.and_eq_true_iff.mp (show (PySem.W.alike x y && PySem.W.alikeAll xs ys) = true from a)
    have g := Bool.and_eq_true_iff.mp (show (hb x && hbs xs) = true from g)
    have e : (PySem.W.keyToks x ++ PySem.W.keyToksAll xs) ++ l = (PySem.W.keyToks y ++ PySem.W.keyToksAll ys) ++ m := (List.cons.inj e).2
    rw [List.append_assoc, List.append_assoc] at e
    obtain ⟨h1, h2⟩ := toks_one a.1 g.1 e
    obtain ⟨h3, h4⟩ := tokss_one a.2 g.2 h2
    exact ⟨by rw [h1, h3], h4⟩
end
open Dl in
theorem dle_anti {x y : PyData} (a : PySem.W.alike x y = true) (g : hb x = true) (h1 : dLe x y = true) (h2 : dLe y x = true) : x = y := by
  have e1 : (!PySem.W.dataLt y x) = true := h1
  have e2 : (!PySem.W.dataLt x y) = true := h2
  rw [Bool.not_eq_true'] at e1 e2
  have e := lex_total _ _ e2 e1
  exact (toks_one (l := []) (m := []) a g (by rw [e])).1
open Dl in
theorem dle_trans (x y z : PyData) (h1 : dLe x y = true) (h2 : dLe y z = true) : dLe x z = true := by
  have e1 : (!PySem.W.dataLt y x) = true := h1
  have e2 : (!PySem.W.dataLt z y) = true := h2
  show (!PySem.W.dataLt z x) = true
  rw [Bool.not_eq_true'] at e1 e2 ⊢
  cases e : PySem.W.dataLt z x with
  | false => rfl
  | true =>
    rcases lex_negTrans _ (PySem.W.keyToks y) _ e with c | c
    · exact absurd (c.symm.trans e2) (by decide)
    · exact absurd (c.symm.trans e1) (by decide)
open Dl in
theorem dle_total (x y : PyData) : (dLe x y || dLe y x) = true := by
  show ((!PySem.W.dataLt y x) || (!PySem.W.dataLt x y)) = true
  cases e : PySem.W.dataLt y x with
  | false => rfl
  | true =>
    cases e2 : PySem.W.dataLt x y with
    | false => rfl
    | true => exact absurd ((lex_trans _ _ _ e e2).symm.trans (lex_irrefl _)) (by decide)
open Dl in
/-- what is sorted, each once, is told by its members -/
theorem sorted_one : ∀ {xs ys : List PyData}, PySem.W.AllAlike xs → (∀ x ∈ xs, hb x = true) → xs.Nodup → ys.Nodup → xs.Pairwise (fun a b => dLe a b = true) → ys.Pairwise (fun a b => dLe a b = true) → (∀ z, z ∈ xs ↔ z ∈ ys) → xs = ys
  | [], [], _, _, _, _, _, _, _ => rfl
  | [], y :: ys, _, _, _, _, _, _, h => absurd ((h y).mpr List.mem_cons_self) List.not_mem_nil
  | x :: xs, [], _, _, _, _, _, _, h => absurd ((h x).mp List.mem_cons_self) List.not_mem_nil
  | x :: xs, y :: ys, al, gb, n1, n2, p1, p2, h => by
    obtain ⟨a1, a2⟩ := List.nodup_cons.mp n1
    obtain ⟨b1, b2⟩ := List.nodup_cons.mp n2
    obtain ⟨c1, c2⟩ := List.pairwise_cons.mp p1
    obtain ⟨d1, d2⟩ := List.pairwise_cons.mp p2
    have ym : y ∈ x :: xs := (h y).mpr List.mem_cons_self
    have e : x = y := by
      rcases List.mem_cons.mp ym with z | z
      · exact z.symm
      · rcases List.mem_cons.mp ((h x).mp List.mem_cons_self) with z2 | z2
        · exact z2
        · exact dle_anti (al x List.mem_cons_self y ym) (gb x List.mem_cons_self) (c1 y z) (d1 x z2)
    subst e
    rw [sorted_one (fun a ha b hb' => al a (List.mem_cons_of_mem _ ha) b (List.mem_cons_of_mem _ hb')) (fun a ha => gb a (List.mem_cons_of_mem _ ha)) a2 b2 c2 d2 fun z => ⟨fun hz => ?_, fun hz => ?_⟩]
    · rcases List.mem_cons.mp ((h z).mp (List.mem_cons_of_mem _ hz)) with q | q
      · rw [q] at hz; exact absurd hz a1
      · exact q
    · rcases List.mem_cons.mp ((h z).mpr (List.mem_cons_of_mem _ hz)) with q | q
      · rw [q] at hz; exact absurd hz b1
      · exact q
end Ds

namespace Ds
open PySem PySem.Spec PyProof.Rows L2
theorem perm_pre {α β : Type} {f : α → β} {out M : List β} (h : out.Perm M) : ∀ {L : List α}, M = L.map f → ∃ L' : List α, out = L'.map f ∧ L'.Perm L := by
  induction h with
  | nil =>
    intro L e
    cases L with
    | nil => exact ⟨[], rfl, .nil⟩
    | cons x L => cases e
  | cons x h ih =>
    intro L e
    cases L with
    | nil => cases e
    | cons y L =>
      rw [List.map_cons] at e
      obtain ⟨e1, e2⟩ := List.cons.inj e
      obtain ⟨L', g1, g2⟩ := ih e2
      exact ⟨y :: L', by rw [g1, e1]; rfl, g2.cons y⟩
  | swap x y l =>
    intro L e
    match L, e with
    | a :: b :: L, e =>
      rw [List.map_cons, List.map_cons] at e
      obtain ⟨e1, e2⟩ := List.cons.inj e
      obtain ⟨e3, e4⟩ := List.cons.inj e2
      exact ⟨b :: a :: L, by rw [e1, e3, e4]; rfl, List.Perm.swap a b L⟩
  | trans h1 h2 ih1 ih2 =>
    intro L e
    obtain ⟨L1, g1, g2⟩ := ih2 e
    obtain ⟨L2, g3, g4⟩ := ih1 g1
    exact ⟨L2, g3, g4.trans g2⟩
theorem each_rows {L : List Rw} : ∀ {L' : List Rw}, (∀ r ∈ L', r ∈ L) → PySem.W.EachIs (fun (v : Value) (d : PyData) => ∃ r : Rw, r ∈ L ∧ v = .ref r.1 ∧ d = r.2) (L'.map fun r => Value.ref r.1) (L'.map (·.2))
  | [], _ => .nil
  | r :: L', h => .cons ⟨r, h r List.mem_cons_self, rfl, rfl⟩ (each_rows fun z hz => h z (List.mem_cons_of_mem _ hz))
section
variable {P : Program} {w : World} {A : Around} {E : Value → Shared → Prop} {s : Shared} {a : Addr} {L : List Rw} {es : Array (Int × Value)} {ep : Nat} {t : SetTable}
theorem sorted_set {Q : Value → Shared → Prop} (R : Set_ w s.heap a L es ep t) (rd : ∀ p ∈ L, Reads s.heap (.ref p.1) p.2 []) (hh : A.handled = none) (al : PySem.W.AllAlike (L.map (·.2))) (so : PySem.W.Sortable (L.map (·.2))) (hu : A.units + 64 < cLine) (dep : ∀ p ∈ L, p.2.depth ≤ 50)
    (q : ∀ (z : Shared) (p : Addr) (out : List Value) (c : Nat) (L' : List Rw), (∀ b o, s.heap.get? b = some o → z.heap.get? b = some o) → z.gens = s.gens → z.os = s.os → s.heap.objs.size ≤ p → z.heap.get? p = some (seqObj "list" out.toArray c) → L'.Perm L →
      PySem.W.EachIs (fun (v : Value) (d : PyData) => ∃ r : Rw, r ∈ L ∧ v = .ref r.1 ∧ d = r.2) out ((L'.map (·.2)).mergeSort Dl.dLe) → Q (.ref p) z) :
    wpAny (model P w) A (call (.builtin "sorted") [.ref a]) Q E s := by
  obtain ⟨o, go, ex, gd⟩ := R.at_
  have len := es_len R.es_
  have few := R.few
  refine Calls.call_function_entry kind_sorted plain_sorted entry_sorted (args_sorted1 _) ?_
  unfold Builtin.«sorted»; refine wpAny_bind (m := checkCount "sorted" 1 1 _) (wpAny_pure ?_)
  refine wpAny_bind (collect_set (A := A.in1) hh ⟨o, go, ex.1, gd⟩ R.fits (by unfold scanBound; omega) R.ok.ris R.order fun s1 vs k1 z1 g1 o1 pm => ?_)
  have e0 : es.toList.map (·.2) = L.map fun r => Value.ref r.1 := by rw [R.es_, List.map_map]; rfl
  rw [e0] at pm
  obtain ⟨L', rfl, pm'⟩ := perm_pre pm rfl
  have lv : (L'.map fun r => Value.ref r.1).length < 64 := by rw [List.length_map, pm'.length_eq]; exact few
  have mem : ∀ d, d ∈ L'.map (·.2) → d ∈ L.map (·.2) := fun d hd => (pm'.map _).mem_iff.mp hd
  refine wpAny_bind (wpAny_newList ?_ (by rw [sizeLine_eq]; omega))
  have gl : (s1.heap.push (seqObj "list" (L'.map fun r => Value.ref r.1).toArray 0)).get? s1.heap.objs.size = some (seqObj "list" (L'.map fun r => Value.ref r.1).toArray 0) := Heap.get?_push_size _ rfl
  have er : PySem.W.EachIs (fun v d => ∃ as, Reads (s1.heap.push (seqObj "list" (L'.map fun r => Value.ref r.1).toArray 0)) v (id d) as ∧ s1.heap.objs.size ∉ as) (L'.map fun r => Value.ref r.1) (L'.map (·.2)) :=
    Dl.each_imp (fun v d ⟨r, hr, e1, e2⟩ => ⟨[], by rw [e1, e2]; exact PyProof.Rows.Reads.keeps (fun b u e => Heap.get?_push_of_some _ (k1 b u e)) (rd r hr), List.not_mem_nil⟩) (each_rows (L := L) fun r hr => pm'.mem_iff.mp hr)
  refine wpAny_bind (wpAny_holding (PySem.W.list_sort_data (s := { s1 with heap := s1.heap.push (seqObj "list" (L'.map fun r => Value.ref r.1).toArray 0) }) (enc := id) gl (each_rows (L := L) fun r hr => pm'.mem_iff.mp hr) er (by rw [List.map_id]; exact fun d hd d' hd' => al d (mem d hd) d' (mem d' hd')) ?_ (by rw [List.length_map] at lv ⊢; rw [sizeLine_eq]; omega) (fun b hb => ?_) fun out ho eo => ?_))
  · rw [List.map_id]
    exact so.imp (fun h d hd => h d (mem d hd)) fun h d hd => h d (mem d hd)
  · obtain ⟨r, hr, rfl⟩ := List.mem_map.mp (mem b hb)
    have := dep r hr
    show _ + 1 + (r.2).depth < cLine
    simp only [Around.in1_units]
    omega
  · obtain ⟨c, hc⟩ := sortedHeap_at (vs := L'.map fun r => Value.ref r.1) (out := out.toArray) gl
    refine wpAny_pure ⟨_, rfl, q _ s1.heap.objs.size out c L' (fun b u e => ?_) g1 o1 z1 hc pm' eo⟩
    have y := k1 b u e
    have lt := Heap.lt_size y
    show (sortedHeap (s1.heap.push _) s1.heap.objs.size _ _).get? b = some u
    rw [sortedHeap_old (Nat.ne_of_lt lt) (by rw [size_push']; exact Nat.lt_succ_of_lt lt)]
    exact Heap.get?_push_of_some _ y
end
end Ds

namespace Ds
open PySem PySem.Spec PyProof.Rows L2 Dl
open Evl (Ex sz_of sz_lt)
/-- the set at a, without its members themselves -/
def Set0 (w : World) (a : Addr) (L : List Rw) (h : Heap) : Prop := ∃ (es : Array (Int × Value)) (ep : Nat) (t : SetTable), (∃ o, h.get? a = some o ∧ o.ExactSet ∧ o.data = .set es ep t) ∧ es.toList = L.map (re w) ∧ TabOk t (L.map (rh w)) ∧ (L.map fun p => kf p.2).Nodup ∧
  (w.params.followText "set-order" = true ∨ t.led = true) ∧ L.length * 5 < t.mask * 3 ∧ L.length < 64
def setDO (w : World) (a : Addr) (L : List Rw) : HO := .ext (Set0 w a L)
theorem Set_.zero {w : World} {h : Heap} {a : Addr} {L : List Rw} {es : Array (Int × Value)} {ep : Nat} {t : SetTable} (R : Set_ w h a L es ep t) : Set0 w a L h := ⟨es, ep, t, R.at_, R.es_, R.ok, R.once, R.order, R.room, R.few⟩
theorem Set0.full {w : World} {h : Heap} {a : Addr} {L : List Rw} (R : Set0 w a L h) (each : ∀ p ∈ L, In h p.2 p.1) : ∃ es ep t, Set_ w h a L es ep t := by
  obtain ⟨es, ep, t, h1, h2, h3, h4, h5, h6, h7⟩ := R
  exact ⟨es, ep, t, h1, h2, h3, h4, each, h5, h6, h7⟩
theorem setDO_new {P : Program} {w : World} {H : Hp} {h : Heap} {a : Addr} {L : List Rw} (R : Set0 w a L h) : ObjOk P w H h a (setDO w a L) := by
  obtain ⟨es, ep, t, ⟨o, g, r⟩, q⟩ := id R
  refine ⟨R, ⟨o, g⟩, fun h1 h2 p k => ?_⟩
  obtain ⟨es', ep', t', ⟨o', g', r'⟩, q'⟩ := p
  exact ⟨es', ep', t', ⟨o', k o' g', r'⟩, q'⟩
mutual
theorem reads_nil {h : Heap} : ∀ {v : Value} {d : PyData} {as : List Addr}, Reads h v d as → hb d = true → as = []
  | _, _, _, .none, _ | _, _, _, .bool _, _ | _, _, _, .int _ _, _ | _, _, _, .str _ _, _ => rfl
  | _, _, _, .tuple _ _ _ r, g => readss_nil r g
  | _, _, _, .list _ _ _ _, g => by cases g
  | _, _, _, .dict _ _ _ _ _, g => by cases g
theorem readss_nil {h : Heap} : ∀ {vs : List Value} {ds : List PyData} {as : List Addr}, ReadsAll h vs ds as → hbs ds = true → as = []
  | _, _, _, .nil, _ => rfl
  | _, _, _, .cons r t, g => by
    have g := Bool.and_eq_true_iff.mp g
    rw [reads_nil r g.1, readss_nil t g.2]
    rfl
end
/-- what may be a member: a tuple without lists and dicts, not deep -/
structure Mb (d : PyData) : Prop where
  tup : ∃ ys, d = .tuple ys
  ok : hb d = true
  dep : (kf d).depth ≤ 8
theorem rows_of {h : Heap} : ∀ {vs : List V} {us : List Value} {ds : List PyData} {as : List Addr}, Vals vs us → ReadsAll h us ds as → (∀ d ∈ ds, Mb d) → ∃ ks : List Rw, vs = ks.map (fun p => V.ref p.1) ∧ us = ks.map (fun p => Value.ref p.1) ∧ ds = ks.map (·.2) ∧ ∀ p ∈ ks, Reads h (.ref p.1) p.2 []
  | _, _, _, _, .nil, .nil, _ => ⟨[], rfl, rfl, rfl, fun p h => nomatch h⟩
  | _, _, _, _, .cons (a := v) (b := u) rv tv, .cons (d := d) r t, m => by
    obtain ⟨ks, e1, e2, e3, e4⟩ := rows_of tv t fun x hx => m x (List.mem_cons_of_mem _ hx)
    have md := m d List.mem_cons_self
    obtain ⟨ys, ey⟩ := md.tup
    have z := reads_nil r md.ok
    subst z
    obtain ⟨a, ea⟩ : ∃ a, u = .ref a := by
      rw [ey] at r
      cases r with
      | tuple g c d r => exact ⟨_, rfl⟩
    subst ea
    have ev : v = V.ref a := by
      cases v with
      | ref b =>
        have rv : Value.ref a = Value.ref b := rv
        rw [Value.ref.inj rv]
      | non => exact absurd (show Value.ref a = Value.none from rv) Value.noConfusion
      | bl b => exact absurd (show Value.ref a = Value.bool b from rv) Value.noConfusion
      | int i => obtain ⟨_, e⟩ := (show ∃ t, Value.ref a = Value.int i t from rv); cases e
      | str x => obtain ⟨_, e⟩ := (show ∃ t, Value.ref a = Value.str x t from rv); cases e
      | byt x => obtain ⟨_, e⟩ := (show ∃ t, Value.ref a = Value.bytes x t from rv); cases e
      | flt x => obtain ⟨_, e⟩ := (show ∃ t, Value.ref a = Value.float x t from rv); cases e
      | ty n => exact absurd (show Value.ref a = Value.type n from rv) Value.noConfusion
    refine ⟨(a, d) :: ks, by rw [ev, e1]; rfl, by rw [e2]; rfl, by rw [e3]; rfl, fun p hp => ?_⟩
    rcases List.mem_cons.mp hp with rfl | hp
    · exact r
    · exact e4 p hp
/-- set(xs) -/
def rSetD (K : PySem.W.Frag) (w : World) : List V → Hp → VK → Prop := fun xs H Q => ∃ (l : Addr) (vs : List V) (ds : List PyData), xs = [.ref l] ∧ SqL K H l vs ∧ DpAll K H vs ds ∧ (∀ d ∈ ds, Mb d) ∧ ds.length < 64 ∧
  ∀ (a : Addr) (ks L : List Rw), vs = ks.map (fun p => V.ref p.1) → ds = ks.map (·.2) → (∀ p ∈ L, p ∈ ks) → (∀ p ∈ ks, ∃ r : Rw, r ∈ L ∧ kf r.2 = kf p.2) → (L.map fun p => kf p.2).Nodup → L.length < 64 → H a = none → Q (.ref a) (upd H a (setDO w a L))
theorem cr_setD {X : Cx} (hc : X.calm = true) (hu : X.A.units + 64 < cLine) : CallR X (.type "set") (rSetD X.K X.w) := by
  intro pins s σ H xs us Q I r h
  obtain ⟨l, vs, ds, rfl, hl, hd, hm, hf, q⟩ := h
  rw [Vals.ref1 r]
  obtain ⟨its, rv, pl, hz⟩ := I.list hl
  obtain ⟨as, rd⟩ := Dp.readsAll I ds vs its hd rv
  obtain ⟨ks, e1, e2, e3, e4⟩ := rows_of rv rd hm
  have hn : H s.heap.objs.size = none := I.hok.fresh (Nat.le_refl _)
  have each : ∀ p ∈ ks, In s.heap p.2 p.1 := fun p hp => by
    have m := hm p.2 (by rw [e3]; exact List.mem_map.mpr ⟨p, hp, rfl⟩)
    exact ⟨reads_key (e4 p hp) m.ok, m.dep⟩
  refine call_set (ks := ks) (I.ok.hd hc) pl.isList (by simpa using e2) each (by rw [e3, List.length_map] at hf; exact hf) (by omega) fun h' tk L es ep t R g k => ?_
  refine ⟨.ref s.heap.objs.size, upd H s.heap.objs.size (setDO X.w s.heap.objs.size L), I.laid (t' := tk) k (Nat.le_refl _) (setDO_new R.zero), rfl, q _ ks L e1 e3 (fun p hp => List.mem_of_mem_take (g.sub p hp)) (fun p hp => g.all p (by rw [List.take_length]; exact hp)) R.once R.few hn⟩
/-- sorted(s) -/
def rSortedSD (K : PySem.W.Frag) (w : World) : List V → Hp → VK → Prop := fun xs H Q => ∃ (a : Addr) (L : List Rw), xs = [.ref a] ∧ H a = some (setDO w a L) ∧ (∀ p ∈ L, Dp K H (.ref p.1) p.2) ∧ (∀ p ∈ L, Mb p.2) ∧ (∀ p ∈ L, p.2.depth ≤ 50) ∧ PySem.W.AllAlike (L.map (·.2)) ∧ PySem.W.Sortable (L.map (·.2)) ∧
  ∀ (p : Addr) (us : List V) (L' : List Rw), H p = none → L'.Perm L → Paired (fun (v : V) (d : PyData) => ∃ r : Rw, r ∈ L ∧ v = .ref r.1 ∧ d = r.2) us ((L'.map (·.2)).mergeSort dLe) → Q (.ref p) (upd H p (.lst us))
theorem cr_sortedSD {X : Cx} (hc : X.calm = true) (hu : X.A.units + 64 < cLine) : CallR X (.builtin "sorted") (rSortedSD X.K X.w) := by
  intro pins s σ H xs us Q I r h
  obtain ⟨a, L, rfl, ha, hd, hm, hdp, al, so, q⟩ := h
  rw [Vals.ref1 r]
  have R0 : Set0 X.w a L s.heap := (I.hok a _ ha).1
  have rd : ∀ p ∈ L, Reads s.heap (.ref p.1) p.2 [] := fun p hp => by
    obtain ⟨as, z⟩ := Dp.reads I p.2 (.ref p.1) (.ref p.1) (hd p hp) rfl
    have e := reads_nil z (hm p hp).ok
    subst e
    exact z
  obtain ⟨es, ep, t, R⟩ := R0.full fun p hp => ⟨reads_key (rd p hp) (hm p hp).ok, (hm p hp).dep⟩
  refine sorted_set R rd (I.ok.hd hc) al so hu hdp fun z p out c L' k g o hp hg pm eo => ?_
  have few := R.few
  have each : ∀ v ∈ out, RelV (valV v) v := each_left (each_imp (S := fun v _ => RelV (valV v) v) (fun v d ⟨r, _, e, _⟩ => by rw [e]; rfl) eo)
  have vo : Vals (out.map valV) out := vals_of_each each
  have lo : out.length < 64 := by
    rw [eo.length, List.length_mergeSort, List.length_map, pm.length_eq]
    exact few
  have hn : H p = none := I.hok.fresh hp
  have J : Inv X pins σ (upd H p (.lst (out.map valV))) { s with heap := z.heap, gens := z.gens, drawn := z.drawn, toks := z.toks } :=
    I.call (ch := []) (Un.laid k hp hn) (I.hok.laid k hp ⟨by rw [List.length_map, sizeLine_eq]; omega, out, c, vo, hg⟩) (by rw [g]; exact I.bare) (fun _ y => nomatch y)
  have e : z = { s with heap := z.heap, gens := z.gens, drawn := z.drawn, toks := z.toks } := by
    cases z; cases s; cases o
    rfl
  rw [e]
  exact ⟨.ref p, _, J, rfl, q p _ L' hn pm (pair_each (each_imp (fun v d ⟨r, hr, e1, e2⟩ => ⟨r, hr, by rw [e1]; rfl, e2⟩) eo))⟩
theorem setDK {X : Cx} (K : PySem.W.Frag) (w : World) (hK : X.K = K) (hw : X.w = w) (hc : X.calm = true) (hu : X.A.units + 65 < cLine) : CallR X (.type "set") (rSetD K w) := hK ▸ hw ▸ cr_setD hc (by omega)
theorem sortedSDK {X : Cx} (K : PySem.W.Frag) (w : World) (hK : X.K = K) (hw : X.w = w) (hc : X.calm = true) (hu : X.A.units + 65 < cLine) : CallR X (.builtin "sorted") (rSortedSD K w) := hK ▸ hw ▸ cr_sortedSD hc (by omega)
end Ds

namespace Ds
open PySem PySem.Spec PyProof.Rows L2 Dl
open Evl (Ex sz_of sz_lt)
theorem dq_row {K : PySem.W.Frag} {F : Hp} : ∀ {ks : List Rw}, DqAll K F (ks.map fun p => V.ref p.1) (ks.map (·.2)) → ∀ p ∈ ks, Dq K F (.ref p.1) p.2
  | [], _, p, h => nomatch h
  | k :: ks, .cons a b, p, h => by
    rcases List.mem_cons.mp h with rfl | h
    · exact a
    · exact dq_row b p h
theorem pair_rows {K : PySem.W.Frag} {F : Hp} {L : List Rw} (h : ∀ p ∈ L, Dq K F (.ref p.1) p.2) : ∀ {us : List V} {zs : List PyData}, Paired (fun (v : V) (d : PyData) => ∃ r : Rw, r ∈ L ∧ v = .ref r.1 ∧ d = r.2) us zs → DqAll K F us zs
  | _, _, .nil => .nil
  | _, _, .cons ⟨r, hr, e1, e2⟩ t => .cons (by rw [e1, e2]; exact h r hr) (pair_rows h t)
section
variable {K : PySem.W.Frag} {T : List Addr} {te : TE} {mx : DTX} {w : World}
theorem dn_sortedSetD (h : DX K T te mx) : DN K T (tCB (rSortedSD K w) (tCons (tCB (rSetD K w) (tCons te tNil)) tNil))
    (fun env n P => mx env n fun s n1 => ∃ ds, see n1 s = some (.list ds) ∧ (∀ d ∈ ds, Mb d ∧ d.depth ≤ 50) ∧ PySem.W.AllAlike ds ∧ PySem.W.Sortable ds ∧ ds.length < 64 ∧ ∀ zs : List PyData, zs.Nodup → zs.Pairwise (fun a b => dLe a b = true) → (∀ z, z ∈ zs ↔ z ∈ ds) → P zs n1) := by
  constructor
  intro pe F H σ env n P Q R p q
  refine h.run pe F H σ env n _ _ R p fun x F1 H1 s n1 f1 p1 h1 ⟨ds, e1, mb, al, so, few, g1⟩ => ?_
  obtain ⟨a, vs, rfl, z1, z2⟩ := dz_list f1.fh (see_dz p1 h1 e1)
  refine ⟨a, vs, ds, rfl, SqL.of z1, dps_of (dp_exs f1.fh z2), fun d hd => (mb d hd).1, few, fun b ks L ev ed sub all nd lf nb => ?_⟩
  subst ev ed
  have f2 := f1.trans (Fr.mine (o := setDO w b L) f1.fh nb)
  have p2 : PenAt K pe F1 (upd H1 b (setDO w b L)) n1 := p1.mut (p1.far nb)
  have dq : ∀ r ∈ L, Dq K F1 (.ref r.1) r.2 := fun r hr => dq_row z2 r (sub r hr)
  have mem : ∀ d, d ∈ L.map (·.2) → d ∈ ks.map (·.2) := fun d hd => by
    obtain ⟨r, hr, rfl⟩ := List.mem_map.mp hd
    exact List.mem_map.mpr ⟨r, sub r hr, rfl⟩
  refine ⟨b, L, rfl, upd_same, fun r hr => (dp_ex f2.fh (dq r hr)).dp, fun r hr => (mb _ (mem _ (List.mem_map.mpr ⟨r, hr, rfl⟩))).1, fun r hr => (mb _ (mem _ (List.mem_map.mpr ⟨r, hr, rfl⟩))).2,
    fun d hd d' hd' => al d (mem d hd) d' (mem d' hd'), so.imp (fun y d hd => y d (mem d hd)) (fun y d hd => y d (mem d hd)), fun r us L' nr pm pu => ?_⟩
  have pmd := (pm.map (·.2))
  refine q r F1 _ _ _ n1 (f2.trans (Fr.mine f2.fh nr)) (p2.mut (p2.far nr)) (fresh0 f2 nr) upd_same (Evl.fresh_back f2.fh nr) (pair_rows dq pu) (g1 _ ?_ ?_ fun z => ?_)
  · refine (List.mergeSort_perm _ _).nodup_iff.mpr (pmd.nodup_iff.mpr ?_)
    have nd2 : ((L.map (·.2)).map kf).Nodup := by rw [List.map_map]; exact nd
    exact List.Pairwise.of_map (S := (· ≠ ·)) kf (fun x y ne e => ne (congrArg kf e)) nd2
  · exact List.pairwise_mergeSort dle_trans dle_total _
  · rw [(List.mergeSort_perm _ _).mem_iff, pmd.mem_iff]
    refine ⟨mem z, fun hz => ?_⟩
    obtain ⟨k, hk, rfl⟩ := List.mem_map.mp hz
    obtain ⟨r, hr, e⟩ := all k hk
    have e2 : r.2 = k.2 := kf_one (al _ (mem _ (List.mem_map.mpr ⟨r, hr, rfl⟩)) _ hz) (mb _ (mem _ (List.mem_map.mpr ⟨r, hr, rfl⟩))).1.ok e
    exact List.mem_map.mpr ⟨r, hr, e2⟩
end
end Ds

namespace Dl
open PySem PySem.Spec PyProof.Rows L2
open Evl (Ex sz_of sz_lt)
def rTIx (K : PySem.W.Frag) : V → List V → Hp → VK → Prop := fun x xs H Q => ∃ p, ∃ ys : List Str, ∃ z j, x = .ref p ∧ xs = [.str z] ∧ SqT K H p (ys.map V.str) ∧ ys[j]? = some z ∧ (∀ m, m < j → ys[m]? ≠ some z) ∧ Q (.int (j : Nat)) H
theorem tindexK {X : Cx} (K : PySem.W.Frag) (hK : X.K = K) : MtR X "tuple.index" (rTIx K) := hK ▸ mt_tup_index
section
variable {K : PySem.W.Frag} {T : List Addr} {ta te : TE} {m ma : DTE}
theorem dq_strs {F : Hp} : ∀ {ys : List Str} {vs : List V}, DqAll K F vs (ys.map PyData.str) → vs = ys.map V.str
  | [], _, .nil => rfl
  | y :: ys, _, .cons (.str _) b => by rw [dq_strs b]; rfl
/-- T.index(x), T written -/
theorem de_tindex {a : Addr} {ys : List Str} (lit : ∃ o, K.lookup a = some o ∧ o.cls = .type "tuple" ∧ o.dict = none) (hd : ∀ F, Dq K F (.ref a) (.tuple (ys.map PyData.str))) (ha : DE K T ta ma) :
    DE K T (tBM K "tuple" (rTIx K) (tC (.ref a)) (tCons ta tNil)) (fun env n P => ma env n fun e n2 => ∃ (z : Str) (j : Nat), e = .str z ∧ ys[j]? = some z ∧ (∀ m, m < j → ys[m]? ≠ some z) ∧ P (.int (j : Nat)) n2) := by
  constructor
  intro pe F H σ env n P Q R p q
  refine ⟨.inr (.inl ⟨rfl, lit⟩), ?_⟩
  refine ha.run pe F H σ env n _ _ R p fun y F2 H2 e n2 f2 p2 h2 ⟨z, j, e2, s1, s2, g2⟩ => ?_
  subst e2
  have ey := dp_str h2
  subst ey
  obtain ⟨b, vs, e3, z1, z2⟩ := dz_tup (H := H2) (.fz (hd F2))
  obtain rfl := V.ref.inj e3
  have ev := dq_strs z2
  subst ev
  exact ⟨a, ys, z, j, rfl, rfl, Evl.ex_t f2.fh z1, s1, s2, q _ F2 H2 _ n2 f2 p2 (.int _) g2⟩
end
end Dl

-- dwp4
namespace Kin
open PySem PySem.Spec PyProof.Rows L2 Dl
open Evl (Ex sz_of sz_lt)
abbrev s_variables_in : Stmt := topS 8
abbrev N_variables_in : List Str := ["shape", "_", "part"]
theorem sc_variables_in : FnScope N_variables_in ["shape"] (defScope s_variables_in) := ⟨rfl, rfl, rfl, by decide +kernel, rfl, by decide +kernel, by decide +kernel⟩
abbrev s_vars : Stmt := topS 38
abbrev N_vars : List Str := ["_law_shape", "_law_found", "_law_part"]
theorem sc_vars : FnScope N_vars ["_law_shape"] (defScope s_vars) := ⟨rfl, rfl, rfl, by decide +kernel, rfl, by decide +kernel, by decide +kernel⟩
theorem wLc_pick {α : Type} {env : Dl.Env} {n : Ws} {P : List PyData → Ws → Prop} {mg : DTG} {mt : DTT} {me : DTE} (f g : α → PyData) (p : α → Bool) (e : α → Dl.Env) : ∀ (as : List α) (acc : List PyData), (∀ a ∈ as, ∀ R : Dl.Env → Prop, R (e a) → mg (.val (f a)) env R) →
    (∀ a ∈ as, ∀ Q : Bool → Ws → Prop, Q (p a) n → mt (e a) n Q) → (∀ a ∈ as, p a = true → ∀ Q : PyData → Ws → Prop, Q (g a) n → me (e a) n Q) → acc.length + as.length ≤ 100000 → P (acc ++ (as.filter p).map g) n → wLc mg mt me env P acc (as.map f) n
  | [], acc, _, _, _, _, q => by
    rw [List.filter_nil, List.map_nil, List.append_nil] at q
    exact q
  | a :: as, acc, h1, h2, h3, l, q => by
    rw [List.length_cons] at l
    unfold List.map wLc
    refine h1 a List.mem_cons_self _ (h2 a List.mem_cons_self _ ?_)
    cases hp : p a with
    | true =>
      rw [if_pos rfl]
      refine h3 a List.mem_cons_self hp _ ⟨by omega, ?_⟩
      refine wLc_pick f g p e as _ (fun b hb => h1 b (List.mem_cons_of_mem _ hb)) (fun b hb => h2 b (List.mem_cons_of_mem _ hb)) (fun b hb => h3 b (List.mem_cons_of_mem _ hb)) (by rw [List.length_append, List.length_singleton]; omega) ?_
      rw [List.filter_cons_of_pos hp] at q
      rw [List.append_assoc]
      exact q
    | false =>
      rw [if_neg Bool.false_ne_true]
      refine wLc_pick f g p e as _ (fun b hb => h1 b (List.mem_cons_of_mem _ hb)) (fun b hb => h2 b (List.mem_cons_of_mem _ hb)) (fun b hb => h3 b (List.mem_cons_of_mem _ hb)) (by omega) ?_
      rw [List.filter_cons_of_neg (by rw [hp]; exact Bool.false_ne_true)] at q
      exact q
def isV : Sh → Bool
  | .var _ => true
  | .node _ _ => false
mutual
theorem pl_vars : ∀ s : Sh, ((plF s).filter fun y => isV y.2).map (fun y => y.2.d) = s.vars.map PyData.str
  | .var x => rfl
  | .node n as => pl_varsL 0 as
theorem pl_varsL : ∀ (k : Nat) (as : List Sh), ((plL k as).filter fun y => isV y.2).map (fun y => y.2.d) = (Sh.varsL as).map PyData.str
  | _, [] => rfl
  | k, a :: as => by
    show (((plF a).map (fun x => (k :: x.1, x.2)) ++ plL (k + 1) as).filter _).map _ = (a.vars ++ Sh.varsL as).map PyData.str
    rw [List.filter_append, List.map_append, List.filter_map, List.map_map, pl_varsL (k + 1) as, List.map_append, ← pl_vars a]
    rfl
end
mutual
theorem pl_small : ∀ s : Sh, s.small → ∀ y ∈ plF s, y.2.small
  | .var x, h, y, hy => by
    have hy : y ∈ [(([], .var x) : List Nat × Sh)] := hy
    rw [List.mem_singleton.mp hy]
    exact h
  | .node n as, h, y, hy => by
    rcases List.mem_cons.mp hy with rfl | hy
    · exact h
    · exact pl_smalls 0 as h.2 y hy
theorem pl_smalls : ∀ (k : Nat) (as : List Sh), Sh.smalls as → ∀ y ∈ plL k as, y.2.small
  | _, [], _, y, hy => by cases hy
  | k, a :: as, h, y, hy => by
    have hy : y ∈ (plF a).map (fun x => (k :: x.1, x.2)) ++ plL (k + 1) as := hy
    rcases List.mem_append.mp hy with hy | hy
    · obtain ⟨z, hz, rfl⟩ := List.mem_map.mp hy
      exact pl_small a h.1 z hz
    · exact pl_smalls (k + 1) as h.2 y hy
end
mutual
theorem vars_le : ∀ s : Sh, s.vars.length ≤ s.parts
  | .var x => Nat.le_refl _
  | .node n as => Nat.le_succ_of_le (varsL_le as)
theorem varsL_le : ∀ as : List Sh, (Sh.varsL as).length ≤ Sh.partsL as
  | [] => Nat.le_refl _
  | a :: as => by
    have h1 := vars_le a
    have h2 := varsL_le as
    show (a.vars ++ Sh.varsL as).length ≤ a.parts + Sh.partsL as
    rw [List.length_append]
    omega
end
theorem varsL_app : ∀ as bs : List Sh, Sh.varsL (as ++ bs) = Sh.varsL as ++ Sh.varsL bs
  | [], _ => rfl
  | a :: as, bs => by
    show a.vars ++ Sh.varsL (as ++ bs) = (a.vars ++ Sh.varsL as) ++ Sh.varsL bs
    rw [varsL_app as bs, List.append_assoc]
def mfVarsIn : DF := fun ss w P => ∃ s : Sh, ss = [.val s.d] ∧ s.dep ≤ 3 ∧ s.small ∧ s.parts ≤ 1000 ∧ P (.list (s.vars.map PyData.str)) w
def mfVars (k : Nat) : DF := fun ss w P => ∃ s : Sh, ss = [.val s.d] ∧ s.dep < k ∧ s.parts ≤ 1000 ∧ P (.list (s.vars.map PyData.str)) w
theorem isVar_d {s : Sh} (h : s.small) : isVar s.d = isV s := by
  cases s with
  | var x => exact h.1
  | node n as => rfl
section
variable {P : Program} {w : World} {K : PySem.W.Frag} {mg : Str → Option Value} {base : Heap} {Ts : List Addr}
theorem ok_variables_in {f fP fV : Addr} {fd fdP fdV : FuncData} {cdv : Value} {k : Nat} (F : FunV K "variables_in" "variables_in" s_variables_in f fd cdv) (T : TS mg)
    (Gparts_of : FnG P w K mg base k fP fdP ["shape"] (spD K Ts (mfPl 4))) (mparts_of : mg "parts_of" = some (.ref fP)) (kparts_of : PySem.W.keepIn K (.ref fP) = true) (bparts_of : Binds K fdP ["shape"] [])
    (Gis_variable : FnG P w K mg base k fV fdV ["value"] (spD K Ts mfIsVar)) (mis_variable : mg "is_variable" = some (.ref fV)) (kis_variable : PySem.W.keepIn K (.ref fV) = true) (bis_variable : Binds K fdV ["value"] []) :
    FnG P w K mg base (k + 1) f fd ["shape"] (spD K Ts mfVarsIn) := by
  refine FnG.weak (okD F sc_variables_in (fun A outer s H E hg hr => ⟨_, (pss_one (ps_ret (pe_lc (own := [("_", 1), ("part", 2)]) (tt := _) rfl sc_variables_in.nd (pi_K K rfl (pe_callG Gparts_of hg hr (by rfl) mparts_of kparts_of bparts_of (pa_cons (pv 0) pa_nil))) (blkOk_by (N := N_variables_in) (sc := defScope s_variables_in) (by decide +kernel)) (fun _ _ _ _ _ => (pg_tupK K rfl 2 rfl (pgs_cons (pg_name (i := 1) sc_variables_in.nd rfl (Or.inl rfl)) (pgs_cons (pg_name (i := 2) sc_variables_in.nd rfl (Or.inl rfl)) pgs_nil)))) (fun _ _ _ _ _ => pts_one (pt_val (pe_callG Gis_variable hg hr (by rfl) mis_variable kis_variable bis_variable (pa_cons (pv 2) pa_nil)))) (fun _ _ _ _ _ => (pv 2))))), by repeat first
        | (apply de_new; apply dn_lc)
        | exact keeps_tup2 (by simp) (by simp)
        | (with_reducible apply ds_asg)
        | (with_reducible apply ds_par)
        | exact de_int
        | exact de_str
        | exact de_bl
        | exact de_non
        | exact de_var
        | exact dx_var
        | exact ds_retN
        | exact ds_next
        | exact ds_brk
        | exact ds_cont
        | exact dt_yes
        | exact dv_nil
        | exact da_nil
        | exact dgs_nil
        | exact dg_name
        | exact do_none
        | (with_reducible apply ds_seq)
        | (with_reducible apply ds_ret)
        | (with_reducible apply ds_if)
        | (with_reducible apply ds_forI)
        | (with_reducible apply ds_whileI)
        | (with_reducible apply ds_drop)
        | (apply dg_tupN 2; exact rfl)
        | (apply dg_tupN 3; exact rfl)
        | apply dgs_cons
        | apply di_any
        | apply di_range
        | apply dt_test
        | apply dt_B
        | apply dt_and
        | apply dt_or
        | apply dt_not
        | apply dx_of
        | apply de_tup
        | apply dv_cons
        | apply da_cons
        | apply do_some
        | apply de_if
        | apply de_not
        | apply de_and
        | apply de_or
        | (apply de_new; apply dn_lst)
        | apply de_op dr_ix
        | apply de_op dr_eq
        | apply de_op dr_ne
        | apply de_op dr_inA
        | apply de_op dr_catT
        | apply de_op dr_catL
        | apply de_op dr_add
        | apply de_op dr_sub
        | apply de_op dr_mul
        | apply de_op dr_mod
        | apply de_op dr_fdiv
        | apply de_op dr_lt
        | apply de_op dr_le
        | apply de_op dr_gt
        | apply de_op dr_ge
        | apply de_op dr_isN
        | apply de_op dr_notN
        | apply de_op dr_addS
        | apply de_slice
        | (apply de_isi; rotate_left 1; assumption; decide; rotate_right 1)
        | apply de_cb dc_len
        | apply de_cb dc_lenS
        | apply de_cb dc_int
        | apply de_cb dc_min2
        | apply de_cb dc_max2
        | apply de_cb dc_tuple
        | (apply de_new; apply dn_cb dcn_list)
        | apply de_call
        | apply de_m dm_append
        | apply de_m dm_insert
        | apply de_m dm_popAt
        | apply de_m0 dm_pop
        | apply de_extend
        | (apply de_new; apply dn_lcN)
        | (apply de_new; apply dn_rep; apply dn_lst)
        | (apply de_genN; rotate_left 2; assumption; rotate_right 2)
        | (with_reducible apply ds_augAdd)
        | apply dt_chain
        | apply de_chain
        | apply dt_truth
        | apply di_enumT
        | apply de_count
        | apply de_op dr_repT
        | apply de_cb dc_all
        | apply de_cb dc_max
        | apply de_cb dc_min
        | (apply de_new; apply dn_cb dcn_sorted)
        | apply de_lenSet
        | (apply de_new; apply dn_listRg)
        | apply de_cb dc_repr⟩)) (spD_weak fun ss w P h => ?_)
  obtain ⟨s, rfl, hd, hs, hp, q⟩ := h
  refine ⟨rfl, ?_⟩
  dsimp only
  refine ⟨_, rfl, Sl.noConfusion, s, rfl, by omega, hs, hp, _, rfl, ?_⟩
  have hl : (plF s).length ≤ 1000 := by rw [plF_len]; exact hp
  refine wLc_pick plD (fun y => y.2.d) (fun y => isV y.2) (fun y => [.val s.d, .val (.tuple (nats y.1)), .val y.2.d]) (plF s) [] (fun y hy R hR => ⟨_, rfl, rfl, _, _, rfl, _, _, rfl, rfl, hR⟩) (fun y hy Q hQ => ?_) (fun y hy _ Q hQ => ⟨_, rfl, hQ⟩) (by rw [List.length_nil]; omega) ?_
  · have hy := pl_small s hs y hy
    refine ⟨_, rfl, Sl.noConfusion, y.2.d, rfl, fun z e => ?_, _, rfl, by rw [isVar_d hy]; exact hQ⟩
    cases eu : y.2 with
    | var x => rw [eu] at e hy; cases e; exact hy.2
    | node n as => rw [eu] at e; cases e
  · rw [List.nil_append, pl_vars]
    exact fin q
theorem ok_vars {f : Addr} {fd : FuncData} {cdv : Value} (F : FunV K "_law_vars" "_law_vars" s_vars f fd cdv) (T : TS mg) (kt : KTy K)
    (m_law_vars : mg "_law_vars" = some (.ref f)) (k_law_vars : PySem.W.keepIn K (.ref f) = true) (b_law_vars : Binds K fd ["_law_shape"] []) : ∀ k : Nat, FnG P w K mg base k f fd ["_law_shape"] (spD K Ts (mfVars k))
  | 0 => ⟨fun vs H Q E ⟨pe, F, ss, n, P, z1, z2, z3, z4, ⟨s, a, h, _⟩, z6⟩ => absurd h (Nat.not_lt_zero _), fun A outer s H args us vs Q E g r e b v ⟨pe, F, ss, n, P, z1, z2, z3, z4, ⟨s', a, h, _⟩, z6⟩ => absurd h (Nat.not_lt_zero _)⟩
  | k + 1 => by
    have G_law_vars := ok_vars F T kt m_law_vars k_law_vars b_law_vars k
    refine FnG.weak (okD F sc_vars (fun A outer s H E hg hr => ⟨_, (pss_cons (ps_if (pt_not (pt_val (pe_callB (isiK K rfl) (by rfl) T.m_isinstance PyProof.Rows.boot_isinstance (pa_cons (pv 0) (pa_cons (pe_bltn (v := .ty "tuple") (by rfl) T.m_tuple PyProof.Rows.boot_tuple rfl) pa_nil))))) (pss_one (ps_ret (pe_lst (pa_cons (pv 0) pa_nil)))) pss_nil)
          (pss_cons (ps_set (i := 1) sc_vars.nd rfl (Or.inl rfl) (pe_lst pa_nil))
          (pss_cons (ps_for PassesOwn.never rfl (pi_K K rfl (pe_slice (slK K rfl) (pv 0) (po_some pe_int) po_none)) (pg_name (i := 2) sc_vars.nd rfl (Or.inl rfl))
          (pss_one (ps_expr (bmK K rfl (pe_bm PySem.F.plainAttrs_list PySem.F.slot_list_extend PySem.F.type_list_extend mt_extend (pv 1) (pa_cons (pe_callG G_law_vars hg hr (by rfl) m_law_vars k_law_vars b_law_vars (pa_cons (pv 2) pa_nil)) pa_nil))))))
          (pss_one (ps_ret (pv 1)))))), by repeat first
        | (with_reducible apply ds_own (i := 1); apply dn_lst)
        | (with_reducible apply ds_frz 1; with_reducible apply ds_ret (te := tVar 1))
        | (with_reducible apply ds_asg)
        | (with_reducible apply ds_par)
        | exact de_int
        | exact de_str
        | exact de_bl
        | exact de_non
        | exact de_var
        | exact dx_var
        | exact ds_retN
        | exact ds_next
        | exact ds_brk
        | exact ds_cont
        | exact dt_yes
        | exact dv_nil
        | exact da_nil
        | exact dgs_nil
        | exact dg_name
        | exact do_none
        | (with_reducible apply ds_seq)
        | (with_reducible apply ds_ret)
        | (with_reducible apply ds_if)
        | (with_reducible apply ds_forI)
        | (with_reducible apply ds_whileI)
        | (with_reducible apply ds_drop)
        | (apply dg_tupN 2; exact rfl)
        | (apply dg_tupN 3; exact rfl)
        | apply dgs_cons
        | apply di_any
        | apply di_range
        | apply dt_test
        | apply dt_B
        | apply dt_and
        | apply dt_or
        | apply dt_not
        | apply dx_of
        | apply de_tup
        | apply dv_cons
        | apply da_cons
        | apply do_some
        | apply de_if
        | apply de_not
        | apply de_and
        | apply de_or
        | (apply de_new; apply dn_lst)
        | apply de_op dr_ix
        | apply de_op dr_eq
        | apply de_op dr_ne
        | apply de_op dr_inA
        | apply de_op dr_catT
        | apply de_op dr_catL
        | apply de_op dr_add
        | apply de_op dr_sub
        | apply de_op dr_mul
        | apply de_op dr_mod
        | apply de_op dr_fdiv
        | apply de_op dr_lt
        | apply de_op dr_le
        | apply de_op dr_gt
        | apply de_op dr_ge
        | apply de_op dr_isN
        | apply de_op dr_notN
        | apply de_op dr_addS
        | apply de_slice
        | (apply de_isi; rotate_left 1; assumption; decide; rotate_right 1)
        | apply de_cb dc_len
        | apply de_cb dc_lenS
        | apply de_cb dc_int
        | apply de_cb dc_min2
        | apply de_cb dc_max2
        | apply de_cb dc_tuple
        | (apply de_new; apply dn_cb dcn_list)
        | apply de_call
        | apply de_m dm_append
        | apply de_m dm_insert
        | apply de_m dm_popAt
        | apply de_m0 dm_pop
        | apply de_extend
        | (apply de_new; apply dn_lcN)
        | (apply de_new; apply dn_rep; apply dn_lst)
        | (apply de_genN; rotate_left 2; assumption; rotate_right 2)
        | (with_reducible apply ds_augAdd)
        | apply dt_chain
        | apply de_chain
        | apply dt_truth
        | apply di_enumT
        | apply de_count
        | apply de_op dr_repT
        | apply de_cb dc_all
        | apply de_cb dc_max
        | apply de_cb dc_min
        | (apply de_new; apply dn_cb dcn_sorted)
        | apply de_lenSet
        | (apply de_new; apply dn_listRg)
        | apply de_cb dc_repr⟩)) (spD_weak fun ss w P h => ?_)
    obtain ⟨s, rfl, hd, hp, q⟩ := h
    refine ⟨rfl, ?_⟩
    dsimp only
    cases s with
    | var x =>
      refine ⟨_, rfl, Sl.noConfusion, _, rfl, false, rfl, iteT ⟨_, rfl, le1, ?_⟩⟩
      exact fin q
    | node o as =>
      have hd : Sh.deps as + 1 < k + 1 := hd
      have hp : Sh.partsL as + 1 ≤ 1000 := hp
      refine ⟨_, rfl, Sl.noConfusion, _, rfl, true, rfl, iteF ⟨le0, _, rfl, Sl.noConfusion, 1, rfl, _, rfl, .inr ⟨_, rfl, _, rfl, ?_⟩⟩⟩
      rw [show Dl.cutD (.int o :: Sh.ds as) (some 1) none = Sh.ds as from cut_tail _ _]
      refine ⟨fun i env n => ∃ s2 : Sl, env = [.val (Sh.node o as).d, .sh w.os.length, s2] ∧ n = ⟨w.n, w.os ++ [some ((Sh.varsL (as.take i)).map PyData.str)]⟩, ⟨_, rfl, rfl⟩, ?_, ?_⟩
      · rintro i x _ _ hx ⟨s2, rfl, rfl⟩
        rw [Sh.ds_map, List.getElem?_map] at hx
        cases ea : as[i]? with
        | none => rw [ea] at hx; cases hx
        | some a =>
          rw [ea] at hx
          obtain rfl : a.d = x := Option.some.inj hx
          have ha := List.mem_of_getElem? ea
          have h1 := Sh.deps_le ha
          have h2 := partsL_le ha
          have h3 := vars_le a
          have h4 := varsL_le (as.take i)
          have h5 := partsL_take as i
          refine ⟨_, rfl, Sl.noConfusion, _, rfl, _, rfl, Sl.noConfusion, a, rfl, by omega, by omega, _, _, get_own, rfl, by rw [List.length_map, List.length_map]; omega, ?_⟩
          rw [set_own]
          refine ⟨_, rfl, ?_⟩
          rw [List.take_add_one, ea, varsL_app, List.map_append]
          show _ = (⟨w.n, w.os ++ [some (_ ++ List.map PyData.str (a.vars ++ []))]⟩ : Ws)
          rw [List.append_nil]
      · rintro _ _ ⟨s2, rfl, rfl⟩
        rw [Sh.ds_len, List.take_length]
        refine ⟨w.os.length, _, rfl, get_own, Nat.le_refl _, _, rfl, ?_⟩
        rw [set_own]
        exact finO q
end
end Kin

-- dwp4
namespace Kin
open PySem PySem.Spec PyProof.Rows L2 Dl
open Evl (Ex sz_of sz_lt)
abbrev s_steps_within : Stmt := topS 29
abbrev N_steps_within : List Str := ["class_number", "part", "found", "number", "inner", "letter"]
theorem sc_steps_within : FnScope N_steps_within ["class_number", "part"] (defScope s_steps_within) := ⟨rfl, rfl, rfl, by decide +kernel, rfl, by decide +kernel, by decide +kernel⟩
def ixL (x : Str) : Nat := if x = "a" then 0 else 1
def isLx (x : Str) : Sh → Bool
  | .var y => decide (y = x)
  | .node _ _ => false
def stD (c i n j : Nat) (g : Bool) : PyData := .tuple [.int (c : Nat), .int (i : Nat), .int (n : Nat), .int (j : Nat), .bool g]
/-- the steps to one argument -/
def argS (c n j : Nat) (a : Sh) : List PyData := a.vars.map fun x => stD c (ixL x) n j (!isLx x a)
def argsS (c n : Nat) : Nat → List Sh → List PyData
  | _, [] => []
  | k, a :: as => argS c n k a ++ argsS c n (k + 1) as
def stepsP (c : Nat) : Sh → List PyData
  | .var _ => []
  | .node n as => argsS c n 0 as
theorem argsS_app (c n : Nat) : ∀ (k : Nat) (as bs : List Sh), argsS c n k (as ++ bs) = argsS c n k as ++ argsS c n (k + as.length) bs
  | k, [], bs => rfl
  | k, a :: as, bs => by
    show argS c n k a ++ argsS c n (k + 1) (as ++ bs) = (argS c n k a ++ argsS c n (k + 1) as) ++ argsS c n (k + (as.length + 1)) bs
    rw [argsS_app c n (k + 1) as bs, List.append_assoc, show k + 1 + as.length = k + (as.length + 1) by omega]
theorem argsS_take (c n : Nat) {as : List Sh} {i : Nat} {a : Sh} (e : as[i]? = some a) : argsS c n 0 (as.take (i + 1)) = argsS c n 0 (as.take i) ++ argS c n i a := by
  have l : (as.take i).length = i := by rw [List.length_take]; have := (List.getElem?_eq_some_iff.mp e).1; omega
  rw [List.take_add_one, e, argsS_app, l]
  show _ ++ (argS c n (0 + i) a ++ []) = _
  rw [List.append_nil, Nat.zero_add]
theorem argsS_len (c n : Nat) : ∀ (k : Nat) (as : List Sh), (argsS c n k as).length = (Sh.varsL as).length
  | _, [] => rfl
  | k, a :: as => by
    show (argS c n k a ++ argsS c n (k + 1) as).length = (a.vars ++ Sh.varsL as).length
    rw [List.length_append, List.length_append, argsS_len c n (k + 1) as]
    unfold argS
    rw [List.length_map]
theorem isLx_d (x : Str) (s : Sh) : (s.d).eqv (.str x) = isLx x s := by
  cases s with
  | var y => exact eqv_str y x
  | node n as => rfl
theorem lit_ab {x : Str} (h : x ∈ (["a", "b"] : List Str)) : (["a", "b"] : List Str)[ixL x]? = some x ∧ ∀ m, m < ixL x → (["a", "b"] : List Str)[m]? ≠ some x := by
  rcases List.mem_cons.mp h with rfl | h
  · exact ⟨rfl, fun m hm => absurd hm (Nat.not_lt_zero _)⟩
  · rw [List.mem_singleton.mp h]
    refine ⟨rfl, fun m hm => ?_⟩
    have e : m = 0 := by
      have : ixL "b" = 1 := rfl
      omega
    rw [e]
    decide +kernel
theorem varsL_mem : ∀ {as : List Sh} {a : Sh}, a ∈ as → ∀ x ∈ a.vars, x ∈ Sh.varsL as
  | b :: as, a, h, x, hx => by
    rcases List.mem_cons.mp h with rfl | h
    · exact List.mem_append_left _ hx
    · exact List.mem_append_right _ (varsL_mem h x hx)
/-- a type whose variables are a and b -/
structure Ab (s : Sh) : Prop where
  small : s.small
  dep : s.dep ≤ 3
  parts : s.parts ≤ 5
  vars : ∀ x ∈ s.vars, x ∈ (["a", "b"] : List Str)
theorem Ab.shp {s : Sh} (h : ∀ x ∈ s.vars, x ∈ (["a", "b"] : List Str)) (d : s.dep ≤ 3) : SeqAt.shaped s.d = true := by
  have q := Sh.d_lay s fun x hx => letters_ok (m := 2) x (h x hx)
  exact Flat.shp (n := 3) ⟨q.1, by omega⟩ (by decide)
def mfWithin : DF := fun ss w P => ∃ (c : Nat) (s : Sh), ss = [.val (.int (c : Nat)), .val s.d] ∧ Ab s ∧ P (.list (stepsP c s)) w
section
variable {P : Program} {w : World} {K : PySem.W.Frag} {mg : Str → Option Value} {base : Heap} {Ts : List Addr} {aL aS aU aN : Addr}
theorem ok_steps_within {f fP fV : Addr} {fd fdP fdV : FuncData} {cdv : Value} {k : Nat} (F : FunV K "steps_within" "steps_within" s_steps_within f fd cdv) (T : TS mg) (Gb : Gbl K mg aL aS aU aN) (lit : ∃ o, K.lookup aL = some o ∧ o.cls = .type "tuple" ∧ o.dict = none)
    (Gvariables_in : FnG P w K mg base k fP fdP ["shape"] (spD K Ts mfVarsIn)) (mvariables_in : mg "variables_in" = some (.ref fP)) (kvariables_in : PySem.W.keepIn K (.ref fP) = true) (bvariables_in : Binds K fdP ["shape"] [])
    (Gis_variable : FnG P w K mg base k fV fdV ["value"] (spD K Ts mfIsVar)) (mis_variable : mg "is_variable" = some (.ref fV)) (kis_variable : PySem.W.keepIn K (.ref fV) = true) (bis_variable : Binds K fdV ["value"] []) :
    FnG P w K mg base (k + 1) f fd ["class_number", "part"] (spD K Ts mfWithin) := by
  refine FnG.weak (okD F sc_steps_within (fun A outer s H E hg hr => ⟨_, (pss_cons (ps_if (pt_val (pe_callG Gis_variable hg hr (by rfl) mis_variable kis_variable bis_variable (pa_cons (pv 1) pa_nil))) (pss_one (ps_ret (pe_lst pa_nil))) pss_nil)
          (pss_cons (ps_set (i := 2) sc_steps_within.nd rfl (Or.inl rfl) (pe_lst pa_nil))
          (pss_cons (ps_for PassesOwn.never rfl (pi_enumT K rfl (by rfl) T.m_enumerate (pa_cons (pe_slice (slK K rfl) (pv 1) (po_some pe_int) po_none) pa_nil)) (pg_tup rfl (pgs_cons (pg_name (i := 3) sc_steps_within.nd rfl (Or.inl rfl)) (pgs_cons (pg_name (i := 4) sc_steps_within.nd rfl (Or.inl rfl)) pgs_nil)))
          (pss_one (ps_for PassesOwn.never rfl (pi_K K rfl (pe_callG Gvariables_in hg hr (by rfl) mvariables_in kvariables_in bvariables_in (pa_cons (pv 4) pa_nil))) (pg_name (i := 5) sc_steps_within.nd rfl (Or.inl rfl))
          (pss_one (ps_expr (bmK K rfl (pe_bm PySem.F.plainAttrs_list PySem.F.slot_list_append PySem.F.type_list_append mt_append (pv 2) (pa_cons (pe_tup (pa_cons (pv 0) (pa_cons (bmK K rfl (pe_bm PySem.F.plainAttrs_tuple PySem.F.slot_tuple_index PySem.F.type_tuple_index (tindexK K rfl) (pe_globR (by rfl) Gb.g_LETTERS) (pa_cons (pv 5) pa_nil))) (pa_cons (pe_ix (ixK K rfl) (pv 1) pe_int (fun _ _ => rfl)) (pa_cons (pv 3) (pa_cons (pe_cmpR (neK K rfl (units64 hr)) (pv 4) (pv 5) (nomark _)) pa_nil)))))) pa_nil))))))))
          (pss_one (ps_ret (pv 2)))))), by repeat first
        | (with_reducible apply ds_own (i := 2); apply dn_lst)
        | (with_reducible apply ds_frz 2; with_reducible apply ds_ret (te := tVar 2))
        | (apply de_tindex (ys := ["a", "b"]) lit Gb.d_LETTERS)
        | (with_reducible apply ds_asg)
        | (with_reducible apply ds_par)
        | exact de_int
        | exact de_str
        | exact de_bl
        | exact de_non
        | exact de_var
        | exact dx_var
        | exact ds_retN
        | exact ds_next
        | exact ds_brk
        | exact ds_cont
        | exact dt_yes
        | exact dv_nil
        | exact da_nil
        | exact dgs_nil
        | exact dg_name
        | exact do_none
        | (with_reducible apply ds_seq)
        | (with_reducible apply ds_ret)
        | (with_reducible apply ds_if)
        | (with_reducible apply ds_forI)
        | (with_reducible apply ds_whileI)
        | (with_reducible apply ds_drop)
        | (apply dg_tupN 2; exact rfl)
        | (apply dg_tupN 3; exact rfl)
        | apply dgs_cons
        | apply di_any
        | apply di_range
        | apply dt_test
        | apply dt_B
        | apply dt_and
        | apply dt_or
        | apply dt_not
        | apply dx_of
        | apply de_tup
        | apply dv_cons
        | apply da_cons
        | apply do_some
        | apply de_if
        | apply de_not
        | apply de_and
        | apply de_or
        | (apply de_new; apply dn_lst)
        | apply de_op dr_ix
        | apply de_op dr_eq
        | apply de_op dr_ne
        | apply de_op dr_inA
        | apply de_op dr_catT
        | apply de_op dr_catL
        | apply de_op dr_add
        | apply de_op dr_sub
        | apply de_op dr_mul
        | apply de_op dr_mod
        | apply de_op dr_fdiv
        | apply de_op dr_lt
        | apply de_op dr_le
        | apply de_op dr_gt
        | apply de_op dr_ge
        | apply de_op dr_isN
        | apply de_op dr_notN
        | apply de_op dr_addS
        | apply de_slice
        | (apply de_isi; rotate_left 1; assumption; decide; rotate_right 1)
        | apply de_cb dc_len
        | apply de_cb dc_lenS
        | apply de_cb dc_int
        | apply de_cb dc_min2
        | apply de_cb dc_max2
        | apply de_cb dc_tuple
        | (apply de_new; apply dn_cb dcn_list)
        | apply de_call
        | apply de_m dm_append
        | apply de_m dm_insert
        | apply de_m dm_popAt
        | apply de_m0 dm_pop
        | apply de_extend
        | (apply de_new; apply dn_lcN)
        | (apply de_new; apply dn_rep; apply dn_lst)
        | (apply de_genN; rotate_left 2; assumption; rotate_right 2)
        | (with_reducible apply ds_augAdd)
        | apply dt_chain
        | apply de_chain
        | apply dt_truth
        | apply di_enumT
        | apply de_count
        | apply de_op dr_repT
        | apply de_cb dc_all
        | apply de_cb dc_max
        | apply de_cb dc_min
        | (apply de_new; apply dn_cb dcn_sorted)
        | apply de_lenSet
        | (apply de_new; apply dn_listRg)
        | apply de_cb dc_repr⟩)) (spD_weak fun ss w P h => ?_)
  obtain ⟨c, s, rfl, hs, q⟩ := h
  refine ⟨rfl, ?_⟩
  dsimp only
  have hvar := isVar_d hs.small
  refine ⟨_, rfl, Sl.noConfusion, s.d, rfl, fun z e => ?_, _, rfl, ?_⟩
  · cases s with
    | var x => cases e; exact hs.small.2
    | node n as => cases e
  rw [hvar]
  cases s with
  | var x => exact iteT ⟨le0, fin q⟩
  | node n as =>
    refine iteF ⟨le0, _, rfl, Sl.noConfusion, 1, rfl, _, rfl, .inr ⟨_, rfl, _, rfl, ?_⟩⟩
    rw [show Dl.cutD (.int n :: Sh.ds as) (some 1) none = Sh.ds as from cut_tail _ _]
    refine ⟨fun i env w' => ∃ s3 s4 s5 : Sl, env = [.val (.int (c : Nat)), .val (Sh.node n as).d, .sh w.os.length, s3, s4, s5] ∧ w' = ⟨w.n, w.os ++ [some (argsS c n 0 (as.take i))]⟩, ⟨_, _, _, rfl, rfl⟩, ?_, ?_⟩
    · rintro i x _ _ hx ⟨s3, s4, s5, rfl, rfl⟩
      obtain ⟨a, ea, rfl⟩ : ∃ a, as[i]? = some a ∧ x = .tuple [.int (i : Nat), a.d] := by
        rw [Dl.pairsOf_get, Sh.ds_map, List.getElem?_map] at hx
        cases ea : as[i]? with
        | none => rw [ea] at hx; cases hx
        | some a => rw [ea] at hx; exact ⟨a, rfl, (Option.some.inj hx).symm.trans (by rw [Nat.zero_add])⟩
      have ha := List.mem_of_getElem? ea
      have hp := hs.parts
      have hp : Sh.partsL as + 1 ≤ 5 := hp
      have hd := hs.dep
      have hd : Sh.deps as + 1 ≤ 3 := hd
      have h1 := Sh.deps_le ha
      have h2 := partsL_le ha
      have h3 := vars_le a
      have h4 := varsL_le (as.take i)
      have h5 := partsL_take as i
      have hab : ∀ x ∈ a.vars, x ∈ (["a", "b"] : List Str) := fun x hx => hs.vars x (varsL_mem ha x hx)
      refine ⟨_, rfl, rfl, _, _, rfl, _, _, rfl, rfl, ?_⟩
      refine ⟨_, rfl, Sl.noConfusion, a, rfl, by omega, small_mem hs.small.2 ha, by omega, _, rfl, ?_⟩
      refine ⟨fun j env w' => ∃ s5 : Sl, env = [.val (.int (c : Nat)), .val (Sh.node n as).d, .sh w.os.length, .val (.int (i : Nat)), .val a.d, s5] ∧ w' = ⟨w.n, w.os ++ [some (argsS c n 0 (as.take i) ++ (a.vars.take j).map fun x => stD c (ixL x) n i (!isLx x a))]⟩, ⟨_, rfl, by rw [List.take_zero, List.map_nil, List.append_nil]⟩, ?_, ?_⟩
      · rintro j x _ _ hx ⟨s5, rfl, rfl⟩
        rw [List.getElem?_map] at hx
        cases ez : a.vars[j]? with
        | none => rw [ez] at hx; cases hx
        | some z =>
          rw [ez] at hx
          obtain rfl : PyData.str z = x := Option.some.inj hx
          obtain ⟨l1, l2⟩ := lit_ab (hab z (List.mem_of_getElem? ez))
          have hsh : SeqAt.shaped a.d = true := Ab.shp (fun x hx => hab x hx) (by omega)
          have hz : SeqAt.shaped (.str z) = true := Ab.shp (s := .var z) (fun x hx => by rw [List.mem_singleton.mp hx]; exact hab z (List.mem_of_getElem? ez)) (Nat.zero_le _)
          refine ⟨_, rfl, Sl.noConfusion, _, rfl, _, rfl, _, rfl, z, ixL z, rfl, l1, l2, _, rfl, Sl.noConfusion, _, _, rfl, rfl, _, _, _, rfl, rfl, at0, _, rfl, _, rfl, Sl.noConfusion, _, rfl, Sl.noConfusion, _, _, rfl, rfl, hsh, hz, ?_⟩
          refine ⟨by show 5 ≤ 100000; decide, _, _, get_own, rfl, _, rfl, ?_, ?_⟩
          · have l3 : (a.vars.take j).length ≤ a.vars.length := by rw [List.length_take]; omega
            rw [List.length_append, List.length_map, argsS_len]
            omega
          · refine ⟨_, rfl, ?_⟩
            show (⟨w.n, (w.os ++ [some _]).set w.os.length (some _)⟩ : Ws) = _
            rw [set_own, isLx_d, List.take_add_one, ez, List.map_append, ← List.append_assoc]
            rfl
      · rintro _ _ ⟨s5, rfl, rfl⟩
        refine ⟨_, _, _, rfl, ?_⟩
        rw [List.length_map, List.take_length, argsS_take c n ea]
        rfl
    · rintro _ _ ⟨s3, s4, s5, rfl, rfl⟩
      refine ⟨w.os.length, _, rfl, get_own, Nat.le_refl _, _, rfl, ?_⟩
      rw [set_own, Dl.pairsOf_len, Sh.ds_len, List.take_length]
      exact finO q
end
end Kin

-- dwp4
namespace Kin
open PySem PySem.Spec PyProof.Rows L2 Dl
open Evl (Ex sz_of sz_lt)
def lett (k : Nat) : Str := if k = 0 then "a" else "b"
def supS (c : Nat) (s : Sh) : List PyData := (plF s).flatMap fun y => stepsP c y.2
def rowS (c : Nat) (r : Row) : List PyData := r.sups.flatMap (supS c)
def tabS : Nat → List Row → List PyData
  | _, [] => []
  | k, r :: t => rowS k r ++ tabS (k + 1) t
/-- the steps to one argument, by letters -/
def argT (c n j m : Nat) (a : Sh) : List PyData := ((List.range m).filter fun i => decide (lett i ∈ a.vars)).map fun i => stD c i n j (!isLx (lett i) a)
def argsT (c n m : Nat) : Nat → List Sh → List PyData
  | _, [] => []
  | k, a :: as => argT c n k m a ++ argsT c n m (k + 1) as
def stepsT (c m : Nat) : Sh → List PyData
  | .var _ => []
  | .node n as => argsT c n m 0 as
def supT (c m : Nat) (s : Sh) : List PyData := (plF s).flatMap fun y => stepsT c m y.2
def rwT (c : Nat) (r : Row) : List PyData := r.sups.flatMap (supT c r.signs.length)
def tabT : Nat → List Row → List PyData
  | _, [] => []
  | k, r :: t => rwT k r ++ tabT (k + 1) t
theorem tabS_app : ∀ (k : Nat) (t u : List Row), tabS k (t ++ u) = tabS k t ++ tabS (k + t.length) u
  | k, [], u => rfl
  | k, r :: t, u => by
    show rowS k r ++ tabS (k + 1) (t ++ u) = (rowS k r ++ tabS (k + 1) t) ++ tabS (k + (t.length + 1)) u
    rw [tabS_app (k + 1) t u, List.append_assoc, show k + 1 + t.length = k + (t.length + 1) by omega]
theorem tabT_app : ∀ (k : Nat) (t u : List Row), tabT k (t ++ u) = tabT k t ++ tabT (k + t.length) u
  | k, [], u => rfl
  | k, r :: t, u => by
    show rwT k r ++ tabT (k + 1) (t ++ u) = (rwT k r ++ tabT (k + 1) t) ++ tabT (k + (t.length + 1)) u
    rw [tabT_app (k + 1) t u, List.append_assoc, show k + 1 + t.length = k + (t.length + 1) by omega]
theorem argsT_app (c n m : Nat) : ∀ (k : Nat) (as bs : List Sh), argsT c n m k (as ++ bs) = argsT c n m k as ++ argsT c n m (k + as.length) bs
  | k, [], bs => rfl
  | k, a :: as, bs => by
    show argT c n k m a ++ argsT c n m (k + 1) (as ++ bs) = (argT c n k m a ++ argsT c n m (k + 1) as) ++ argsT c n m (k + (as.length + 1)) bs
    rw [argsT_app c n m (k + 1) as bs, List.append_assoc, show k + 1 + as.length = k + (as.length + 1) by omega]
theorem take_len {α : Type} {l : List α} {i : Nat} {x : α} (e : l[i]? = some x) : (l.take i).length = i := by
  rw [List.length_take]
  have := (List.getElem?_eq_some_iff.mp e).1
  omega
theorem tabS_take {t : List Row} {i : Nat} {r : Row} (e : t[i]? = some r) : tabS 0 (t.take (i + 1)) = tabS 0 (t.take i) ++ rowS i r := by
  rw [List.take_add_one, e, tabS_app, take_len e]
  show _ ++ (rowS (0 + i) r ++ []) = _
  rw [List.append_nil, Nat.zero_add]
theorem tabT_take {t : List Row} {i : Nat} {r : Row} (e : t[i]? = some r) : tabT 0 (t.take (i + 1)) = tabT 0 (t.take i) ++ rwT i r := by
  rw [List.take_add_one, e, tabT_app, take_len e]
  show _ ++ (rwT (0 + i) r ++ []) = _
  rw [List.append_nil, Nat.zero_add]
theorem argsT_take (c n m : Nat) {as : List Sh} {i : Nat} {a : Sh} (e : as[i]? = some a) : argsT c n m 0 (as.take (i + 1)) = argsT c n m 0 (as.take i) ++ argT c n i m a := by
  rw [List.take_add_one, e, argsT_app, take_len e]
  show _ ++ (argT c n (0 + i) m a ++ []) = _
  rw [List.append_nil, Nat.zero_add]
theorem flat_take {α β : Type} {f : α → List β} {l : List α} {i : Nat} {x : α} (e : l[i]? = some x) : (l.take (i + 1)).flatMap f = (l.take i).flatMap f ++ f x := by
  rw [List.take_add_one, e, List.flatMap_append]
  show _ ++ (f x ++ []) = _
  rw [List.append_nil]
mutual
theorem plF_sub : ∀ s : Sh, ∀ y ∈ plF s, y.2.dep ≤ s.dep ∧ y.2.parts ≤ s.parts ∧ y.2.vars.length ≤ s.vars.length ∧ ∀ x ∈ y.2.vars, x ∈ s.vars
  | .var x, y, h => by
    have h : y ∈ [(([], .var x) : List Nat × Sh)] := h
    rw [List.mem_singleton.mp h]
    exact ⟨Nat.le_refl _, Nat.le_refl _, Nat.le_refl _, fun _ h => h⟩
  | .node n as, y, h => by
    rcases List.mem_cons.mp h with rfl | h
    · exact ⟨Nat.le_refl _, Nat.le_refl _, Nat.le_refl _, fun _ h => h⟩
    · obtain ⟨h1, h2, h3, h4⟩ := plL_sub 0 as y h
      exact ⟨by show _ ≤ Sh.deps as + 1; omega, by show _ ≤ Sh.partsL as + 1; omega, h3, h4⟩
theorem plL_sub : ∀ (k : Nat) (as : List Sh), ∀ y ∈ plL k as, y.2.dep ≤ Sh.deps as ∧ y.2.parts ≤ Sh.partsL as ∧ y.2.vars.length ≤ (Sh.varsL as).length ∧ ∀ x ∈ y.2.vars, x ∈ Sh.varsL as
  | _, [], y, h => by cases h
  | k, a :: as, y, h => by
    have h : y ∈ (plF a).map (fun x => (k :: x.1, x.2)) ++ plL (k + 1) as := h
    have l : (Sh.varsL (a :: as)).length = a.vars.length + (Sh.varsL as).length := by
      show (a.vars ++ Sh.varsL as).length = _
      rw [List.length_append]
    rcases List.mem_append.mp h with h | h
    · obtain ⟨z, hz, rfl⟩ := List.mem_map.mp h
      obtain ⟨h1, h2, h3, h4⟩ := plF_sub a z hz
      exact ⟨by show z.2.dep ≤ max (Sh.dep a) (Sh.deps as); omega, by show z.2.parts ≤ a.parts + Sh.partsL as; omega, by show z.2.vars.length ≤ _; omega, fun x hx => List.mem_append_left _ (h4 x hx)⟩
    · obtain ⟨h1, h2, h3, h4⟩ := plL_sub (k + 1) as y h
      exact ⟨by show _ ≤ max (Sh.dep a) (Sh.deps as); omega, by show _ ≤ a.parts + Sh.partsL as; omega, by omega, fun x hx => List.mem_append_right _ (h4 x hx)⟩
end
theorem count_ab {m : Nat} (hm : m ≤ 2) : ∀ v : List Str, ((List.range m).filter fun i => decide (lett i ∈ v)).length ≤ v.length
  | [] => by
    rw [List.filter_eq_nil_iff.mpr fun i _ => by rw [decide_eq_false List.not_mem_nil]; exact Bool.false_ne_true]
    exact Nat.le_refl _
  | x :: v => by
    have ih := count_ab hm v
    have e : ∀ i, decide (lett i ∈ x :: v) = (decide (lett i = x) || decide (lett i ∈ v)) := fun i => by simp [List.mem_cons]
    have ab : lett 0 ≠ lett 1 := by decide +kernel
    rw [List.length_cons]
    rcases (show m = 0 ∨ m = 1 ∨ m = 2 by omega) with rfl | rfl | rfl
    · exact Nat.zero_le _
    · have q := List.length_filter_le (fun i => decide (lett i ∈ x :: v)) (List.range 1)
      rw [List.length_range] at q
      omega
    · have e2 : List.range 2 = [0, 1] := rfl
      rw [e2] at ih ⊢
      rw [List.filter_cons, List.filter_cons, List.filter_nil] at ih ⊢
      rw [e 0, e 1]
      by_cases h0 : lett 0 = x
      · have h1 : lett 1 ≠ x := fun z => ab (h0.trans z.symm)
        rw [decide_eq_true h0, decide_eq_false h1, Bool.true_or, Bool.false_or, if_pos rfl]
        split at ih <;> split at ih <;> split <;> simp only [List.length_cons, List.length_nil] at ih ⊢ <;> first | omega | (simp_all; try omega)
      · rw [decide_eq_false h0, Bool.false_or]
        by_cases h1 : lett 1 = x
        · rw [decide_eq_true h1, Bool.true_or, if_pos rfl]
          split at ih <;> split at ih <;> split <;> simp only [List.length_cons, List.length_nil] at ih ⊢ <;> first | omega | (simp_all; try omega)
        · rw [decide_eq_false h1, Bool.false_or]
          omega
theorem argsT_len {m : Nat} (hm : m ≤ 2) (c n : Nat) : ∀ (k : Nat) (as : List Sh), (argsT c n m k as).length ≤ (Sh.varsL as).length
  | _, [] => Nat.le_refl _
  | k, a :: as => by
    have h1 := argsT_len hm c n (k + 1) as
    have h2 := count_ab hm a.vars
    show (argT c n k m a ++ argsT c n m (k + 1) as).length ≤ (a.vars ++ Sh.varsL as).length
    unfold argT
    rw [List.length_append, List.length_append, List.length_map]
    omega
theorem sum_len {f : List Nat × Sh → List PyData} {V : Nat} : ∀ L : List (List Nat × Sh), (∀ y ∈ L, (f y).length ≤ V) → (∀ y ∈ L, isV y.2 = true → f y = []) → (L.flatMap f).length ≤ (L.filter fun y => !isV y.2).length * V
  | [], _, _ => Nat.zero_le _
  | y :: L, h1, h2 => by
    have ih := sum_len L (fun z hz => h1 z (List.mem_cons_of_mem _ hz)) fun z hz => h2 z (List.mem_cons_of_mem _ hz)
    have h := h1 y List.mem_cons_self
    rw [List.flatMap_cons, List.length_append]
    cases e : isV y.2 with
    | true =>
      rw [h2 y List.mem_cons_self e, List.filter_cons_of_neg (by rw [e]; decide)]
      show 0 + _ ≤ _
      omega
    | false =>
      rw [List.filter_cons_of_pos (by rw [e]; rfl), List.length_cons, Nat.succ_mul]
      omega
theorem parts_two (L : List (List Nat × Sh)) : (L.filter fun y => !isV y.2).length + (L.filter fun y => isV y.2).length = L.length := by
  induction L with
  | nil => rfl
  | cons y L ih =>
    cases e : isV y.2 with
    | true => rw [List.filter_cons_of_neg (by rw [e]; decide), List.filter_cons_of_pos (by rw [e]), List.length_cons, List.length_cons]; omega
    | false => rw [List.filter_cons_of_pos (by rw [e]; rfl), List.filter_cons_of_neg (by rw [e]; decide), List.length_cons, List.length_cons]; omega
theorem two_letters : ∀ {v : List Str}, v.Nodup → (∀ x ∈ v, x ∈ (["a", "b"] : List Str)) → v.length ≤ 2
  | [], _, _ => by decide
  | [_], _, _ => by show 1 ≤ 2; decide
  | [_, _], _, _ => by show 2 ≤ 2; decide
  | x :: y :: z :: v, n, h => by
    have h1 := h x (by simp)
    have h2 := h y (by simp)
    have h3 := h z (by simp)
    simp only [List.mem_cons, List.not_mem_nil, or_false] at h1 h2 h3
    obtain ⟨n1, n2⟩ := List.nodup_cons.mp n
    obtain ⟨n3, n4⟩ := List.nodup_cons.mp n2
    simp only [List.mem_cons, not_or] at n1 n3
    rcases h1 with rfl | rfl <;> rcases h2 with rfl | rfl <;> rcases h3 with rfl | rfl <;> simp_all
theorem six {f : List Nat × Sh → List PyData} {s : Sh} (hp : s.parts ≤ 5) (hv : s.vars.length ≤ 2) (h1 : ∀ y ∈ plF s, (f y).length ≤ y.2.vars.length) (h2 : ∀ y ∈ plF s, isV y.2 = true → f y = []) : ((plF s).flatMap f).length ≤ 6 := by
  have a := sum_len (f := f) (V := s.vars.length) (plF s) (fun y hy => Nat.le_trans (h1 y hy) (plF_sub s y hy).2.2.1) h2
  have b := parts_two (plF s)
  have c := congrArg List.length (pl_vars s)
  rw [List.length_map, List.length_map] at c
  rw [c, plF_len] at b
  refine Nat.le_trans a ?_
  rcases (show s.vars.length = 0 ∨ s.vars.length = 1 ∨ s.vars.length = 2 by omega) with z | z | z <;> rw [z] at b ⊢ <;> omega
theorem stepsP_len (c : Nat) (s : Sh) : (stepsP c s).length ≤ s.vars.length := by
  cases s with
  | var x => exact Nat.zero_le _
  | node n as => exact Nat.le_of_eq (argsS_len c n 0 as)
theorem stepsT_len {m : Nat} (hm : m ≤ 2) (c : Nat) (s : Sh) : (stepsT c m s).length ≤ s.vars.length := by
  cases s with
  | var x => exact Nat.zero_le _
  | node n as => exact argsT_len hm c n 0 as
theorem isV_steps {c : Nat} {s : Sh} (h : isV s = true) : stepsP c s = [] := by
  cases s with
  | var x => rfl
  | node n as => cases h
theorem isV_stepsT {c m : Nat} {s : Sh} (h : isV s = true) : stepsT c m s = [] := by
  cases s with
  | var x => rfl
  | node n as => cases h
theorem supS_len {ar : List Nat} {m top : Nat} (c : Nat) {s : Sh} (o : SupOk ar m top s) : (supS c s).length ≤ 6 :=
  six o.parts (two_letters o.once fun x hx => List.mem_of_mem_take (o.vars x hx)) (fun y _ => stepsP_len c y.2) fun y _ e => isV_steps e
theorem supT_len {ar : List Nat} {m top : Nat} (c : Nat) (hm : m ≤ 2) {s : Sh} (o : SupOk ar m top s) : (supT c m s).length ≤ 6 :=
  six o.parts (two_letters o.once fun x hx => List.mem_of_mem_take (o.vars x hx)) (fun y _ => stepsT_len hm c y.2) fun y _ e => isV_stepsT e
theorem sups_len {f : Sh → List PyData} : ∀ {l : List Sh}, (∀ s ∈ l, (f s).length ≤ 6) → (l.flatMap f).length ≤ 6 * l.length
  | [], _ => Nat.le_refl _
  | s :: l, h => by
    have h1 := h s List.mem_cons_self
    have h2 := sups_len fun z hz => h z (List.mem_cons_of_mem _ hz)
    rw [List.flatMap_cons, List.length_append, List.length_cons]
    omega
end Kin

-- dwp4
namespace Kin
open PySem PySem.Spec PyProof.Rows L2 Dl
open Evl (Ex sz_of sz_lt)
mutual
theorem small_of {ar : List Nat} (h2 : ∀ x ∈ ar, x ≤ 2) : ∀ s : Sh, s.okA ar → (∀ x ∈ s.vars, x ∈ (["a", "b"] : List Str)) → s.small
  | .var x, _, h => by
    have h := h x (by show x ∈ [x]; exact List.mem_singleton_self x)
    simp only [List.mem_cons, List.not_mem_nil, or_false] at h
    rcases h with rfl | rfl
    · exact ⟨by decide +kernel, by decide +kernel⟩
    · exact ⟨by decide +kernel, by decide +kernel⟩
  | .node n as, ⟨e, h⟩, hv => ⟨h2 _ (List.mem_of_getElem? e), smalls_of h2 as h hv⟩
theorem smalls_of {ar : List Nat} (h2 : ∀ x ∈ ar, x ≤ 2) : ∀ as : List Sh, Sh.okAs ar as → (∀ x ∈ Sh.varsL as, x ∈ (["a", "b"] : List Str)) → Sh.smalls as
  | [], _, _ => trivial
  | a :: as, ⟨h, g⟩, hv => ⟨small_of h2 a h fun x hx => hv x (List.mem_append_left _ hx), smalls_of h2 as g fun x hx => hv x (List.mem_append_right _ hx)⟩
end
theorem letters_ab {m : Nat} {x : Str} (h : x ∈ letters m) : x ∈ (["a", "b"] : List Str) := List.mem_of_mem_take h

/-- a super of a class with m parameters -/
structure SupS (ar : List Nat) (m : Nat) (s : Sh) : Prop where
  ab : Ab s
  ok : s.okA ar
  lets : ∀ x ∈ s.vars, x ∈ letters m
  lenS : ∀ c, (supS c s).length ≤ 6
  lenT : ∀ c, (supT c m s).length ≤ 6
structure RowS (ar : List Nat) (r : Row) : Prop where
  sups : r.sups.length ≤ 2
  signs : r.signs.length ≤ 2
  each : ∀ s ∈ r.sups, SupS ar r.signs.length s
theorem row_S {ar : List Nat} {t : List Row} (o : TabOk ar t) {c : Nat} {r : Row} (e : t[c]? = some r) : RowS ar r := by
  have hr := o.row c r e
  have hc : c < ar.length := by rw [← o.len]; exact (List.getElem?_eq_some_iff.mp e).1
  have hm : ar.getD c 0 = r.signs.length := hr.signs.symm
  have h2 : r.signs.length ≤ 2 := by
    rw [hr.signs, List.getD_eq_getElem?_getD, List.getElem?_eq_getElem hc]
    exact o.two _ (List.getElem_mem hc)
  refine ⟨hr.sups, h2, fun s hs => ?_⟩
  have so := hr.sup s hs
  rw [hm] at so
  have ab : ∀ x ∈ s.vars, x ∈ (["a", "b"] : List Str) := fun x hx => letters_ab (so.vars x hx)
  exact ⟨⟨small_of o.two s so.ok ab, so.dep, so.parts, ab⟩, so.ok, so.vars, fun c => supS_len c so, fun c => supT_len c h2 so⟩
theorem rows_S {ar : List Nat} {t : List Row} (o : TabOk ar t) : ∀ r ∈ t, RowS ar r := fun r hr => by
  obtain ⟨i, hi, e⟩ := List.getElem_of_mem hr
  exact row_S o (by rw [List.getElem?_eq_getElem hi, e])
theorem tabS_len {ar : List Nat} : ∀ (k : Nat) (t : List Row), (∀ r ∈ t, RowS ar r) → (tabS k t).length ≤ 12 * t.length
  | _, [], _ => Nat.le_refl _
  | k, r :: t, h => by
    have h1 := tabS_len (k + 1) t fun z hz => h z (List.mem_cons_of_mem _ hz)
    have hr := h r List.mem_cons_self
    have h2 := sups_len (f := supS k) fun s hs => (hr.each s hs).lenS k
    have h3 := hr.sups
    show (rowS k r ++ tabS (k + 1) t).length ≤ 12 * (t.length + 1)
    unfold rowS
    rw [List.length_append]
    omega
theorem tabT_len {ar : List Nat} : ∀ (k : Nat) (t : List Row), (∀ r ∈ t, RowS ar r) → (tabT k t).length ≤ 12 * t.length
  | _, [], _ => Nat.le_refl _
  | k, r :: t, h => by
    have h1 := tabT_len (k + 1) t fun z hz => h z (List.mem_cons_of_mem _ hz)
    have hr := h r List.mem_cons_self
    have h2 := sups_len (f := supT k r.signs.length) fun s hs => (hr.each s hs).lenT k
    have h3 := hr.sups
    show (rwT k r ++ tabT (k + 1) t).length ≤ 12 * (t.length + 1)
    unfold rwT
    rw [List.length_append]
    omega
theorem let_ix {m : Nat} (hm : m ≤ 2) {x : Str} (h : x ∈ letters m) : ixL x < m ∧ lett (ixL x) = x := by
  rcases (show m = 0 ∨ m = 1 ∨ m = 2 by omega) with rfl | rfl | rfl
  · cases h
  · have h : x ∈ (["a"] : List Str) := h
    rw [List.mem_singleton.mp h]
    exact ⟨by decide +kernel, by decide +kernel⟩
  · have h : x ∈ (["a", "b"] : List Str) := h
    rcases List.mem_cons.mp h with rfl | h
    · exact ⟨by decide +kernel, by decide +kernel⟩
    · rw [List.mem_singleton.mp h]
      exact ⟨by decide +kernel, by decide +kernel⟩
theorem ix_let {i : Nat} (h : i < 2) : ixL (lett i) = i := by
  rcases (show i = 0 ∨ i = 1 by omega) with rfl | rfl <;> decide +kernel
theorem arg_mem {c n j m : Nat} (hm : m ≤ 2) {a : Sh} (h : ∀ x ∈ a.vars, x ∈ letters m) (z : PyData) : z ∈ argS c n j a ↔ z ∈ argT c n j m a := by
  unfold argS argT
  rw [List.mem_map, List.mem_map]
  refine ⟨fun ⟨x, hx, e⟩ => ?_, fun ⟨i, hi, e⟩ => ?_⟩
  · obtain ⟨h1, h2⟩ := let_ix hm (h x hx)
    exact ⟨ixL x, List.mem_filter.mpr ⟨List.mem_range.mpr h1, by rw [h2]; exact decide_eq_true hx⟩, by rw [h2]; exact e⟩
  · obtain ⟨h1, h2⟩ := List.mem_filter.mp hi
    exact ⟨lett i, of_decide_eq_true h2, by rw [ix_let (by have := List.mem_range.mp h1; omega)]; exact e⟩
theorem args_mem {c n m : Nat} (hm : m ≤ 2) (z : PyData) : ∀ (k : Nat) (as : List Sh), (∀ x ∈ Sh.varsL as, x ∈ letters m) → (z ∈ argsS c n k as ↔ z ∈ argsT c n m k as)
  | _, [], _ => Iff.rfl
  | k, a :: as, h => by
    show z ∈ argS c n k a ++ argsS c n (k + 1) as ↔ z ∈ argT c n k m a ++ argsT c n m (k + 1) as
    rw [List.mem_append, List.mem_append, arg_mem hm (fun x hx => h x (List.mem_append_left _ hx)), args_mem hm z (k + 1) as fun x hx => h x (List.mem_append_right _ hx)]
theorem steps_mem {c m : Nat} (hm : m ≤ 2) (z : PyData) {s : Sh} (h : ∀ x ∈ s.vars, x ∈ letters m) : z ∈ stepsP c s ↔ z ∈ stepsT c m s := by
  cases s with
  | var x => exact Iff.rfl
  | node n as => exact args_mem hm z 0 as h
theorem sup_mem {c m : Nat} (hm : m ≤ 2) (z : PyData) {s : Sh} (h : ∀ x ∈ s.vars, x ∈ letters m) : z ∈ supS c s ↔ z ∈ supT c m s := by
  unfold supS supT
  rw [List.mem_flatMap, List.mem_flatMap]
  exact ⟨fun ⟨y, hy, e⟩ => ⟨y, hy, (steps_mem hm z fun x hx => h x ((plF_sub s y hy).2.2.2 x hx)).mp e⟩, fun ⟨y, hy, e⟩ => ⟨y, hy, (steps_mem hm z fun x hx => h x ((plF_sub s y hy).2.2.2 x hx)).mpr e⟩⟩
theorem tab_mem {ar : List Nat} (z : PyData) : ∀ (k : Nat) (t : List Row), (∀ r ∈ t, RowS ar r) → (z ∈ tabS k t ↔ z ∈ tabT k t)
  | _, [], _ => Iff.rfl
  | k, r :: t, h => by
    have hr := h r List.mem_cons_self
    show z ∈ rowS k r ++ tabS (k + 1) t ↔ z ∈ rwT k r ++ tabT (k + 1) t
    rw [List.mem_append, List.mem_append, tab_mem z (k + 1) t fun z hz => h z (List.mem_cons_of_mem _ hz)]
    refine or_congr_left ?_
    unfold rowS rwT
    rw [List.mem_flatMap, List.mem_flatMap]
    exact ⟨fun ⟨s, hs, e⟩ => ⟨s, hs, (sup_mem hr.signs z (hr.each s hs).lets).mp e⟩, fun ⟨s, hs, e⟩ => ⟨s, hs, (sup_mem hr.signs z (hr.each s hs).lets).mpr e⟩⟩
def StD (z : PyData) : Prop := ∃ c i n j g, z = stD c i n j g ∧ c < 100 ∧ i < 100 ∧ n < 100 ∧ j < 100
mutual
theorem plF_ok {ar : List Nat} : ∀ s : Sh, s.okA ar → ∀ y ∈ plF s, y.2.okA ar
  | .var x, h, y, hy => by
    have hy : y ∈ [(([], .var x) : List Nat × Sh)] := hy
    rw [List.mem_singleton.mp hy]
    exact h
  | .node n as, h, y, hy => by
    rcases List.mem_cons.mp hy with rfl | hy
    · exact h
    · exact plL_ok 0 as h.2 y hy
theorem plL_ok {ar : List Nat} : ∀ (k : Nat) (as : List Sh), Sh.okAs ar as → ∀ y ∈ plL k as, y.2.okA ar
  | _, [], _, y, hy => by cases hy
  | k, a :: as, h, y, hy => by
    have hy : y ∈ (plF a).map (fun x => (k :: x.1, x.2)) ++ plL (k + 1) as := hy
    rcases List.mem_append.mp hy with hy | hy
    · obtain ⟨z, hz, rfl⟩ := List.mem_map.mp hy
      exact plF_ok a h.1 z hz
    · exact plL_ok (k + 1) as h.2 y hy
end
theorem args_St {c n : Nat} (hc : c < 100) (hn : n < 100) {z : PyData} : ∀ (k : Nat) (as : List Sh), k + as.length < 100 → z ∈ argsS c n k as → StD z
  | _, [], _, h => by cases h
  | k, a :: as, l, h => by
    rw [List.length_cons] at l
    rcases List.mem_append.mp (show z ∈ argS c n k a ++ argsS c n (k + 1) as from h) with h | h
    · obtain ⟨x, hx, rfl⟩ := List.mem_map.mp h
      refine ⟨c, ixL x, n, k, _, rfl, hc, ?_, hn, by omega⟩
      unfold ixL
      split <;> decide
    · exact args_St hc hn (k + 1) as (by omega) h
theorem tab_St {ar : List Nat} (ha : ar.length ≤ 5) (h2 : ∀ x ∈ ar, x ≤ 2) {z : PyData} : ∀ (k : Nat) (t : List Row), (∀ r ∈ t, RowS ar r) → k + t.length < 100 → z ∈ tabS k t → StD z
  | _, [], _, _, h => by cases h
  | k, r :: t, hs, l, h => by
    rw [List.length_cons] at l
    rcases List.mem_append.mp (show z ∈ rowS k r ++ tabS (k + 1) t from h) with h | h
    · obtain ⟨s, hm, h⟩ := List.mem_flatMap.mp h
      obtain ⟨y, hy, h⟩ := List.mem_flatMap.mp h
      have ok := plF_ok s ((hs r List.mem_cons_self).each s hm).ok y hy
      match e : y.2, ok, h with
      | .var x, _, h => cases h
      | .node n as, ok, h =>
        have hn := (List.getElem?_eq_some_iff.mp ok.1).1
        have hl := h2 _ (List.mem_of_getElem? ok.1)
        exact args_St (by omega) (by omega) 0 as (by omega) h
    · exact tab_St ha h2 (k + 1) t (fun q hq => hs q (List.mem_cons_of_mem _ hq)) (by omega) h
theorem st_mb {z : PyData} (h : StD z) : Ds.Mb z ∧ z.depth ≤ 50 ∧ Ds.hb z = true := by
  obtain ⟨c, i, n, j, g, rfl, _⟩ := h
  exact ⟨⟨⟨_, rfl⟩, rfl, by show NestedKey.depth (.tup [.num _, .num _, .num _, .num _, .num _]) ≤ 8; simp [NestedKey.depth, NestedKey.depthAll]⟩, by show (max 0 (max 0 (max 0 (max 0 (max 0 0))))) + 1 ≤ 50; decide, rfl⟩
theorem st_alike {x y : PyData} (h : StD x) (h' : StD y) : PySem.W.alike x y = true := by
  obtain ⟨c, i, n, j, g, rfl, _⟩ := h
  obtain ⟨c', i', n', j', g', rfl, _⟩ := h'
  rfl
theorem st_sortable {ds : List PyData} (h : ∀ z ∈ ds, StD z) : PySem.W.Sortable ds := .inl fun d hd => by
  obtain ⟨c, i, n, j, g, rfl, _⟩ := h d hd
  exact ⟨_, _, rfl⟩
/-- zs is sorted(set(ds)) -/
structure SetOf (zs ds : List PyData) : Prop where
  nd : zs.Nodup
  so : zs.Pairwise (fun a b => dLe a b = true)
  me : ∀ z, z ∈ zs ↔ z ∈ ds
theorem SetOf.one {zs zs' ds ds' : List PyData} (a : SetOf zs ds) (b : SetOf zs' ds') (h : ∀ z ∈ ds, StD z) (e : ∀ z, z ∈ ds ↔ z ∈ ds') : zs = zs' :=
  Ds.sorted_one (fun x hx y hy => st_alike (h x ((a.me x).mp hx)) (h y ((a.me y).mp hy))) (fun x hx => (st_mb (h x ((a.me x).mp hx))).2.2) a.nd b.nd a.so b.so fun z => ((a.me z).trans (e z)).trans (b.me z).symm
end Kin

-- dwp4
namespace Dl
open PySem PySem.Spec PyProof.Rows L2
open Evl (Ex sz_of sz_lt)
theorem spN_weak {K : PySem.W.Frag} {T : List Addr} {mf mf' : DFN} (h : ∀ ss w P, mf' ss w P → mf ss w P) (vs : List V) (H : Hp) (Q : VK) (E : XK) (z : spN K T mf' vs H Q E) : spN K T mf vs H Q E := by
  obtain ⟨pe, F, ss, n, P, h1, h2, h3, h4, h5, h6⟩ := z
  exact ⟨pe, F, ss, n, P, h1, h2, h3, h4, h _ _ _ h5, h6⟩
end Dl
namespace Kin
open PySem PySem.Spec PyProof.Rows L2 Dl
open Evl (Ex sz_of sz_lt)
abbrev s_steps_of : Stmt := topS 30
abbrev N_steps_of : List Str := ["table", "found", "class_number", "row", "shape", "_", "part"]
theorem sc_steps_of : FnScope N_steps_of ["table"] (defScope s_steps_of) := ⟨rfl, rfl, rfl, by decide +kernel, rfl, by decide +kernel, by decide +kernel⟩
abbrev s_steps : Stmt := topS 31
abbrev N_steps : List Str := ["table"]
theorem sc_steps : FnScope N_steps ["table"] (defScope s_steps) := ⟨rfl, rfl, rfl, by decide +kernel, rfl, by decide +kernel, by decide +kernel⟩
def mfStepsOf : DFN := fun ss w P => ∃ (ar : List Nat) (t : List Row), ss = [.val (tabD t)] ∧ TabOk ar t ∧ ∀ zs, SetOf zs (tabS 0 t) → P zs w
section
variable {P : Program} {w : World} {K : PySem.W.Frag} {mg : Str → Option Value} {base : Heap} {Ts : List Addr} {aL aS aU aN : Addr}
theorem ok_steps_of {f fP fS : Addr} {fd fdP fdS : FuncData} {cdv : Value} {k : Nat} (F : FunV K "steps_of" "steps_of" s_steps_of f fd cdv) (T : TS mg)
    (Gparts_of : FnG P w K mg base k fP fdP ["shape"] (spD K Ts (mfPl 4))) (mparts_of : mg "parts_of" = some (.ref fP)) (kparts_of : PySem.W.keepIn K (.ref fP) = true) (bparts_of : Binds K fdP ["shape"] [])
    (Gsteps_within : FnG P w K mg base k fS fdS ["class_number", "part"] (spD K Ts mfWithin)) (msteps_within : mg "steps_within" = some (.ref fS)) (ksteps_within : PySem.W.keepIn K (.ref fS) = true) (bsteps_within : Binds K fdS ["class_number", "part"] []) :
    FnG P w K mg base (k + 1) f fd ["table"] (spN K Ts mfStepsOf) := by
  refine FnG.weak (okN (T := Ts) F sc_steps_of (fun A outer s H E hg hr => ⟨_, (pss_cons (ps_set (i := 1) sc_steps_of.nd rfl (Or.inl rfl) (pe_lst pa_nil))
          (pss_cons (ps_for PassesOwn.never rfl (pi_enumT K rfl (by rfl) T.m_enumerate (pa_cons (pv 0) pa_nil)) (pg_tup rfl (pgs_cons (pg_name (i := 2) sc_steps_of.nd rfl (Or.inl rfl)) (pgs_cons (pg_name (i := 3) sc_steps_of.nd rfl (Or.inl rfl)) pgs_nil)))
          (pss_one (ps_for PassesOwn.never rfl (pi_K K rfl (pe_ix (ixK K rfl) (pv 3) pe_int (fun _ _ => rfl))) (pg_name (i := 4) sc_steps_of.nd rfl (Or.inl rfl))
          (pss_one (ps_for PassesOwn.never rfl (pi_K K rfl (pe_callG Gparts_of hg hr (by rfl) mparts_of kparts_of bparts_of (pa_cons (pv 4) pa_nil))) (pg_tup rfl (pgs_cons (pg_name (i := 5) sc_steps_of.nd rfl (Or.inl rfl)) (pgs_cons (pg_name (i := 6) sc_steps_of.nd rfl (Or.inl rfl)) pgs_nil)))
          (pss_one (ps_expr (bmK K rfl (pe_bm PySem.F.plainAttrs_list PySem.F.slot_list_extend PySem.F.type_list_extend mt_extend (pv 1) (pa_cons (pe_callG Gsteps_within hg hr (by rfl) msteps_within ksteps_within bsteps_within (pa_cons (pv 2) (pa_cons (pv 6) pa_nil))) pa_nil))))))))))
          (pss_one (ps_ret (pe_callB (Ds.sortedSDK K w rfl rfl rfl (units65 hr)) (by rfl) T.m_sorted PyProof.Rows.boot_sorted (pa_cons (pe_callTy (Ds.setDK K w rfl rfl rfl (units65 hr)) (by rfl) T.m_set PyProof.Rows.boot_set (pa_cons (pv 1) pa_nil)) pa_nil)))))), dsxn_seq (dsx_of (by repeat first
        | (with_reducible apply ds_own (i := 1); apply dn_lst)
        | (with_reducible apply ds_asg)
        | (with_reducible apply ds_par)
        | exact de_int
        | exact de_str
        | exact de_bl
        | exact de_non
        | exact de_var
        | exact dx_var
        | exact ds_retN
        | exact ds_next
        | exact ds_brk
        | exact ds_cont
        | exact dt_yes
        | exact dv_nil
        | exact da_nil
        | exact dgs_nil
        | exact dg_name
        | exact do_none
        | (with_reducible apply ds_seq)
        | (with_reducible apply ds_ret)
        | (with_reducible apply ds_if)
        | (with_reducible apply ds_forI)
        | (with_reducible apply ds_whileI)
        | (with_reducible apply ds_drop)
        | (apply dg_tupN 2; exact rfl)
        | (apply dg_tupN 3; exact rfl)
        | apply dgs_cons
        | apply di_any
        | apply di_range
        | apply dt_test
        | apply dt_B
        | apply dt_and
        | apply dt_or
        | apply dt_not
        | apply dx_of
        | apply de_tup
        | apply dv_cons
        | apply da_cons
        | apply do_some
        | apply de_if
        | apply de_not
        | apply de_and
        | apply de_or
        | (apply de_new; apply dn_lst)
        | apply de_op dr_ix
        | apply de_op dr_eq
        | apply de_op dr_ne
        | apply de_op dr_inA
        | apply de_op dr_catT
        | apply de_op dr_catL
        | apply de_op dr_add
        | apply de_op dr_sub
        | apply de_op dr_mul
        | apply de_op dr_mod
        | apply de_op dr_fdiv
        | apply de_op dr_lt
        | apply de_op dr_le
        | apply de_op dr_gt
        | apply de_op dr_ge
        | apply de_op dr_isN
        | apply de_op dr_notN
        | apply de_op dr_addS
        | apply de_slice
        | (apply de_isi; rotate_left 1; assumption; decide; rotate_right 1)
        | apply de_cb dc_len
        | apply de_cb dc_lenS
        | apply de_cb dc_int
        | apply de_cb dc_min2
        | apply de_cb dc_max2
        | apply de_cb dc_tuple
        | (apply de_new; apply dn_cb dcn_list)
        | apply de_call
        | apply de_m dm_append
        | apply de_m dm_insert
        | apply de_m dm_popAt
        | apply de_m0 dm_pop
        | apply de_extend
        | (apply de_new; apply dn_lcN)
        | (apply de_new; apply dn_rep; apply dn_lst)
        | (apply de_genN; rotate_left 2; assumption; rotate_right 2)
        | (with_reducible apply ds_augAdd)
        | apply dt_chain
        | apply de_chain
        | apply dt_truth
        | apply di_enumT
        | apply de_count
        | apply de_op dr_repT
        | apply de_cb dc_all
        | apply de_cb dc_max
        | apply de_cb dc_min
        | (apply de_new; apply dn_cb dcn_sorted)
        | apply de_lenSet
        | (apply de_new; apply dn_listRg)
        | apply de_cb dc_repr)) (dsxn_seq (dsx_of (by repeat first
        | (with_reducible apply ds_asg)
        | (with_reducible apply ds_par)
        | exact de_int
        | exact de_str
        | exact de_bl
        | exact de_non
        | exact de_var
        | exact dx_var
        | exact ds_retN
        | exact ds_next
        | exact ds_brk
        | exact ds_cont
        | exact dt_yes
        | exact dv_nil
        | exact da_nil
        | exact dgs_nil
        | exact dg_name
        | exact do_none
        | (with_reducible apply ds_seq)
        | (with_reducible apply ds_ret)
        | (with_reducible apply ds_if)
        | (with_reducible apply ds_forI)
        | (with_reducible apply ds_whileI)
        | (with_reducible apply ds_drop)
        | (apply dg_tupN 2; exact rfl)
        | (apply dg_tupN 3; exact rfl)
        | apply dgs_cons
        | apply di_any
        | apply di_range
        | apply dt_test
        | apply dt_B
        | apply dt_and
        | apply dt_or
        | apply dt_not
        | apply dx_of
        | apply de_tup
        | apply dv_cons
        | apply da_cons
        | apply do_some
        | apply de_if
        | apply de_not
        | apply de_and
        | apply de_or
        | (apply de_new; apply dn_lst)
        | apply de_op dr_ix
        | apply de_op dr_eq
        | apply de_op dr_ne
        | apply de_op dr_inA
        | apply de_op dr_catT
        | apply de_op dr_catL
        | apply de_op dr_add
        | apply de_op dr_sub
        | apply de_op dr_mul
        | apply de_op dr_mod
        | apply de_op dr_fdiv
        | apply de_op dr_lt
        | apply de_op dr_le
        | apply de_op dr_gt
        | apply de_op dr_ge
        | apply de_op dr_isN
        | apply de_op dr_notN
        | apply de_op dr_addS
        | apply de_slice
        | (apply de_isi; rotate_left 1; assumption; decide; rotate_right 1)
        | apply de_cb dc_len
        | apply de_cb dc_lenS
        | apply de_cb dc_int
        | apply de_cb dc_min2
        | apply de_cb dc_max2
        | apply de_cb dc_tuple
        | (apply de_new; apply dn_cb dcn_list)
        | apply de_call
        | apply de_m dm_append
        | apply de_m dm_insert
        | apply de_m dm_popAt
        | apply de_m0 dm_pop
        | apply de_extend
        | (apply de_new; apply dn_lcN)
        | (apply de_new; apply dn_rep; apply dn_lst)
        | (apply de_genN; rotate_left 2; assumption; rotate_right 2)
        | (with_reducible apply ds_augAdd)
        | apply dt_chain
        | apply de_chain
        | apply dt_truth
        | apply di_enumT
        | apply de_count
        | apply de_op dr_repT
        | apply de_cb dc_all
        | apply de_cb dc_max
        | apply de_cb dc_min
        | (apply de_new; apply dn_cb dcn_sorted)
        | apply de_lenSet
        | (apply de_new; apply dn_listRg)
        | apply de_cb dc_repr)) (dsxn_ret (by repeat first
        | apply Ds.dn_sortedSetD
        | (with_reducible apply ds_asg)
        | (with_reducible apply ds_par)
        | exact de_int
        | exact de_str
        | exact de_bl
        | exact de_non
        | exact de_var
        | exact dx_var
        | exact ds_retN
        | exact ds_next
        | exact ds_brk
        | exact ds_cont
        | exact dt_yes
        | exact dv_nil
        | exact da_nil
        | exact dgs_nil
        | exact dg_name
        | exact do_none
        | (with_reducible apply ds_seq)
        | (with_reducible apply ds_ret)
        | (with_reducible apply ds_if)
        | (with_reducible apply ds_forI)
        | (with_reducible apply ds_whileI)
        | (with_reducible apply ds_drop)
        | (apply dg_tupN 2; exact rfl)
        | (apply dg_tupN 3; exact rfl)
        | apply dgs_cons
        | apply di_any
        | apply di_range
        | apply dt_test
        | apply dt_B
        | apply dt_and
        | apply dt_or
        | apply dt_not
        | apply dx_of
        | apply de_tup
        | apply dv_cons
        | apply da_cons
        | apply do_some
        | apply de_if
        | apply de_not
        | apply de_and
        | apply de_or
        | (apply de_new; apply dn_lst)
        | apply de_op dr_ix
        | apply de_op dr_eq
        | apply de_op dr_ne
        | apply de_op dr_inA
        | apply de_op dr_catT
        | apply de_op dr_catL
        | apply de_op dr_add
        | apply de_op dr_sub
        | apply de_op dr_mul
        | apply de_op dr_mod
        | apply de_op dr_fdiv
        | apply de_op dr_lt
        | apply de_op dr_le
        | apply de_op dr_gt
        | apply de_op dr_ge
        | apply de_op dr_isN
        | apply de_op dr_notN
        | apply de_op dr_addS
        | apply de_slice
        | (apply de_isi; rotate_left 1; assumption; decide; rotate_right 1)
        | apply de_cb dc_len
        | apply de_cb dc_lenS
        | apply de_cb dc_int
        | apply de_cb dc_min2
        | apply de_cb dc_max2
        | apply de_cb dc_tuple
        | (apply de_new; apply dn_cb dcn_list)
        | apply de_call
        | apply de_m dm_append
        | apply de_m dm_insert
        | apply de_m dm_popAt
        | apply de_m0 dm_pop
        | apply de_extend
        | (apply de_new; apply dn_lcN)
        | (apply de_new; apply dn_rep; apply dn_lst)
        | (apply de_genN; rotate_left 2; assumption; rotate_right 2)
        | (with_reducible apply ds_augAdd)
        | apply dt_chain
        | apply de_chain
        | apply dt_truth
        | apply di_enumT
        | apply de_count
        | apply de_op dr_repT
        | apply de_cb dc_all
        | apply de_cb dc_max
        | apply de_cb dc_min
        | (apply de_new; apply dn_cb dcn_sorted)
        | apply de_lenSet
        | (apply de_new; apply dn_listRg)
        | apply de_cb dc_repr)))⟩)) (fun vs H Q E z => ?_)
  refine spN_weak (fun ss w P h => ?_) vs H Q E z
  obtain ⟨ar, t, rfl, ht, q⟩ := h
  refine ⟨rfl, ?_⟩
  dsimp only
  have hR := rows_S ht
  have h5 : t.length ≤ 5 := by have := ht.few; have := ht.len; omega
  have hSt : ∀ z ∈ tabS 0 t, StD z := fun z hz => tab_St ht.few ht.two 0 t hR (by omega) hz
  refine ⟨le0, _, rfl, Sl.noConfusion, _, rfl, ?_⟩
  refine ⟨fun i env w' => ∃ s2 s3 s4 s5 s6 : Sl, env = [.val (tabD t), .sh w.os.length, s2, s3, s4, s5, s6] ∧ w' = ⟨w.n, w.os ++ [some (tabS 0 (t.take i))]⟩, ⟨_, _, _, _, _, rfl, rfl⟩, ?_, ?_⟩
  · rintro i x _ _ hx ⟨s2, s3, s4, s5, s6, rfl, rfl⟩
    obtain ⟨r, er, rfl⟩ : ∃ r, t[i]? = some r ∧ x = .tuple [.int (i : Nat), r.d] := by
      rw [Dl.pairsOf_get, List.getElem?_map] at hx
      cases er : t[i]? with
      | none => rw [er] at hx; cases hx
      | some r => rw [er] at hx; exact ⟨r, rfl, (Option.some.inj hx).symm.trans (by rw [Nat.zero_add])⟩
    have hr := hR r (List.mem_of_getElem? er)
    have lA : (tabS 0 (t.take i)).length ≤ 12 * (t.take i).length := tabS_len 0 (t.take i) fun z hz => hR z (List.mem_of_mem_take hz)
    rw [take_len er] at lA
    have hi := (List.getElem?_eq_some_iff.mp er).1
    refine ⟨_, rfl, rfl, _, _, rfl, _, _, rfl, rfl, ?_⟩
    refine ⟨_, rfl, Sl.noConfusion, _, _, rfl, rfl, _, _, _, rfl, rfl, at1, _, rfl, ?_⟩
    have eT := tabS_take er
    generalize tabS 0 (t.take i) = A at lA eT ⊢
    refine ⟨fun j env w' => ∃ s4 s5 s6 : Sl, env = [.val (tabD t), .sh w.os.length, .val (.int (i : Nat)), .val r.d, s4, s5, s6] ∧ w' = ⟨w.n, w.os ++ [some (A ++ (r.sups.take j).flatMap (supS i))]⟩, ⟨_, _, _, rfl, by rw [List.take_zero, List.flatMap_nil, List.append_nil]⟩, ?_, ?_⟩
    · rintro j x _ _ hx ⟨s4, s5, s6, rfl, rfl⟩
      rw [List.getElem?_map] at hx
      cases es : r.sups[j]? with
      | none => rw [es] at hx; cases hx
      | some s =>
        rw [es] at hx
        obtain rfl : s.d = x := Option.some.inj hx
        have hs := hr.each s (List.mem_of_getElem? es)
        have hd := hs.ab.dep
        have hp := hs.ab.parts
        have lB := sups_len (l := r.sups.take j) (f := supS i) fun z hz => (hr.each z (List.mem_of_mem_take hz)).lenS i
        rw [take_len es] at lB
        have hj := (List.getElem?_eq_some_iff.mp es).1
        have hsl := hr.sups
        have lC := hs.lenS i
        have eS := flat_take (f := supS i) es
        have lB : (A ++ (r.sups.take j).flatMap (supS i)).length ≤ 60 := by rw [List.length_append]; omega
        have eS2 : A ++ (r.sups.take (j + 1)).flatMap (supS i) = (A ++ (r.sups.take j).flatMap (supS i)) ++ supS i s := by rw [eS, List.append_assoc]
        generalize A ++ (r.sups.take j).flatMap (supS i) = B at lB eS2 ⊢
        refine ⟨_, rfl, Sl.noConfusion, s, rfl, by omega, hs.ab.small, by omega, _, rfl, ?_⟩
        refine ⟨fun k env w' => ∃ s5 s6 : Sl, env = [.val (tabD t), .sh w.os.length, .val (.int (i : Nat)), .val r.d, .val s.d, s5, s6] ∧ w' = ⟨w.n, w.os ++ [some (B ++ ((plF s).take k).flatMap fun y => stepsP i y.2)]⟩, ⟨_, _, rfl, by rw [List.take_zero, List.flatMap_nil, List.append_nil]⟩, ?_, ?_⟩
        · rintro k x _ _ hx ⟨s5, s6, rfl, rfl⟩
          rw [List.getElem?_map] at hx
          cases eu : (plF s)[k]? with
          | none => rw [eu] at hx; cases hx
          | some u =>
            rw [eu] at hx
            obtain rfl : plD u = x := Option.some.inj hx
            have hu := List.mem_of_getElem? eu
            obtain ⟨u1, u2, u3, u4⟩ := plF_sub s u hu
            have ab : Ab u.2 := ⟨pl_small s hs.ab.small u hu, by omega, by omega, fun z hz => hs.ab.vars z (u4 z hz)⟩
            have l1 := stepsP_len i u.2
            have l2 := vars_le u.2
            have l3 : (((plF s).take k).flatMap fun y => stepsP i y.2).length ≤ (supS i s).length := by
              unfold supS
              conv => rhs; rw [← List.take_append_drop k (plF s), List.flatMap_append, List.length_append]
              exact Nat.le_add_right _ _
            refine ⟨_, rfl, rfl, _, _, rfl, _, _, rfl, rfl, ?_⟩
            refine ⟨_, rfl, Sl.noConfusion, _, rfl, _, rfl, Sl.noConfusion, _, rfl, Sl.noConfusion, i, u.2, rfl, ab, ?_⟩
            refine ⟨_, _, get_own, rfl, by rw [List.length_append]; omega, ?_⟩
            refine ⟨_, _, rfl, ?_⟩
            show (⟨w.n, (w.os ++ [some _]).set w.os.length (some _)⟩ : Ws) = _
            rw [set_own, flat_take eu, List.append_assoc]
        · rintro _ _ ⟨s5, s6, rfl, rfl⟩
          refine ⟨_, _, _, rfl, ?_⟩
          rw [List.length_map, List.take_length, eS2]
          rfl
    · rintro _ _ ⟨s4, s5, s6, rfl, rfl⟩
      refine ⟨_, _, _, _, _, rfl, ?_⟩
      rw [List.length_map, List.take_length, eT]
      rfl
  · rintro _ _ ⟨s2, s3, s4, s5, s6, rfl, rfl⟩
    rw [Dl.pairsOf_len, List.length_map, List.take_length]
    have lt := tabS_len 0 t hR
    refine ⟨_, rfl, Sl.noConfusion, _, see_sh get_own, fun d hd => ⟨(st_mb (hSt d hd)).1, (st_mb (hSt d hd)).2.1⟩, fun x hx y hy => st_alike (hSt x hx) (hSt y hy), st_sortable hSt, by omega, fun zs z1 z2 z3 => ?_⟩
    rw [cut_app]
    exact q zs ⟨z1, z2, z3⟩
end
end Kin

-- dwp4
namespace Kin
open PySem PySem.Spec PyProof.Rows L2 Dl
open Evl (Ex sz_of sz_lt)
abbrev s_law_steps : Stmt := topS 48
abbrev N_law_steps : List Str := ["_law_table", "_law_found", "_law_number", "_law_one_here", "_law_place", "_law_part", "_law_j", "_law_i", "_law_grows"]
theorem sc_law_steps : FnScope N_law_steps ["_law_table"] (defScope s_law_steps) := ⟨rfl, rfl, rfl, by decide +kernel, rfl, by decide +kernel, by decide +kernel⟩
theorem lett_at {k : Nat} (h : k < 2) : ∃ c, atI ("ab" : Str).cps.toList (k : Int) = some c ∧ (⟨#[c]⟩ : Str) = lett k := by
  rcases (show k = 0 ∨ k = 1 by omega) with rfl | rfl
  · exact ⟨97, rfl, by decide +kernel⟩
  · exact ⟨98, rfl, by decide +kernel⟩
theorem shp_lett (k : Nat) : SeqAt.shaped (.str (lett k)) = true := by
  unfold lett
  split <;> decide +kernel
theorem any_strs (x : Str) : ∀ v : List Str, ((v.map PyData.str).any fun z => z.eqv (.str x)) = decide (x ∈ v)
  | [] => by rw [decide_eq_false List.not_mem_nil]; rfl
  | y :: v => by
    show ((PyData.str y).eqv (.str x) || (v.map PyData.str).any fun z => z.eqv (.str x)) = _
    rw [any_strs x v, eqv_str]
    by_cases h : y = x
    · rw [show (y == x) = true from beq_iff_eq.mpr h, Bool.true_or, decide_eq_true (by rw [h]; exact List.mem_cons_self)]
    · rw [show (y == x) = false from beq_eq_false_iff_ne.mpr h, Bool.false_or]
      by_cases h2 : x ∈ v
      · rw [decide_eq_true h2, decide_eq_true (List.mem_cons_of_mem _ h2)]
      · rw [decide_eq_false h2, decide_eq_false fun z => (List.mem_cons.mp z).elim (fun e => h e.symm) h2]
theorem argT_succ (c n j e : Nat) (a : Sh) : argT c n j (e + 1) a = argT c n j e a ++ if lett e ∈ a.vars then [stD c e n j (!isLx (lett e) a)] else [] := by
  unfold argT
  rw [List.range_succ, List.filter_append, List.map_append]
  by_cases h : lett e ∈ a.vars
  · rw [if_pos h, List.filter_cons_of_pos (by rw [decide_eq_true h])]; rfl
  · rw [if_neg h, List.filter_cons_of_neg (by rw [decide_eq_false h]; exact Bool.false_ne_true)]; rfl
/-- what is no table -/
def BadT (d : PyData) : Prop := SeqAt.shaped d = true ∧ tableHeads d = none
def mfSteps (C : Addr) : DFXN := fun ss w P PE => ∃ d, ss = [.val d] ∧ ((BadT d ∧ PE (.ref C) w) ∨ ∃ (ar : List Nat) (t : List Row), d = tabD t ∧ TabOk ar t ∧ ∀ zs, SetOf zs (tabS 0 t) → P zs w)
def mfLSteps : DF := fun ss w P => ∃ (ar : List Nat) (t : List Row), ss = [.val (tabD t)] ∧ TabOk ar t ∧ ∀ zs, SetOf zs (tabT 0 t) → P (.list zs) w
section
variable {P : Program} {w : World} {K : PySem.W.Frag} {mg : Str → Option Value} {base : Heap} {Ts : List Addr} {C : Addr}
theorem ok_steps {f fC fF : Addr} {fd fdC fdF : FuncData} {cdv : Value} {k : Nat} (F : FunV K "steps" "steps" s_steps f fd cdv)
    (Gcheck_table : FnX P w K mg base k fC fdC ["table"] (spX K Ts (mfCheck C))) (mcheck_table : mg "check_table" = some (.ref fC)) (kcheck_table : PySem.W.keepIn K (.ref fC) = true) (bcheck_table : Binds K fdC ["table"] [])
    (Gsteps_of : FnG P w K mg base k fF fdF ["table"] (spN K Ts mfStepsOf)) (msteps_of : mg "steps_of" = some (.ref fF)) (ksteps_of : PySem.W.keepIn K (.ref fF) = true) (bsteps_of : Binds K fdF ["table"] []) :
    FnX P w K mg base (k + 1) f fd ["table"] (spXN K Ts (mfSteps C)) := by
  refine FnX.weak (okXN F sc_steps (fun A outer s H hg hr => ⟨_, fun E => (pss_cons (ps_expr (pe_callX Gcheck_table hg hr (by rfl) mcheck_table kcheck_table bcheck_table (fun σ => passAt (takes_of rfl rfl rfl rfl) σ) (pa_cons (pv 0) pa_nil)))
          (pss_one (ps_ret (pe_callG Gsteps_of hg hr (by rfl) msteps_of ksteps_of bsteps_of (pa_cons (pv 0) pa_nil))))), dsxn_seq (dsx_drop (by repeat first
        | (with_reducible apply ds_asg)
        | (with_reducible apply ds_par)
        | exact de_int
        | exact de_str
        | exact de_bl
        | exact de_non
        | exact de_var
        | exact dx_var
        | exact ds_retN
        | exact ds_next
        | exact ds_brk
        | exact ds_cont
        | exact dt_yes
        | exact dv_nil
        | exact da_nil
        | exact dgs_nil
        | exact dg_name
        | exact do_none
        | (with_reducible apply ds_seq)
        | (with_reducible apply ds_ret)
        | (with_reducible apply ds_if)
        | (with_reducible apply ds_forI)
        | (with_reducible apply ds_whileI)
        | (with_reducible apply ds_drop)
        | (apply dg_tupN 2; exact rfl)
        | (apply dg_tupN 3; exact rfl)
        | apply dgs_cons
        | apply di_any
        | apply di_range
        | apply dt_test
        | apply dt_B
        | apply dt_and
        | apply dt_or
        | apply dt_not
        | apply dx_of
        | apply de_tup
        | apply dv_cons
        | apply da_cons
        | apply do_some
        | apply de_if
        | apply de_not
        | apply de_and
        | apply de_or
        | (apply de_new; apply dn_lst)
        | apply de_op dr_ix
        | apply de_op dr_eq
        | apply de_op dr_ne
        | apply de_op dr_inA
        | apply de_op dr_catT
        | apply de_op dr_catL
        | apply de_op dr_add
        | apply de_op dr_sub
        | apply de_op dr_mul
        | apply de_op dr_mod
        | apply de_op dr_fdiv
        | apply de_op dr_lt
        | apply de_op dr_le
        | apply de_op dr_gt
        | apply de_op dr_ge
        | apply de_op dr_isN
        | apply de_op dr_notN
        | apply de_op dr_addS
        | apply de_slice
        | (apply de_isi; rotate_left 1; assumption; decide; rotate_right 1)
        | apply de_cb dc_len
        | apply de_cb dc_lenS
        | apply de_cb dc_int
        | apply de_cb dc_min2
        | apply de_cb dc_max2
        | apply de_cb dc_tuple
        | (apply de_new; apply dn_cb dcn_list)
        | apply de_call
        | apply de_m dm_append
        | apply de_m dm_insert
        | apply de_m dm_popAt
        | apply de_m0 dm_pop
        | apply de_extend
        | (apply de_new; apply dn_lcN)
        | (apply de_new; apply dn_rep; apply dn_lst)
        | (apply de_genN; rotate_left 2; assumption; rotate_right 2)
        | (with_reducible apply ds_augAdd)
        | apply dt_chain
        | apply de_chain
        | apply dt_truth
        | apply di_enumT
        | apply de_count
        | apply de_op dr_repT
        | apply de_cb dc_all
        | apply de_cb dc_max
        | apply de_cb dc_min
        | (apply de_new; apply dn_cb dcn_sorted)
        | apply de_lenSet
        | (apply de_new; apply dn_listRg)
        | apply de_cb dc_repr)) (dsxn_ret (dn_callN (by repeat first
        | (with_reducible apply ds_asg)
        | (with_reducible apply ds_par)
        | exact de_int
        | exact de_str
        | exact de_bl
        | exact de_non
        | exact de_var
        | exact dx_var
        | exact ds_retN
        | exact ds_next
        | exact ds_brk
        | exact ds_cont
        | exact dt_yes
        | exact dv_nil
        | exact da_nil
        | exact dgs_nil
        | exact dg_name
        | exact do_none
        | (with_reducible apply ds_seq)
        | (with_reducible apply ds_ret)
        | (with_reducible apply ds_if)
        | (with_reducible apply ds_forI)
        | (with_reducible apply ds_whileI)
        | (with_reducible apply ds_drop)
        | (apply dg_tupN 2; exact rfl)
        | (apply dg_tupN 3; exact rfl)
        | apply dgs_cons
        | apply di_any
        | apply di_range
        | apply dt_test
        | apply dt_B
        | apply dt_and
        | apply dt_or
        | apply dt_not
        | apply dx_of
        | apply de_tup
        | apply dv_cons
        | apply da_cons
        | apply do_some
        | apply de_if
        | apply de_not
        | apply de_and
        | apply de_or
        | (apply de_new; apply dn_lst)
        | apply de_op dr_ix
        | apply de_op dr_eq
        | apply de_op dr_ne
        | apply de_op dr_inA
        | apply de_op dr_catT
        | apply de_op dr_catL
        | apply de_op dr_add
        | apply de_op dr_sub
        | apply de_op dr_mul
        | apply de_op dr_mod
        | apply de_op dr_fdiv
        | apply de_op dr_lt
        | apply de_op dr_le
        | apply de_op dr_gt
        | apply de_op dr_ge
        | apply de_op dr_isN
        | apply de_op dr_notN
        | apply de_op dr_addS
        | apply de_slice
        | (apply de_isi; rotate_left 1; assumption; decide; rotate_right 1)
        | apply de_cb dc_len
        | apply de_cb dc_lenS
        | apply de_cb dc_int
        | apply de_cb dc_min2
        | apply de_cb dc_max2
        | apply de_cb dc_tuple
        | (apply de_new; apply dn_cb dcn_list)
        | apply de_call
        | apply de_m dm_append
        | apply de_m dm_insert
        | apply de_m dm_popAt
        | apply de_m0 dm_pop
        | apply de_extend
        | (apply de_new; apply dn_lcN)
        | (apply de_new; apply dn_rep; apply dn_lst)
        | (apply de_genN; rotate_left 2; assumption; rotate_right 2)
        | (with_reducible apply ds_augAdd)
        | apply dt_chain
        | apply de_chain
        | apply dt_truth
        | apply di_enumT
        | apply de_count
        | apply de_op dr_repT
        | apply de_cb dc_all
        | apply de_cb dc_max
        | apply de_cb dc_min
        | (apply de_new; apply dn_cb dcn_sorted)
        | apply de_lenSet
        | (apply de_new; apply dn_listRg)
        | apply de_cb dc_repr)))⟩)) (spXN_weak fun ss w P PE h => ?_)
  obtain ⟨d, rfl, h⟩ := h
  refine ⟨rfl, ?_⟩
  dsimp only
  rcases h with ⟨⟨hs, hn⟩, q⟩ | ⟨ar, t, rfl, ht, q⟩
  · exact ⟨_, rfl, Sl.noConfusion, d, rfl, hs, fun h e => (by rw [hn] at e; cases e), fun _ => (by show PE _ (cut w w); rw [cut_self]; exact q)⟩
  · exact ⟨_, rfl, Sl.noConfusion, _, rfl, shp_tab ht, fun hs e => ⟨_, rfl, Sl.noConfusion, ar, t, rfl, ht, fun zs hz => (by show P zs (cut w w); rw [cut_self]; exact q zs hz)⟩, fun e => by rw [tab_heads ht] at e; cases e⟩
theorem ok_law_steps {f fP fV : Addr} {fd fdP fdV : FuncData} {cdv : Value} {k : Nat} (F : FunV K "_law_steps" "_law_steps" s_law_steps f fd cdv) (T : TS mg) (hK : KTy K)
    (G_law_places : FnG P w K mg base k fP fdP ["_law_shape"] (spD K Ts (mfPl 4))) (m_law_places : mg "_law_places" = some (.ref fP)) (k_law_places : PySem.W.keepIn K (.ref fP) = true) (b_law_places : Binds K fdP ["_law_shape"] [])
    (G_law_vars : FnG P w K mg base k fV fdV ["_law_shape"] (spD K Ts (mfVars 4))) (m_law_vars : mg "_law_vars" = some (.ref fV)) (k_law_vars : PySem.W.keepIn K (.ref fV) = true) (b_law_vars : Binds K fdV ["_law_shape"] []) :
    FnG P w K mg base (k + 1) f fd ["_law_table"] (spD K Ts mfLSteps) := by
  refine FnG.weak (okD F sc_law_steps (fun A outer s H E hg hr => ⟨_, (pss_cons (ps_set (i := 1) sc_law_steps.nd rfl (Or.inl rfl) (pe_lst pa_nil))
          (pss_cons (ps_for PassesOwn.never rfl (pi_range1 (by rfl) T.m_range (pa_cons (pe_callB (lenK K rfl) (by rfl) T.m_len PySem.boot_len (pa_cons (pv 0) pa_nil)) pa_nil)) (pg_name (i := 2) sc_law_steps.nd rfl (Or.inl rfl))
          (pss_one (ps_for PassesOwn.never rfl (pi_K K rfl (pe_ix (ixK K rfl) (pe_ix (ixK K rfl) (pv 0) (pv 2) (fun _ _ => rfl)) pe_int (fun _ _ => rfl))) (pg_name (i := 3) sc_law_steps.nd rfl (Or.inl rfl))
          (pss_one (ps_for PassesOwn.never rfl (pi_K K rfl (pe_callG G_law_places hg hr (by rfl) m_law_places k_law_places b_law_places (pa_cons (pv 3) pa_nil))) (pg_tup rfl (pgs_cons (pg_name (i := 4) sc_law_steps.nd rfl (Or.inl rfl)) (pgs_cons (pg_name (i := 5) sc_law_steps.nd rfl (Or.inl rfl)) pgs_nil)))
          (pss_one (ps_for PassesOwn.never rfl (pi_range1 (by rfl) T.m_range (pa_cons (pe_ifExp (pt_val (pe_callB (isiK K rfl) (by rfl) T.m_isinstance PyProof.Rows.boot_isinstance (pa_cons (pv 5) (pa_cons (pe_bltn (v := .ty "tuple") (by rfl) T.m_tuple PyProof.Rows.boot_tuple rfl) pa_nil)))) (pe_op op_sub (pe_callB (lenK K rfl) (by rfl) T.m_len PySem.boot_len (pa_cons (pv 5) pa_nil)) pe_int) pe_int) pa_nil)) (pg_name (i := 6) sc_law_steps.nd rfl (Or.inl rfl))
          (pss_one (ps_for PassesOwn.never rfl (pi_range1 (by rfl) T.m_range (pa_cons (pe_callB (lenK K rfl) (by rfl) T.m_len PySem.boot_len (pa_cons (pe_ix (ixK K rfl) (pe_ix (ixK K rfl) (pv 0) (pv 2) (fun _ _ => rfl)) pe_int (fun _ _ => rfl)) pa_nil)) pa_nil)) (pg_name (i := 7) sc_law_steps.nd rfl (Or.inl rfl))
          (pss_cons (ps_set (i := 8) sc_law_steps.nd rfl (Or.inl rfl) (pe_cmpR (neK K rfl (units64 hr)) (pe_ix (ixK K rfl) (pv 5) (pe_op op_add (pv 6) pe_int) (fun _ _ => rfl)) (pe_ix ixSK pe_str (pv 7) (fun _ _ => rfl)) (nomark _)))
          (pss_one (ps_if (pt_cmpR (inK K rfl (units65 hr)) (pe_ix ixSK pe_str (pv 7) (fun _ _ => rfl)) (pe_callG G_law_vars hg hr (by rfl) m_law_vars k_law_vars b_law_vars (pa_cons (pe_ix (ixK K rfl) (pv 5) (pe_op op_add (pv 6) pe_int) (fun _ _ => rfl)) pa_nil)) (by rfl)) (pss_one (ps_expr (bmK K rfl (pe_bm PySem.F.plainAttrs_list PySem.F.slot_list_append PySem.F.type_list_append mt_append (pv 1) (pa_cons (pe_tup (pa_cons (pv 2) (pa_cons (pv 7) (pa_cons (pe_ix (ixK K rfl) (pv 5) pe_int (fun _ _ => rfl)) (pa_cons (pv 6) (pa_cons (pv 8) pa_nil)))))) pa_nil))))) pss_nil))))))))))))
          (pss_one (ps_ret (pe_callB (Ds.sortedSDK K w rfl rfl rfl (units65 hr)) (by rfl) T.m_sorted PyProof.Rows.boot_sorted (pa_cons (pe_callTy (Ds.setDK K w rfl rfl rfl (units65 hr)) (by rfl) T.m_set PyProof.Rows.boot_set (pa_cons (pv 1) pa_nil)) pa_nil)))))), by repeat first
        | (with_reducible apply ds_own (i := 1); apply dn_lst)
        | apply de_op dr_ixS
        | (apply de_new; apply Ds.dn_sortedSetD)
        | (with_reducible apply ds_asg)
        | (with_reducible apply ds_par)
        | exact de_int
        | exact de_str
        | exact de_bl
        | exact de_non
        | exact de_var
        | exact dx_var
        | exact ds_retN
        | exact ds_next
        | exact ds_brk
        | exact ds_cont
        | exact dt_yes
        | exact dv_nil
        | exact da_nil
        | exact dgs_nil
        | exact dg_name
        | exact do_none
        | (with_reducible apply ds_seq)
        | (with_reducible apply ds_ret)
        | (with_reducible apply ds_if)
        | (with_reducible apply ds_forI)
        | (with_reducible apply ds_whileI)
        | (with_reducible apply ds_drop)
        | (apply dg_tupN 2; exact rfl)
        | (apply dg_tupN 3; exact rfl)
        | apply dgs_cons
        | apply di_any
        | apply di_range
        | apply dt_test
        | apply dt_B
        | apply dt_and
        | apply dt_or
        | apply dt_not
        | apply dx_of
        | apply de_tup
        | apply dv_cons
        | apply da_cons
        | apply do_some
        | apply de_if
        | apply de_not
        | apply de_and
        | apply de_or
        | (apply de_new; apply dn_lst)
        | apply de_op dr_ix
        | apply de_op dr_eq
        | apply de_op dr_ne
        | apply de_op dr_inA
        | apply de_op dr_catT
        | apply de_op dr_catL
        | apply de_op dr_add
        | apply de_op dr_sub
        | apply de_op dr_mul
        | apply de_op dr_mod
        | apply de_op dr_fdiv
        | apply de_op dr_lt
        | apply de_op dr_le
        | apply de_op dr_gt
        | apply de_op dr_ge
        | apply de_op dr_isN
        | apply de_op dr_notN
        | apply de_op dr_addS
        | apply de_slice
        | (apply de_isi; rotate_left 1; assumption; decide; rotate_right 1)
        | apply de_cb dc_len
        | apply de_cb dc_lenS
        | apply de_cb dc_int
        | apply de_cb dc_min2
        | apply de_cb dc_max2
        | apply de_cb dc_tuple
        | (apply de_new; apply dn_cb dcn_list)
        | apply de_call
        | apply de_m dm_append
        | apply de_m dm_insert
        | apply de_m dm_popAt
        | apply de_m0 dm_pop
        | apply de_extend
        | (apply de_new; apply dn_lcN)
        | (apply de_new; apply dn_rep; apply dn_lst)
        | (apply de_genN; rotate_left 2; assumption; rotate_right 2)
        | (with_reducible apply ds_augAdd)
        | apply dt_chain
        | apply de_chain
        | apply dt_truth
        | apply di_enumT
        | apply de_count
        | apply de_op dr_repT
        | apply de_cb dc_all
        | apply de_cb dc_max
        | apply de_cb dc_min
        | (apply de_new; apply dn_cb dcn_sorted)
        | apply de_lenSet
        | (apply de_new; apply dn_listRg)
        | apply de_cb dc_repr⟩)) (spD_weak fun ss w P h => ?_)
  obtain ⟨ar, t, rfl, ht, q⟩ := h
  refine ⟨rfl, ?_⟩
  dsimp only
  have hR := rows_S ht
  have h5 : t.length ≤ 5 := by have := ht.few; have := ht.len; omega
  have hSt : ∀ z ∈ tabT 0 t, StD z := fun z hz => tab_St ht.few ht.two 0 t hR (by omega) ((tab_mem z 0 t hR).mpr hz)
  refine ⟨le0, _, rfl, Sl.noConfusion, _, rfl, _, _, rfl, rfl, t.length, by rw [List.length_map], by omega, by omega, ?_⟩
  refine ⟨fun i env w' => ∃ s2 s3 s4 s5 s6 s7 s8 : Sl, env = [.val (tabD t), .sh w.os.length, s2, s3, s4, s5, s6, s7, s8] ∧ w' = ⟨w.n, w.os ++ [some (tabT 0 (t.take i))]⟩, ⟨_, _, _, _, _, _, _, rfl, rfl⟩, ?_, ?_⟩
  · rintro i x _ _ hx ⟨s2, s3, s4, s5, s6, s7, s8, rfl, rfl⟩
    have hi : i < t.length := upTo_at hx
    obtain rfl := upTo_val hx
    have er : t[i]? = some t[i] := List.getElem?_eq_getElem hi
    generalize t[i] = r at er
    have hr := hR r (List.mem_of_getElem? er)
    have lA : (tabT 0 (t.take i)).length ≤ 12 * (t.take i).length := tabT_len 0 (t.take i) fun z hz => hR z (List.mem_of_mem_take hz)
    rw [take_len er] at lA
    have hat : atI (t.map Row.d) (i : Int) = some r.d := atI_nat (by rw [List.getElem?_map, er]; rfl)
    refine ⟨_, rfl, Sl.noConfusion, _, rfl, Sl.noConfusion, _, _, rfl, rfl, _, _, _, rfl, rfl, hat, _, _, rfl, rfl, _, _, _, rfl, rfl, at1, _, rfl, ?_⟩
    have eT := tabT_take er
    generalize tabT 0 (t.take i) = A at lA eT ⊢
    refine ⟨fun j env w' => ∃ s3 s4 s5 s6 s7 s8 : Sl, env = [.val (tabD t), .sh w.os.length, .val (.int (i : Nat)), s3, s4, s5, s6, s7, s8] ∧ w' = ⟨w.n, w.os ++ [some (A ++ (r.sups.take j).flatMap (supT i r.signs.length))]⟩, ⟨_, _, _, _, _, _, rfl, by rw [List.take_zero, List.flatMap_nil, List.append_nil]⟩, ?_, ?_⟩
    · rintro j x _ _ hx ⟨s3, s4, s5, s6, s7, s8, rfl, rfl⟩
      rw [List.getElem?_map] at hx
      cases es : r.sups[j]? with
      | none => rw [es] at hx; cases hx
      | some s =>
        rw [es] at hx
        obtain rfl : s.d = x := Option.some.inj hx
        have hs := hr.each s (List.mem_of_getElem? es)
        have hd := hs.ab.dep
        have hp := hs.ab.parts
        have lB := sups_len (l := r.sups.take j) (f := supT i r.signs.length) fun z hz => (hr.each z (List.mem_of_mem_take hz)).lenT i
        rw [take_len es] at lB
        have hj := (List.getElem?_eq_some_iff.mp es).1
        have hsl := hr.sups
        have lC := hs.lenT i
        have eS := flat_take (f := supT i r.signs.length) es
        have lB : (A ++ (r.sups.take j).flatMap (supT i r.signs.length)).length ≤ 60 := by rw [List.length_append]; omega
        have eS2 : A ++ (r.sups.take (j + 1)).flatMap (supT i r.signs.length) = (A ++ (r.sups.take j).flatMap (supT i r.signs.length)) ++ supT i r.signs.length s := by rw [eS, List.append_assoc]
        generalize A ++ (r.sups.take j).flatMap (supT i r.signs.length) = B at lB eS2 ⊢
        refine ⟨_, rfl, Sl.noConfusion, s, rfl, by omega, hs.ab.small, by omega, _, rfl, ?_⟩
        refine ⟨fun k env w' => ∃ s4 s5 s6 s7 s8 : Sl, env = [.val (tabD t), .sh w.os.length, .val (.int (i : Nat)), .val s.d, s4, s5, s6, s7, s8] ∧ w' = ⟨w.n, w.os ++ [some (B ++ ((plF s).take k).flatMap fun y => stepsT i r.signs.length y.2)]⟩, ⟨_, _, _, _, _, rfl, by rw [List.take_zero, List.flatMap_nil, List.append_nil]⟩, ?_, ?_⟩
        · rintro k x _ _ hx ⟨s4, s5, s6, s7, s8, rfl, rfl⟩
          rw [List.getElem?_map] at hx
          cases eu : (plF s)[k]? with
          | none => rw [eu] at hx; cases hx
          | some u =>
            rw [eu] at hx
            obtain rfl : plD u = x := Option.some.inj hx
            have hu := List.mem_of_getElem? eu
            obtain ⟨u1, u2, u3, u4⟩ := plF_sub s u hu
            have hab : ∀ z ∈ u.2.vars, z ∈ (["a", "b"] : List Str) := fun z hz => hs.ab.vars z (u4 z hz)
            have hsm := pl_small s hs.ab.small u hu
            have l1 := stepsT_len hr.signs i u.2
            have l2 := vars_le u.2
            have l3 : (((plF s).take k).flatMap fun y => stepsT i r.signs.length y.2).length ≤ (supT i r.signs.length s).length := by
              unfold supT
              conv => rhs; rw [← List.take_append_drop k (plF s), List.flatMap_append, List.length_append]
              exact Nat.le_add_right _ _
            have eF := flat_take (f := fun y : List Nat × Sh => stepsT i r.signs.length y.2) eu
            have lD : (B ++ ((plF s).take k).flatMap fun y => stepsT i r.signs.length y.2).length ≤ 70 := by rw [List.length_append]; omega
            have eF2 : B ++ ((plF s).take (k + 1)).flatMap (fun y => stepsT i r.signs.length y.2) = (B ++ ((plF s).take k).flatMap fun y => stepsT i r.signs.length y.2) ++ stepsT i r.signs.length u.2 := by rw [eF, List.append_assoc]
            generalize B ++ ((plF s).take k).flatMap (fun y => stepsT i r.signs.length y.2) = D at lD eF2 ⊢
            refine ⟨_, rfl, rfl, _, _, rfl, _, _, rfl, rfl, ?_⟩
            obtain ⟨up, us⟩ := u
            dsimp only at u1 u2 u3 u4 hab hsm l1 l2 l3 eF2
            cases us with
            | var z =>
              refine ⟨_, rfl, Sl.noConfusion, _, rfl, false, rfl, iteF ⟨0, rfl, by decide, by decide, ?_⟩⟩
              refine ⟨fun _ env w' => ∃ s6 s7 s8 : Sl, env = [.val (tabD t), .sh w.os.length, .val (.int (i : Nat)), .val s.d, .val (.tuple (nats up)), .val (.str z), s6, s7, s8] ∧ w' = ⟨w.n, w.os ++ [some D]⟩, ⟨_, _, _, rfl, rfl⟩, ?_, ?_⟩
              · rintro e x _ _ hx _
                exact absurd (upTo_at hx) (Nat.not_lt_zero _)
              · rintro _ _ ⟨s6, s7, s8, rfl, rfl⟩
                refine ⟨_, _, _, _, _, rfl, ?_⟩
                rw [eF2]
                show _ = (⟨w.n, w.os ++ [some (D ++ [])]⟩ : Ws)
                rw [List.append_nil]
            | node n as =>
              have hds : (Sh.ds as).length = as.length := by rw [Sh.ds_map, List.length_map]
              have hsm2 := hsm.1
              refine ⟨_, rfl, Sl.noConfusion, _, rfl, true, rfl, iteT ⟨_, rfl, Sl.noConfusion, _, rfl, _, _, rfl, rfl, _, _, rfl, rfl, _, _, rfl, rfl, as.length, ?_, by omega, by omega, ?_⟩⟩
              · show PyData.int ((((Sh.ds as).length + 1 : Nat) : Int) - 1) = _
                rw [hds]
                exact congrArg PyData.int (by omega)
              refine ⟨fun b env w' => ∃ s6 s7 s8 : Sl, env = [.val (tabD t), .sh w.os.length, .val (.int (i : Nat)), .val s.d, .val (.tuple (nats up)), .val (Sh.node n as).d, s6, s7, s8] ∧ w' = ⟨w.n, w.os ++ [some (D ++ argsT i n r.signs.length 0 (as.take b))]⟩, ⟨_, _, _, rfl, by rw [List.take_zero]; show _ = (⟨w.n, w.os ++ [some (D ++ [])]⟩ : Ws); rw [List.append_nil]⟩, ?_, ?_⟩
              · rintro b x _ _ hx ⟨s6, s7, s8, rfl, rfl⟩
                have hb : b < as.length := upTo_at hx
                obtain rfl := upTo_val hx
                have ea : as[b]? = some as[b] := List.getElem?_eq_getElem hb
                generalize as[b] = a at ea
                have ha := List.mem_of_getElem? ea
                have eA := argsT_take i n r.signs.length ea
                have lE : (argsT i n r.signs.length 0 (as.take b)).length ≤ 10 := by
                  have h1 := argsT_len hr.signs i n 0 (as.take b)
                  have h2 := varsL_le (as.take b)
                  have h3 := partsL_take as b
                  have h4 : Sh.partsL as + 1 ≤ s.parts := u2
                  omega
                have lD : (D ++ argsT i n r.signs.length 0 (as.take b)).length ≤ 80 := by rw [List.length_append]; omega
                have eA2 : D ++ argsT i n r.signs.length 0 (as.take (b + 1)) = (D ++ argsT i n r.signs.length 0 (as.take b)) ++ argT i n b r.signs.length a := by rw [eA, List.append_assoc]
                generalize D ++ argsT i n r.signs.length 0 (as.take b) = G at lD eA2 ⊢
                have hat2 : atI (.int n :: Sh.ds as) (((b + 1 : Nat)) : Int) = some a.d := atI_nat (by show (Sh.ds as)[b]? = _; rw [Sh.ds_map, List.getElem?_map, ea]; rfl)
                have hab2 : ∀ z ∈ a.vars, z ∈ (["a", "b"] : List Str) := fun z hz => hab z (varsL_mem ha z hz)
                have hda : a.dep ≤ 2 := by
                  have h1 := Sh.deps_le ha
                  have h2 : Sh.deps as + 1 ≤ s.dep := u1
                  omega
                have hpa : a.parts ≤ 4 := by
                  have h1 := partsL_le ha
                  have h2 : Sh.partsL as + 1 ≤ s.parts := u2
                  omega
                have hsl2 := hr.signs
                refine ⟨_, rfl, Sl.noConfusion, _, rfl, Sl.noConfusion, _, _, rfl, rfl, _, _, _, rfl, rfl, hat, _, _, rfl, rfl, _, _, _, rfl, rfl, at0, _, rfl, _, _, rfl, rfl, r.signs.length, by rw [List.length_map], by omega, by omega, ?_⟩
                refine ⟨fun e env w' => ∃ s7 s8 : Sl, env = [.val (tabD t), .sh w.os.length, .val (.int (i : Nat)), .val s.d, .val (.tuple (nats up)), .val (Sh.node n as).d, .val (.int (b : Nat)), s7, s8] ∧ w' = ⟨w.n, w.os ++ [some (G ++ argT i n b e a)]⟩, ⟨_, _, rfl, by show _ = (⟨w.n, w.os ++ [some (G ++ [])]⟩ : Ws); rw [List.append_nil]⟩, ?_, ?_⟩
                · rintro e x _ _ hx ⟨s7, s8, rfl, rfl⟩
                  have he : e < r.signs.length := upTo_at hx
                  obtain rfl := upTo_val hx
                  obtain ⟨ch, hc1, hc2⟩ := lett_at (k := e) (by omega)
                  have hshA : SeqAt.shaped a.d = true := Ab.shp hab2 (by omega)
                  have hshC : SeqAt.shaped (.str ⟨#[ch]⟩) = true := by rw [hc2]; exact shp_lett e
                  refine ⟨_, rfl, Sl.noConfusion, _, rfl, Sl.noConfusion, _, _, rfl, rfl, _, _, rfl, rfl, _, _, rfl, rfl, _, _, _, rfl, rfl, hat2, _, rfl, Sl.noConfusion, _, _, rfl, rfl, "ab", _, ch, rfl, rfl, by decide +kernel, hc1, _, _, rfl, rfl, hshA, hshC, ?_⟩
                  refine ⟨_, rfl, Sl.noConfusion, _, _, rfl, rfl, "ab", _, ch, rfl, rfl, by decide +kernel, hc1, _, rfl, Sl.noConfusion, _, rfl, Sl.noConfusion, _, _, rfl, rfl, _, _, rfl, rfl, _, _, rfl, rfl, _, _, _, rfl, rfl, hat2, a, rfl, by omega, by omega, ?_⟩
                  refine ⟨_, _, rfl, rfl, _, rfl, hshC, shp_strs (fun x hx => letters_ok (m := 2) x (hab2 x hx)), decide (lett e ∈ a.vars), congrArg PyData.bool (by rw [if_neg Bool.false_ne_true, hc2, any_strs]), ?_⟩
                  have eE := argT_succ i n b e a
                  have lF : (argT i n b e a).length ≤ 2 := by
                    unfold argT
                    rw [List.length_map]
                    refine Nat.le_trans (List.length_filter_le _ _) ?_
                    rw [List.length_range]
                    omega
                  have eG : (PyData.bool (!a.d.eqv (.str ⟨#[ch]⟩))) = .bool (!isLx (lett e) a) := by rw [hc2, isLx_d]
                  rw [eG]
                  cases hb2 : decide (lett e ∈ a.vars) with
                  | true =>
                    rw [if_pos (of_decide_eq_true hb2)] at eE
                    refine iteT ⟨_, rfl, Sl.noConfusion, _, rfl, _, rfl, _, rfl, _, rfl, Sl.noConfusion, _, _, rfl, rfl, _, _, _, rfl, rfl, at0, _, rfl, _, rfl, by show 5 ≤ 100000; decide, _, _, get_own, rfl, _, rfl, by rw [List.length_append]; omega, ?_⟩
                    refine ⟨_, _, rfl, ?_⟩
                    show (⟨w.n, (w.os ++ [some _]).set w.os.length (some _)⟩ : Ws) = _
                    rw [set_own, eE, ← List.append_assoc]
                    rfl
                  | false =>
                    rw [if_neg (of_decide_eq_false hb2), List.append_nil] at eE
                    refine iteF ⟨_, _, rfl, ?_⟩
                    rw [eE]
                · rintro _ _ ⟨s7, s8, rfl, rfl⟩
                  have eu : (Dl.upTo ((r.signs.length : Nat) : Int).toNat).length = r.signs.length := by unfold Dl.upTo; rw [List.length_map, List.length_range]; rfl
                  refine ⟨_, _, _, rfl, ?_⟩
                  rw [eu, eA2]
              · rintro _ _ ⟨s6, s7, s8, rfl, rfl⟩
                have eu : (Dl.upTo ((as.length : Nat) : Int).toNat).length = as.length := by unfold Dl.upTo; rw [List.length_map, List.length_range]; rfl
                refine ⟨_, _, _, _, _, rfl, ?_⟩
                rw [eu, List.take_length, eF2]
                rfl
        · rintro _ _ ⟨s4, s5, s6, s7, s8, rfl, rfl⟩
          refine ⟨_, _, _, _, _, _, rfl, ?_⟩
          rw [List.length_map, List.take_length, eS2]
          rfl
    · rintro _ _ ⟨s3, s4, s5, s6, s7, s8, rfl, rfl⟩
      refine ⟨_, _, _, _, _, _, _, rfl, ?_⟩
      rw [List.length_map, List.take_length, eT]
      rfl
  · rintro _ _ ⟨s2, s3, s4, s5, s6, s7, s8, rfl, rfl⟩
    have eu : (Dl.upTo ((t.length : Nat) : Int).toNat).length = t.length := by unfold Dl.upTo; rw [List.length_map, List.length_range]; rfl
    rw [eu, List.take_length]
    have lt := tabT_len 0 t hR
    refine ⟨_, rfl, Sl.noConfusion, _, see_sh get_own, fun d hd => ⟨(st_mb (hSt d hd)).1, (st_mb (hSt d hd)).2.1⟩, fun x hx y hy => st_alike (hSt x hx) (hSt y hy), st_sortable hSt, by omega, fun zs z1 z2 z3 => ?_⟩
    rw [cut_app]
    exact q zs ⟨z1, z2, z3⟩
end
end Kin

-- dwp4
namespace Kin
open PySem PySem.Spec PyProof.Rows L2 Dl
open Evl (Ex sz_of sz_lt)
abbrev s_told : Stmt := topS 49
abbrev N_told : List Str := ["_law_table"]
theorem sc_told : FnScope N_told ["_law_table"] (defScope s_told) := ⟨rfl, rfl, rfl, by decide +kernel, rfl, by decide +kernel, by decide +kernel⟩
abbrev s_law : Stmt := topS 50
abbrev N_law : List Str := ["_law_script", "_law_pen", "_law_turn", "_law_table", "_law_due", "_law_found", "_law_pair"]
theorem sc_law : FnScope N_law ["_law_script"] (defScope s_law) := ⟨rfl, rfl, rfl, by decide +kernel, rfl, by decide +kernel, by decide +kernel⟩
structure Sho (k n : Nat) (d : PyData) : Prop where
  s : d.showable = true
  nd : d.hasDict = false
  dp : d.depth ≤ k
  lv : d.leavesShort 13 = true
  wt : d.weight ≤ n
theorem Sho.len {k n : Nat} {d : PyData} (h : Sho k n d) (hn : n ≤ 500000) : d.shown.length ≤ sizeLine := by
  have h1 := PyData.shown_le 13 (by decide) d h.lv
  have h2 := h.wt
  have e : sizeLine = 16777216 := by decide
  rw [e]
  omega
structure ShoA (k n : Nat) (ds : List PyData) : Prop where
  s : PyData.showableAll ds = true
  nd : PyData.hasDictAll ds = false
  dp : PyData.depthAll ds ≤ k
  lv : PyData.leavesShortAll 13 ds = true
  wt : PyData.weightAll ds ≤ (n + 1) * ds.length
theorem ShoA.of {k n : Nat} : ∀ {ds : List PyData}, (∀ d ∈ ds, Sho k n d) → ShoA k n ds
  | [], _ => ⟨rfl, rfl, Nat.zero_le _, rfl, Nat.zero_le _⟩
  | d :: ds, h => by
    have a := h d List.mem_cons_self
    have b := ShoA.of fun x hx => h x (List.mem_cons_of_mem _ hx)
    refine ⟨?_, ?_, ?_, ?_, ?_⟩
    · show (d.showable && PyData.showableAll ds) = true
      rw [a.s, b.s]; rfl
    · show (d.hasDict || PyData.hasDictAll ds) = false
      rw [a.nd, b.nd]; rfl
    · show max d.depth (PyData.depthAll ds) ≤ k
      exact Nat.max_le.mpr ⟨a.dp, b.dp⟩
    · show (d.leavesShort 13 && PyData.leavesShortAll 13 ds) = true
      rw [a.lv, b.lv]; rfl
    · show d.weight + 1 + PyData.weightAll ds ≤ (n + 1) * (ds.length + 1)
      have := a.wt
      have := b.wt
      rw [Nat.mul_succ]
      omega
theorem ShoA.lst {k n : Nat} {ds : List PyData} (h : ShoA k n ds) : Sho (k + 1) ((n + 1) * ds.length) (.list ds) := ⟨h.s, h.nd, Nat.succ_le_succ h.dp, h.lv, h.wt⟩
theorem sho_nat {i : Nat} (h : i < 100) : Sho 0 101 (.int (i : Nat)) := by
  refine ⟨?_, rfl, Nat.le_refl _, ?_, ?_⟩
  · show decide ((i : Int).natAbs.log2 < 1920) = true
    refine decide_eq_true ?_
    have := Nat.log2_le_self i
    show i.log2 < 1920
    omega
  · show decide ((PyData.shown (.int i)).length ≤ 13) = true
    exact decide_eq_true (PyData.shown_int_le2 (by omega) (by omega))
  · show (if (i : Int) == 0 then 0 else (i : Int).natAbs.log2 + 1) ≤ 101
    have := Nat.log2_le_self i
    have e : (i : Int).natAbs = i := rfl
    rw [e]
    split <;> omega
theorem sho_nats {r : List Nat} (h : ∀ x ∈ r, x < 100) (hl : r.length ≤ 20) : Sho 1 2040 (.list (nats r)) := by
  have a : ShoA 0 101 (nats r) := .of fun d hd => by
    unfold nats at hd
    obtain ⟨x, hx, rfl⟩ := List.mem_map.mp hd
    exact sho_nat (h x hx)
  have b := a.lst
  refine ⟨b.s, b.nd, b.dp, b.lv, ?_⟩
  have := b.wt
  unfold nats at this
  rw [List.length_map] at this
  have e : (101 + 1) * r.length ≤ (101 + 1) * 20 := Nat.mul_le_mul_left _ hl
  unfold nats
  omega
/-- plain letters alone -/
def Asc (d : PyData) : Prop := ∀ k, 128 ≤ k → k ∉ d.shown.cps.toList
theorem Asc.shp {d : PyData} (h : Asc d) : SeqAt.shaped (.str d.shown) = true := by
  have e : SeqAt.shaped (.str d.shown) = (PyData.strOk d.shown && decide (0 ≤ 64)) := rfl
  rw [e, Bool.and_eq_true]
  refine ⟨?_, by decide⟩
  refine Array.all_eq_true_iff_forall_mem.mpr fun c hc => decide_eq_true ?_
  rcases Nat.lt_or_ge c 128 with l | l
  · omega
  · exact absurd (Array.mem_toList_iff.mpr hc) (h c l)
theorem asc_nat (i : Nat) : Asc (.int (i : Nat)) := fun k hk => shown_int_free' ⟨by omega, .inr (by omega)⟩ i
theorem asc_non : Asc .none := fun k hk => by
  have e : (PyData.none).shown.cps.toList = [78, 111, 110, 101] := by decide
  rw [e]
  intro hm
  simp only [List.mem_cons, List.not_mem_nil, or_false] at hm
  rcases hm with h | h | h | h <;> omega
theorem asc_list {xs : List PyData} (h : ∀ x ∈ xs, Asc x) : Asc (.list xs) := fun k hk hm => by
  rw [PyData.shown_list, mem_cps_append, mem_cps_append, signs_lbrack, signs_rbrack, mem_join, signs_sep] at hm
  rcases hm with (hm | (⟨t, ht, hc⟩ | ⟨_, hm⟩)) | hm
  · simp only [List.mem_cons, List.not_mem_nil, or_false] at hm
    omega
  · exact shownAll_free (fun x hx => h x hx k hk) t ht hc
  · simp only [List.mem_cons, List.not_mem_nil, or_false] at hm
    omega
  · simp only [List.mem_cons, List.not_mem_nil, or_false] at hm
    omega
theorem asc_nats (r : List Nat) : Asc (.list (nats r)) := asc_list fun x hx => by
  unfold nats at hx
  obtain ⟨i, _, rfl⟩ := List.mem_map.mp hx
  exact asc_nat i
theorem Sho.mono {k n k' n' : Nat} {d : PyData} (h : Sho k n d) (hk : k ≤ k') (hn : n ≤ n') : Sho k' n' d := ⟨h.s, h.nd, Nat.le_trans h.dp hk, h.lv, Nat.le_trans h.wt hn⟩
theorem ShoA.tup {k n : Nat} {ds : List PyData} (h : ShoA k n ds) : Sho (k + 1) ((n + 1) * ds.length) (.tuple ds) := ⟨h.s, h.nd, Nat.succ_le_succ h.dp, h.lv, h.wt⟩
theorem asc_tup {xs : List PyData} (h : ∀ x ∈ xs, Asc x) : Asc (.tuple xs) := fun k hk hm => by
  have e1 : ("(" : Str).cps.toList = [40] := by decide +kernel
  have e2 : (Str.ofString ",)").cps.toList = [44, 41] := by decide +kernel
  have e3 : (Str.ofString ")").cps.toList = [41] := by decide +kernel
  rw [PyData.shown_tuple, mem_cps_append, mem_cps_append, e1, mem_join, signs_sep] at hm
  rcases hm with (hm | (⟨t, ht, hc⟩ | ⟨_, hm⟩)) | hm
  · simp only [List.mem_cons, List.not_mem_nil, or_false] at hm
    omega
  · exact shownAll_free (fun x hx => h x hx k hk) t ht hc
  · simp only [List.mem_cons, List.not_mem_nil, or_false] at hm
    omega
  · split at hm
    · rw [e2] at hm
      simp only [List.mem_cons, List.not_mem_nil, or_false] at hm
      omega
    · rw [e3] at hm
      simp only [List.mem_cons, List.not_mem_nil, or_false] at hm
      omega

theorem sho_bl (b : Bool) : Sho 0 101 (.bool b) := by cases b <;> exact ⟨by decide +kernel, by decide +kernel, by decide +kernel, by decide +kernel, by decide +kernel⟩
theorem asc_bl (b : Bool) : Asc (.bool b) := fun k hk hm => by
  have e : ∀ c ∈ (PyData.bool b).shown.cps.toList, c < 128 := by cases b <;> decide +kernel
  exact absurd (e k hm) (by omega)
theorem sho_st {z : PyData} (h : StD z) : Sho 1 600 z := by
  obtain ⟨c, i, n, j, g, rfl, h1, h2, h3, h4⟩ := h
  have a : ShoA 0 101 [.int (c : Nat), .int (i : Nat), .int (n : Nat), .int (j : Nat), .bool g] := .of fun d hd => by
    simp only [List.mem_cons, List.not_mem_nil, or_false] at hd
    rcases hd with rfl | rfl | rfl | rfl | rfl
    · exact sho_nat h1
    · exact sho_nat h2
    · exact sho_nat h3
    · exact sho_nat h4
    · exact sho_bl g
  exact a.tup.mono (Nat.le_refl _) (by show 102 * 5 ≤ 600; decide)
theorem asc_st {z : PyData} (h : StD z) : Asc z := by
  obtain ⟨c, i, n, j, g, rfl, _⟩ := h
  refine asc_tup fun d hd => ?_
  simp only [List.mem_cons, List.not_mem_nil, or_false] at hd
  rcases hd with rfl | rfl | rfl | rfl | rfl
  · exact asc_nat c
  · exact asc_nat i
  · exact asc_nat n
  · exact asc_nat j
  · exact asc_bl g
/-- a list of steps -/
structure Sts (zs : List PyData) : Prop where
  each : ∀ z ∈ zs, StD z
  few : zs.length ≤ 64
theorem Sts.sho {zs : List PyData} (h : Sts zs) : Sho 2 38464 (.list zs) := by
  have a := (ShoA.of fun z hz => sho_st (h.each z hz)).lst
  have := h.few
  exact a.mono (Nat.le_refl _) (by show 601 * zs.length ≤ _; omega)
theorem Sts.asc {zs : List PyData} (h : Sts zs) : Asc (.list zs) := asc_list fun z hz => asc_st (h.each z hz)
theorem nodup_le {α : Type} : ∀ {xs ys : List α}, xs.Nodup → (∀ x ∈ xs, x ∈ ys) → xs.length ≤ ys.length
  | [], _, _, _ => Nat.zero_le _
  | x :: xs, ys, n, h => by
    obtain ⟨n1, n2⟩ := List.nodup_cons.mp n
    obtain ⟨l, r, e⟩ := List.append_of_mem (h x List.mem_cons_self)
    have ih := nodup_le (xs := xs) (ys := l ++ r) n2 fun y hy => by
      have hy2 := h y (List.mem_cons_of_mem _ hy)
      rw [e] at hy2
      rcases List.mem_append.mp hy2 with z | z
      · exact List.mem_append_left _ z
      · rcases List.mem_cons.mp z with rfl | z
        · exact absurd hy n1
        · exact List.mem_append_right _ z
    rw [e]
    rw [List.length_append] at ih
    rw [List.length_append, List.length_cons, List.length_cons]
    omega
theorem tab_nil : TabOk [] [] := ⟨rfl, by decide, by decide, (fun k r e => by cases e)⟩
def pairT : List Row := [⟨[], [], []⟩, ⟨["=", "="], [], []⟩, ⟨["=", "="], [.node 1 [.var "b", .node 1 [.var "a", .node 0 []]]], []⟩]
theorem pair_sup : SupOk [0, 2, 2] 2 3 (.node 1 [.var "b", .node 1 [.var "a", .node 0 []]]) where
  ok := ⟨rfl, trivial, ⟨rfl, trivial, ⟨rfl, trivial⟩, trivial⟩, trivial⟩
  parts := by decide
  dep := by decide
  vars := by decide +kernel
  once := by decide +kernel
  node := ⟨1, _, rfl, by decide⟩
theorem pair_ok : TabOk [0, 2, 2] pairT where
  len := rfl
  few := by decide
  two := by decide
  row := fun k r e => by
    match k, e with
    | 0, e =>
      cases e
      exact ⟨rfl, (fun x h => nomatch h), by decide, (fun x h => nomatch h), by decide, (fun x h => nomatch h), List.nodup_nil⟩
    | 1, e =>
      cases e
      exact ⟨rfl, by decide +kernel, by decide, (fun x h => nomatch h), by decide, (fun x h => nomatch h), List.nodup_nil⟩
    | 2, e =>
      cases e
      exact ⟨rfl, by decide +kernel, by decide, (fun x h => by rw [List.mem_singleton.mp h]; exact pair_sup), by decide, (fun x h => nomatch h), List.nodup_nil⟩
    | k + 3, e => cases e
def pairD : List PyData := [stD 2 0 1 0 false, stD 2 0 1 1 true, stD 2 1 1 0 false]
theorem pair_set : SetOf pairD (tabS 0 pairT) where
  nd := by
    unfold pairD stD
    simp
  so := by decide +kernel
  me := fun z => by
    have e : tabS 0 pairT = [stD 2 1 1 0 false, stD 2 0 1 1 true, stD 2 0 1 0 false] := by kernel_rfl
    rw [e]
    unfold pairD
    simp only [List.mem_cons, List.not_mem_nil, or_false]
    exact ⟨fun h => h.elim (fun a => .inr (.inr a)) fun h => h.elim (fun b => .inr (.inl b)) .inl, fun h => h.elim (fun a => .inr (.inr a)) fun h => h.elim (fun b => .inr (.inl b)) .inl⟩
def mfTold : DF := fun ss w P => ∃ d, ss = [.val d] ∧ BadT d ∧ P (.str "table") w
def spLaw (K : PySem.W.Frag) : Sp := fun vs H Q _ => ∃ (a : Addr) (ns : List Int), vs = [.ref a] ∧ SqL K H a (ns.map V.int) ∧ ∀ H', Q (.bl true) H'
section
variable {P : Program} {w : World} {K : PySem.W.Frag} {mg : Str → Option Value} {base : Heap} {C : Addr}
/-- the law's def: pen = open(script), and then data -/
theorem okLaw {st : Stmt} {f : Addr} {fd : FuncData} {cdv : Value} {N : List Str} {k : Nat} {m : DTS} (F : FunV K "law" "law" st f fd cdv) (S : FnScope N ["_law_script"] (defScope st)) (h2 : 2 ≤ N.length)
    (hbody : ∀ (A : Around) (outer : List PySem.Env) (s : Shared) (H : Hp) (E : XK), (A.deeper (envOfC "law" (defScope st) s.heap.objs.size f cdv)).guards = some [] →
      Room k (A.deeper (envOfC "law" (defScope st) s.heap.objs.size f cdv)) → ∃ t, PSs (cxOf CX0 P w K mg base N "law" (defScope st) f cdv A outer s H E).nox (defBody st) (Evl.tCut (tAsg (tCallD (spOpen K) (tCons (tVar 0) tNil)) (gName 1)) t) ∧ DS K [] t m)
    (hm : m ⟨0, fun _ _ => False, fun d _ => d = .bool true, fun _ _ => False, fun _ _ => False⟩ (.no :: .pen :: List.replicate (N.length - 2) .no) ⟨2147483648, []⟩) :
    FnG P w K mg base (k + 1) f fd ["_law_script"] (spLaw K) := by
  obtain ⟨oc, od, kV, doc, pm, an, ct, osl, rfl, lk, hcd⟩ := F
  have len : ∀ vs H Q E, spLaw K vs H Q E → vs.length = (["_law_script"] : List Str).length := by
    rintro vs H Q E ⟨a, ns, rfl, _⟩
    rfl
  constructor
  · exact len
  intro A outer s H args us vs Q E g r e0 hb rv hsp
  have grow : ∀ b o, base.get? b = some o → s.heap.get? b = some o := fun b o e => (e0.bs b o e).1
  have inK := e0.mod.kin.keeps grow
  have kinds : ∀ y ∈ (["_law_script"] : List Str).zip us, (defScope st).names.lookup y.1 = some .local ∨
      ((defScope st).names.lookup y.1 = some .cell ∧ ((cellsFrom (s.heap.objs.size + 1) (defScope st).names []).lookup y.1).isSome = true) := by
    intro y hy
    have q := S.par y.1 (List.of_mem_zip (show (y.1, y.2) ∈ (["_law_script"] : List Str).zip us from hy)).1
    exact q.imp_right fun c => ⟨c, PySem.W.cellsFrom_some _ _ _ (.inl c)⟩
  have code := PySem.W.codeRec_of inK hcd
  refine codeAny_call_function r.depth (inK _ _ lk) rfl S.co S.gen rfl code (hb _ _ _ _ (wpAny_newFunctionEnv_cells S.kind kinds ?_))
  intro env he s1 hc
  subst he
  refine ⟨(e0.mod.nolimit.keeps grow).keeps hc.toInCall.keep, codeAny_func ?_⟩
  obtain ⟨t, ht, ds⟩ := hbody A outer s H E (guards_deeper g) (r.deeper _)
  have hl := len _ _ _ _ hsp
  have I := inv_start (E := E) (CX := CX0) S r.hd e0 hl rv hc
  obtain ⟨a, ns, rfl, hS, q⟩ := hsp
  have hq : Evl.tCut (tAsg (tCallD (spOpen K) (tCons (tVar 0) tNil)) (gName 1)) t { nx := fun _ H' => Q .non H', rt := Q } (L2.start N [.ref a]) H := by
    refine ⟨fun σ H1 => ∃ p c, σ = some (.ref a) :: some (.ref p) :: List.replicate (N.length - 2) none ∧ PenOk H1 p c 2147483648 ∧ Ex H H1 ∧ H p = none ∧ p ≠ c, ?_, ?_⟩
    · have e : L2.start N [.ref a] = some (.ref a) :: none :: List.replicate (N.length - 2) none := by
        unfold L2.start
        show some (V.ref a) :: List.replicate (N.length - 1) none = _
        rw [show N.length - 1 = (N.length - 2) + 1 by omega, List.replicate_succ]
      rw [e]
      exact ⟨_, rfl, a, ns, rfl, hS, fun p c H' e1 n1 n2 n3 pen => ⟨p, c, rfl, pen, e1, n1, n3⟩⟩
    · rintro _ H1 ⟨p, c, rfl, pen, e1, np, npc⟩
      obtain ⟨cs, t0, r0, h1, h2', h3, h4⟩ := pen
      refine ds.run ⟨some (p, c), [], []⟩ H H1 ⟨some (p, c), [], []⟩ H H1 _ _ ⟨2147483648, []⟩ _ _ ⟨⟨⟨?_, ?_⟩, e1, ?_, rfl⟩, Fr.refl e1, Ext.refl _ H1⟩ hm ⟨rfl, ?_, ?_, ?_, ?_⟩
      · show List.length _ = List.length _
        rw [List.length_cons, List.length_cons, List.length_cons, List.length_cons, List.length_replicate, List.length_replicate]
      · intro i sl e
        match i, e with
        | 0, e =>
          cases e
          trivial
        | 1, e =>
          cases e
          exact ⟨p, c, rfl, rfl⟩
        | i + 2, e =>
          have e : (List.replicate (N.length - 2) Sl.no)[i]? = some sl := e
          have : sl = .no := by
            rw [List.getElem?_replicate] at e
            split at e
            · exact (Option.some.inj e).symm
            · cases e
          subst this
          trivial
      · refine ⟨fun p' c' z => ?_, rfl, List.nodup_nil, (fun i q xs z => by cases z), (fun _ z => by cases z), (fun _ z => by cases z)⟩
        cases z
        exact ⟨cs, t0, r0, h1, h2', h3, h4, np, npc, (fun z => by cases z), (fun z => by cases z)⟩
      · intro pe' σ' env' F' H' n' e R q
        exact q.elim
      · intro pe' v F' H' y n' f e p h z
        have z : y = .bool true := z
        subst z
        rw [dp_bl h]
        exact q H'
      · intro pe' σ' env' F' H' n' e R q
        exact q.elim
      · intro pe' σ' env' F' H' n' e R q
        exact q.elim
  have body := ht.nox.run [] s1 (L2.start N [.ref a]) H _ I hq
  refine wpAny_mono body ?_ fun e s' hs => hs
  intro fl s' hs
  match fl, hs with
  | .ret u, ⟨v, σ', H', J, rv, q⟩ => exact ⟨v, H', J.os, J.bare, J.base, J.hok, rv, q⟩
  | .next, ⟨σ', H', J, q⟩ => exact ⟨V.non, H', J.os, J.bare, J.base, J.hok, rfl, q⟩
  | .brk, ⟨_, _, _, q⟩ => exact q.elim
  | .cont, ⟨_, _, _, q⟩ => exact q.elim

theorem ok_told {f fO : Addr} {fd fdO : FuncData} {cdv : Value} {k : Nat} (F : FunV K "_law_told" "_law_told" s_told f fd cdv) (T : TS mg) (XC : ErrC K mg "InvalidTable" C)
    (Gsteps : FnX P w K mg base k fO fdO ["table"] (spXN K [] (mfSteps C))) (msteps : mg "steps" = some (.ref fO)) (ksteps : PySem.W.keepIn K (.ref fO) = true) (bsteps : Binds K fdO ["table"] []) :
    FnG P w K mg base (k + 1) f fd ["_law_table"] (spD K [] mfTold) := by
  have GA : FnX P w K mg base k fO fdO ["table"] (spX K [] fun ss w P PE => mfSteps C ss w (fun xs n => P (.list xs) n) PE) := FnX.weak Gsteps spX_ofN
  refine FnG.weak (FnG.ofX (okX F sc_told (fun A outer s H hg hr => ⟨_, fun E => pss_one (ps_try_many rfl rfl (takes_of rfl rfl rfl rfl)
      (fun W pn xe tk _ => pss_one (ps_ret (pe_callX GA hg hr (by rfl) msteps ksteps bsteps (fun σ => passAt tk σ) (pa_cons (pv 0) pa_nil))))
      (HdsOk.cons (c := .ref C) ⟨by rfl, by decide, .inl XC.g⟩ (fun a oe cls d pn _ _ => pss_one (ps_ret pe_str)) .nil)),
      dsx_tryN [(.ref C, "table")] (dsx_retE (dex_call (da_cons dx_var da_nil)))⟩))) (spD_weak fun ss w P h => ?_)
  obtain ⟨d, rfl, hb, q⟩ := h
  refine ⟨rfl, ?_⟩
  dsimp only
  exact ⟨_, rfl, Sl.noConfusion, d, rfl, .inl ⟨hb, true, XC.e, iteT (fin q)⟩⟩
def mfSteps0 (C : Addr) : DFN := fun ss w P => mfSteps C ss w P fun _ _ => False
theorem ok_law {f fN fA fW fT fB fL fE fS : Addr} {fd fdN fdA fdW fdT fdB fdL fdE fdS : FuncData} {cdv : Value} {k : Nat} (F : FunV K "law" "law" s_law f fd cdv) (T : TS mg)
    (G_law_open : FnG P w K mg base k fN fdN ["_law_script"] (spOpen K)) (m_law_open : mg "_law_open" = some (.ref fN)) (k_law_open : PySem.W.keepIn K (.ref fN) = true) (b_law_open : Binds K fdN ["_law_script"] [])
    (G_law_anew : FnG P w K mg base k fA fdA ["_law_pen"] spAnew) (m_law_anew : mg "_law_anew" = some (.ref fA)) (k_law_anew : PySem.W.keepIn K (.ref fA) = true) (b_law_anew : Binds K fdA ["_law_pen"] [])
    (G_law_wild : FnG P w K mg base k fW fdW ["_law_pen", "_law_many"] (spD K [] mfWild)) (m_law_wild : mg "_law_wild" = some (.ref fW)) (k_law_wild : PySem.W.keepIn K (.ref fW) = true) (b_law_wild : Binds K fdW ["_law_pen", "_law_many"] [])
    (G_law_take : FnG P w K mg base k fT fdT ["_law_pen", "_law_many"] (spD K [] mfTake)) (m_law_take : mg "_law_take" = some (.ref fT)) (k_law_take : PySem.W.keepIn K (.ref fT) = true) (b_law_take : Binds K fdT ["_law_pen", "_law_many"] [])
    (G_law_bad_table : FnG P w K mg base k fB fdB ["_law_pen", "_law_table"] (spD K [] mfBad)) (m_law_bad_table : mg "_law_bad_table" = some (.ref fB)) (k_law_bad_table : PySem.W.keepIn K (.ref fB) = true) (b_law_bad_table : Binds K fdB ["_law_pen", "_law_table"] [])
    (G_law_steps : FnG P w K mg base k fL fdL ["_law_table"] (spD K [] mfLSteps)) (m_law_steps : mg "_law_steps" = some (.ref fL)) (k_law_steps : PySem.W.keepIn K (.ref fL) = true) (b_law_steps : Binds K fdL ["_law_table"] [])
    (G_law_told : FnG P w K mg base k fE fdE ["_law_table"] (spD K [] mfTold)) (m_law_told : mg "_law_told" = some (.ref fE)) (k_law_told : PySem.W.keepIn K (.ref fE) = true) (b_law_told : Binds K fdE ["_law_table"] [])
    (Gsteps : FnG P w K mg base k fS fdS ["table"] (spN K [] (mfSteps0 C))) (msteps : mg "steps" = some (.ref fS)) (ksteps : PySem.W.keepIn K (.ref fS) = true) (bsteps : Binds K fdS ["table"] []) :
    FnG P w K mg base (k + 1) f fd ["_law_script"] (spLaw K) := by
  refine okLaw F sc_law (by decide) (fun A outer s H E hg hr => ⟨_, Evl.pss_cut (ps_set (i := 1) sc_law.nd rfl (Or.inl rfl) (pe_callG G_law_open hg hr (by rfl) m_law_open k_law_open b_law_open (pa_cons (pv 0) pa_nil)))
    (pss_cons (ps_for PassesOwn.never rfl (pi_range1 (by rfl) T.m_range (pa_cons pe_int pa_nil)) (pg_name (i := 2) sc_law.nd rfl (Or.inl rfl))
          (pss_cons (ps_set (i := 3) sc_law.nd rfl (Or.inl rfl) (pe_callG G_law_wild hg hr (by rfl) m_law_wild k_law_wild b_law_wild (pa_cons (pe_callG G_law_anew hg hr (by rfl) m_law_anew k_law_anew b_law_anew (pa_cons (pv 1) pa_nil)) (pa_cons (pe_op op_add pe_int (pe_callG G_law_take hg hr (by rfl) m_law_take k_law_take b_law_take (pa_cons (pv 1) (pa_cons pe_int pa_nil)))) pa_nil))))
          (pss_cons (ps_par rfl sc_law.nd (i := 4) (j := 5) rfl rfl (by decide) rfl rfl (pa_cons (pe_callG G_law_steps hg hr (by rfl) m_law_steps k_law_steps b_law_steps (pa_cons (pv 3) pa_nil)) (pa_cons (pe_callG Gsteps hg hr (by rfl) msteps ksteps bsteps (pa_cons (pv 3) pa_nil)) pa_nil)) (by with_unfolding_all rfl))
          (pss_cons (ps_if (pt_cmpR (neK K rfl (units64 hr)) (pe_callB (call_repr hg (units64 hr)) (by rfl) T.m_repr PyProof.Rows.boot_repr (pa_cons (pv 5) pa_nil)) (pe_callB (call_repr hg (units64 hr)) (by rfl) T.m_repr PyProof.Rows.boot_repr (pa_cons (pv 4) pa_nil)) (nomark _)) (pss_one (ps_ret pe_bl)) pss_nil)
          (pss_cons (ps_expr (bmK K rfl (pe_bm PySem.F.plainAttrs_list PySem.F.slot_list_append PySem.F.type_list_append mt_append (pv 5) (pa_cons pe_int pa_nil))))
          (pss_cons (ps_if (pt_cmpR (neK K rfl (units64 hr)) (pe_callB (call_repr hg (units64 hr)) (by rfl) T.m_repr PyProof.Rows.boot_repr (pa_cons (pe_callG Gsteps hg hr (by rfl) msteps ksteps bsteps (pa_cons (pv 3) pa_nil)) pa_nil)) (pe_callB (call_repr hg (units64 hr)) (by rfl) T.m_repr PyProof.Rows.boot_repr (pa_cons (pv 4) pa_nil)) (nomark _)) (pss_one (ps_ret pe_bl)) pss_nil)
          (pss_one (ps_if (pt_cmpR (neK K rfl (units64 hr)) (pe_callG G_law_told hg hr (by rfl) m_law_told k_law_told b_law_told (pa_cons (pe_callG G_law_bad_table hg hr (by rfl) m_law_bad_table k_law_bad_table b_law_bad_table (pa_cons (pv 1) (pa_cons (pv 3) pa_nil))) pa_nil)) pe_str (nomark _)) (pss_one (ps_ret pe_bl)) pss_nil))))))))
          (pss_cons (ps_set (i := 6) sc_law.nd rfl (Or.inl rfl) (pe_tup (pa_cons (pe_tup (pa_cons (pe_tup pa_nil) (pa_cons (pe_tup pa_nil) (pa_cons (pe_tup pa_nil) pa_nil)))) (pa_cons (pe_tup (pa_cons (pe_tup (pa_cons pe_str (pa_cons pe_str pa_nil))) (pa_cons (pe_tup pa_nil) (pa_cons (pe_tup pa_nil) pa_nil)))) (pa_cons (pe_tup (pa_cons (pe_tup (pa_cons pe_str (pa_cons pe_str pa_nil))) (pa_cons (pe_tup (pa_cons (pe_tup (pa_cons pe_int (pa_cons pe_str (pa_cons (pe_tup (pa_cons pe_int (pa_cons pe_str (pa_cons (pe_tup (pa_cons pe_int pa_nil)) pa_nil)))) pa_nil)))) pa_nil)) (pa_cons (pe_tup pa_nil) pa_nil)))) pa_nil)))))
          (pss_cons (ps_set (i := 4) sc_law.nd rfl (Or.inl rfl) (pe_lst (pa_cons (pe_tup (pa_cons pe_int (pa_cons pe_int (pa_cons pe_int (pa_cons pe_int (pa_cons pe_bl pa_nil)))))) (pa_cons (pe_tup (pa_cons pe_int (pa_cons pe_int (pa_cons pe_int (pa_cons pe_int (pa_cons pe_bl pa_nil)))))) (pa_cons (pe_tup (pa_cons pe_int (pa_cons pe_int (pa_cons pe_int (pa_cons pe_int (pa_cons pe_bl pa_nil)))))) pa_nil)))))
          (pss_one (ps_ret (pe_and (pe_cmpR (eqK K rfl (units64 hr)) (pe_callB (call_repr hg (units64 hr)) (by rfl) T.m_repr PyProof.Rows.boot_repr (pa_cons (pe_callG Gsteps hg hr (by rfl) msteps ksteps bsteps (pa_cons (pv 6) pa_nil)) pa_nil)) (pe_callB (call_repr hg (units64 hr)) (by rfl) T.m_repr PyProof.Rows.boot_repr (pa_cons (pv 4) pa_nil)) (nomark _)) (pe_one (pe_cmpR (eqK K rfl (units64 hr)) (pe_callG Gsteps hg hr (by rfl) msteps ksteps bsteps (pa_cons (pe_tup pa_nil) pa_nil)) (pe_lst pa_nil) (nomark _))))))))), by repeat first
        | apply dx_anew
        | (with_reducible apply ds_parVO; rotate_left 1; with_reducible apply dn_callN; rotate_right 1)
        | (apply de_new; with_reducible apply dn_callN)
        | (with_reducible apply ds_asg)
        | (with_reducible apply ds_par)
        | exact de_int
        | exact de_str
        | exact de_bl
        | exact de_non
        | exact de_var
        | exact dx_var
        | exact ds_retN
        | exact ds_next
        | exact ds_brk
        | exact ds_cont
        | exact dt_yes
        | exact dv_nil
        | exact da_nil
        | exact dgs_nil
        | exact dg_name
        | exact do_none
        | (with_reducible apply ds_seq)
        | (with_reducible apply ds_ret)
        | (with_reducible apply ds_if)
        | (with_reducible apply ds_forI)
        | (with_reducible apply ds_whileI)
        | (with_reducible apply ds_drop)
        | (apply dg_tupN 2; exact rfl)
        | (apply dg_tupN 3; exact rfl)
        | apply dgs_cons
        | apply di_any
        | apply di_range
        | apply dt_test
        | apply dt_B
        | apply dt_and
        | apply dt_or
        | apply dt_not
        | apply dx_of
        | apply de_tup
        | apply dv_cons
        | apply da_cons
        | apply do_some
        | apply de_if
        | apply de_not
        | apply de_and
        | apply de_or
        | (apply de_new; apply dn_lst)
        | apply de_op dr_ix
        | apply de_op dr_eq
        | apply de_op dr_ne
        | apply de_op dr_inA
        | apply de_op dr_catT
        | apply de_op dr_catL
        | apply de_op dr_add
        | apply de_op dr_sub
        | apply de_op dr_mul
        | apply de_op dr_mod
        | apply de_op dr_fdiv
        | apply de_op dr_lt
        | apply de_op dr_le
        | apply de_op dr_gt
        | apply de_op dr_ge
        | apply de_op dr_isN
        | apply de_op dr_notN
        | apply de_op dr_addS
        | apply de_slice
        | (apply de_isi; rotate_left 1; assumption; decide; rotate_right 1)
        | apply de_cb dc_len
        | apply de_cb dc_lenS
        | apply de_cb dc_int
        | apply de_cb dc_min2
        | apply de_cb dc_max2
        | apply de_cb dc_tuple
        | (apply de_new; apply dn_cb dcn_list)
        | apply de_call
        | apply de_m dm_append
        | apply de_m dm_insert
        | apply de_m dm_popAt
        | apply de_m0 dm_pop
        | apply de_extend
        | (apply de_new; apply dn_lcN)
        | (apply de_new; apply dn_rep; apply dn_lst)
        | (apply de_genN; rotate_left 2; assumption; rotate_right 2)
        | (with_reducible apply ds_augAdd)
        | apply dt_chain
        | apply de_chain
        | apply dt_truth
        | apply di_enumT
        | apply de_count
        | apply de_op dr_repT
        | apply de_cb dc_all
        | apply de_cb dc_max
        | apply de_cb dc_min
        | (apply de_new; apply dn_cb dcn_sorted)
        | apply de_lenSet
        | (apply de_new; apply dn_listRg)
        | apply de_cb dc_repr⟩) ?_
  dsimp only
  refine ⟨10, rfl, by decide, by decide, ?_⟩
  refine ⟨fun k env w' => ∃ (n : Nat) (s2 s3 s4 s5 s6 : Sl) (os : List (Option (List PyData))), env = [.no, .pen, s2, s3, s4, s5, s6] ∧ w' = ⟨n, os⟩ ∧ 100000 ≤ n + 3000 * k, ⟨2147483648, _, _, _, _, _, _, rfl, rfl, by decide⟩, ?_, ?_⟩
  · rintro k x _ _ hx ⟨n, s2, s3, s4, s5, s6, os, rfl, rfl, hn⟩
    have hk := upTo_at hx
    have hk : k < 10 := hk
    obtain rfl := upTo_val hx
    refine ⟨_, rfl, Sl.noConfusion, rfl, _, rfl, Sl.noConfusion, 5, n - 1, rfl, by decide, by decide, by show n = n - 1 + 1; omega, fun r r0 r1 => ?_⟩
    obtain ⟨m, rfl⟩ := Int.eq_ofNat_of_zero_le r0
    refine ⟨_, _, rfl, rfl, _, _, rfl, rfl, m + 1, n - 1 - 2000, by rw [show (1 : Int) + (m : Nat) = ((m + 1 : Nat) : Int) by omega], by omega, by omega, by show n - 1 = n - 1 - 2000 + 2000; omega, fun n2 ar t hn2 ht hl => ?_⟩
    have h5 : t.length ≤ 5 := by have := ht.few; have := ht.len; omega
    have hR := rows_S ht
    have hSt : ∀ z ∈ tabS 0 t, StD z := fun z hz => tab_St ht.few ht.two 0 t hR (by omega) hz
    refine ⟨_, rfl, Sl.noConfusion, ar, t, rfl, ht, fun due hdue => ?_⟩
    refine ⟨_, rfl, Sl.noConfusion, _, rfl, .inr ⟨ar, t, rfl, ht, fun zs hzs => ?_⟩⟩
    have e : zs = due := hzs.one hdue hSt fun z => tab_mem z 0 t hR
    subst e
    have hzt : Sts zs := ⟨fun z hz => hSt z ((hzs.me z).mp hz), by
      have h1 := nodup_le hzs.nd fun z hz => (hzs.me z).mp hz
      have h2 := tabS_len 0 t hR
      omega⟩
    have ss := hzt.sho
    have as := hzt.asc
    have hl64 := hzt.few
    have ea : (PyData.str (PyData.list zs).shown).eqv (.str (PyData.list zs).shown) = true := beq_self_eq_true (PyData.list zs).shown
    dsimp only
    refine ⟨_, rfl, Sl.noConfusion, _, seeAll_sh get_own, _, rfl, ss.s, ss.nd, Nat.le_trans ss.dp (by decide), ss.len (by decide), _, rfl, Sl.noConfusion, _, rfl, _, rfl, ss.s, ss.nd, Nat.le_trans ss.dp (by decide), ss.len (by decide), ?_⟩
    refine ⟨_, _, rfl, rfl, as.shp, as.shp, false, (by rw [ea]; rfl), iteF ?_⟩
    refine ⟨_, rfl, Sl.noConfusion, _, rfl, _, _, get_own, rfl, _, rfl, by omega, ?_⟩
    refine ⟨_, rfl, Sl.noConfusion, _, rfl, .inr ⟨ar, t, rfl, ht, fun zs2 hzs2 => ?_⟩⟩
    have e2 : zs2 = zs := hzs2.one hdue hSt fun z => tab_mem z 0 t hR
    subst e2
    refine ⟨_, rfl, _, rfl, ss.s, ss.nd, Nat.le_trans ss.dp (by decide), ss.len (by decide), _, rfl, Sl.noConfusion, _, rfl, _, rfl, ss.s, ss.nd, Nat.le_trans ss.dp (by decide), ss.len (by decide), ?_⟩
    refine ⟨_, _, rfl, rfl, as.shp, as.shp, false, (by rw [ea]; rfl), iteF ?_⟩
    refine ⟨_, rfl, Sl.noConfusion, _, rfl, Sl.noConfusion, t, n2 - 1, rfl, by omega, by show n2 = n2 - 1 + 1; omega, fun z hz => ?_⟩
    obtain ⟨hno, hsh⟩ := bads_no ht z hz
    refine ⟨z, rfl, ⟨hsh, hno⟩, _, _, rfl, rfl, by decide +kernel, by decide +kernel, false, by rfl, iteF ?_⟩
    exact ⟨n2 - 1, _, _, _, _, _, _, rfl, rfl, by omega⟩
  · rintro _ _ ⟨n, s2, s3, s4, s5, s6, os, rfl, rfl, hn⟩
    iterate 20 (refine ⟨by decide, ?_⟩)
    refine ⟨_, rfl, Sl.noConfusion, _, rfl, .inr ⟨[0, 2, 2], pairT, rfl, pair_ok, fun zs hzs => ?_⟩⟩
    have hSt : ∀ z ∈ tabS 0 pairT, StD z := fun z hz => tab_St pair_ok.few pair_ok.two 0 pairT (rows_S pair_ok) (by decide) hz
    have e : zs = pairD := hzs.one pair_set hSt fun z => Iff.rfl
    subst e
    have hzt : Sts pairD := ⟨fun z hz => hSt z ((hzs.me z).mp hz), by decide⟩
    have ss := hzt.sho
    have as := hzt.asc
    refine ⟨_, rfl, _, rfl, ss.s, ss.nd, Nat.le_trans ss.dp (by decide), ss.len (by decide), _, rfl, Sl.noConfusion, _, rfl, _, rfl, ss.s, ss.nd, Nat.le_trans ss.dp (by decide), ss.len (by decide), ?_⟩
    refine ⟨_, _, rfl, rfl, as.shp, as.shp, true, congrArg PyData.bool (beq_self_eq_true (PyData.list pairD).shown), iteT ?_⟩
    refine ⟨le0, _, rfl, .inr ⟨[], [], rfl, tab_nil, fun zs hzs => ?_⟩⟩
    have e : zs = [] := List.eq_nil_iff_forall_not_mem.mpr fun z hz => List.not_mem_nil ((hzs.me z).mp hz)
    subst e
    exact ⟨le0, _, _, rfl, rfl, by decide +kernel, by decide +kernel, by rfl⟩
end
end Kin

namespace Kin
open PySem PySem.Spec PyProof.Rows L2 Dl
open Evl (Ex sz_of sz_lt)
theorem _root_.Dl.FnG.up {P : Program} {w : World} {K : PySem.W.Frag} {mg : Str → Option Value} {base : Heap} {k j : Nat} {f : Addr} {fd : FuncData} {ps : List Str} {sp : Sp} (F : FnG P w K mg base k f fd ps sp) (h : k ≤ j) : FnG P w K mg base j f fd ps sp :=
  ⟨F.len, fun A outer s H args us vs Q E g r => F.run A outer s H args us vs Q E g (r.mono h)⟩
theorem _root_.Dl.FnX.up {P : Program} {w : World} {K : PySem.W.Frag} {mg : Str → Option Value} {base : Heap} {k j : Nat} {f : Addr} {fd : FuncData} {ps : List Str} {sp : Sp} (F : FnX P w K mg base k f fd ps sp) (h : k ≤ j) : FnX P w K mg base j f fd ps sp :=
  ⟨F.len, fun A outer s H args us vs Q E g r => F.run A outer s H args us vs Q E g (r.mono h)⟩
def atomB : Value → PyData → Bool
  | .int i _, .int j => decide (i = j)
  | .str x _, .str y => decide (x = y)
  | _, _ => false
def atomsB : List Value → List PyData → Bool
  | [], [] => true
  | u :: us, d :: ds => atomB u d && atomsB us ds
  | _, _ => false
theorem atom_ok {K : PySem.W.Frag} {F : Hp} {u : Value} {d : PyData} (h : atomB u d = true) : ∃ x, RelV x u ∧ Dq K F x d := by
  match u, d, h with
  | .int i t, .int j, h =>
    have e : i = j := of_decide_eq_true h
    subst e
    exact ⟨.int i, ⟨t, rfl⟩, .int _⟩
  | .str x t, .str y, h =>
    have e : x = y := of_decide_eq_true h
    subst e
    exact ⟨.str x, ⟨t, rfl⟩, .str _⟩
theorem atoms_ok {K : PySem.W.Frag} {F : Hp} : ∀ {us : List Value} {ds : List PyData}, atomsB us ds = true → ∃ xs, Vals xs us ∧ DqAll K F xs ds
  | [], [], _ => ⟨[], .nil, .nil⟩
  | [], _ :: _, h => nomatch h
  | _ :: _, [], h => nomatch h
  | u :: us, d :: ds, h => by
    have h : (atomB u d && atomsB us ds) = true := h
    rw [Bool.and_eq_true] at h
    obtain ⟨x, r, q⟩ := atom_ok (K := K) (F := F) h.1
    obtain ⟨xs, rs, qs⟩ := atoms_ok (K := K) (F := F) h.2
    exact ⟨x :: xs, .cons r rs, .cons q qs⟩
/-- a written tuple of ints and texts -/
def wrB (K : PySem.W.Frag) (a : Addr) (ds : List PyData) : Bool := match K.lookup a with
  | some o => decide (o.cls = .type "tuple") && (match o.data with | .seq its _ => decide (its.size ≤ 100) && atomsB its.toList ds | _ => false)
  | none => false
theorem wr_ok {K : PySem.W.Frag} {a : Addr} {ds : List PyData} (h : wrB K a ds = true) : ∀ F, Dq K F (.ref a) (.tuple ds) := by
  intro F
  unfold wrB at h
  cases e : K.lookup a with
  | none => rw [e] at h; cases h
  | some o =>
    rw [e] at h
    have h : (decide (o.cls = .type "tuple") && (match o.data with | .seq its _ => decide (its.size ≤ 100) && atomsB its.toList ds | _ => false)) = true := h
    rw [Bool.and_eq_true] at h
    obtain ⟨h1, h2⟩ := h
    have h1 := of_decide_eq_true h1
    cases e2 : o.data with
    | seq its n =>
      rw [e2] at h2
      have h2 : (decide (its.size ≤ 100) && atomsB its.toList ds) = true := h2
      rw [Bool.and_eq_true] at h2
      have h3 := of_decide_eq_true h2.1
      obtain ⟨xs, r, q⟩ := atoms_ok (K := K) (F := F) h2.2
      have hz : its.size ≤ sizeLine := Nat.le_trans h3 (by decide)
      exact .tup (.inr ⟨o, its, n, e, h1, e2, hz, r⟩) q
    | _ => rw [e2] at h2; cases h2
def ktB (K : PySem.W.Frag) : Bool := (["NoneType", "bool", "int", "str", "list", "tuple"] : List String).all fun a => (["bool", "int", "str", "list", "tuple"] : List String).all fun b => decide (PySem.W.kitOne K (.type a) (.type b) = some (subTy a b))
theorem kt_ok {K : PySem.W.Frag} (h : ktB K = true) : KTy K := fun a b ha hb => of_decide_eq_true (List.all_eq_true.mp (List.all_eq_true.mp h a ha) b hb)
def errcB (K : PySem.W.Frag) (C : Addr) : Bool := PySem.W.excIn K C [.type "ValueError", .type "Exception", .type "BaseException", .type "object"] "ValueError.__new__" && (PySem.W.keepIn K (.ref C) &&
  (decide (PySem.W.subIn K (.ref C) (.type "BaseException") = some true) && (decide (PySem.W.typeIn K (.ref C) = some (.type "type")) && decide (PySem.W.exmOne K (.ref C) (.ref C) = some true))))
theorem errc_ok {K : PySem.W.Frag} {mg : Str → Option Value} {x : Str} {C : Addr} (g : mg x = some (.ref C)) (h : errcB K C = true) : ErrC K mg x C := by
  unfold errcB at h
  simp only [Bool.and_eq_true, decide_eq_true_eq] at h
  exact ⟨g, h.1, h.2.1, h.2.2.1, h.2.2.2.1, h.2.2.2.2⟩
/-- a written dict's values, by key -/
def dctB (K : PySem.W.Frag) (a : Addr) (kvs : List (Str × PyData)) : Bool := kvs.all fun q => match PySem.W.nsIn K a q.1 with
  | some (some u) => atomB u q.2
  | _ => false
theorem dct_ok {K : PySem.W.Frag} {w : World} {a : Addr} {ks : List Str} {kvs : List (Str × PyData)} (h : He.dicW K a = some (He.keysIn w.params ks)) (hb : dctB K a kvs = true) : DctK K w a kvs := by
  intro z d hm
  obtain ⟨es, n, D⟩ := He.dicW_ok h
  have q := List.all_eq_true.mp hb (z, d) hm
  have q : (match PySem.W.nsIn K a z with | some (some u) => atomB u d | _ => false) = true := q
  cases e : PySem.W.nsIn K a z with
  | none => rw [e] at q; cases q
  | some o =>
    cases o with
    | none => rw [e] at q; cases q
    | some u =>
      rw [e] at q
      obtain ⟨x, r, dq⟩ := atom_ok (K := K) (F := fun _ => none) q
      exact ⟨x, ⟨es, n, u, D.at_, D.lit, e, r⟩, fun F => by
        obtain ⟨x', r', dq'⟩ := atom_ok (K := K) (F := F) q
        have : x' = x := by
          match u, d, q with
          | .int i t, .int j, _ => cases dq; cases dq'; rfl
          | .str i t, .str j, _ => cases dq; cases dq'; rfl
        rw [← this]
        exact dq'⟩
/-- of all objects only the script may be tracked, and then as one that is read -/
structure Lone (H : Hp) (a : Addr) (o : Obj) (ns : List Int) : Prop where
  one : ∀ b, b ≠ a → H b = none
  at_ : H a = none ∨ H a = some (.frz o (.lst (ns.map V.int)))
theorem Lone.tracked {H : Hp} {a b : Addr} {o : Obj} {ns : List Int} (L : Lone H a o ns) (h : H b ≠ none) : b = a := Classical.byContradiction fun n => h (L.one b n)
section
variable {P : Program} {w : World} {K : PySem.W.Frag} {mg mb : Str → Option Value} {k : Nat} {fa a : Addr} {fd : FuncData} {x : Str} {sp : Sp} {s : Shared} {vs : List Value} {ns : List Int} {H : Hp}
abbrev scriptObj (vs : List Value) : Obj := { cls := .type "list", data := .seq vs.toArray }
/-- what the law's call gives -/
abbrev Gave (s : Shared) (r : Result) (s' : Shared) : Prop := r = .ok (.ret (.bool true)) ∧ OldK s.heap s'.heap ∧ s'.os = s.os ∧ AllBare s'.gens
theorem lone_call (KX : K.In s.heap) (hns : s.heap.Ns mainGlobals mg) (hb : s.heap.Ns builtinsNs mb) (hbb : ∀ x : Str, x ≠ "__name__" → mb x = bootBuiltins x) (hlim : s.heap.NoLimit) (hg : s.gens = #[])
    (ha : s.heap.get? a = some (scriptObj vs)) (hr : Room k callerA) (F : ∀ base : Heap, K.In base → base.Ns mainGlobals mg → FnG P w K mg base k fa fd [x] sp)
    (hbind : ∀ (s : Shared) (u : Value), BindsTo s fd ⟨[u], []⟩ [(x, u)]) (L : Lone H a (scriptObj vs) ns) (ok : HOk P w H s.heap) (apart : H a ≠ none → K.lookup a = none)
    (hsp : sp [.ref a] H (fun v _ => v = .bl true) fun _ _ _ => False) : codeAny (model P w) callerA (.call (.ref fa) ⟨[.ref a], []⟩) (Gave s) s := by
  have stays : ∀ {b : Addr} {o : Obj}, s.heap.get? b = some o → H b = none → (hidT s.heap H).get? b = some o := hidT_get
  have noDict : ∀ {b : Addr} {o : Obj} {es : Array DictEntry} {ep : Nat}, s.heap.get? b = some o → o.data = .dict es ep → H b = none := by
    intro b o es ep e d
    refine Classical.byContradiction fun n => ?_
    rw [L.tracked n, ha] at e
    cases e
    exact nomatch d
  have ns_ : ∀ {b : Addr} {m : Str → Option Value}, s.heap.Ns b m → (hidT s.heap H).Ns b m := by
    rintro b m ⟨o, es, ep, e, d, r⟩
    exact ⟨o, es, ep, stays e (noDict e d), d, r⟩
  have inK : K.In (hidT s.heap H) := by
    intro b o e
    refine stays (KX b o e) (Classical.byContradiction fun n => ?_)
    obtain rfl := L.tracked n
    rw [apart n] at e
    cases e
  obtain ⟨mc, l1, l2⟩ := hlim
  have mod : Mod K mg (hidT s.heap H) := ⟨inK, ns_ hns, ⟨mb, ns_ hb, hbb⟩, ⟨mc, ns_ l1, l2⟩⟩
  have e0 : Env0 P w K mg (hidT s.heap H) callerA [] s H :=
    { frames := rfl, mod := mod, bs := fun _ _ e => of_hidT e, bsz := Nat.le_of_eq (hidT_size _ _), funs := trivial, frf := fun b hb => (List.not_mem_nil hb).elim, hok := ok, bare := .of_eq hg }
  refine codeAny_mono ((F _ inK (ns_ hns)).run callerA [] s H ⟨[.ref a], []⟩ [.ref a] [.ref a] _ _ rfl hr e0 (hbind s _) (.cons rfl .nil) hsp) ?_
  intro r s' h
  match r, h with
  | .error _, h => exact h.elim
  | .ok .next, h => exact h.elim
  | .ok .brk, h => exact h.elim
  | .ok .cont, h => exact h.elim
  | .ok (.ret u), ⟨v, H', os, bare, un, ok', rv, q⟩ =>
    obtain rfl : v = .bl true := q
    obtain rfl : u = Value.bool true := rv
    refine ⟨rfl, OldK.of_keep fun b o e => ?_, os, bare⟩
    by_cases hb : H b = none
    · exact un.keep b o e hb (fun z => (List.not_mem_nil z).elim) (by simp)
    · obtain rfl := L.tracked hb
      have z := L.at_.resolve_left hb
      have e1 := (ok b _ z).1
      have e2 := (ok' b _ (un.frzs b _ _ z)).1
      rw [e] at e1
      cases e1
      exact e2
end
/-- the goal that k_head leaves, from the law's promise -/
theorem walkG {l : PySem.W.OpenLaw} {n k : Nat} {q : Program} {loose : List Str} {XP : (Str → Option Value) → Heap → Prop} {YP : World → Heap → Prop} {d : DefRec} {K : Params → PySem.W.Frag} {sp : World → Sp} {x : Str}
    (hn : l.most = some n) (hn2 : n ≤ sizeLine) (hdf : d.params.defaults = []) (hr : Room k callerA) (hY : ∀ (w : World) (h : Heap), YP w h → (K w.params).In h)
    (F : ∀ (w : World) (mg : Str → Option Value) (fa : Addr) (h : Heap), (K w.params).In h → h.Ns mainGlobals mg → mg d.name = some (.ref fa) →
      ∃ fd : FuncData, (∀ (s : Shared) (u : Value), BindsTo s fd ⟨[u], []⟩ [(x, u)]) ∧ ∀ base : Heap, (K w.params).In base → base.Ns mainGlobals mg → FnG l.prog w (K w.params) mg base k fa fd [x] (sp w))
    (hsp : ∀ (w : World) (H : Hp) (a : Addr) (ns : List Int), ns.length ≤ n → SqL (K w.params) H a (ns.map V.int) → sp w [.ref a] H (fun v _ => v = .bl true) fun _ _ _ => False) :
    PySem.W.WalkO q loose XP YP l.row.toRowW d [] (fun f vs => PySem.call f vs) := by
  refine Att.attach_call hn hdf ?_
  intro w s₀ s mg mb fa o pm cd doc a vs ns G Y ho hd hcd hmg hobj hints hlen hg
  have KX := hY w _ Y
  obtain ⟨fd, hb, hF⟩ := F w mg fa _ KX G.T.g hmg
  have rv := vals_ints hints
  have sz : ns.length ≤ sizeLine := Nat.le_trans hlen hn2
  have go := fun (H : Hp) => lone_call (H := H) (ns := ns) KX G.T.g G.T.b G.T.builtins G.T.nolimit hg hobj hr hF hb
  by_cases hk : (K w.params).lookup a = none
  · refine go (fun b => if b = a then some (.frz (scriptObj vs) (.lst (ns.map V.int))) else none) ⟨fun b n => if_neg n, .inr (if_pos rfl)⟩ ?_ (fun _ => hk) (hsp w _ a ns hlen (.inl (.inr ⟨scriptObj vs, if_pos rfl⟩)))
    intro b u z
    by_cases n : b = a
    · subst n
      cases (if_pos rfl).symm.trans z
      exact ⟨hobj, by rw [List.length_map]; exact sz, vs, _, rv, hobj⟩
    · cases (if_neg n).symm.trans z
  · obtain ⟨o', hk⟩ := Option.ne_none_iff_exists'.mp hk
    have e := KX a o' hk
    rw [hobj] at e
    cases e
    refine go (fun _ => none) ⟨fun _ _ => rfl, .inl rfl⟩ (fun b u z => nomatch z) (fun z => (z rfl).elim) (hsp w _ a ns hlen ?_)
    exact .inr ⟨_, vs.toArray, _, hk, rfl, rfl, rfl, by rw [List.size_toArray, hints.length]; exact sz, by simpa using rv⟩
end Kin

namespace Kin
open PySem PySem.Spec PyProof.Rows L2 Dl
open Evl (Ex sz_of sz_lt)
def litB (K : PySem.W.Frag) (a : Addr) : Bool := match K.lookup a with
  | some o => decide (o.cls = .type "tuple") && decide (o.dict = none)
  | none => false
theorem lit_ok {K : PySem.W.Frag} {a : Addr} (h : litB K a = true) : ∃ o, K.lookup a = some o ∧ o.cls = .type "tuple" ∧ o.dict = none := by
  unfold litB at h
  cases e : K.lookup a with
  | none => rw [e] at h; cases h
  | some o =>
    rw [e] at h
    have h : (decide (o.cls = .type "tuple") && decide (o.dict = none)) = true := h
    rw [Bool.and_eq_true] at h
    exact ⟨o, rfl, of_decide_eq_true h.1, of_decide_eq_true h.2⟩
/-- all that is asked of the written part, as one answer -/
def topB (K : PySem.W.Frag) (C aL aS aU aN : Addr) : Bool := ktB K && (errcB K C && (litB K aL && (wrB K aL [.str "a", .str "b"] && (wrB K aS [.str "+", .str "-", .str "=", .str "*"] && (wrB K aU [.str "get", .str "put", .str "both"] && (wrB K aN [.int 0, .int 1, .int 2, .int 3, .int 4, .int 5, .int 6, .int 7, .int 8, .int 9]))))))
theorem all_mk {l : PySem.W.OpenLaw} {w : World} {K : PySem.W.Frag} {h : Heap} {mg : Str → Option Value} {fa C aL aS aU aN : Addr} {f0 f1 f2 f3 f4 f5 f6 f7 f8 f9 f10 f11 f12 f13 f14 f15 f16 f17 f18 f19 f20 f21 f22 f23 f24 f25 f26 f27 f28 f29 f30 f31 : Addr} (X : K.In h) (Gm : h.Ns mainGlobals mg) (hfa : mg "law" = some (.ref fa))
    {od0 an0 od1 an1 od2 an2 od3 an3 od4 an4 od5 an5 od6 an6 od7 an7 od8 an8 od9 an9 od10 an10 od11 an11 od12 an12 od13 an13 od14 an14 od15 an15 od16 an16 od17 an17 od18 an18 od19 an19 od20 an20 od21 an21 od22 an22 od23 an23 od24 an24 od25 an25 od26 an26 od27 an27 od28 an28 od29 an29 od30 an30 od31 an31 : Option Addr} {sl0 sl1 sl2 sl3 sl4 sl5 sl6 sl7 sl8 sl9 sl10 sl11 sl12 sl13 sl14 sl15 sl16 sl17 sl18 sl19 sl20 sl21 sl22 sl23 sl24 sl25 sl26 sl27 sl28 sl29 sl30 sl31 : Array (Option Value)} {oc0 kV0 dc0 pm0 cd0 ct0 oc1 kV1 dc1 pm1 cd1 ct1 oc2 kV2 dc2 pm2 cd2 ct2 oc3 kV3 dc3 pm3 cd3 ct3 oc4 kV4 dc4 pm4 cd4 ct4 oc5 kV5 dc5 pm5 cd5 ct5 oc6 kV6 dc6 pm6 cd6 ct6 oc7 kV7 dc7 pm7 cd7 ct7 oc8 kV8 dc8 pm8 cd8 ct8 oc9 kV9 dc9 pm9 cd9 ct9 oc10 kV10 dc10 pm10 cd10 ct10 oc11 kV11 dc11 pm11 cd11 ct11 oc12 kV12 dc12 pm12 cd12 ct12 oc13 kV13 dc13 pm13 cd13 ct13 oc14 kV14 dc14 pm14 cd14 ct14 oc15 kV15 dc15 pm15 cd15 ct15 oc16 kV16 dc16 pm16 cd16 ct16 oc17 kV17 dc17 pm17 cd17 ct17 oc18 kV18 dc18 pm18 cd18 ct18 oc19 kV19 dc19 pm19 cd19 ct19 oc20 kV20 dc20 pm20 cd20 ct20 oc21 kV21 dc21 pm21 cd21 ct21 oc22 kV22 dc22 pm22 cd22 ct22 oc23 kV23 dc23 pm23 cd23 ct23 oc24 kV24 dc24 pm24 cd24 ct24 oc25 kV25 dc25 pm25 cd25 ct25 oc26 kV26 dc26 pm26 cd26 ct26 oc27 kV27 dc27 pm27 cd27 ct27 oc28 kV28 dc28 pm28 cd28 ct28 oc29 kV29 dc29 pm29 cd29 ct29 oc30 kV30 dc30 pm30 cd30 ct30 oc31 kV31 dc31 pm31 cd31 ct31 : Value} {t_MOST_CLASSES t_MOST_SIGNS t_MOST_SUPERS t_MOST_MEMBERS t_DEPTH_WITHIN t_PARTS_WITHIN t_MOST_ENTRIES t_TOO_MANY : Tok}
    (aCt : PySem.W.nsIn K mainGlobals "InvalidTable" = some (some (.ref C)))
    (aLETTERS : PySem.W.nsIn K mainGlobals "LETTERS" = some (some (.ref aL)))
    (aSIGNS : PySem.W.nsIn K mainGlobals "SIGNS" = some (some (.ref aS)))
    (aUSES : PySem.W.nsIn K mainGlobals "USES" = some (some (.ref aU)))
    (aNAMES : PySem.W.nsIn K mainGlobals "NAMES" = some (some (.ref aN)))
    (aMOST_CLASSES : PySem.W.nsIn K mainGlobals "MOST_CLASSES" = some (some (.int 5 t_MOST_CLASSES)))
    (aMOST_SIGNS : PySem.W.nsIn K mainGlobals "MOST_SIGNS" = some (some (.int 2 t_MOST_SIGNS)))
    (aMOST_SUPERS : PySem.W.nsIn K mainGlobals "MOST_SUPERS" = some (some (.int 2 t_MOST_SUPERS)))
    (aMOST_MEMBERS : PySem.W.nsIn K mainGlobals "MOST_MEMBERS" = some (some (.int 3 t_MOST_MEMBERS)))
    (aDEPTH_WITHIN : PySem.W.nsIn K mainGlobals "DEPTH_WITHIN" = some (some (.int 3 t_DEPTH_WITHIN)))
    (aPARTS_WITHIN : PySem.W.nsIn K mainGlobals "PARTS_WITHIN" = some (some (.int 5 t_PARTS_WITHIN)))
    (aMOST_ENTRIES : PySem.W.nsIn K mainGlobals "MOST_ENTRIES" = some (some (.int 3 t_MOST_ENTRIES)))
    (aTOO_MANY : PySem.W.nsIn K mainGlobals "TOO_MANY" = some (some (.int 99 t_TOO_MANY)))
    (a0 : PySem.W.nsIn K mainGlobals "is_variable" = some (some (.ref f0)))
    (l0 : K.lookup f0 = some ⟨oc0, od0, .func (PySem.W.fnOf "is_variable" "is_variable" (defArgs s_is_variable) (defBody s_is_variable) (defScope s_is_variable) .none kV0 dc0 pm0 an0 cd0 ct0), sl0⟩)
    (c0 : PySem.W.codeIn K cd0 "is_variable" = true)
    (k0 : PySem.W.keepIn K (.ref f0) = true)
    (a1 : PySem.W.nsIn K mainGlobals "heads_of" = some (some (.ref f1)))
    (l1 : K.lookup f1 = some ⟨oc1, od1, .func (PySem.W.fnOf "heads_of" "heads_of" (defArgs s_heads_of) (defBody s_heads_of) (defScope s_heads_of) .none kV1 dc1 pm1 an1 cd1 ct1), sl1⟩)
    (c1 : PySem.W.codeIn K cd1 "heads_of" = true)
    (k1 : PySem.W.keepIn K (.ref f1) = true)
    (a2 : PySem.W.nsIn K mainGlobals "parts_within" = some (some (.ref f2)))
    (l2 : K.lookup f2 = some ⟨oc2, od2, .func (PySem.W.fnOf "parts_within" "parts_within" (defArgs s_parts_within) (defBody s_parts_within) (defScope s_parts_within) .none kV2 dc2 pm2 an2 cd2 ct2), sl2⟩)
    (c2 : PySem.W.codeIn K cd2 "parts_within" = true)
    (k2 : PySem.W.keepIn K (.ref f2) = true)
    (a3 : PySem.W.nsIn K mainGlobals "parts_of" = some (some (.ref f3)))
    (l3 : K.lookup f3 = some ⟨oc3, od3, .func (PySem.W.fnOf "parts_of" "parts_of" (defArgs s_parts_of) (defBody s_parts_of) (defScope s_parts_of) .none kV3 dc3 pm3 an3 cd3 ct3), sl3⟩)
    (c3 : PySem.W.codeIn K cd3 "parts_of" = true)
    (k3 : PySem.W.keepIn K (.ref f3) = true)
    (a4 : PySem.W.nsIn K mainGlobals "variables_in" = some (some (.ref f4)))
    (l4 : K.lookup f4 = some ⟨oc4, od4, .func (PySem.W.fnOf "variables_in" "variables_in" (defArgs s_variables_in) (defBody s_variables_in) (defScope s_variables_in) .none kV4 dc4 pm4 an4 cd4 ct4), sl4⟩)
    (c4 : PySem.W.codeIn K cd4 "variables_in" = true)
    (k4 : PySem.W.keepIn K (.ref f4) = true)
    (a5 : PySem.W.nsIn K mainGlobals "are_signs" = some (some (.ref f5)))
    (l5 : K.lookup f5 = some ⟨oc5, od5, .func (PySem.W.fnOf "are_signs" "are_signs" (defArgs s_are_signs) (defBody s_are_signs) (defScope s_are_signs) .none kV5 dc5 pm5 an5 cd5 ct5), sl5⟩)
    (c5 : PySem.W.codeIn K cd5 "are_signs" = true)
    (k5 : PySem.W.keepIn K (.ref f5) = true)
    (a6 : PySem.W.nsIn K mainGlobals "is_frame" = some (some (.ref f6)))
    (l6 : K.lookup f6 = some ⟨oc6, od6, .func (PySem.W.fnOf "is_frame" "is_frame" (defArgs s_is_frame) (defBody s_is_frame) (defScope s_is_frame) .none kV6 dc6 pm6 an6 cd6 ct6), sl6⟩)
    (c6 : PySem.W.codeIn K cd6 "is_frame" = true)
    (k6 : PySem.W.keepIn K (.ref f6) = true)
    (a7 : PySem.W.nsIn K mainGlobals "is_super" = some (some (.ref f7)))
    (l7 : K.lookup f7 = some ⟨oc7, od7, .func (PySem.W.fnOf "is_super" "is_super" (defArgs s_is_super) (defBody s_is_super) (defScope s_is_super) .none kV7 dc7 pm7 an7 cd7 ct7), sl7⟩)
    (c7 : PySem.W.codeIn K cd7 "is_super" = true)
    (k7 : PySem.W.keepIn K (.ref f7) = true)
    (a8 : PySem.W.nsIn K mainGlobals "are_members" = some (some (.ref f8)))
    (l8 : K.lookup f8 = some ⟨oc8, od8, .func (PySem.W.fnOf "are_members" "are_members" (defArgs s_are_members) (defBody s_are_members) (defScope s_are_members) .none kV8 dc8 pm8 an8 cd8 ct8), sl8⟩)
    (c8 : PySem.W.codeIn K cd8 "are_members" = true)
    (k8 : PySem.W.keepIn K (.ref f8) = true)
    (a9 : PySem.W.nsIn K mainGlobals "table_heads" = some (some (.ref f9)))
    (l9 : K.lookup f9 = some ⟨oc9, od9, .func (PySem.W.fnOf "table_heads" "table_heads" (defArgs s_table_heads) (defBody s_table_heads) (defScope s_table_heads) .none kV9 dc9 pm9 an9 cd9 ct9), sl9⟩)
    (c9 : PySem.W.codeIn K cd9 "table_heads" = true)
    (k9 : PySem.W.keepIn K (.ref f9) = true)
    (a10 : PySem.W.nsIn K mainGlobals "check_table" = some (some (.ref f10)))
    (l10 : K.lookup f10 = some ⟨oc10, od10, .func (PySem.W.fnOf "check_table" "check_table" (defArgs s_check_table) (defBody s_check_table) (defScope s_check_table) .none kV10 dc10 pm10 an10 cd10 ct10), sl10⟩)
    (c10 : PySem.W.codeIn K cd10 "check_table" = true)
    (k10 : PySem.W.keepIn K (.ref f10) = true)
    (a11 : PySem.W.nsIn K mainGlobals "steps_within" = some (some (.ref f11)))
    (l11 : K.lookup f11 = some ⟨oc11, od11, .func (PySem.W.fnOf "steps_within" "steps_within" (defArgs s_steps_within) (defBody s_steps_within) (defScope s_steps_within) .none kV11 dc11 pm11 an11 cd11 ct11), sl11⟩)
    (c11 : PySem.W.codeIn K cd11 "steps_within" = true)
    (k11 : PySem.W.keepIn K (.ref f11) = true)
    (a12 : PySem.W.nsIn K mainGlobals "steps_of" = some (some (.ref f12)))
    (l12 : K.lookup f12 = some ⟨oc12, od12, .func (PySem.W.fnOf "steps_of" "steps_of" (defArgs s_steps_of) (defBody s_steps_of) (defScope s_steps_of) .none kV12 dc12 pm12 an12 cd12 ct12), sl12⟩)
    (c12 : PySem.W.codeIn K cd12 "steps_of" = true)
    (k12 : PySem.W.keepIn K (.ref f12) = true)
    (a13 : PySem.W.nsIn K mainGlobals "steps" = some (some (.ref f13)))
    (l13 : K.lookup f13 = some ⟨oc13, od13, .func (PySem.W.fnOf "steps" "steps" (defArgs s_steps) (defBody s_steps) (defScope s_steps) .none kV13 dc13 pm13 an13 cd13 ct13), sl13⟩)
    (c13 : PySem.W.codeIn K cd13 "steps" = true)
    (k13 : PySem.W.keepIn K (.ref f13) = true)
    (a14 : PySem.W.nsIn K mainGlobals "_law_spread" = some (some (.ref f14)))
    (l14 : K.lookup f14 = some ⟨oc14, od14, .func (PySem.W.fnOf "_law_spread" "_law_spread" (defArgs s_spread) (defBody s_spread) (defScope s_spread) .none kV14 dc14 pm14 an14 cd14 ct14), sl14⟩)
    (c14 : PySem.W.codeIn K cd14 "_law_spread" = true)
    (k14 : PySem.W.keepIn K (.ref f14) = true)
    (a15 : PySem.W.nsIn K mainGlobals "_law_open" = some (some (.ref f15)))
    (l15 : K.lookup f15 = some ⟨oc15, od15, .func (PySem.W.fnOf "_law_open" "_law_open" (defArgs s_open) (defBody s_open) (defScope s_open) .none kV15 dc15 pm15 an15 cd15 ct15), sl15⟩)
    (c15 : PySem.W.codeIn K cd15 "_law_open" = true)
    (k15 : PySem.W.keepIn K (.ref f15) = true)
    (a16 : PySem.W.nsIn K mainGlobals "_law_take" = some (some (.ref f16)))
    (l16 : K.lookup f16 = some ⟨oc16, od16, .func (PySem.W.fnOf "_law_take" "_law_take" (defArgs s_take) (defBody s_take) (defScope s_take) .none kV16 dc16 pm16 an16 cd16 ct16), sl16⟩)
    (c16 : PySem.W.codeIn K cd16 "_law_take" = true)
    (k16 : PySem.W.keepIn K (.ref f16) = true)
    (a17 : PySem.W.nsIn K mainGlobals "_law_anew" = some (some (.ref f17)))
    (l17 : K.lookup f17 = some ⟨oc17, od17, .func (PySem.W.fnOf "_law_anew" "_law_anew" (defArgs s_anew) (defBody s_anew) (defScope s_anew) .none kV17 dc17 pm17 an17 cd17 ct17), sl17⟩)
    (c17 : PySem.W.codeIn K cd17 "_law_anew" = true)
    (k17 : PySem.W.keepIn K (.ref f17) = true)
    (a18 : PySem.W.nsIn K mainGlobals "_law_one" = some (some (.ref f18)))
    (l18 : K.lookup f18 = some ⟨oc18, od18, .func (PySem.W.fnOf "_law_one" "_law_one" (defArgs s_one) (defBody s_one) (defScope s_one) .none kV18 dc18 pm18 an18 cd18 ct18), sl18⟩)
    (c18 : PySem.W.codeIn K cd18 "_law_one" = true)
    (k18 : PySem.W.keepIn K (.ref f18) = true)
    (a19 : PySem.W.nsIn K mainGlobals "_law_vars" = some (some (.ref f19)))
    (l19 : K.lookup f19 = some ⟨oc19, od19, .func (PySem.W.fnOf "_law_vars" "_law_vars" (defArgs s_vars) (defBody s_vars) (defScope s_vars) .none kV19 dc19 pm19 an19 cd19 ct19), sl19⟩)
    (c19 : PySem.W.codeIn K cd19 "_law_vars" = true)
    (k19 : PySem.W.keepIn K (.ref f19) = true)
    (a20 : PySem.W.nsIn K mainGlobals "_law_places" = some (some (.ref f20)))
    (l20 : K.lookup f20 = some ⟨oc20, od20, .func (PySem.W.fnOf "_law_places" "_law_places" (defArgs s_places) (defBody s_places) (defScope s_places) .none kV20 dc20 pm20 an20 cd20 ct20), sl20⟩)
    (c20 : PySem.W.codeIn K cd20 "_law_places" = true)
    (k20 : PySem.W.keepIn K (.ref f20) = true)
    (a21 : PySem.W.nsIn K mainGlobals "_law_leaf" = some (some (.ref f21)))
    (l21 : K.lookup f21 = some ⟨oc21, od21, .func (PySem.W.fnOf "_law_leaf" "_law_leaf" (defArgs s_leaf) (defBody s_leaf) (defScope s_leaf) .none kV21 dc21 pm21 an21 cd21 ct21), sl21⟩)
    (c21 : PySem.W.codeIn K cd21 "_law_leaf" = true)
    (k21 : PySem.W.keepIn K (.ref f21) = true)
    (a22 : PySem.W.nsIn K mainGlobals "_law_argument" = some (some (.ref f22)))
    (l22 : K.lookup f22 = some ⟨oc22, od22, .func (PySem.W.fnOf "_law_argument" "_law_argument" (defArgs s_argument) (defBody s_argument) (defScope s_argument) .none kV22 dc22 pm22 an22 cd22 ct22), sl22⟩)
    (c22 : PySem.W.codeIn K cd22 "_law_argument" = true)
    (k22 : PySem.W.keepIn K (.ref f22) = true)
    (a23 : PySem.W.nsIn K mainGlobals "_law_member" = some (some (.ref f23)))
    (l23 : K.lookup f23 = some ⟨oc23, od23, .func (PySem.W.fnOf "_law_member" "_law_member" (defArgs s_member) (defBody s_member) (defScope s_member) .none kV23 dc23 pm23 an23 cd23 ct23), sl23⟩)
    (c23 : PySem.W.codeIn K cd23 "_law_member" = true)
    (k23 : PySem.W.keepIn K (.ref f23) = true)
    (a24 : PySem.W.nsIn K mainGlobals "_law_super" = some (some (.ref f24)))
    (l24 : K.lookup f24 = some ⟨oc24, od24, .func (PySem.W.fnOf "_law_super" "_law_super" (defArgs s_super) (defBody s_super) (defScope s_super) .none kV24 dc24 pm24 an24 cd24 ct24), sl24⟩)
    (c24 : PySem.W.codeIn K cd24 "_law_super" = true)
    (k24 : PySem.W.keepIn K (.ref f24) = true)
    (a25 : PySem.W.nsIn K mainGlobals "_law_wild" = some (some (.ref f25)))
    (l25 : K.lookup f25 = some ⟨oc25, od25, .func (PySem.W.fnOf "_law_wild" "_law_wild" (defArgs s_wild) (defBody s_wild) (defScope s_wild) .none kV25 dc25 pm25 an25 cd25 ct25), sl25⟩)
    (c25 : PySem.W.codeIn K cd25 "_law_wild" = true)
    (k25 : PySem.W.keepIn K (.ref f25) = true)
    (a26 : PySem.W.nsIn K mainGlobals "_law_moved" = some (some (.ref f26)))
    (l26 : K.lookup f26 = some ⟨oc26, od26, .func (PySem.W.fnOf "_law_moved" "_law_moved" (defArgs s_moved) (defBody s_moved) (defScope s_moved) .none kV26 dc26 pm26 an26 cd26 ct26), sl26⟩)
    (c26 : PySem.W.codeIn K cd26 "_law_moved" = true)
    (k26 : PySem.W.keepIn K (.ref f26) = true)
    (a27 : PySem.W.nsIn K mainGlobals "_law_turned" = some (some (.ref f27)))
    (l27 : K.lookup f27 = some ⟨oc27, od27, .func (PySem.W.fnOf "_law_turned" "_law_turned" (defArgs s_turned) (defBody s_turned) (defScope s_turned) .none kV27 dc27 pm27 an27 cd27 ct27), sl27⟩)
    (c27 : PySem.W.codeIn K cd27 "_law_turned" = true)
    (k27 : PySem.W.keepIn K (.ref f27) = true)
    (a28 : PySem.W.nsIn K mainGlobals "_law_bad_table" = some (some (.ref f28)))
    (l28 : K.lookup f28 = some ⟨oc28, od28, .func (PySem.W.fnOf "_law_bad_table" "_law_bad_table" (defArgs s_bad_table) (defBody s_bad_table) (defScope s_bad_table) .none kV28 dc28 pm28 an28 cd28 ct28), sl28⟩)
    (c28 : PySem.W.codeIn K cd28 "_law_bad_table" = true)
    (k28 : PySem.W.keepIn K (.ref f28) = true)
    (a29 : PySem.W.nsIn K mainGlobals "_law_steps" = some (some (.ref f29)))
    (l29 : K.lookup f29 = some ⟨oc29, od29, .func (PySem.W.fnOf "_law_steps" "_law_steps" (defArgs s_law_steps) (defBody s_law_steps) (defScope s_law_steps) .none kV29 dc29 pm29 an29 cd29 ct29), sl29⟩)
    (c29 : PySem.W.codeIn K cd29 "_law_steps" = true)
    (k29 : PySem.W.keepIn K (.ref f29) = true)
    (a30 : PySem.W.nsIn K mainGlobals "_law_told" = some (some (.ref f30)))
    (l30 : K.lookup f30 = some ⟨oc30, od30, .func (PySem.W.fnOf "_law_told" "_law_told" (defArgs s_told) (defBody s_told) (defScope s_told) .none kV30 dc30 pm30 an30 cd30 ct30), sl30⟩)
    (c30 : PySem.W.codeIn K cd30 "_law_told" = true)
    (k30 : PySem.W.keepIn K (.ref f30) = true)
    (a31 : PySem.W.nsIn K mainGlobals "law" = some (some (.ref f31)))
    (l31 : K.lookup f31 = some ⟨oc31, od31, .func (PySem.W.fnOf "law" "law" (defArgs s_law) (defBody s_law) (defScope s_law) .none kV31 dc31 pm31 an31 cd31 ct31), sl31⟩)
    (c31 : PySem.W.codeIn K cd31 "law" = true)
    (k31 : PySem.W.keepIn K (.ref f31) = true)
    (z_int : PySem.W.nsIn K mainGlobals "int" = some none)
    (z_list : PySem.W.nsIn K mainGlobals "list" = some none)
    (z_len : PySem.W.nsIn K mainGlobals "len" = some none)
    (z_enumerate : PySem.W.nsIn K mainGlobals "enumerate" = some none)
    (z_isinstance : PySem.W.nsIn K mainGlobals "isinstance" = some none)
    (z_tuple : PySem.W.nsIn K mainGlobals "tuple" = some none)
    (z_range : PySem.W.nsIn K mainGlobals "range" = some none)
    (z_bool : PySem.W.nsIn K mainGlobals "bool" = some none)
    (z_min : PySem.W.nsIn K mainGlobals "min" = some none)
    (z_max : PySem.W.nsIn K mainGlobals "max" = some none)
    (z_all : PySem.W.nsIn K mainGlobals "all" = some none)
    (z_sorted : PySem.W.nsIn K mainGlobals "sorted" = some none)
    (z_set : PySem.W.nsIn K mainGlobals "set" = some none)
    (z_repr : PySem.W.nsIn K mainGlobals "repr" = some none)
    (z_str : PySem.W.nsIn K mainGlobals "str" = some none)
    (hB : topB K C aL aS aU aN = true)
    : ∃ fd : FuncData, (∀ (s : Shared) (v : Value), BindsTo s fd ⟨[v], []⟩ [("_law_script", v)]) ∧ ∀ base : Heap, K.In base → base.Ns mainGlobals mg → FnG l.prog w K mg base 11 fa fd ["_law_script"] (spLaw K) := by
  have e := hfa.symm.trans (PySem.W.mg_of X Gm a31)
  cases e
  unfold topB at hB
  simp only [Bool.and_eq_true] at hB
  obtain ⟨hK, hC, hLt, hL, hS, hU, hN⟩ := hB
  have hK := kt_ok hK
  have XC : ErrC K mg "InvalidTable" C := errc_ok (PySem.W.mg_of X Gm aCt) hC
  have lit := lit_ok hLt
  have tB : TB mg := ⟨PySem.W.mg_none_of X Gm z_int, PySem.W.mg_none_of X Gm z_list, PySem.W.mg_none_of X Gm z_len, PySem.W.mg_none_of X Gm z_enumerate⟩
  have tD : TD mg := ⟨PySem.W.mg_none_of X Gm z_isinstance, PySem.W.mg_none_of X Gm z_tuple, PySem.W.mg_none_of X Gm z_list, PySem.W.mg_none_of X Gm z_len, PySem.W.mg_none_of X Gm z_range⟩
  have tE : TE2 mg := ⟨PySem.W.mg_none_of X Gm z_min, PySem.W.mg_none_of X Gm z_max⟩
  have tP : TP mg := { toTD := tD, m_bool := PySem.W.mg_none_of X Gm z_bool, m_enumerate := PySem.W.mg_none_of X Gm z_enumerate }
  have tQ : TQ mg := { toTP := tP, m_all := PySem.W.mg_none_of X Gm z_all, m_sorted := PySem.W.mg_none_of X Gm z_sorted, m_set := PySem.W.mg_none_of X Gm z_set, m_repr := PySem.W.mg_none_of X Gm z_repr, m_min := PySem.W.mg_none_of X Gm z_min, m_max := PySem.W.mg_none_of X Gm z_max }
  have tI : TS mg := { toTQ := tQ, m_int := PySem.W.mg_none_of X Gm z_int, m_str := PySem.W.mg_none_of X Gm z_str }
  have Gb : Gbl K mg aL aS aU aN := { g_LETTERS := PySem.W.mg_of X Gm aLETTERS, d_LETTERS := wr_ok hL, g_SIGNS := PySem.W.mg_of X Gm aSIGNS, d_SIGNS := wr_ok hS, g_USES := PySem.W.mg_of X Gm aUSES, d_USES := wr_ok hU, g_NAMES := PySem.W.mg_of X Gm aNAMES, d_NAMES := wr_ok hN, g_MOST_CLASSES := ⟨_, PySem.W.mg_of X Gm aMOST_CLASSES⟩, g_MOST_SIGNS := ⟨_, PySem.W.mg_of X Gm aMOST_SIGNS⟩, g_MOST_SUPERS := ⟨_, PySem.W.mg_of X Gm aMOST_SUPERS⟩, g_MOST_MEMBERS := ⟨_, PySem.W.mg_of X Gm aMOST_MEMBERS⟩, g_DEPTH_WITHIN := ⟨_, PySem.W.mg_of X Gm aDEPTH_WITHIN⟩, g_PARTS_WITHIN := ⟨_, PySem.W.mg_of X Gm aPARTS_WITHIN⟩, g_MOST_ENTRIES := ⟨_, PySem.W.mg_of X Gm aMOST_ENTRIES⟩, g_TOO_MANY := ⟨_, PySem.W.mg_of X Gm aTOO_MANY⟩ }
  have F0 := fun_mk (st := s_is_variable) l0 c0 k0
  have b0 := F0.binds (ps := ["value"]) fun _ _ _ _ _ _ us hl => match us, hl with | [_], _ => rfl
  obtain ⟨v0, V0⟩ := Dl.Fun.v F0
  have F1 := fun_mk (st := s_heads_of) l1 c1 k1
  have b1 := F1.binds (ps := ["table"]) fun _ _ _ _ _ _ us hl => match us, hl with | [_], _ => rfl
  obtain ⟨v1, V1⟩ := Dl.Fun.v F1
  have F2 := fun_mk (st := s_parts_within) l2 c2 k2
  have b2 := F2.binds (ps := ["heads", "value", "room", "leaves"]) fun _ _ _ _ _ _ us hl => match us, hl with | [_, _, _, _], _ => rfl
  obtain ⟨v2, V2⟩ := Dl.Fun.v F2
  have F3 := fun_mk (st := s_parts_of) l3 c3 k3
  have b3 := F3.binds (ps := ["shape"]) fun _ _ _ _ _ _ us hl => match us, hl with | [_], _ => rfl
  obtain ⟨v3, V3⟩ := Dl.Fun.v F3
  have F4 := fun_mk (st := s_variables_in) l4 c4 k4
  have b4 := F4.binds (ps := ["shape"]) fun _ _ _ _ _ _ us hl => match us, hl with | [_], _ => rfl
  obtain ⟨v4, V4⟩ := Dl.Fun.v F4
  have F5 := fun_mk (st := s_are_signs) l5 c5 k5
  have b5 := F5.binds (ps := ["value"]) fun _ _ _ _ _ _ us hl => match us, hl with | [_], _ => rfl
  obtain ⟨v5, V5⟩ := Dl.Fun.v F5
  have F6 := fun_mk (st := s_is_frame) l6 c6 k6
  have b6 := F6.binds (ps := ["value"]) fun _ _ _ _ _ _ us hl => match us, hl with | [_], _ => rfl
  obtain ⟨v6, V6⟩ := Dl.Fun.v F6
  have F7 := fun_mk (st := s_is_super) l7 c7 k7
  have b7 := F7.binds (ps := ["heads", "letters", "value"]) fun _ _ _ _ _ _ us hl => match us, hl with | [_, _, _], _ => rfl
  obtain ⟨v7, V7⟩ := Dl.Fun.v F7
  have F8 := fun_mk (st := s_are_members) l8 c8 k8
  have b8 := F8.binds (ps := ["heads", "letters", "value"]) fun _ _ _ _ _ _ us hl => match us, hl with | [_, _, _], _ => rfl
  obtain ⟨v8, V8⟩ := Dl.Fun.v F8
  have F9 := fun_mk (st := s_table_heads) l9 c9 k9
  have b9 := F9.binds (ps := ["value"]) fun _ _ _ _ _ _ us hl => match us, hl with | [_], _ => rfl
  obtain ⟨v9, V9⟩ := Dl.Fun.v F9
  have F10 := fun_mk (st := s_check_table) l10 c10 k10
  have b10 := F10.binds (ps := ["table"]) fun _ _ _ _ _ _ us hl => match us, hl with | [_], _ => rfl
  obtain ⟨v10, V10⟩ := Dl.Fun.v F10
  have F11 := fun_mk (st := s_steps_within) l11 c11 k11
  have b11 := F11.binds (ps := ["class_number", "part"]) fun _ _ _ _ _ _ us hl => match us, hl with | [_, _], _ => rfl
  obtain ⟨v11, V11⟩ := Dl.Fun.v F11
  have F12 := fun_mk (st := s_steps_of) l12 c12 k12
  have b12 := F12.binds (ps := ["table"]) fun _ _ _ _ _ _ us hl => match us, hl with | [_], _ => rfl
  obtain ⟨v12, V12⟩ := Dl.Fun.v F12
  have F13 := fun_mk (st := s_steps) l13 c13 k13
  have b13 := F13.binds (ps := ["table"]) fun _ _ _ _ _ _ us hl => match us, hl with | [_], _ => rfl
  obtain ⟨v13, V13⟩ := Dl.Fun.v F13
  have F14 := fun_mk (st := s_spread) l14 c14 k14
  have b14 := F14.binds (ps := ["_law_cell", "_law_at"]) fun _ _ _ _ _ _ us hl => match us, hl with | [_, _], _ => rfl
  obtain ⟨v14, V14⟩ := Dl.Fun.v F14
  have F15 := fun_mk (st := s_open) l15 c15 k15
  have b15 := F15.binds (ps := ["_law_script"]) fun _ _ _ _ _ _ us hl => match us, hl with | [_], _ => rfl
  obtain ⟨v15, V15⟩ := Dl.Fun.v F15
  have F16 := fun_mk (st := s_take) l16 c16 k16
  have b16 := F16.binds (ps := ["_law_pen", "_law_many"]) fun _ _ _ _ _ _ us hl => match us, hl with | [_, _], _ => rfl
  obtain ⟨v16, V16⟩ := Dl.Fun.v F16
  have F17 := fun_mk (st := s_anew) l17 c17 k17
  have b17 := F17.binds (ps := ["_law_pen"]) fun _ _ _ _ _ _ us hl => match us, hl with | [_], _ => rfl
  obtain ⟨v17, V17⟩ := Dl.Fun.v F17
  have F18 := fun_mk (st := s_one) l18 c18 k18
  have b18 := F18.binds (ps := ["_law_pen", "_law_some"]) fun _ _ _ _ _ _ us hl => match us, hl with | [_, _], _ => rfl
  obtain ⟨v18, V18⟩ := Dl.Fun.v F18
  have F19 := fun_mk (st := s_vars) l19 c19 k19
  have b19 := F19.binds (ps := ["_law_shape"]) fun _ _ _ _ _ _ us hl => match us, hl with | [_], _ => rfl
  obtain ⟨v19, V19⟩ := Dl.Fun.v F19
  have F20 := fun_mk (st := s_places) l20 c20 k20
  have b20 := F20.binds (ps := ["_law_shape"]) fun _ _ _ _ _ _ us hl => match us, hl with | [_], _ => rfl
  obtain ⟨v20, V20⟩ := Dl.Fun.v F20
  have F21 := fun_mk (st := s_leaf) l21 c21 k21
  have b21 := F21.binds (ps := ["_law_pen", "_law_plain", "_law_free"]) fun _ _ _ _ _ _ us hl => match us, hl with | [_, _, _], _ => rfl
  obtain ⟨v21, V21⟩ := Dl.Fun.v F21
  have F22 := fun_mk (st := s_argument) l22 c22 k22
  have b22 := F22.binds (ps := ["_law_pen", "_law_arities", "_law_free", "_law_room"]) fun _ _ _ _ _ _ us hl => match us, hl with | [_, _, _, _], _ => rfl
  obtain ⟨v22, V22⟩ := Dl.Fun.v F22
  have F23 := fun_mk (st := s_member) l23 c23 k23
  have b23 := F23.binds (ps := ["_law_pen", "_law_arities", "_law_number"]) fun _ _ _ _ _ _ us hl => match us, hl with | [_, _, _], _ => rfl
  obtain ⟨v23, V23⟩ := Dl.Fun.v F23
  have F24 := fun_mk (st := s_super) l24 c24 k24
  have b24 := F24.binds (ps := ["_law_pen", "_law_arities", "_law_number", "_law_room", "_law_top"]) fun _ _ _ _ _ _ us hl => match us, hl with | [_, _, _, _, _], _ => rfl
  obtain ⟨v24, V24⟩ := Dl.Fun.v F24
  have F25 := fun_mk (st := s_wild) l25 c25 k25
  have b25 := F25.binds (ps := ["_law_pen", "_law_many"]) fun _ _ _ _ _ _ us hl => match us, hl with | [_, _], _ => rfl
  obtain ⟨v25, V25⟩ := Dl.Fun.v F25
  have F26 := fun_mk (st := s_moved) l26 c26 k26
  have b26 := F26.binds (ps := ["_law_shape", "_law_ranks"]) fun _ _ _ _ _ _ us hl => match us, hl with | [_, _], _ => rfl
  obtain ⟨v26, V26⟩ := Dl.Fun.v F26
  have F27 := fun_mk (st := s_turned) l27 c27 k27
  have b27 := F27.binds (ps := ["_law_pen", "_law_table"]) fun _ _ _ _ _ _ us hl => match us, hl with | [_, _], _ => rfl
  obtain ⟨v27, V27⟩ := Dl.Fun.v F27
  have F28 := fun_mk (st := s_bad_table) l28 c28 k28
  have b28 := F28.binds (ps := ["_law_pen", "_law_table"]) fun _ _ _ _ _ _ us hl => match us, hl with | [_, _], _ => rfl
  obtain ⟨v28, V28⟩ := Dl.Fun.v F28
  have F29 := fun_mk (st := s_law_steps) l29 c29 k29
  have b29 := F29.binds (ps := ["_law_table"]) fun _ _ _ _ _ _ us hl => match us, hl with | [_], _ => rfl
  obtain ⟨v29, V29⟩ := Dl.Fun.v F29
  have F30 := fun_mk (st := s_told) l30 c30 k30
  have b30 := F30.binds (ps := ["_law_table"]) fun _ _ _ _ _ _ us hl => match us, hl with | [_], _ => rfl
  obtain ⟨v30, V30⟩ := Dl.Fun.v F30
  have F31 := fun_mk (st := s_law) l31 c31 k31
  have b31 := F31.binds (ps := ["_law_script"]) fun _ _ _ _ _ _ us hl => match us, hl with | [_], _ => rfl
  obtain ⟨v31, V31⟩ := Dl.Fun.v F31
  refine ⟨PySem.W.fnOf "law" "law" (defArgs s_law) (defBody s_law) (defScope s_law) .none kV31 dc31 pm31 an31 cd31 ct31, fun s v => .of_eq rfl, fun base _ _ => ?_⟩
  have O14 : FnOk l.prog w K mg base CX0 1 f14 _ _ spSpread := ok_spread F14 tB
  have O15 : FnOk l.prog w K mg base CX0 1 f15 _ _ (spOpen K) := ok_open F15 tB
  have O16 : FnOk l.prog w K mg base CX0 2 f16 _ _ spTake := ok_take F16 tB O14 (PySem.W.mg_of X Gm a14) k14 b14 (by decide)
  have O17 : FnOk l.prog w K mg base CX0 1 f17 _ _ spAnew := ok_anew F17
  have G15 : FnG l.prog w K mg base 1 f15 _ _ (spOpen K) := FnG.of O15
  have G17 : FnG l.prog w K mg base 1 f17 _ _ spAnew := FnG.of O17
  have G16 : FnG l.prog w K mg base 2 f16 _ _ (spD K [] mfTake) := FnG.weak (FnG.of O16) take_D
  have G18 : FnG l.prog w K mg base 3 f18 _ _ (spD K [] mfOne) := ok_one V18 tD (G16.up (by decide)) (PySem.W.mg_of X Gm a16) k16 b16
  have G21 : FnG l.prog w K mg base 4 f21 _ _ (spD K [] mfLeaf) := ok_leaf V21 tD (G16.up (by decide)) (PySem.W.mg_of X Gm a16) k16 b16 (G18.up (by decide)) (PySem.W.mg_of X Gm a18) k18 b18
  have H21 : FnG l.prog w K mg base 4 f21 _ _ (spD K [] mfLeaf2) := FnG.weak G21 (spD_weak leaf2)
  have G22 : FnG l.prog w K mg base 5 f22 _ _ (spD K [] mfArg) := ok_argument V22 tD tE hK (G16.up (by decide)) (PySem.W.mg_of X Gm a16) k16 b16 (G18.up (by decide)) (PySem.W.mg_of X Gm a18) k18 b18 (H21) (PySem.W.mg_of X Gm a21) k21 b21
  have G23 : FnG l.prog w K mg base 6 f23 _ _ (spD K [] mfMember) := ok_member V23 tD hK (G16.up (by decide)) (PySem.W.mg_of X Gm a16) k16 b16 (G18.up (by decide)) (PySem.W.mg_of X Gm a18) k18 b18 (G22.up (by decide)) (PySem.W.mg_of X Gm a22) k22 b22
  have G24 : FnG l.prog w K mg base 6 f24 _ _ (spD K [] mfSuper) := ok_super V24 tD tE hK (G16.up (by decide)) (PySem.W.mg_of X Gm a16) k16 b16 (G22.up (by decide)) (PySem.W.mg_of X Gm a22) k22 b22
  have G26 : FnG l.prog w K mg base 4 f26 _ _ (spD K [] (mfMoved 4)) := ok_moved V26 tD hK (PySem.W.mg_of X Gm a26) k26 b26 4
  have G27 : FnG l.prog w K mg base 5 f27 _ _ (spD K [] mfTurned) := ok_turned V27 tD (G16.up (by decide)) (PySem.W.mg_of X Gm a16) k16 b16 (G26.up (by decide)) (PySem.W.mg_of X Gm a26) k26 b26
  have G25 : FnG l.prog w K mg base 7 f25 _ _ (spD K [] mfWild) := ok_wild V25 tD tE hK (G16.up (by decide)) (PySem.W.mg_of X Gm a16) k16 b16 (G18.up (by decide)) (PySem.W.mg_of X Gm a18) k18 b18 (G24.up (by decide)) (PySem.W.mg_of X Gm a24) k24 b24 (G23.up (by decide)) (PySem.W.mg_of X Gm a23) k23 b23 (G27.up (by decide)) (PySem.W.mg_of X Gm a27) k27 b27
  have G5 : FnG l.prog w K mg base 1 f5 _ _ (spD K [] mfAreSigns) := ok_are_signs V5 tP hK Gb
  have G6 : FnG l.prog w K mg base 2 f6 _ _ (spD K [] mfIsFrame) := ok_is_frame V6 tP hK Gb (G5.up (by decide)) (PySem.W.mg_of X Gm a5) k5 b5
  have G2 : FnG l.prog w K mg base 4 f2 _ _ (spD K [] (mfParts 3)) := ok_parts_within V2 tP hK Gb (PySem.W.mg_of X Gm a2) k2 b2 3 4 (by decide)
  have H2 : FnG l.prog w K mg base 7 f2 _ _ (spD K [] (mfParts 6)) := ok_parts_within V2 tP hK Gb (PySem.W.mg_of X Gm a2) k2 b2 6 7 (by decide)
  have G7 : FnG l.prog w K mg base 5 f7 _ _ (spD K [] mfIsSuper) := ok_is_super V7 tP hK Gb (G2.up (by decide)) (PySem.W.mg_of X Gm a2) k2 b2
  have G8 : FnG l.prog w K mg base 5 f8 _ _ (spD K [] mfAreMems) := ok_are_members V8 tP hK Gb (G2.up (by decide)) (PySem.W.mg_of X Gm a2) k2 b2
  have G1 : FnG l.prog w K mg base 1 f1 _ _ (spD K [] mfHeads) := ok_heads_of V1 tP
  have G9 : FnG l.prog w K mg base 6 f9 _ _ (spD K [] mfTH) := ok_table_heads V9 tP hK Gb (G6.up (by decide)) (PySem.W.mg_of X Gm a6) k6 b6 (G1.up (by decide)) (PySem.W.mg_of X Gm a1) k1 b1 (G7.up (by decide)) (PySem.W.mg_of X Gm a7) k7 b7 (G8.up (by decide)) (PySem.W.mg_of X Gm a8) k8 b8
  have G10 : FnX l.prog w K mg base 7 f10 _ _ (spX K [] (mfCheck C)) := ok_check_table V10 tP XC (G9.up (by decide)) (PySem.W.mg_of X Gm a9) k9 b9
  have G0 : FnG l.prog w K mg base 1 f0 _ _ (spD K [] mfIsVar) := ok_is_variable V0 tI hK
  have G3 : FnG l.prog w K mg base 5 f3 _ _ (spD K [] (mfPl 4)) := ok_parts_of V3 tI hK G0 (PySem.W.mg_of X Gm a0) k0 b0 (PySem.W.mg_of X Gm a3) k3 b3 4
  have G20 : FnG l.prog w K mg base 4 f20 _ _ (spD K [] (mfPl 4)) := ok_places V20 tI hK (PySem.W.mg_of X Gm a20) k20 b20 4
  have G19 : FnG l.prog w K mg base 4 f19 _ _ (spD K [] (mfVars 4)) := ok_vars V19 tI hK (PySem.W.mg_of X Gm a19) k19 b19 4
  have G4 : FnG l.prog w K mg base 6 f4 _ _ (spD K [] mfVarsIn) := ok_variables_in V4 tI (G3.up (by decide)) (PySem.W.mg_of X Gm a3) k3 b3 (G0.up (by decide)) (PySem.W.mg_of X Gm a0) k0 b0
  have G11 : FnG l.prog w K mg base 7 f11 _ _ (spD K [] mfWithin) := ok_steps_within V11 tI Gb lit (G4.up (by decide)) (PySem.W.mg_of X Gm a4) k4 b4 (G0.up (by decide)) (PySem.W.mg_of X Gm a0) k0 b0
  have G12 : FnG l.prog w K mg base 8 f12 _ _ (spN K [] mfStepsOf) := ok_steps_of V12 tI (G3.up (by decide)) (PySem.W.mg_of X Gm a3) k3 b3 (G11.up (by decide)) (PySem.W.mg_of X Gm a11) k11 b11
  have G13 : FnX l.prog w K mg base 9 f13 _ _ (spXN K [] (mfSteps C)) := ok_steps V13 (G10.up (by decide)) (PySem.W.mg_of X Gm a10) k10 b10 (G12.up (by decide)) (PySem.W.mg_of X Gm a12) k12 b12
  have H13 : FnG l.prog w K mg base 9 f13 _ _ (spN K [] (mfSteps0 C)) := FnG.ofXN G13
  have G29 : FnG l.prog w K mg base 5 f29 _ _ (spD K [] mfLSteps) := ok_law_steps V29 tI hK (G20.up (by decide)) (PySem.W.mg_of X Gm a20) k20 b20 (G19.up (by decide)) (PySem.W.mg_of X Gm a19) k19 b19
  have G28 : FnG l.prog w K mg base 4 f28 _ _ (spD K [] mfBad) := ok_bad_table V28 tD (G18.up (by decide)) (PySem.W.mg_of X Gm a18) k18 b18
  have G30 : FnG l.prog w K mg base 10 f30 _ _ (spD K [] mfTold) := ok_told V30 tI XC (G13.up (by decide)) (PySem.W.mg_of X Gm a13) k13 b13
  exact ok_law V31 tI (G15.up (by decide)) (PySem.W.mg_of X Gm a15) k15 b15 (G17.up (by decide)) (PySem.W.mg_of X Gm a17) k17 b17 (G25.up (by decide)) (PySem.W.mg_of X Gm a25) k25 b25 (G16.up (by decide)) (PySem.W.mg_of X Gm a16) k16 b16 (G28.up (by decide)) (PySem.W.mg_of X Gm a28) k28 b28 (G29.up (by decide)) (PySem.W.mg_of X Gm a29) k29 b29 (G30.up (by decide)) (PySem.W.mg_of X Gm a30) k30 b30 (H13.up (by decide)) (PySem.W.mg_of X Gm a13) k13 b13
end Kin

open PySem PySem.W PyProof.Rows
set_option maxRecDepth 100000 in
set_option maxHeartbeats 0 in
theorem PySem.Challenge.cw_kindsunder_k40_steps_holds : PySem.Challenge.rw_kindsunder_k40_steps.Holds := by
  w_on; o_law; k_head; (case hw => w_witness2)
  k_fill
  refine Kin.walkG (l := PySem.Challenge.rw_kindsunder_k40_steps) (n := 63) (k := 11) (x := "_law_script") (sp := fun w => Kin.spLaw _) rfl (by decide) rfl ⟨rfl, by decide, by decide⟩ (fun w h Y => PySem.W.kIn_of Y) ?F (fun w H a ns _ hS => ⟨a, ns, rfl, hS, fun _ => rfl⟩)
  case F =>
    intro w mg fa h KX G hmg
    refine' Kin.all_mk KX G hmg ?aCt ?aLETTERS ?aSIGNS ?aUSES ?aNAMES ?aMOST_CLASSES ?aMOST_SIGNS ?aMOST_SUPERS ?aMOST_MEMBERS ?aDEPTH_WITHIN ?aPARTS_WITHIN ?aMOST_ENTRIES ?aTOO_MANY ?a0 ?l0 ?c0 ?k0 ?a1 ?l1 ?c1 ?k1 ?a2 ?l2 ?c2 ?k2 ?a3 ?l3 ?c3 ?k3 ?a4 ?l4 ?c4 ?k4 ?a5 ?l5 ?c5 ?k5 ?a6 ?l6 ?c6 ?k6 ?a7 ?l7 ?c7 ?k7 ?a8 ?l8 ?c8 ?k8 ?a9 ?l9 ?c9 ?k9 ?a10 ?l10 ?c10 ?k10 ?a11 ?l11 ?c11 ?k11 ?a12 ?l12 ?c12 ?k12 ?a13 ?l13 ?c13 ?k13 ?a14 ?l14 ?c14 ?k14 ?a15 ?l15 ?c15 ?k15 ?a16 ?l16 ?c16 ?k16 ?a17 ?l17 ?c17 ?k17 ?a18 ?l18 ?c18 ?k18 ?a19 ?l19 ?c19 ?k19 ?a20 ?l20 ?c20 ?k20 ?a21 ?l21 ?c21 ?k21 ?a22 ?l22 ?c22 ?k22 ?a23 ?l23 ?c23 ?k23 ?a24 ?l24 ?c24 ?k24 ?a25 ?l25 ?c25 ?k25 ?a26 ?l26 ?c26 ?k26 ?a27 ?l27 ?c27 ?k27 ?a28 ?l28 ?c28 ?k28 ?a29 ?l29 ?c29 ?k29 ?a30 ?l30 ?c30 ?k30 ?a31 ?l31 ?c31 ?k31 ?z_int ?z_list ?z_len ?z_enumerate ?z_isinstance ?z_tuple ?z_range ?z_bool ?z_min ?z_max ?z_all ?z_sorted ?z_set ?z_repr ?z_str ?hB
    (case aCt => k_is)
    (case aLETTERS => k_is)
    (case aSIGNS => k_is)
    (case aUSES => k_is)
    (case aNAMES => k_is)
    (case aMOST_CLASSES => k_is)
    (case aMOST_SIGNS => k_is)
    (case aMOST_SUPERS => k_is)
    (case aMOST_MEMBERS => k_is)
    (case aDEPTH_WITHIN => k_is)
    (case aPARTS_WITHIN => k_is)
    (case aMOST_ENTRIES => k_is)
    (case aTOO_MANY => k_is)
    (case a0 => k_is)
    (case l0 => k_is)
    (case c0 => k_is)
    (case k0 => k_is)
    (case a1 => k_is)
    (case l1 => k_is)
    (case c1 => k_is)
    (case k1 => k_is)
    (case a2 => k_is)
    (case l2 => k_is)
    (case c2 => k_is)
    (case k2 => k_is)
    (case a3 => k_is)
    (case l3 => k_is)
    (case c3 => k_is)
    (case k3 => k_is)
    (case a4 => k_is)
    (case l4 => k_is)
    (case c4 => k_is)
    (case k4 => k_is)
    (case a5 => k_is)
    (case l5 => k_is)
    (case c5 => k_is)
    (case k5 => k_is)
    (case a6 => k_is)
    (case l6 => k_is)
    (case c6 => k_is)
    (case k6 => k_is)
    (case a7 => k_is)
    (case l7 => k_is)
    (case c7 => k_is)
    (case k7 => k_is)
    (case a8 => k_is)
    (case l8 => k_is)
    (case c8 => k_is)
    (case k8 => k_is)
    (case a9 => k_is)
    (case l9 => k_is)
    (case c9 => k_is)
    (case k9 => k_is)
    (case a10 => k_is)
    (case l10 => k_is)
    (case c10 => k_is)
    (case k10 => k_is)
    (case a11 => k_is)
    (case l11 => k_is)
    (case c11 => k_is)
    (case k11 => k_is)
    (case a12 => k_is)
    (case l12 => k_is)
    (case c12 => k_is)
    (case k12 => k_is)
    (case a13 => k_is)
    (case l13 => k_is)
    (case c13 => k_is)
    (case k13 => k_is)
    (case a14 => k_is)
    (case l14 => k_is)
    (case c14 => k_is)
    (case k14 => k_is)
    (case a15 => k_is)
    (case l15 => k_is)
    (case c15 => k_is)
    (case k15 => k_is)
    (case a16 => k_is)
    (case l16 => k_is)
    (case c16 => k_is)
    (case k16 => k_is)
    (case a17 => k_is)
    (case l17 => k_is)
    (case c17 => k_is)
    (case k17 => k_is)
    (case a18 => k_is)
    (case l18 => k_is)
    (case c18 => k_is)
    (case k18 => k_is)
    (case a19 => k_is)
    (case l19 => k_is)
    (case c19 => k_is)
    (case k19 => k_is)
    (case a20 => k_is)
    (case l20 => k_is)
    (case c20 => k_is)
    (case k20 => k_is)
    (case a21 => k_is)
    (case l21 => k_is)
    (case c21 => k_is)
    (case k21 => k_is)
    (case a22 => k_is)
    (case l22 => k_is)
    (case c22 => k_is)
    (case k22 => k_is)
    (case a23 => k_is)
    (case l23 => k_is)
    (case c23 => k_is)
    (case k23 => k_is)
    (case a24 => k_is)
    (case l24 => k_is)
    (case c24 => k_is)
    (case k24 => k_is)
    (case a25 => k_is)
    (case l25 => k_is)
    (case c25 => k_is)
    (case k25 => k_is)
    (case a26 => k_is)
    (case l26 => k_is)
    (case c26 => k_is)
    (case k26 => k_is)
    (case a27 => k_is)
    (case l27 => k_is)
    (case c27 => k_is)
    (case k27 => k_is)
    (case a28 => k_is)
    (case l28 => k_is)
    (case c28 => k_is)
    (case k28 => k_is)
    (case a29 => k_is)
    (case l29 => k_is)
    (case c29 => k_is)
    (case k29 => k_is)
    (case a30 => k_is)
    (case l30 => k_is)
    (case c30 => k_is)
    (case k30 => k_is)
    (case a31 => k_is)
    (case l31 => k_is)
    (case c31 => k_is)
    (case k31 => k_is)
    (case z_int => k_is)
    (case z_list => k_is)
    (case z_len => k_is)
    (case z_enumerate => k_is)
    (case z_isinstance => k_is)
    (case z_tuple => k_is)
    (case z_range => k_is)
    (case z_bool => k_is)
    (case z_min => k_is)
    (case z_max => k_is)
    (case z_all => k_is)
    (case z_sorted => k_is)
    (case z_set => k_is)
    (case z_repr => k_is)
    (case z_str => k_is)
    (case hB => kernel_rfl)
#print axioms PySem.Challenge.cw_kindsunder_k40_steps_holds
