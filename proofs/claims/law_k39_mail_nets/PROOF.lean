import PyProof.Rows.All
import Wide.All
import OpenK.AllK
import Wide.FinOn
import PyProof.EqAt
import PyProof.EqKinds
import PyProof.TupleCall
import HandS.ForMost
import HandS.Zip
import HandS.IsInst
import HandS.Exc
import HandS.TryMany
import HandS.ExcOwn
import HandS.WordsExc
import HandS.Conv
import KE.GoesMore
import HandS.TupAny
import HandS.TryOnly
import KE.GoesNew
import KE.GoesEnum
import HandS.ExcCtx
import HandS.ForSpec
import HandS.HotCalls
import HandS.Dict
import HandS.Style
import HandS.Deep
import PyProof.Rows.TupDisplay
import KE.DatumOrd
import HandS.SortKw
import HandS.Strs
import HandS.SetFor
import KE.SortData
import HandS.TupLe
import HandS.WideBits
import HandS.SortInts
import HandS.SetKeys
import HandS.More
import HandS.FStr
import HandS.RaiseMore
import HandS.ExcIs
import PySem.Challenge.RW_covernets_k39_mail_nets
set_option Elab.async false
set_option linter.all false
set_option maxRecDepth 100000
set_option maxHeartbeats 2000000
namespace Cv
open PySem PySem.Spec PyProof.Rows L2

/-! ### heaps -/
/-- tuples and locked objects stand -/
structure Tk (H H' : Hp) : Prop where
  tup : ∀ a xs, H a = some (.tup xs) → H' a = some (.tup xs)
  frz : ∀ a o u, H a = some (.frz o u) → H' a = some (.frz o u)
theorem Tk.refl (H : Hp) : Tk H H := ⟨fun _ _ h => h, fun _ _ _ h => h⟩
theorem Tk.trans {H H1 H2 : Hp} (a : Tk H H1) (b : Tk H1 H2) : Tk H H2 := ⟨fun c x h => b.tup c x (a.tup c x h), fun c o u h => b.frz c o u (a.frz c o u h)⟩
theorem Tk.sqT {K : PySem.W.Frag} {H H' : Hp} {a : Addr} {xs : List V} (e : Tk H H') (h : SqT K H a xs) : SqT K H' a xs := by
  rcases h with (h | ⟨o, h⟩) | h
  · exact .inl (.inl (e.tup _ _ h))
  · exact .inl (.inr ⟨o, e.frz _ _ _ h⟩)
  · exact .inr h
theorem Tk.lst {H : Hp} {l : Addr} {xs : List V} {ys : List V} (h : H l = some (.lst xs)) : Tk H (upd H l (.lst ys)) := by
  refine ⟨fun a zs e => ?_, fun a o u e => ?_⟩
  · have : a ≠ l := fun q => by rw [q, h] at e; cases e
    rw [upd_ne this]; exact e
  · have : a ≠ l := fun q => by rw [q, h] at e; cases e
    rw [upd_ne this]; exact e
/-- the list of draws at a -/
def Drw (H : Hp) (a : Addr) : Prop := ∃ ns : List Int, ns.length ≤ 1000 ∧ H a = some (.lst (ns.map V.int))
/-- all stands but the draws -/
structure Ext (d : Option Addr) (H H' : Hp) : Prop where
  keep : ∀ a o, H a = some o → (some a = d → ∀ xs, o ≠ .lst xs) → H' a = some o
  draw : ∀ a, d = some a → Drw H a → Drw H' a
section
variable {d : Option Addr} {H H1 H2 B : Hp} {p a : Addr} {o : HO} {K : PySem.W.Frag}
theorem Ext.refl (H : Hp) : Ext d H H := ⟨fun _ _ h _ => h, fun _ _ h => h⟩
theorem Ext.trans (a : Ext d H H1) (b : Ext d H1 H2) : Ext d H H2 := ⟨fun c x h k => b.keep c x (a.keep c x h k) k, fun c e h => b.draw c e (a.draw c e h)⟩
theorem Ext.tk (e : Ext d H H1) : Tk H H1 := ⟨fun _ _ h => e.keep _ _ h fun _ _ q => (by cases q), fun _ _ _ h => e.keep _ _ h fun _ _ q => (by cases q)⟩
theorem Ext.new (h : H p = none) : Ext d H (upd H p o) := ⟨fun a u e _ => by rw [upd_ne (ne_of_none e h)]; exact e, fun a _ ⟨ns, hl, e⟩ => ⟨ns, hl, by rw [upd_ne (ne_of_none e h)]; exact e⟩⟩
theorem Ext.mut (e : Ext d B H) (h : B p = none) (hd : some p ≠ d) : Ext d B (upd H p o) := ⟨fun a u ea k => by
    rw [upd_ne (ne_of_none ea h)]; exact e.keep a u ea k,
  fun a ed hb => by
    obtain ⟨ns, hl, q⟩ := e.draw a ed hb
    have : a ≠ p := fun z => hd (by rw [ed, z])
    exact ⟨ns, hl, by rw [upd_ne this]; exact q⟩⟩
theorem Ext.at (e : Ext d H H1) (h : H a = some o) (hd : some a ≠ d) : H1 a = some o := e.keep a o h fun z => absurd z hd
theorem Ext.of_same (e : Same H H1) : Ext d H H1 := ⟨fun a o h _ => e a o h, fun a _ ⟨ns, hl, h⟩ => ⟨ns, hl, e _ _ h⟩⟩
theorem Ext.sqL {xs : List V} (e : Ext d H H1) (hd : some a ≠ d) (h : SqL K H a xs) : SqL K H1 a xs := by
  rcases h with (h | ⟨o, h⟩) | h
  · exact .inl (.inl (e.at h hd))
  · exact .inl (.inr ⟨o, e.tk.frz _ _ _ h⟩)
  · exact .inr h
end

/-! ### data -/
inductive D where
  | i (n : Int) | b (k : Bool) | n | s (x : Str) | t (xs : List D)
inductive DR (K : PySem.W.Frag) (H : Hp) : D → V → Prop
  | i (n : Int) : DR K H (.i n) (.int n)
  | b (k : Bool) : DR K H (.b k) (.bl k)
  | n : DR K H .n .non
  | s (x : Str) : DR K H (.s x) (.str x)
  | t {a : Addr} {vs : List V} {ds : List D} (h : SqT K H a vs) (hl : ds.length = vs.length) (hv : ∀ (i : Nat) (e : D) (v : V), ds[i]? = some e → vs[i]? = some v → DR K H e v) : DR K H (.t ds) (.ref a)
theorem DR.tk {K : PySem.W.Frag} {H H' : Hp} {e : D} {v : V} (k : Tk H H') (h : DR K H e v) : DR K H' e v := by
  induction h with
  | i n => exact .i n
  | b n => exact .b n
  | n => exact .n
  | s n => exact .s n
  | t h hl _ ih => exact .t (k.sqT h) hl ih
/-- the items of a list of data -/
def DRl (K : PySem.W.Frag) (H : Hp) (ds : List D) (vs : List V) : Prop := ds.length = vs.length ∧ ∀ (i : Nat) (e : D) (v : V), ds[i]? = some e → vs[i]? = some v → DR K H e v
theorem DRl.tk {K : PySem.W.Frag} {H H' : Hp} {ds : List D} {vs : List V} (k : Tk H H') (h : DRl K H ds vs) : DRl K H' ds vs := ⟨h.1, fun i e v a b => (h.2 i e v a b).tk k⟩
theorem DRl.nil {K : PySem.W.Frag} {H : Hp} : DRl K H [] [] := ⟨rfl, fun i e v a _ => by cases a⟩
theorem DRl.snoc {K : PySem.W.Frag} {H : Hp} {ds : List D} {vs : List V} {e : D} {v : V} (h : DRl K H ds vs) (hv : DR K H e v) : DRl K H (ds ++ [e]) (vs ++ [v]) := by
  refine ⟨by simp [h.1], fun i e' v' a b => ?_⟩
  by_cases hi : i < ds.length
  · rw [List.getElem?_append_left hi] at a
    rw [List.getElem?_append_left (by rw [← h.1]; exact hi)] at b
    exact h.2 i e' v' a b
  · rw [List.getElem?_append_right (by omega)] at a
    rw [List.getElem?_append_right (by rw [← h.1]; omega)] at b
    rw [← h.1] at b
    have : i - ds.length = 0 := by
      cases q : i - ds.length with
      | zero => rfl
      | succ m => rw [q] at a; simp at a
    rw [this] at a b
    cases a; cases b; exact hv
theorem DRl.get {K : PySem.W.Frag} {H : Hp} {ds : List D} {vs : List V} {i : Nat} {e : D} (h : DRl K H ds vs) (a : ds[i]? = some e) : ∃ v, vs[i]? = some v ∧ DR K H e v := by
  have hi : i < ds.length := (List.getElem?_eq_some_iff.mp a).1
  have hv : i < vs.length := by rw [← h.1]; exact hi
  exact ⟨vs[i], List.getElem?_eq_getElem hv, h.2 i e _ a (List.getElem?_eq_getElem hv)⟩
theorem DRl.getV {K : PySem.W.Frag} {H : Hp} {ds : List D} {vs : List V} {i : Nat} {v : V} (h : DRl K H ds vs) (a : vs[i]? = some v) : ∃ e, ds[i]? = some e ∧ DR K H e v := by
  have hv : i < vs.length := (List.getElem?_eq_some_iff.mp a).1
  have hi : i < ds.length := by rw [h.1]; exact hv
  exact ⟨ds[i], List.getElem?_eq_getElem hi, h.2 i _ v (List.getElem?_eq_getElem hi) a⟩
theorem DRl.ints {K : PySem.W.Frag} {H : Hp} : ∀ {ns : List Int} {vs : List V}, DRl K H (ns.map D.i) vs → vs = ns.map V.int
  | [], [], _ => rfl
  | [], _ :: _, h => by have := h.1; simp at this
  | _ :: _, [], h => by have := h.1; simp at this
  | n :: ns, v :: vs, h => by
    have h0 := h.2 0 (.i n) v rfl rfl
    cases h0
    have ih := DRl.ints (ns := ns) (vs := vs) ⟨by have := h.1; simpa using this, fun i e v a b => h.2 (i + 1) e v a b⟩
    rw [ih]; rfl
theorem DRl.of_ints {K : PySem.W.Frag} {H : Hp} (ns : List Int) : DRl K H (ns.map D.i) (ns.map V.int) := by
  refine ⟨by simp, fun i e v a b => ?_⟩
  rw [List.getElem?_map] at a b
  cases q : ns[i]? with
  | none => rw [q] at a; cases a
  | some z => rw [q] at a b; cases a; cases b; exact .i z
theorem DR.tup {K : PySem.W.Frag} {H : Hp} {ds : List D} {v : V} (h : DR K H (.t ds) v) : ∃ a vs, v = .ref a ∧ SqT K H a vs ∧ DRl K H ds vs := by
  cases h with
  | t h hl hv => exact ⟨_, _, rfl, h, hl, hv⟩
theorem DR.of_tup {K : PySem.W.Frag} {H : Hp} {ds : List D} {a : Addr} {vs : List V} (h : SqT K H a vs) (hd : DRl K H ds vs) : DR K H (.t ds) (.ref a) := .t h hd.1 hd.2
/-- a tuple of ints -/
abbrev tI (ns : List Int) : D := .t (ns.map D.i)
theorem DR.tupI {K : PySem.W.Frag} {H : Hp} {ns : List Int} {v : V} (h : DR K H (tI ns) v) : ∃ a, v = .ref a ∧ SqT K H a (ns.map V.int) := by
  obtain ⟨a, vs, e, h1, h2⟩ := h.tup
  have := h2.ints
  subst this
  exact ⟨a, e, h1⟩

/-! ### what a slot holds -/
structure Rp (d : Option Addr) where
  p : V → Hp → Prop
  st : ∀ {v : V} {H H' : Hp}, Ext d H H' → p v H → p v H'
section
variable {d : Option Addr}
def rI (n : Int) : Rp d := ⟨fun v _ => v = .int n, fun _ h => h⟩
def rB (b : Bool) : Rp d := ⟨fun v _ => v = .bl b, fun _ h => h⟩
def rAny : Rp d := ⟨fun _ _ => True, fun _ h => h⟩
def dat (K : PySem.W.Frag) (e : D) : Rp d := ⟨fun v H => DR K H e v, fun e h => h.tk e.tk⟩
def exR {α : Type} (P : α → Prop) (R : α → Rp d) : Rp d := ⟨fun v H => ∃ z, P z ∧ (R z).p v H, fun e ⟨z, hz, h⟩ => ⟨z, hz, (R z).st e h⟩⟩
abbrev iE (P : Int → Prop) : Rp d := exR P rI
abbrev dE (K : PySem.W.Frag) (P : D → Prop) : Rp d := exR P (dat K)
/-- a list of the def's own (or any other that is tracked) at a -/
def own (K : PySem.W.Frag) (a : Addr) (ds : List D) : Rp d := ⟨fun v H => v = .ref a ∧ some a ≠ d ∧ ∃ vs, H a = some (.lst vs) ∧ DRl K H ds vs, fun e ⟨h1, h2, vs, h3, h4⟩ => ⟨h1, h2, vs, e.at h3 h2, h4.tk e.tk⟩⟩
/-- a list of the written part -/
def KL (K : PySem.W.Frag) (a : Addr) (xs : List V) : Prop := ∃ (o : Obj) (its : Array Value) (n : Nat), K.lookup a = some o ∧ o.cls = .type "list" ∧ o.dict = none ∧ o.data = .seq its n ∧ its.size ≤ sizeLine ∧ Vals xs its.toList
/-- a list that is read: tracked (and not the draws), locked, or written -/
def SqX (d : Option Addr) (K : PySem.W.Frag) (H : Hp) (a : Addr) (xs : List V) : Prop := (some a ≠ d ∧ H a = some (.lst xs)) ∨ (∃ o, H a = some (.frz o (.lst xs))) ∨ KL K a xs
theorem SqX.sq {K : PySem.W.Frag} {H : Hp} {a : Addr} {xs : List V} (h : SqX d K H a xs) : SqL K H a xs := by
  rcases h with ⟨_, h⟩ | ⟨o, h⟩ | h
  · exact .inl (.inl h)
  · exact .inl (.inr ⟨o, h⟩)
  · exact .inr h
theorem SqX.ext {K : PySem.W.Frag} {H H' : Hp} {a : Addr} {xs : List V} (h : SqX d K H a xs) (e : Ext d H H') : SqX d K H' a xs := by
  rcases h with ⟨h1, h⟩ | ⟨o, h⟩ | h
  · exact .inl ⟨h1, e.at h h1⟩
  · exact .inr (.inl ⟨o, e.tk.frz _ _ _ h⟩)
  · exact .inr (.inr h)
/-- a list that is only read, at a -/
def lstA (K : PySem.W.Frag) (a : Addr) (ds : List D) : Rp d := ⟨fun v H => v = .ref a ∧ True ∧ ∃ vs, SqX d K H a vs ∧ DRl K H ds vs, fun e ⟨h1, h2, vs, h3, h4⟩ => ⟨h1, h2, vs, h3.ext e, h4.tk e.tk⟩⟩
def lst (K : PySem.W.Frag) (ds : List D) : Rp d := exR (fun _ => True) fun a => lstA K a ds
/-- a new list: not in B -/
def newL (B : Hp) (K : PySem.W.Frag) (ds : List D) : Rp d := exR (fun a => B a = none) fun a => own K a ds
/-- a new list, its items told by P -/
def newE (B : Hp) (K : PySem.W.Frag) (P : List D → Prop) : Rp d := exR (fun ds => P ds) fun ds => newL B K ds
def drw : Rp d := ⟨fun v H => ∃ a, v = .ref a ∧ d = some a, fun _ h => h⟩
theorem own_lstA {K : PySem.W.Frag} {a : Addr} {ds : List D} {v : V} {H : Hp} (h : (own (d := d) K a ds).p v H) : (lstA (d := d) K a ds).p v H := by
  obtain ⟨h1, h2, vs, h3, h4⟩ := h
  exact ⟨h1, trivial, vs, .inl ⟨h2, h3⟩, h4⟩
theorem newL_lst {B : Hp} {K : PySem.W.Frag} {ds : List D} {v : V} {H : Hp} (h : (newL (d := d) B K ds).p v H) : (lst (d := d) K ds).p v H := by
  obtain ⟨a, _, h⟩ := h
  exact ⟨a, trivial, own_lstA h⟩

/-! ### states -/
abbrev Ro (d : Option Addr) := List (Option (Rp d))
def Good (ρ : Ro d) (σ : L2.St) (H : Hp) : Prop := σ.length = ρ.length ∧ ∀ (i : Nat) (R : Rp d), ρ[i]? = some (some R) → ∃ v, σ[i]? = some (some v) ∧ R.p v H
structure St (B : Hp) (ρ : Ro d) (σ : L2.St) (H : Hp) : Prop where
  ext : Ext d B H
  dr : ∀ a, d = some a → Drw H a
  good : Good ρ σ H
theorem Good.mono {ρ : Ro d} {σ : L2.St} {H H' : Hp} (g : Good ρ σ H) (e : Ext d H H') : Good ρ σ H' := ⟨g.1, fun i R h => let ⟨v, a, b⟩ := g.2 i R h; ⟨v, a, R.st e b⟩⟩
theorem St.mono {B : Hp} {ρ : Ro d} {σ : L2.St} {H H' : Hp} (s : St B ρ σ H) (e : Ext d H H') : St B ρ σ H' := ⟨s.ext.trans e, fun a h => e.draw a h (s.dr a h), s.good.mono e⟩
theorem Good.set {ρ : Ro d} {σ : L2.St} {H : Hp} (g : Good ρ σ H) (i : Nat) {v : V} {R : Rp d} (h : R.p v H) : Good (ρ.set i (some R)) (σ.set i (some v)) H := by
  refine ⟨by simp [g.1], fun j R' hj => ?_⟩
  by_cases hij : i = j
  · subst hij
    have hlt : i < ρ.length := by
      have := (List.getElem?_eq_some_iff.mp hj).1
      simpa using this
    rw [List.getElem?_set_self hlt] at hj
    cases hj
    exact ⟨v, List.getElem?_set_self (by rw [g.1]; exact hlt), h⟩
  · rw [List.getElem?_set_ne hij] at hj
    obtain ⟨w, a, b⟩ := g.2 j R' hj
    exact ⟨w, by rw [List.getElem?_set_ne hij]; exact a, b⟩
theorem Good.get {ρ : Ro d} {σ : L2.St} {H : Hp} {i : Nat} {R : Rp d} (g : Good ρ σ H) (h : ρ[i]? = some (some R)) : ∃ v, σ[i]? = some (some v) ∧ R.p v H := g.2 i R h
/-- an address that is new now was not in B, and is not the draws' -/
theorem St.fresh {B : Hp} {ρ : Ro d} {σ : L2.St} {H : Hp} {p : Addr} (s : St B ρ σ H) (h : H p = none) : B p = none ∧ some p ≠ d := by
  have hd : some p ≠ d := fun e => by
    obtain ⟨ns, _, q⟩ := s.dr p e.symm
    rw [h] at q; cases q
  refine ⟨?_, hd⟩
  cases e : B p with
  | none => rfl
  | some o =>
    have := s.ext.at e hd
    rw [h] at this; cases this

/-! ### the judgements -/
variable {X : Cx}
def EX (X : Cx) (B : Hp) (ρ : Ro d) (e : Expr) (R : Rp d) : Prop := PE X e fun σ H Q => St B ρ σ H ∧ ∀ v H', Ext d H H' → R.p v H' → Q v H'
def TX (X : Cx) (B : Hp) (ρ : Ro d) (e : Expr) (P : Bool → Prop) : Prop := PT X e fun σ H Q => St B ρ σ H ∧ ∀ b H', Ext d H H' → P b → Q b H'
def WX (X : Cx) (B : Hp) (ρ : Ro d) (e : Expr) (P : Bool → Prop) : Prop := PW X e fun σ H Q => St B ρ σ H ∧ ∀ b H', Ext d H H' → P b → Q b H'
def RsH : List (Rp d) → List V → Hp → Prop
  | [], [], _ => True
  | R :: Rs, v :: vs, H => R.p v H ∧ RsH Rs vs H
  | _, _, _ => False
theorem RsH.mono : ∀ {Rs : List (Rp d)} {vs : List V} {H H' : Hp}, Ext d H H' → RsH Rs vs H → RsH Rs vs H'
  | [], [], _, _, _, _ => trivial
  | R :: Rs, v :: vs, _, _, e, h => ⟨R.st e h.1, RsH.mono e h.2⟩
  | [], _ :: _, _, _, _, h => h.elim
  | _ :: _, [], _, _, _, h => h.elim
def AX (X : Cx) (B : Hp) (ρ : Ro d) (es : List Expr) (Rs : List (Rp d)) : Prop := PA X es fun σ H Q => St B ρ σ H ∧ ∀ vs H', Ext d H H' → RsH Rs vs H' → Q vs H'
structure Le (H : Hp) (Po E : Ends) : Prop where
  nx : ∀ σ' H', Tk H H' → Po.nx σ' H' → E.nx σ' H'
  rt : ∀ v H', Tk H H' → Po.rt v H' → E.rt v H'
  bk : ∀ σ' H', Tk H H' → Po.bk σ' H' → E.bk σ' H'
  ct : ∀ σ' H', Tk H H' → Po.ct σ' H' → E.ct σ' H'
def SX (X : Cx) (s : Stmt) (Pre : L2.St → Hp → Prop) (Po : Ends) : Prop := PS X s fun E σ H => Pre σ H ∧ Le H Po E
def BX (X : Cx) (s : List Stmt) (Pre : L2.St → Hp → Prop) (Po : Ends) : Prop := PSs X s fun E σ H => Pre σ H ∧ Le H Po E
theorem PE_wk {e : Expr} {t t' : TE} (h : PE X e t) (w : ∀ σ H Q, t' σ H Q → t σ H Q) : PE X e t' := ⟨fun pins s σ H Q I q => h.run pins s σ H Q I (w σ H Q q)⟩
theorem PT_wk {e : Expr} {t t' : TT} (h : PT X e t) (w : ∀ σ H Q, t' σ H Q → t σ H Q) : PT X e t' := ⟨fun pins s σ H Q I q => h.run pins s σ H Q I (w σ H Q q)⟩
theorem PW_wk {e : Expr} {t t' : TT} (h : PW X e t) (w : ∀ σ H Q, t' σ H Q → t σ H Q) : PW X e t' := ⟨fun wh pins s σ H Q I q => h.run wh pins s σ H Q I (w σ H Q q)⟩
theorem PA_wk {e : List Expr} {t t' : TA} (h : PA X e t) (w : ∀ σ H Q, t' σ H Q → t σ H Q) : PA X e t' := ⟨fun pos pins s σ H Q I q => h.run pos pins s σ H Q I (w σ H Q q)⟩
theorem PS_wk {e : Stmt} {t t' : TS} (h : PS X e t) (w : ∀ E σ H, t' E σ H → t E σ H) : PS X e t' := ⟨fun pins s σ H E I q => h.run pins s σ H E I (w E σ H q)⟩
theorem PSs_wk {e : List Stmt} {t t' : TS} (h : PSs X e t) (w : ∀ E σ H, t' E σ H → t E σ H) : PSs X e t' := ⟨fun pins s σ H E I q => h.run pins s σ H E I (w E σ H q)⟩
theorem Le.next {H H1 : Hp} {Po E : Ends} (l : Le H Po E) (k : Tk H H1) : Le H1 Po E := ⟨fun σ' H' a => l.nx σ' H' (k.trans a), fun σ' H' a => l.rt σ' H' (k.trans a), fun σ' H' a => l.bk σ' H' (k.trans a), fun σ' H' a => l.ct σ' H' (k.trans a)⟩

/-! ### expressions -/
variable {B : Hp} {ρ : Ro d} {a b c e : Expr} {es : List Expr} {R R' Ra Rb : Rp d} {Rs : List (Rp d)} {pos : Pos} {m n : Int}
theorem x_sub (h : EX X B ρ e R) (w : ∀ v H, R.p v H → R'.p v H) : EX X B ρ e R' := PE_wk h fun σ H Q ⟨s, q⟩ => ⟨s, fun v H' e1 hv => q v H' e1 (w v H' hv)⟩
theorem x_var (i : Nat) {x : Str} (h : ρ[i]? = some (some R)) (hN : X.N[i]? = some x := by rfl) (hv : Vis X.env.scope x := by first | exact Or.inl rfl | exact Or.inr (Or.inl rfl) | exact Or.inr (Or.inr rfl)) (hd : (x == ("__debug__" : Str)) = false := by decide)
    (hcd : (x == ("__classdict__" : Str)) = false := by decide) : EX X B ρ (.Name x pos) R :=
  PE_wk (pe_var hN hv hd hcd) fun σ H Q ⟨s, q⟩ => by
    obtain ⟨v, h1, h2⟩ := s.good.get h
    exact ⟨v, h1, q v H (Ext.refl H) h2⟩
theorem x_int {j : Nat} : EX X B ρ (.Constant (.int n) j pos) (rI n) := PE_wk pe_int fun σ H Q ⟨s, q⟩ => q _ H (Ext.refl H) rfl
theorem x_bl {k : Bool} {j : Nat} : EX X B ρ (.Constant (.bool k) j pos) (rB k) := PE_wk pe_bl fun σ H Q ⟨s, q⟩ => q _ H (Ext.refl H) rfl
theorem x_non {K : PySem.W.Frag} {j : Nat} : EX X B ρ (.Constant .none j pos) (dat K .n) := PE_wk pe_non fun σ H Q ⟨s, q⟩ => q _ H (Ext.refl H) .n
theorem x_op2 {op : Operator} {r : R2} (ho : OpR X (binaryOp op) r) (ha : EX X B ρ a Ra) (hb : EX X B ρ b Rb) (h : ∀ x y H σ Q, St B ρ σ H → Ra.p x H → Rb.p y H → (∀ v H', Ext d H H' → R.p v H' → Q v H') → r x y H Q) : EX X B ρ (.BinOp a op b pos) R :=
  PE_wk (pe_op ho ha hb) fun σ H Q ⟨s, q⟩ => ⟨s, fun x H1 e1 hx => ⟨s.mono e1, fun y H2 e2 hy => h x y H2 σ Q ((s.mono e1).mono e2) (Ra.st e2 hx) hy fun v H' e' hv => q v H' (e1.trans (e2.trans e')) hv⟩⟩
theorem x_add (ha : EX X B ρ a (rI m)) (hb : EX X B ρ b (rI n)) : EX X B ρ (.BinOp a .Add b pos) (rI (m + n)) := x_op2 op_add ha hb fun x y H σ Q _ hx hy q => ⟨m, n, hx, hy, q _ H (Ext.refl H) rfl⟩
theorem x_sub_ (ha : EX X B ρ a (rI m)) (hb : EX X B ρ b (rI n)) : EX X B ρ (.BinOp a .Sub b pos) (rI (m - n)) := x_op2 op_sub ha hb fun x y H σ Q _ hx hy q => ⟨m, n, hx, hy, q _ H (Ext.refl H) rfl⟩
theorem x_addE {P S : Int → Prop} (ha : EX X B ρ a (iE P)) (hb : EX X B ρ b (iE S)) : EX X B ρ (.BinOp a .Add b pos) (iE fun z => ∃ i j, P i ∧ S j ∧ z = i + j) := x_op2 op_add ha hb fun x y H σ Q _ ⟨i, hi, hx⟩ ⟨j, hj, hy⟩ q => ⟨i, j, hx, hy, q _ H (Ext.refl H) ⟨_, ⟨i, j, hi, hj, rfl⟩, rfl⟩⟩
theorem x_subE {P S : Int → Prop} (ha : EX X B ρ a (iE P)) (hb : EX X B ρ b (iE S)) : EX X B ρ (.BinOp a .Sub b pos) (iE fun z => ∃ i j, P i ∧ S j ∧ z = i - j) := x_op2 op_sub ha hb fun x y H σ Q _ ⟨i, hi, hx⟩ ⟨j, hj, hy⟩ q => ⟨i, j, hx, hy, q _ H (Ext.refl H) ⟨_, ⟨i, j, hi, hj, rfl⟩, rfl⟩⟩
theorem x_mulE {P S : Int → Prop} (ha : EX X B ρ a (iE P)) (hb : EX X B ρ b (iE S)) (hc : ∀ i j, P i → S j → CMul i j) : EX X B ρ (.BinOp a .Mult b pos) (iE fun z => ∃ i j, P i ∧ S j ∧ z = i * j) := x_op2 op_mul ha hb fun x y H σ Q _ ⟨i, hi, hx⟩ ⟨j, hj, hy⟩ q => ⟨i, j, hx, hy, hc i j hi hj, q _ H (Ext.refl H) ⟨_, ⟨i, j, hi, hj, rfl⟩, rfl⟩⟩
theorem x_modE {P S : Int → Prop} (ha : EX X B ρ a (iE P)) (hb : EX X B ρ b (iE S)) (hc : ∀ j, S j → 0 < j) : EX X B ρ (.BinOp a .Mod b pos) (iE fun z => ∃ i j, P i ∧ S j ∧ z = i % j) := x_op2 op_mod ha hb fun x y H σ Q _ ⟨i, hi, hx⟩ ⟨j, hj, hy⟩ q => ⟨i, j, hx, hy, hc j hj, q _ H (Ext.refl H) ⟨_, ⟨i, j, hi, hj, rfl⟩, rfl⟩⟩
theorem x_mod (ha : EX X B ρ a (rI m)) (hb : EX X B ρ b (rI n)) (hc : 0 < n) : EX X B ρ (.BinOp a .Mod b pos) (rI (m % n)) := x_op2 op_mod ha hb fun x y H σ Q _ hx hy q => ⟨m, n, hx, hy, hc, q _ H (Ext.refl H) rfl⟩
theorem x_mul (ha : EX X B ρ a (rI m)) (hb : EX X B ρ b (rI n)) (hc : CMul m n) : EX X B ρ (.BinOp a .Mult b pos) (rI (m * n)) := x_op2 op_mul ha hb fun x y H σ Q _ hx hy q => ⟨m, n, hx, hy, hc, q _ H (Ext.refl H) rfl⟩
theorem x_fdiv (ha : EX X B ρ a (rI m)) (hb : EX X B ρ b (rI n)) (hc : CDiv m n) : EX X B ρ (.BinOp a .FloorDiv b pos) (rI (m / n)) := x_op2 op_fdiv ha hb fun x y H σ Q _ hx hy q => ⟨m, n, hx, hy, hc, q _ H (Ext.refl H) rfl⟩
theorem x_pow (ha : EX X B ρ a (rI m)) (hb : EX X B ρ b (rI n)) (hc : CPow m n) : EX X B ρ (.BinOp a .Pow b pos) (rI (m ^ n.toNat)) := x_op2 op_pow ha hb fun x y H σ Q _ hx hy q => ⟨m, n, hx, hy, hc, q _ H (Ext.refl H) rfl⟩
theorem x_neg (ha : EX X B ρ a (rI m)) : EX X B ρ (.UnaryOp .USub a pos) (rI (-m)) :=
  PE_wk (pe_un un_neg ha) fun σ H Q ⟨s, q⟩ => ⟨s, fun x H1 e1 hx => ⟨m, hx, q _ H1 e1 rfl⟩⟩
theorem x_I (h : EX X B ρ e (rI n)) : EX X B ρ e (iE fun z => z = n) := x_sub h fun v H hv => ⟨n, rfl, hv⟩
theorem x_iE {P S : Int → Prop} (h : EX X B ρ e (iE P)) (w : ∀ z, P z → S z) : EX X B ρ e (iE S) := x_sub h fun v H ⟨z, hz, hv⟩ => ⟨z, w z hz, hv⟩
/-! ### tests and comparisons -/
theorem x_cmp {op : CmpOp} {r : R2} (ho : OpR X (compareOp op) r) (hm : behindInMarks op b = false) (ha : EX X B ρ a Ra) (hb : EX X B ρ b Rb) (h : ∀ x y H σ Q, St B ρ σ H → Ra.p x H → Rb.p y H → (∀ v H', Ext d H H' → R.p v H' → Q v H') → r x y H Q) : EX X B ρ (.Compare a [op] [b] pos) R :=
  PE_wk (pe_cmpR ho ha hb hm) fun σ H Q ⟨s, q⟩ => ⟨s, fun x H1 e1 hx => ⟨s.mono e1, fun y H2 e2 hy => h x y H2 σ Q ((s.mono e1).mono e2) (Ra.st e2 hx) hy fun v H' e' hv => q v H' (e1.trans (e2.trans e')) hv⟩⟩
theorem t_cmp {op : CmpOp} {r : R2} {P : Bool → Prop} (ho : OpR X (compareOp op) r) (hm : behindInMarks op b = false) (ha : EX X B ρ a Ra) (hb : EX X B ρ b Rb) (h : ∀ x y H σ Q, St B ρ σ H → Ra.p x H → Rb.p y H → (∀ k H', Ext d H H' → P k → Q (.bl k) H') → r x y H Q) : TX X B ρ (.Compare a [op] [b] pos) P :=
  PT_wk (pt_cmpR ho ha hb hm) fun σ H Q ⟨s, q⟩ => ⟨s, fun x H1 e1 hx => ⟨s.mono e1, fun y H2 e2 hy => h x y H2 σ _ ((s.mono e1).mono e2) (Ra.st e2 hx) hy fun k H' e' hk => ⟨k, rfl, q k H' (e1.trans (e2.trans e')) hk⟩⟩⟩
abbrev is (k : Bool) : Bool → Prop := fun b => b = k
theorem t_lt (ha : EX X B ρ a (rI m)) (hb : EX X B ρ b (rI n)) : TX X B ρ (.Compare a [.Lt] [b] pos) (is (decide (m < n))) := t_cmp op_lt (nomark _) ha hb fun x y H σ Q _ hx hy q => ⟨m, n, hx, hy, q _ H (Ext.refl H) rfl⟩
theorem t_le (ha : EX X B ρ a (rI m)) (hb : EX X B ρ b (rI n)) : TX X B ρ (.Compare a [.LtE] [b] pos) (is (decide (m ≤ n))) := t_cmp op_le (nomark _) ha hb fun x y H σ Q _ hx hy q => ⟨m, n, hx, hy, q _ H (Ext.refl H) rfl⟩
theorem t_gt (ha : EX X B ρ a (rI m)) (hb : EX X B ρ b (rI n)) : TX X B ρ (.Compare a [.Gt] [b] pos) (is (decide (n < m))) := t_cmp op_gt (nomark _) ha hb fun x y H σ Q _ hx hy q => ⟨m, n, hx, hy, q _ H (Ext.refl H) rfl⟩
theorem t_ge (ha : EX X B ρ a (rI m)) (hb : EX X B ρ b (rI n)) : TX X B ρ (.Compare a [.GtE] [b] pos) (is (decide (n ≤ m))) := t_cmp op_ge (nomark _) ha hb fun x y H σ Q _ hx hy q => ⟨m, n, hx, hy, q _ H (Ext.refl H) rfl⟩
theorem t_eq (ha : EX X B ρ a (rI m)) (hb : EX X B ρ b (rI n)) : TX X B ρ (.Compare a [.Eq] [b] pos) (is (decide (m = n))) := t_cmp op_eq (nomark _) ha hb fun x y H σ Q _ hx hy q => by
  subst hx; subst hy
  exact ⟨rfl, q _ H (Ext.refl H) (by rw [dec_int, Bool.beq_eq_decide_eq])⟩
theorem t_ne (ha : EX X B ρ a (rI m)) (hb : EX X B ρ b (rI n)) : TX X B ρ (.Compare a [.NotEq] [b] pos) (is (!decide (m = n))) := t_cmp op_ne (nomark _) ha hb fun x y H σ Q _ hx hy q => by
  subst hx; subst hy
  exact ⟨rfl, q _ H (Ext.refl H) (by show (!decide (V.int m = V.int n)) = _; rw [dec_int, Bool.beq_eq_decide_eq])⟩
theorem t_val {k : Bool} (h : EX X B ρ e (rB k)) (he : ∀ whole, isTrue e X.env whole = (do let v ← whole; standAt e.pos; holding [v] (truthy v)) := by intro _; rfl) : TX X B ρ e (is k) :=
  PT_wk (pt_val h he) fun σ H Q ⟨s, q⟩ => ⟨s, fun v H' e1 hv => ⟨k, hv, q k H' e1 rfl⟩⟩
theorem t_not {P : Bool → Prop} (h : TX X B ρ e P) : TX X B ρ (.UnaryOp .Not e pos) (fun k => P (!k)) :=
  PT_wk (pt_not h) fun σ H Q ⟨s, q⟩ => ⟨s, fun k H' e1 hk => q (!k) H' e1 (by show P (!!k); rw [Bool.not_not]; exact hk)⟩
theorem t_sub {P S : Bool → Prop} (h : TX X B ρ e P) (w : ∀ k, P k → S k) : TX X B ρ e S := PT_wk h fun σ H Q ⟨s, q⟩ => ⟨s, fun k H' e1 hk => q k H' e1 (w k hk)⟩
theorem w_and1 {P : Bool → Prop} (h : TX X B ρ e P) : WX X B ρ (.BoolOp .And [e] pos) P := pw_and1 h
theorem w_or1 {P : Bool → Prop} (h : TX X B ρ e P) : WX X B ρ (.BoolOp .Or [e] pos) P := pw_or1 h
theorem w_and {P S : Bool → Prop} (h : TX X B ρ a P) (hb : P true → WX X B ρ (.BoolOp .And (b :: es) pos) S) : WX X B ρ (.BoolOp .And (a :: b :: es) pos) (fun k => (P true ∧ S k) ∨ (P false ∧ k = false)) := by
  by_cases hp : P true
  · exact PW_wk (pw_and h (hb hp)) fun σ H Q ⟨s, q⟩ => ⟨s, fun k H' e1 hk => by
      cases k with
      | true => exact iteT ⟨s.mono e1, fun k2 H2 e2 h2 => q k2 H2 (e1.trans e2) (.inl ⟨hp, h2⟩)⟩
      | false => exact iteF (q false H' e1 (.inr ⟨hk, rfl⟩))⟩
  · refine ⟨fun wh pins s σ H Q I ⟨st, q⟩ => ?_⟩
    refine isTrue_and (thn (h.run pins s σ H (fun k H' => k = false ∧ Q k H') I ⟨st, fun k H' e1 hk => ?_⟩) fun k s1 ⟨H1, I1, q1⟩ => ?_)
    · cases k with
      | true => exact absurd hk hp
      | false => exact ⟨rfl, q false H' e1 (.inr ⟨hk, rfl⟩)⟩
    · obtain ⟨rfl, q1⟩ := q1
      exact ⟨H1, I1, q1⟩
theorem w_or {P S : Bool → Prop} (h : TX X B ρ a P) (hb : P false → WX X B ρ (.BoolOp .Or (b :: es) pos) S) : WX X B ρ (.BoolOp .Or (a :: b :: es) pos) (fun k => (P false ∧ S k) ∨ (P true ∧ k = true)) := by
  by_cases hp : P false
  · exact PW_wk (pw_or h (hb hp)) fun σ H Q ⟨s, q⟩ => ⟨s, fun k H' e1 hk => by
      cases k with
      | true => exact iteT (q true H' e1 (.inr ⟨hk, rfl⟩))
      | false => exact iteF ⟨s.mono e1, fun k2 H2 e2 h2 => q k2 H2 (e1.trans e2) (.inl ⟨hp, h2⟩)⟩⟩
  · refine ⟨fun wh pins s σ H Q I ⟨st, q⟩ => ?_⟩
    refine isTrue_or (thn (h.run pins s σ H (fun k H' => k = true ∧ Q k H') I ⟨st, fun k H' e1 hk => ?_⟩) fun k s1 ⟨H1, I1, q1⟩ => ?_)
    · cases k with
      | false => exact absurd hk hp
      | true => exact ⟨rfl, q true H' e1 (.inr ⟨hk, rfl⟩)⟩
    · obtain ⟨rfl, q1⟩ := q1
      exact ⟨H1, I1, q1⟩
theorem t_w {P : Bool → Prop} (h : WX X B ρ e P) : TX X B ρ e P := PW.pt h
end
end Cv

namespace Cv
open PySem PySem.Spec PyProof.Rows L2
section
variable {d : Option Addr} {X : Cx} {B : Hp} {ρ : Ro d} {a b c e : Expr} {es : List Expr} {R R' Ra Rb : Rp d} {Rs : List (Rp d)} {pos : Pos} {m n : Int}
/-! ### arguments, calls -/
theorem a_nil : AX X B ρ [] [] := PA_wk pa_nil fun σ H Q ⟨s, q⟩ => q [] H (Ext.refl H) trivial
theorem a_cons (ha : EX X B ρ e R) (hr : AX X B ρ es Rs) (hs : starEach (e :: es) X.env = (false, eval e X.env) :: starEach es X.env := by rfl) : AX X B ρ (e :: es) (R :: Rs) :=
  PA_wk (pa_cons ha hr hs) fun σ H Q ⟨s, q⟩ => ⟨s, fun v H1 e1 hv => ⟨s.mono e1, fun vs H2 e2 hvs => q (v :: vs) H2 (e1.trans e2) ⟨R.st e2 hv, hvs⟩⟩⟩
/-- a promise: arguments as told by As z, then a result as told by R z (H: the heap at the call) -/
def spP {α : Type} (d : Option Addr) (As : α → List (Rp d)) (R : α → Hp → Rp d) : Sp := fun vs H Q _ => ∃ z : α, RsH (As z) vs H ∧ (∀ a, d = some a → Drw H a) ∧ ∀ v H', Ext d H H' → (R z H).p v H' → Q v H'
theorem x_call {α : Type} {As : α → List (Rp d)} {Rz : α → Hp → Rp d} {x : Str} {p : Pos} {f : Addr} {fd : FuncData} {ps : List Str} {k : Nat} {CX : CXT} {E : XK} (F : FnOk X.prog X.w X.K X.mg X.base CX k f fd ps (spP d As Rz)) (hr : Room k X.A) (hg : Gl X x) (hm : X.mg x = some (.ref f)) (hk : PySem.W.keepIn X.K (.ref f) = true) (hb : Binds X.K fd ps []) (hx : Passes CX X E)
    (z : α) (ha : AX X B ρ (e :: es) (As z)) (hR : ∀ v H H' σ, St B ρ σ H → Ext d H H' → (Rz z H).p v H' → R.p v H')
    (hdb : (x == ("__debug__" : Str)) = false := by decide) (he : starEach (e :: es) X.env = (false, eval e X.env) :: starEach es X.env := by rfl) (hpl : (backTo pos (starEach es X.env)).any (·.1) = false := by rfl) : EX X B ρ (.Call (.Name x p) (e :: es) [] pos) R :=
  PE_wk (pe_call (dvs := []) (E := E) F hr hg hm hk hb .nil hx ha (hdb := hdb) (he := he) (hpl := hpl)) fun σ H Q ⟨s, q⟩ => ⟨s, fun vs H1 e1 hvs => by
    show spP d As Rz (vs ++ []) H1 Q E
    rw [List.append_nil]
    exact ⟨z, hvs, (s.mono e1).dr, fun v H' e2 hv => q v H' (e1.trans e2) (hR v H1 H' σ (s.mono e1) e2 hv)⟩⟩
/-- a built-in by its name -/
theorem x_callB {id : String} {r : List V → Hp → VK → Prop} {x : Str} {p : Pos} (hc : CallR X (.builtin id) r) (hg : Gl X x) (hm : X.mg x = none) (hv : bootBuiltins x = some (.builtin id)) (ha : AX X B ρ (e :: es) Rs)
    (h : ∀ vs H σ Q, St B ρ σ H → RsH Rs vs H → (∀ v H', Ext d H H' → R.p v H' → Q v H') → r vs H Q)
    (hn : x ≠ "__name__" := by decide) (hdb : (x == ("__debug__" : Str)) = false := by decide) (he : starEach (e :: es) X.env = (false, eval e X.env) :: starEach es X.env := by rfl) (hpl : (backTo pos (starEach es X.env)).any (·.1) = false := by rfl) : EX X B ρ (.Call (.Name x p) (e :: es) [] pos) R :=
  PE_wk (pe_callB hc hg hm hv ha hn hdb he hpl) fun σ H Q ⟨s, q⟩ => ⟨s, fun vs H1 e1 hvs => h vs H1 σ Q (s.mono e1) hvs fun v H' e2 hv => q v H' (e1.trans e2) hv⟩
theorem x_callT {T : String} {r : List V → Hp → VK → Prop} {x : Str} {p : Pos} (hc : CallR X (.type T) r) (hg : Gl X x) (hm : X.mg x = none) (hv : bootBuiltins x = some (.type T)) (ha : AX X B ρ (e :: es) Rs)
    (h : ∀ vs H σ Q, St B ρ σ H → RsH Rs vs H → (∀ v H', Ext d H H' → R.p v H' → Q v H') → r vs H Q)
    (hn : x ≠ "__name__" := by decide) (hdb : (x == ("__debug__" : Str)) = false := by decide) (he : starEach (e :: es) X.env = (false, eval e X.env) :: starEach es X.env := by rfl) (hpl : (backTo pos (starEach es X.env)).any (·.1) = false := by rfl) : EX X B ρ (.Call (.Name x p) (e :: es) [] pos) R :=
  PE_wk (pe_callTy hc hg hm hv ha hn hdb he hpl) fun σ H Q ⟨s, q⟩ => ⟨s, fun vs H1 e1 hvs => h vs H1 σ Q (s.mono e1) hvs fun v H' e2 hv => q v H' (e1.trans e2) hv⟩
/-! ### lists and tuples -/
theorem RsH.one {v : List V} {H : Hp} (h : RsH [R] v H) : ∃ x, v = [x] ∧ R.p x H := by
  match v, h with
  | [x], h => exact ⟨x, rfl, h.1⟩
theorem RsH.two {v : List V} {H : Hp} (h : RsH [Ra, Rb] v H) : ∃ x y, v = [x, y] ∧ Ra.p x H ∧ Rb.p y H := by
  match v, h with
  | [x, y], h => exact ⟨x, y, rfl, h.1, h.2.1⟩
theorem x_len_t {ds : List D} {p : Pos} (hg : Gl X "len") (hm : X.mg "len" = none) (h : EX X B ρ e (dat X.K (.t ds))) (he : starEach [e] X.env = (false, eval e X.env) :: starEach [] X.env := by rfl) (hpl : (backTo pos (starEach [] X.env)).any (·.1) = false := by rfl) : EX X B ρ (.Call (.Name "len" p) [e] [] pos) (rI ds.length) :=
  x_callB call_len_seq hg hm PySem.boot_len (a_cons h a_nil he) (fun vs H σ Q s hv q => by
    obtain ⟨x, rfl, hx⟩ := hv.one
    obtain ⟨a, us, rfl, h1, h2⟩ := DR.tup hx
    exact ⟨a, us, rfl, .inr h1, q _ H (Ext.refl H) (by show V.int _ = V.int _; rw [h2.1])⟩) (he := he) (hpl := hpl)
theorem x_len_l {ds : List D} {l : Addr} {p : Pos} (hg : Gl X "len") (hm : X.mg "len" = none) (h : EX X B ρ e (lstA X.K l ds)) (he : starEach [e] X.env = (false, eval e X.env) :: starEach [] X.env := by rfl) (hpl : (backTo pos (starEach [] X.env)).any (·.1) = false := by rfl) : EX X B ρ (.Call (.Name "len" p) [e] [] pos) (rI ds.length) :=
  x_callB call_len_seq hg hm PySem.boot_len (a_cons h a_nil he) (fun vs H σ Q s hv q => by
    obtain ⟨x, rfl, hx⟩ := hv.one
    obtain ⟨rfl, _, us, h1, h2⟩ := hx
    exact ⟨l, us, rfl, .inl h1.sq, q _ H (Ext.refl H) (by show V.int _ = V.int _; rw [h2.1])⟩) (he := he) (hpl := hpl)
/-- the draws' length: some number -/
theorem x_len_d {p : Pos} (hg : Gl X "len") (hm : X.mg "len" = none) (h : EX X B ρ e drw) (he : starEach [e] X.env = (false, eval e X.env) :: starEach [] X.env := by rfl) (hpl : (backTo pos (starEach [] X.env)).any (·.1) = false := by rfl) : EX X B ρ (.Call (.Name "len" p) [e] [] pos) (iE fun _ => True) :=
  x_callB call_len_seq hg hm PySem.boot_len (a_cons h a_nil he) (fun vs H σ Q s hv q => by
    obtain ⟨x, rfl, a, rfl, e⟩ := hv.one
    obtain ⟨ns, _, hn⟩ := s.dr a e
    exact ⟨a, _, rfl, .inl (SqL.of hn), q _ H (Ext.refl H) ⟨_, trivial, rfl⟩⟩) (he := he) (hpl := hpl)
theorem x_lstA {l : Addr} {ds : List D} {K : PySem.W.Frag} (h : EX X B ρ e (own K l ds)) : EX X B ρ e (lstA K l ds) := x_sub h fun v H hv => own_lstA hv
/-- t[i] -/
theorem x_ixt {ds : List D} {j : Int} {w : D} (ha : EX X B ρ a (dat X.K (.t ds))) (hb : EX X B ρ b (rI j)) (hw : atI ds j = some w) (hs : PlainIx b := by exact (fun _ _ => rfl)) : EX X B ρ (.Subscript a b pos) (dat X.K w) :=
  PE_wk (pe_ix ix_tup ha hb hs) fun σ H Q ⟨s, q⟩ => ⟨s, fun x H1 e1 hx => ⟨s.mono e1, fun y H2 e2 hy => by
    obtain ⟨p, us, rfl, h1, h2⟩ := DR.tup hx
    obtain ⟨k, hk, hkw⟩ : ∃ k : Nat, ixN ds.length j = some k ∧ ds[k]? = some w := by
      unfold atI at hw
      cases q' : ixN ds.length j with
      | none => rw [q'] at hw; cases hw
      | some k => rw [q'] at hw; exact ⟨k, rfl, hw⟩
    obtain ⟨v, hv, hr⟩ := h2.get hkw
    refine ⟨p, us, j, v, rfl, hy, e2.tk.sqT h1, ?_, q v H2 (e1.trans e2) (hr.tk e2.tk)⟩
    unfold atI
    rw [← h2.1, hk]
    exact hv⟩⟩
theorem x_ixl {l : Addr} {ds : List D} {j : Int} {w : D} (ha : EX X B ρ a (lstA X.K l ds)) (hb : EX X B ρ b (rI j)) (hw : atI ds j = some w) (hs : PlainIx b := by exact (fun _ _ => rfl)) : EX X B ρ (.Subscript a b pos) (dat X.K w) :=
  PE_wk (pe_ix ix_list ha hb hs) fun σ H Q ⟨s, q⟩ => ⟨s, fun x H1 e1 hx => ⟨s.mono e1, fun y H2 e2 hy => by
    obtain ⟨rfl, hd, us, h1, h2⟩ := hx
    obtain ⟨k, hk, hkw⟩ : ∃ k : Nat, ixN ds.length j = some k ∧ ds[k]? = some w := by
      unfold atI at hw
      cases q' : ixN ds.length j with
      | none => rw [q'] at hw; cases hw
      | some k => rw [q'] at hw; exact ⟨k, rfl, hw⟩
    obtain ⟨v, hv, hr⟩ := h2.get hkw
    refine ⟨l, us, j, v, rfl, hy, (h1.ext e2).sq, ?_, q v H2 (e1.trans e2) (hr.tk e2.tk)⟩
    unfold atI
    rw [← h2.1, hk]
    exact hv⟩⟩
/-- t[i], xs[i], the place only told by P -/
theorem x_ixlE {l : Addr} {ds : List D} {P : Int → Prop} (ha : EX X B ρ a (lstA X.K l ds)) (hb : EX X B ρ b (iE P)) (hw : ∀ j, P j → 0 ≤ j ∧ j < ds.length) (hs : PlainIx b := by exact (fun _ _ => rfl)) : EX X B ρ (.Subscript a b pos) (dE X.K fun w => ∃ k : Nat, P k ∧ ds[k]? = some w) :=
  PE_wk (pe_ix ix_list ha hb hs) fun σ H Q ⟨s, q⟩ => ⟨s, fun x H1 e1 hx => ⟨s.mono e1, fun y H2 e2 hy => by
    obtain ⟨rfl, hd, us, h1, h2⟩ := hx
    obtain ⟨j, hj, hy⟩ := hy
    obtain ⟨h0, hl⟩ := hw j hj
    obtain ⟨k, rfl⟩ : ∃ k : Nat, j = (k : Int) := ⟨j.toNat, by omega⟩
    have hk : k < ds.length := by omega
    obtain ⟨v, hv, hr⟩ := h2.get (List.getElem?_eq_getElem hk)
    exact ⟨l, us, _, v, rfl, hy, (h1.ext e2).sq, atI_nat hv, q v H2 (e1.trans e2) ⟨_, ⟨k, hj, List.getElem?_eq_getElem hk⟩, hr.tk e2.tk⟩⟩⟩⟩
/-- data that is an int, a bool -/
theorem x_dI {K : PySem.W.Frag} (h : EX X B ρ e (dat K (.i n))) : EX X B ρ e (rI n) := x_sub h fun v H hv => by cases hv; rfl
theorem x_dB {K : PySem.W.Frag} {k : Bool} (h : EX X B ρ e (dat K (.b k))) : EX X B ρ e (rB k) := x_sub h fun v H hv => by cases hv; rfl
theorem x_Id {K : PySem.W.Frag} (h : EX X B ρ e (rI n)) : EX X B ρ e (dat K (.i n)) := x_sub h fun v H hv => by cases hv; exact .i n
theorem x_Bd {K : PySem.W.Frag} {k : Bool} (h : EX X B ρ e (rB k)) : EX X B ρ e (dat K (.b k)) := x_sub h fun v H hv => by cases hv; exact .b k
theorem x_dEi {K : PySem.W.Frag} {P : Int → Prop} {S : D → Prop} (h : EX X B ρ e (dE K S)) (w : ∀ z, S z → ∃ n, z = .i n ∧ P n) : EX X B ρ e (iE P) := x_sub h fun v H ⟨z, hz, hv⟩ => by
  obtain ⟨n, rfl, hn⟩ := w z hz
  cases hv
  exact ⟨n, hn, rfl⟩
/-- (a, b, ..) of data -/
def DsH (K : PySem.W.Frag) : List D → List (Rp d)
  | [] => []
  | e :: es => dat K e :: DsH K es
theorem DsH.drl {K : PySem.W.Frag} : ∀ {ds : List D} {vs : List V} {H : Hp}, RsH (DsH (d := d) K ds) vs H → DRl K H ds vs
  | [], [], _, _ => DRl.nil
  | [], _ :: _, _, h => h.elim
  | _ :: _, [], _, h => h.elim
  | e :: ds, v :: vs, H, h => by
    have ih := DsH.drl (ds := ds) (vs := vs) (H := H) h.2
    refine ⟨by simp [ih.1], fun i e' v' a b => ?_⟩
    cases i with
    | zero => cases a; cases b; exact h.1
    | succ i => exact ih.2 i e' v' a b
theorem x_tup {ds : List D} {x1} (h : AX X B ρ es (DsH X.K ds)) (hl : ds.length ≤ 1000 := by first | decide | simp) : EX X B ρ (.Tuple es x1 pos) (dat X.K (.t ds)) :=
  PE_wk (pe_tup h) fun σ H Q ⟨s, q⟩ => ⟨s, fun vs H1 e1 hv => by
    have hd := DsH.drl hv
    refine ⟨by rw [← hd.1]; exact Nat.le_of_lt (small1000 hl), fun p hp => q _ _ (e1.trans (Ext.new hp)) ?_⟩
    exact DR.of_tup (SqT.of upd_same) (hd.tk (Ext.new (d := d) hp).tk)⟩
/-- [a, b, ..] -/
theorem x_lst {ds : List D} (h : AX X B ρ es (DsH X.K ds)) (hl : ds.length ≤ 1000 := by first | decide | simp) : EX X B ρ (.List es pos) (newL B X.K ds) :=
  PE_wk (pe_lst h) fun σ H Q ⟨s, q⟩ => ⟨s, fun vs H1 e1 hv => by
    have hd := DsH.drl hv
    refine ⟨by rw [← hd.1]; exact Nat.le_of_lt (small1000 hl), fun p hp => q _ _ (e1.trans (Ext.new hp)) ?_⟩
    obtain ⟨hB, hpd⟩ := (s.mono e1).fresh hp
    exact ⟨p, hB, rfl, hpd, vs, upd_same, hd.tk (Ext.new (d := d) hp).tk⟩⟩
/-- tuple(xs), list(xs), list(t) -/
theorem x_tuple_l {l : Addr} {ds : List D} {p : Pos} (hg : Gl X "tuple") (hm : X.mg "tuple" = none) (h : EX X B ρ e (lstA X.K l ds)) (he : starEach [e] X.env = (false, eval e X.env) :: starEach [] X.env := by rfl) (hpl : (backTo pos (starEach [] X.env)).any (·.1) = false := by rfl) : EX X B ρ (.Call (.Name "tuple" p) [e] [] pos) (dat X.K (.t ds)) :=
  x_callT call_tuple_of hg hm (by decide +kernel) (a_cons h a_nil he) (fun vs H σ Q s hv q => by
    obtain ⟨x, rfl, hx⟩ := hv.one
    obtain ⟨rfl, _, us, h1, h2⟩ := hx
    exact ⟨l, us, rfl, .inl ⟨h1.sq, fun r hr => q _ _ (Ext.new hr) (DR.of_tup (SqT.of upd_same) (h2.tk (Ext.new (d := d) hr).tk))⟩⟩) (he := he) (hpl := hpl)
theorem x_tuple_lE {S : List D → Prop} {p : Pos} (hg : Gl X "tuple") (hm : X.mg "tuple" = none) (h : EX X B ρ e (newE B X.K S)) (he : starEach [e] X.env = (false, eval e X.env) :: starEach [] X.env := by rfl) (hpl : (backTo pos (starEach [] X.env)).any (·.1) = false := by rfl) : EX X B ρ (.Call (.Name "tuple" p) [e] [] pos) (dE X.K fun w => ∃ ds, S ds ∧ w = .t ds) :=
  x_callT call_tuple_of hg hm (by decide +kernel) (a_cons h a_nil he) (fun vs H σ Q s hv q => by
    obtain ⟨x, rfl, hx⟩ := hv.one
    obtain ⟨ds, hS, l, _, rfl, _, us, h1, h2⟩ := hx
    exact ⟨l, us, rfl, .inl ⟨SqL.of h1, fun r hr => q _ _ (Ext.new hr) ⟨_, ⟨ds, hS, rfl⟩, DR.of_tup (SqT.of upd_same) (h2.tk (Ext.new (d := d) hr).tk)⟩⟩⟩) (he := he) (hpl := hpl)
theorem x_tuple_t {ds : List D} {p : Pos} (hg : Gl X "tuple") (hm : X.mg "tuple" = none) (h : EX X B ρ e (dat X.K (.t ds))) (he : starEach [e] X.env = (false, eval e X.env) :: starEach [] X.env := by rfl) (hpl : (backTo pos (starEach [] X.env)).any (·.1) = false := by rfl) : EX X B ρ (.Call (.Name "tuple" p) [e] [] pos) (dat X.K (.t ds)) :=
  x_callT call_tuple_of hg hm (by decide +kernel) (a_cons h a_nil he) (fun vs H σ Q s hv q => by
    obtain ⟨x, rfl, hx⟩ := hv.one
    obtain ⟨l, us, rfl, h1, h2⟩ := DR.tup hx
    exact ⟨l, us, rfl, .inr ⟨h1, q _ H (Ext.refl H) (DR.of_tup h1 h2)⟩⟩) (he := he) (hpl := hpl)
theorem x_list_l {l : Addr} {ds : List D} {p : Pos} (hg : Gl X "list") (hm : X.mg "list" = none) (h : EX X B ρ e (lstA X.K l ds)) (he : starEach [e] X.env = (false, eval e X.env) :: starEach [] X.env := by rfl) (hpl : (backTo pos (starEach [] X.env)).any (·.1) = false := by rfl) : EX X B ρ (.Call (.Name "list" p) [e] [] pos) (newL B X.K ds) :=
  x_callT call_list_of hg hm (by decide +kernel) (a_cons h a_nil he) (fun vs H σ Q s hv q => by
    obtain ⟨x, rfl, hx⟩ := hv.one
    obtain ⟨rfl, _, us, h1, h2⟩ := hx
    refine ⟨l, us, rfl, .inl h1.sq, fun r hr => q _ _ (Ext.new hr) ?_⟩
    obtain ⟨hB, hpd⟩ := s.fresh hr
    exact ⟨r, hB, rfl, hpd, us, upd_same, h2.tk (Ext.new (d := d) hr).tk⟩) (he := he) (hpl := hpl)
theorem x_list_t {ds : List D} {p : Pos} (hg : Gl X "list") (hm : X.mg "list" = none) (h : EX X B ρ e (dat X.K (.t ds))) (he : starEach [e] X.env = (false, eval e X.env) :: starEach [] X.env := by rfl) (hpl : (backTo pos (starEach [] X.env)).any (·.1) = false := by rfl) : EX X B ρ (.Call (.Name "list" p) [e] [] pos) (newL B X.K ds) :=
  x_callT call_list_of hg hm (by decide +kernel) (a_cons h a_nil he) (fun vs H σ Q s hv q => by
    obtain ⟨x, rfl, hx⟩ := hv.one
    obtain ⟨l, us, rfl, h1, h2⟩ := DR.tup hx
    refine ⟨l, us, rfl, .inr h1, fun r hr => q _ _ (Ext.new hr) ?_⟩
    obtain ⟨hB, hpd⟩ := s.fresh hr
    exact ⟨r, hB, rfl, hpd, us, upd_same, h2.tk (Ext.new (d := d) hr).tk⟩) (he := he) (hpl := hpl)
/-- int(e) -/
theorem x_intE {P : Int → Prop} {p : Pos} (hg : Gl X "int") (hm : X.mg "int" = none) (h : EX X B ρ e (iE P)) (he : starEach [e] X.env = (false, eval e X.env) :: starEach [] X.env := by rfl) (hpl : (backTo pos (starEach [] X.env)).any (·.1) = false := by rfl) : EX X B ρ (.Call (.Name "int" p) [e] [] pos) (iE P) :=
  x_callT call_int1 hg hm (by decide +kernel) (a_cons h a_nil he) (fun vs H σ Q s hv q => by
    obtain ⟨x, rfl, n, hn, rfl⟩ := hv.one
    exact .inl ⟨n, rfl, q _ H (Ext.refl H) ⟨n, hn, rfl⟩⟩) (he := he) (hpl := hpl)
theorem x_int_ {p : Pos} (hg : Gl X "int") (hm : X.mg "int" = none) (h : EX X B ρ e (rI n)) (he : starEach [e] X.env = (false, eval e X.env) :: starEach [] X.env := by rfl) (hpl : (backTo pos (starEach [] X.env)).any (·.1) = false := by rfl) : EX X B ρ (.Call (.Name "int" p) [e] [] pos) (rI n) :=
  x_callT call_int1 hg hm (by decide +kernel) (a_cons h a_nil he) (fun vs H σ Q s hv q => by
    obtain ⟨x, rfl, rfl⟩ := hv.one
    exact .inl ⟨n, rfl, q _ H (Ext.refl H) rfl⟩) (he := he) (hpl := hpl)
/-- a module's constant -/
theorem x_globI {x : Str} {t : Tok} (hg : Gl X x) (hm : X.mg x = some (.int n t)) (hd : (x == ("__debug__" : Str)) = false := by decide) : EX X B ρ (.Name x pos) (rI n) := PE_wk (pe_glob (v := .int n) hg hm ⟨_, rfl⟩ hd) fun σ H Q ⟨s, q⟩ => q _ H (Ext.refl H) rfl
end
end Cv

namespace Cv
open PySem PySem.Spec PyProof.Rows L2
section
variable {d : Option Addr} {X : Cx} {B : Hp} {ρ ρ' : Ro d} {a b c e : Expr} {es : List Expr} {R R' Ra Rb : Rp d} {Rs : List (Rp d)} {pos : Pos} {m n : Int} {st : Stmt} {rest body orelse : List Stmt} {Pre Mid : L2.St → Hp → Prop} {Po : Ends}
/-! ### slots that tell less -/
inductive Sub : Ro d → Ro d → Prop
  | nil : Sub [] []
  | drop {o : Option (Rp d)} {r r' : Ro d} (h : Sub r r') : Sub (o :: r) (none :: r')
  | same {o : Option (Rp d)} {r r' : Ro d} (h : Sub r r') : Sub (o :: r) (o :: r')
  | cons {R R' : Rp d} {r r' : Ro d} (w : ∀ v H, R.p v H → R'.p v H) (h : Sub r r') : Sub (some R :: r) (some R' :: r')
theorem Sub.len {r r' : Ro d} (h : Sub r r') : r.length = r'.length := by
  induction h with
  | nil => rfl
  | drop _ ih => simp [ih]
  | same _ ih => simp [ih]
  | cons _ _ ih => simp [ih]
theorem Sub.get {r r' : Ro d} (h : Sub r r') : ∀ (i : Nat) (R' : Rp d), r'[i]? = some (some R') → ∃ R : Rp d, r[i]? = some (some R) ∧ ∀ v H, R.p v H → R'.p v H := by
  induction h with
  | nil => intro i R' h; cases h
  | drop _ ih =>
    intro i R' h
    cases i with
    | zero => cases h
    | succ i => exact ih i R' h
  | same _ ih =>
    intro i R' h
    cases i with
    | zero => exact ⟨R', h, fun _ _ q => q⟩
    | succ i => exact ih i R' h
  | cons w _ ih =>
    intro i R' h
    cases i with
    | zero => cases h; exact ⟨_, rfl, w⟩
    | succ i => exact ih i R' h
theorem St.sub {σ : L2.St} {H : Hp} (s : St B ρ σ H) (w : Sub ρ ρ') : St B ρ' σ H := ⟨s.ext, s.dr, by rw [s.good.1, w.len], fun i R' h => by
  obtain ⟨R, h1, h2⟩ := w.get i R' h
  obtain ⟨v, h3, h4⟩ := s.good.2 i R h1
  exact ⟨v, h3, h2 v H h4⟩⟩
/-! ### blocks -/
theorem bx_nil (h : ∀ σ H, Pre σ H → Po.nx σ H) : BX X [] Pre Po := PSs_wk pss_nil fun E σ H ⟨p, l⟩ => l.nx σ H (Tk.refl H) (h σ H p)
theorem bx_cons (h1 : SX X st Pre { Po with nx := Mid }) (h2 : BX X rest Mid Po) : BX X (st :: rest) Pre Po :=
  PSs_wk (pss_cons h1 h2) fun E σ H ⟨p, l⟩ => ⟨p, fun σ' H' k q => ⟨q, l.next k⟩, l.rt, l.bk, l.ct⟩
theorem bx_one (h1 : SX X st Pre Po) : BX X [st] Pre Po := pss_one h1
theorem bx_pre {Pre' : L2.St → Hp → Prop} (h : BX X rest Pre' Po) (w : ∀ σ H, Pre σ H → Pre' σ H) : BX X rest Pre Po := PSs_wk h fun E σ H ⟨p, l⟩ => ⟨w σ H p, l⟩
theorem bx_sub (w : Sub ρ ρ') (h : BX X rest (St B ρ') Po) : BX X rest (St B ρ) Po := bx_pre h fun σ H s => s.sub w
theorem bx_ex {α : Type} {P : α → Prop} {Pr : α → L2.St → Hp → Prop} (h : ∀ z, P z → BX X rest (Pr z) Po) : BX X rest (fun σ H => ∃ z, P z ∧ Pr z σ H) Po :=
  ⟨fun pins s σ H E I ⟨⟨z, hz, p⟩, l⟩ => (h z hz).run pins s σ H E I ⟨p, l⟩⟩
theorem bx_and {P : Prop} (h : P → BX X rest Pre Po) : BX X rest (fun σ H => P ∧ Pre σ H) Po := ⟨fun pins s σ H E I ⟨⟨hp, p⟩, l⟩ => (h hp).run pins s σ H E I ⟨p, l⟩⟩
theorem bx_false : BX X rest (fun _ _ => False) Po := ⟨fun pins s σ H E I ⟨p, l⟩ => p.elim⟩
/-- a slot's existential opened -/
theorem bx_open {α : Type} {P : α → Prop} {Rz : α → Rp d} (i : Nat) (hi : ρ[i]? = some (some (exR P Rz))) (h : ∀ z, P z → BX X rest (St B (ρ.set i (some (Rz z)))) Po) : BX X rest (St B ρ) Po := by
  refine ⟨fun pins s σ H E I ⟨p, l⟩ => ?_⟩
  obtain ⟨v, h1, z, hz, h2⟩ := p.good.get hi
  refine (h z hz).run pins s σ H E I ⟨⟨p.ext, p.dr, ?_⟩, l⟩
  have g := p.good.set i (R := Rz z) h2
  have e : σ.set i (some v) = σ := by
    apply List.ext_getElem?
    intro j
    by_cases hij : i = j
    · subst hij
      rw [List.getElem?_set_self (List.getElem?_eq_some_iff.mp h1).1, h1]
    · rw [List.getElem?_set_ne hij]
  rw [e] at g
  exact g
/-- a fact that a slot's reading holds -/
theorem bx_fact {i : Nat} {P : Prop} (hi : ρ[i]? = some (some R)) (w : ∀ v H, R.p v H → P) (h : P → BX X rest (St B ρ) Po) : BX X rest (St B ρ) Po := by
  refine ⟨fun pins s σ H E I ⟨p, l⟩ => ?_⟩
  obtain ⟨v, h1, h2⟩ := p.good.get hi
  exact (h (w v H h2)).run pins s σ H E I ⟨p, l⟩
/-! ### statements -/
theorem s_set (i : Nat) {x : Str} {pos' : Pos} (he : EX X B ρ e R) (hN : X.N.Nodup) (hi : X.N[i]? = some x := by rfl) (hx : Loc X.env.scope x := by first | exact Or.inl rfl | exact Or.inr rfl) (hs : swapsWith e (some (.Name x pos')) pos.line X.env = pure false := by rfl)
    (hf : X.fn x = true ∨ X.env.scope.names.lookup x = some .local := by first | exact .inl rfl | exact .inr rfl | assumption) : SX X (.Assign [.Name x pos'] e pos) (St B ρ) { Po with nx := St B (ρ.set i (some R)) } :=
  PS_wk (ps_set hN hi hx he hs hf) fun E σ H ⟨s, l⟩ => ⟨s, fun v H' e1 hv => l.nx _ H' e1.tk ⟨s.ext.trans e1, (s.mono e1).dr, (s.mono e1).good.set i hv⟩⟩
theorem bx_set (i : Nat) {x : Str} {pos' : Pos} (he : EX X B ρ e R) (h : BX X rest (St B (ρ.set i (some R))) Po) (hN : X.N.Nodup) (hi : X.N[i]? = some x := by rfl) (hx : Loc X.env.scope x := by first | exact Or.inl rfl | exact Or.inr rfl) (hs : swapsWith e (some (.Name x pos')) pos.line X.env = pure false := by rfl)
    (hf : X.fn x = true ∨ X.env.scope.names.lookup x = some .local := by first | exact .inl rfl | exact .inr rfl | assumption) : BX X (.Assign [.Name x pos'] e pos :: rest) (St B ρ) Po := bx_cons (s_set i he hN hi hx hs hf) h
theorem bx_setLast (i : Nat) {x : Str} {pos' : Pos} (he : EX X B ρ e R) (h : ∀ σ H, St B (ρ.set i (some R)) σ H → Po.nx σ H) (hN : X.N.Nodup) (hi : X.N[i]? = some x := by rfl) (hx : Loc X.env.scope x := by first | exact Or.inl rfl | exact Or.inr rfl) (hs : swapsWith e (some (.Name x pos')) pos.line X.env = pure false := by rfl)
    (hf : X.fn x = true ∨ X.env.scope.names.lookup x = some .local := by first | exact .inl rfl | exact .inr rfl | assumption) : BX X [.Assign [.Name x pos'] e pos] (St B ρ) Po := bx_set i he (bx_nil h) hN hi hx hs hf
theorem bx_expr (he : EX X B ρ e R) (h : BX X rest (St B ρ) Po) (hs : swapsWith e none pos.line X.env = pure false := by rfl) : BX X (.Expr e pos :: rest) (St B ρ) Po :=
  bx_cons (PS_wk (ps_expr he hs) fun E σ H ⟨s, l⟩ => ⟨s, fun v H' e1 hv => l.nx σ H' e1.tk (s.mono e1)⟩) h
theorem bx_ret (he : EX X B ρ e R) (h : ∀ v σ H, St B ρ σ H → R.p v H → Po.rt v H) : BX X (.Return (some e) pos :: rest) (St B ρ) Po :=
  bx_cons (Mid := fun _ _ => False) (PS_wk (ps_ret he) fun E σ H ⟨s, l⟩ => ⟨s, fun v H' e1 hv => l.rt v H' e1.tk (h v σ H' (s.mono e1) hv)⟩) bx_false
/-- if c: body (that leaves); then the rest -/
theorem bx_ifret {P : Bool → Prop} (hc : TX X B ρ c P) (h1 : P true → BX X body (St B ρ) { Po with nx := fun _ _ => False }) (h2 : P false → BX X rest (St B ρ) Po) : BX X (.If c body [] pos :: rest) (St B ρ) Po := by
  refine bx_cons (Mid := fun σ H => P false ∧ St B ρ σ H) ?_ (bx_and h2)
  by_cases hp : P true
  · refine PS_wk (ps_if hc (h1 hp) pss_nil) fun E σ H ⟨s, l⟩ => ⟨s, fun k H' e1 hk => ?_⟩
    cases k with
    | true => exact iteT ⟨s.mono e1, ⟨fun _ _ _ q => q.elim, fun v H2 k2 q => l.rt v H2 (e1.tk.trans k2) q, fun σ2 H2 k2 q => l.bk σ2 H2 (e1.tk.trans k2) q, fun σ2 H2 k2 q => l.ct σ2 H2 (e1.tk.trans k2) q⟩⟩
    | false => exact iteF (l.nx σ H' e1.tk ⟨hk, s.mono e1⟩)
  · refine PS_wk (ps_if (PT_wk hc (t' := fun σ H Q => St B ρ σ H ∧ ∀ H', Ext d H H' → P false → Q false H') fun σ H Q ⟨s, q⟩ => ⟨s, fun k H' e1 hk => by
      cases k with
      | true => exact absurd hk hp
      | false => exact q H' e1 hk⟩) (pss_never (X := X)) pss_nil) fun E σ H ⟨s, l⟩ => ⟨s, fun H' e1 hk => iteF (l.nx σ H' e1.tk ⟨hk, s.mono e1⟩)⟩
/-- if c: body else: orelse, both to Mid -/
theorem bx_if {P : Bool → Prop} (Mid : L2.St → Hp → Prop) (hc : TX X B ρ c P) (h1 : P true → BX X body (St B ρ) { Po with nx := Mid }) (h2 : P false → BX X orelse (St B ρ) { Po with nx := Mid }) (h3 : BX X rest Mid Po) : BX X (.If c body orelse pos :: rest) (St B ρ) Po := by
  refine bx_cons (Mid := Mid) ?_ h3
  refine ⟨fun pins s σ H E I ⟨st, l⟩ => ?_⟩
  refine wpAny_If (thn (hc.run pins s σ H (fun k H' => Ext d H H' ∧ P k) I ⟨st, fun k H' e1 hk => ⟨e1, hk⟩⟩) fun k s1 ⟨H1, I1, e1, hk⟩ => ?_)
  have l1 : Le H1 { Po with nx := Mid } E := l.next e1.tk
  cases k with
  | true => exact (h1 hk).run pins s1 σ H1 E I1 ⟨st.mono e1, l1⟩
  | false => exact (h2 hk).run pins s1 σ H1 E I1 ⟨st.mono e1, l1⟩
/-! ### a def -/
def Rt (B : Hp) (R : Rp d) : Ends := { nx := fun _ H => Ext d B H ∧ R.p .non H, rt := fun v H => Ext d B H ∧ R.p v H }
theorem bx_retR (he : EX X B ρ e R) (hp : Po.rt = fun v H => Ext d B H ∧ R.p v H) : BX X (.Return (some e) pos :: rest) (St B ρ) Po := bx_ret he fun v σ H s hv => by rw [hp]; exact ⟨s.ext, hv⟩
def ro (Rs : List (Rp d)) (k : Nat) : Ro d := Rs.map some ++ List.replicate k none
theorem RsH.len : ∀ {Rs : List (Rp d)} {vs : List V} {H : Hp}, RsH Rs vs H → vs.length = Rs.length
  | [], [], _, _ => rfl
  | [], _ :: _, _, h => h.elim
  | _ :: _, [], _, h => h.elim
  | _ :: _, _ :: _, _, h => by simp [RsH.len h.2]
theorem RsH.get : ∀ {Rs : List (Rp d)} {vs : List V} {H : Hp} {i : Nat} {R : Rp d}, RsH Rs vs H → Rs[i]? = some R → ∃ v, vs[i]? = some v ∧ R.p v H
  | [], _, _, _, _, _, h => by simp at h
  | _ :: _, [], _, _, _, h, _ => h.elim
  | R :: Rs, v :: vs, H, 0, R', h, e => by cases e; exact ⟨v, rfl, h.1⟩
  | R :: Rs, v :: vs, H, i + 1, R', h, e => RsH.get (Rs := Rs) (vs := vs) h.2 e
theorem st_start {N : List Str} {vs : List V} {H : Hp} (h : RsH Rs vs H) (hl : Rs.length ≤ N.length) (dr : ∀ a, d = some a → Drw H a) : St H (ro Rs (N.length - Rs.length)) (L2.start N vs) H := by
  refine ⟨Ext.refl H, dr, ?_, fun i R e => ?_⟩
  · unfold L2.start ro
    rw [List.length_append, List.length_append, List.length_map, List.length_map, List.length_replicate, List.length_replicate, h.len]
  · unfold ro at e
    by_cases hi : i < Rs.length
    · rw [List.getElem?_append_left (by simpa using hi), List.getElem?_map] at e
      cases q : Rs[i]? with
      | none => rw [q] at e; cases e
      | some R0 =>
        rw [q] at e
        have e' : R0 = R := Option.some.inj (Option.some.inj e)
        subst e'
        obtain ⟨v, h1, h2⟩ := h.get q
        refine ⟨v, ?_, h2⟩
        unfold L2.start
        rw [List.getElem?_append_left (by rw [List.length_map, h.len]; exact hi), List.getElem?_map, h1]
        rfl
    · rw [List.getElem?_append_right (by simpa using Nat.le_of_not_lt hi), List.getElem?_replicate] at e
      split at e <;> cases e
variable {Pg : Program} {w : World} {K : PySem.W.Frag} {mg : Str → Option Value} {base : Heap}
theorem fn_ok {α : Type} {As : α → List (Rp d)} {Rz : α → Hp → Rp d} {x qual : Str} {sd : Stmt} {f : Addr} {fd : FuncData} {N ps : List Str} {k : Nat} (F : Fun K x qual sd f fd) (S : FnScope N ps (defScope sd)) (hl : ∀ z, (As z).length = ps.length) (hN : ps.length ≤ N.length)
    (body : ∀ (z : α) (H : Hp) (cdv : Value) (A : Around) (outer : List Env) (s : Shared) (E : XK), Room k (A.deeper (envOfC qual (defScope sd) s.heap.objs.size f cdv)) →
      BX (cxOf CX0 Pg w K mg base N qual (defScope sd) f cdv A outer s H E).nox (defBody sd) (St H (ro (As z) (N.length - (As z).length))) (Rt H (Rz z H))) : FnOk Pg w K mg base CX0 (k + 1) f fd ps (spP d As Rz) := by
  refine F.ok S (fun vs H Q E ⟨z, h, _⟩ => by rw [h.len, hl]) (fun cdv A outer s H vs Q E hr h => ?_)
  obtain ⟨z, hz, dr, q⟩ := h
  refine ⟨_, body z H cdv A outer s E hr, st_start hz (by rw [hl]; exact hN) dr, ?_⟩
  exact ⟨fun σ' H' _ ⟨e1, h1⟩ => q _ H' e1 h1, fun v H' _ ⟨e1, h1⟩ => q v H' e1 h1, fun _ _ _ h => h.elim, fun _ _ _ h => h.elim⟩
end
end Cv

namespace Cv
open PySem PySem.Spec PyProof.Rows L2 RZ
section
variable {d : Option Addr} {X : Cx} {B : Hp} {ρ ρ' : Ro d} {a b c e iter : Expr} {es : List Expr} {R R' Ra Rb : Rp d} {Rs : List (Rp d)} {pos : Pos} {m n : Int} {st : Stmt} {rest body orelse : List Stmt} {Pre Mid : L2.St → Hp → Prop} {Po : Ends}
/-! ### loops -/
/-- the state between two turns: some z with P z, the slots as r z -/
def IS {α : Type} (B : Hp) (P : α → Prop) (r : α → Ro d) : L2.St → Hp → Prop := fun σ H => ∃ z, P z ∧ St B (r z) σ H
def Lp (Po : Ends) (I : L2.St → Hp → Prop) (M : L2.St → Hp → Prop) : Ends := { nx := I, rt := Po.rt, bk := M, ct := I }
def tBody {Z : Type} (B : Hp) (pr : Z → Ro d) (S : Z → Prop) (po : Z → Ends) : TS := fun E σ H => ∃ z, S z ∧ St B (pr z) σ H ∧ Le H (po z) E
theorem bx_forT {α : Type} {ds : List D} (j : Nat) {x : Str} {tpos : Pos} (P : Nat → α → Prop) (r : Nat → α → Ro d) (hi : EX X B ρ iter (dat X.K (.t ds))) (h0 : ∀ σ H, St B ρ σ H → IS B (P 0) (r 0) σ H)
    (hb : ∀ i w z, ds[i]? = some w → P i z → BX X body (St B ((r i z).set j (some (dat X.K w)))) (Lp Po (IS B (P (i + 1)) (r (i + 1))) (IS B (P ds.length) (r ds.length)))) (h : BX X rest (IS B (P ds.length) (r ds.length)) Po)
    (hN : X.N.Nodup) (hp : PassesOwn (model X.prog X.w) X.A X.env X.xe) (hj : X.N[j]? = some x := by rfl) (hc : X.calm = true := by rfl) (hx : Loc X.env.scope x := by first | exact Or.inl rfl | exact Or.inr rfl)
    (hf : X.fn x = true ∨ X.env.scope.names.lookup x = some .local := by first | exact .inl rfl | exact .inr rfl | assumption) (hs : ∀ x, foldedSetIterable iter X.env x = pure x := by intro _; rfl) : BX X (.For (.Name x tpos) iter body [] pos :: rest) (St B ρ) Po := by
  refine bx_cons (Mid := IS B (P ds.length) (r ds.length)) ?_ h
  refine PS_wk (t := tFor (iTup X.K fun σ H Q => St B ρ σ H ∧ ∀ v H', Ext d H H' → (dat X.K (.t ds)).p v H' → Q v H') (gName j) (tBody (Z := Nat × D × α) B (fun z => (r z.1 z.2.2).set j (some (dat X.K z.2.1))) (fun z => ds[z.1]? = some z.2.1 ∧ P z.1 z.2.2) (fun z => Lp Po (IS B (P (z.1 + 1)) (r (z.1 + 1))) (IS B (P ds.length) (r ds.length)))))
    (ps_for hp hc (pi_tup hi) (pg_name hN hj hx hf) ⟨fun pins s σ H E I ⟨⟨i, w, z⟩, ⟨hw, hz⟩, q, l⟩ => (hb i w z hw hz).run pins s σ H E I ⟨q, l⟩⟩ hs) fun E σ H ⟨s, l⟩ => ⟨s, fun v H1 e1 hv => ?_⟩
  obtain ⟨t, us, rfl, h1, h2⟩ := DR.tup hv
  refine ⟨t, rfl, ⟨us, h1⟩, for_tup (K := X.K) (a := t) (xs := us) (g := gName j) (tb := tBody (Z := Nat × D × α) B (fun z => (r z.1 z.2.2).set j (some (dat X.K z.2.1))) (fun z => ds[z.1]? = some z.2.1 ∧ P z.1 z.2.2) (fun z => Lp Po (IS B (P (z.1 + 1)) (r (z.1 + 1))) (IS B (P ds.length) (r ds.length)))) (fun i σ H => Tk H1 H ∧ IS B (P i) (r i) σ H) ⟨Tk.refl _, h0 _ _ (s.mono e1)⟩ (fun i σ H _ q => q.1.sqT h1) (fun i x σ H hx ⟨k, z, hz, q⟩ => ?_) (fun σ H ⟨k, q⟩ => l.nx σ H (e1.tk.trans k) (by rw [h2.1]; exact q))⟩
  obtain ⟨w, hw, hr⟩ := h2.getV hx
  refine ⟨(i, w, z), ⟨hw, hz⟩, ⟨q.ext, q.dr, q.good.set j (hr.tk k)⟩, ?_⟩
  refine ⟨fun σ' H' k' q' => ⟨k.trans k', q'⟩, fun v H' k' q' => l.rt v H' ((e1.tk.trans k).trans k') q', fun σ' H' k' q' => l.nx σ' H' ((e1.tk.trans k).trans k') q', fun σ' H' k' q' => ⟨k.trans k', q'⟩⟩
/-- over a list at l that the body leaves (the slots tell so: SqL) -/
theorem bx_forL {α : Type} {ds : List D} {la : Addr} (j : Nat) {x : Str} {tpos : Pos} (P : Nat → α → Prop) (r : Nat → α → Ro d) (hi : EX X B ρ iter (lstA X.K la ds)) (h0 : ∀ σ H, St B ρ σ H → IS B (P 0) (r 0) σ H)
    (hl : ∀ i z, P i z → ∃ (k : Nat) (R : Rp d), (r i z)[k]? = some (some R) ∧ ∀ v H, R.p v H → (lstA (d := d) X.K la ds).p v H)
    (hb : ∀ i w z, ds[i]? = some w → P i z → BX X body (St B ((r i z).set j (some (dat X.K w)))) (Lp Po (IS B (P (i + 1)) (r (i + 1))) (IS B (P ds.length) (r ds.length)))) (h : BX X rest (IS B (P ds.length) (r ds.length)) Po)
    (hN : X.N.Nodup) (hp : PassesOwn (model X.prog X.w) X.A X.env X.xe) (hj : X.N[j]? = some x := by rfl) (hc : X.calm = true := by rfl) (hx : Loc X.env.scope x := by first | exact Or.inl rfl | exact Or.inr rfl)
    (hf : X.fn x = true ∨ X.env.scope.names.lookup x = some .local := by first | exact .inl rfl | exact .inr rfl | assumption) (hs : ∀ x, foldedSetIterable iter X.env x = pure x := by intro _; rfl) : BX X (.For (.Name x tpos) iter body [] pos :: rest) (St B ρ) Po := by
  refine bx_cons (Mid := IS B (P ds.length) (r ds.length)) ?_ h
  refine PS_wk (t := tFor (iList X.K fun σ H Q => St B ρ σ H ∧ ∀ v H', Ext d H H' → (lstA X.K la ds).p v H' → Q v H') (gName j) (tBody (Z := Nat × D × α) B (fun z => (r z.1 z.2.2).set j (some (dat X.K z.2.1))) (fun z => ds[z.1]? = some z.2.1 ∧ P z.1 z.2.2) (fun z => Lp Po (IS B (P (z.1 + 1)) (r (z.1 + 1))) (IS B (P ds.length) (r ds.length)))))
    (ps_for hp hc (pi_list hi) (pg_name hN hj hx hf) ⟨fun pins s σ H E I ⟨⟨i, w, z⟩, ⟨hw, hz⟩, q, l⟩ => (hb i w z hw hz).run pins s σ H E I ⟨q, l⟩⟩ hs) fun E σ H ⟨s, l⟩ => ⟨s, fun v H1 e1 hv => ?_⟩
  obtain ⟨rfl, hld, us, h1, h2⟩ := hv
  have still : ∀ i σ H, Tk H1 H ∧ IS B (P i) (r i) σ H ∧ SqL X.K H la us → SqL X.K H la us := fun i σ H q => q.2.2
  -- the list as the slots tell it is the same list: its items are those of us
  refine ⟨la, rfl, ⟨us, h1.sq⟩, ?_⟩
  have key : ∀ i σ H, IS B (P i) (r i) σ H → ∃ vs, SqL X.K H la vs ∧ DRl X.K H ds vs := fun i σ H ⟨z, hz, q⟩ => by
    obtain ⟨k, R, hk, hR⟩ := hl i z hz
    obtain ⟨v, _, g⟩ := q.good.get hk
    obtain ⟨_, _, vs, a1, a2⟩ := hR v H g
    exact ⟨vs, a1.sq, a2⟩
  refine ⟨fun i m σ H => m = ds.length - i ∧ i ≤ ds.length ∧ Tk H1 H ∧ IS B (P i) (r i) σ H, ⟨ds.length, rfl, Nat.zero_le _, Tk.refl _, h0 _ _ (s.mono e1)⟩, ?_⟩
  rintro i m σ H ⟨rfl, hi', k, q⟩
  obtain ⟨vs, a1, a2⟩ := key i σ H q
  by_cases hlt : i < ds.length
  · have hv : i < vs.length := by rw [← a2.1]; exact hlt
    refine .inr ⟨⟨vs, vs[i], a1, List.getElem?_eq_getElem hv⟩, fun σ' H' => Tk H1 H' ∧ IS B (P (i + 1)) (r (i + 1)) σ' H', fun σ' H' p' => ⟨ds.length - (i + 1), by omega, rfl, hlt, p'.1, p'.2⟩, fun x H' y => ?_⟩
    obtain ⟨rfl, y⟩ := y
    obtain ⟨w, hw, hr⟩ := a2.getV (y vs a1)
    obtain ⟨z, hz, q⟩ := q
    refine ⟨(i, w, z), ⟨hw, hz⟩, ⟨q.ext, q.dr, q.good.set j hr⟩, ?_⟩
    exact ⟨fun σ' H' k' q' => ⟨k.trans k', q'⟩, fun v H' k' q' => l.rt v H' ((e1.tk.trans k).trans k') q', fun σ' H' k' q' => l.nx σ' H' ((e1.tk.trans k).trans k') q', fun σ' H' k' q' => ⟨k.trans k', q'⟩⟩
  · have e : i = ds.length := by omega
    subst e
    exact .inl ⟨⟨vs, a1, by rw [← a2.1]; exact Nat.le_refl _⟩, l.nx σ H (e1.tk.trans k) q⟩
/-- for x in range(n) -/
theorem bx_forR {α : Type} {nn : Int} (j : Nat) {x : Str} {tpos p p2 : Pos} (P : Nat → α → Prop) (r : Nat → α → Ro d) (hg : Gl X "range") (hm : X.mg "range" = none) (hi : EX X B ρ e (rI nn)) (hn : nn < 2 ^ 62 ∧ -(2 ^ 62) ≤ nn) (h0 : ∀ σ H, St B ρ σ H → IS B (P 0) (r 0) σ H)
    (hb : ∀ (i : Nat) z, (i : Int) < nn → P i z → BX X body (St B ((r i z).set j (some (rI (i : Int))))) (Lp Po (IS B (P (i + 1)) (r (i + 1))) (IS B (P nn.toNat) (r nn.toNat)))) (h : BX X rest (IS B (P nn.toNat) (r nn.toNat)) Po)
    (hN : X.N.Nodup) (hp : PassesOwn (model X.prog X.w) X.A X.env X.xe) (hj : X.N[j]? = some x := by rfl) (hc : X.calm = true := by rfl) (hx : Loc X.env.scope x := by first | exact Or.inl rfl | exact Or.inr rfl)
    (hf : X.fn x = true ∨ X.env.scope.names.lookup x = some .local := by first | exact .inl rfl | exact .inr rfl | assumption) (he : starEach [e] X.env = [(false, eval e X.env)] := by rfl) (hs : ∀ x, foldedSetIterable (.Call (.Name "range" p) [e] [] p2) X.env x = pure x := by intro _; rfl) :
    BX X (.For (.Name x tpos) (.Call (.Name "range" p) [e] [] p2) body [] pos :: rest) (St B ρ) Po := by
  refine bx_cons (Mid := IS B (P nn.toNat) (r nn.toNat)) ?_ h
  refine PS_wk (t := tFor (iRng1 fun σ H Q => St B ρ σ H ∧ ∀ vs H', Ext d H H' → RsH [rI nn] vs H' → Q vs H') (gName j) (tBody (Z := Nat × α) B (fun z => (r z.1 z.2).set j (some (rI (z.1 : Int)))) (fun z => (z.1 : Int) < nn ∧ P z.1 z.2) (fun z => Lp Po (IS B (P (z.1 + 1)) (r (z.1 + 1))) (IS B (P nn.toNat) (r nn.toNat)))))
    (ps_for hp hc (pi_range1 hg hm (a_cons hi a_nil he) he) (pg_name hN hj hx hf) ⟨fun pins s σ H E I ⟨⟨i, z⟩, ⟨hw, hz⟩, q, l⟩ => (hb i z hw hz).run pins s σ H E I ⟨q, l⟩⟩ hs) fun E σ H ⟨s, l⟩ => ⟨s, fun vs H1 e1 hv => ?_⟩
  obtain ⟨v, rfl, hv'⟩ := hv.one
  obtain rfl : v = .int nn := hv'
  refine ⟨nn, rfl, hn.2, hn.1, for_range (lo := 0) (n := nn.toNat) (g := gName j) (tb := tBody (Z := Nat × α) B (fun z => (r z.1 z.2).set j (some (rI (z.1 : Int)))) (fun z => (z.1 : Int) < nn ∧ P z.1 z.2) (fun z => Lp Po (IS B (P (z.1 + 1)) (r (z.1 + 1))) (IS B (P nn.toNat) (r nn.toNat)))) (fun i σ H => Tk H1 H ∧ IS B (P i) (r i) σ H) ⟨Tk.refl _, h0 _ _ (s.mono e1)⟩ (fun i σ H hlt ⟨k, z, hz, q⟩ => ?_) (fun σ H ⟨k, q⟩ => l.nx σ H (e1.tk.trans k) q)⟩
  refine ⟨(i, z), ⟨(by show (i : Int) < nn; omega), hz⟩, ⟨q.ext, q.dr, ?_⟩, ?_⟩
  · rw [Int.zero_add]
    exact q.good.set j (R := rI (i : Int)) (v := .int (i : Int)) rfl
  · exact ⟨fun σ' H' k' q' => ⟨k.trans k', q'⟩, fun v H' k' q' => l.rt v H' ((e1.tk.trans k).trans k') q', fun σ' H' k' q' => l.nx σ' H' ((e1.tk.trans k).trans k') q', fun σ' H' k' q' => ⟨k.trans k', q'⟩⟩
/-- for x, y in zip(t, u), two tuples of one length -/
theorem bx_forZ {α : Type} {ds es' : List D} (j k : Nat) {x y : Str} {kk : Nat} {tpos p1 p2 p p3 : Pos} (P : Nat → α → Prop) (r : Nat → α → Ro d) (hg : Gl X "zip") (hm : X.mg "zip" = none) (ha : EX X B ρ a (dat X.K (.t ds))) (hb' : EX X B ρ b (dat X.K (.t es'))) (hlen : ds.length = es'.length) (h0 : ∀ σ H, St B ρ σ H → IS B (P 0) (r 0) σ H)
    (hb : ∀ (i : Nat) w u z, ds[i]? = some w → es'[i]? = some u → P i z → BX X body (St B (((r i z).set j (some (dat X.K w))).set k (some (dat X.K u)))) (Lp Po (IS B (P (i + 1)) (r (i + 1))) (IS B (P ds.length) (r ds.length)))) (h : BX X rest (IS B (P ds.length) (r ds.length)) Po)
    (hN : X.N.Nodup) (hp : PassesOwn (model X.prog X.w) X.A X.env X.xe) (hj : X.N[j]? = some x := by rfl) (hk : X.N[k]? = some y := by rfl) (hc : X.calm = true := by rfl) (hx : Loc X.env.scope x := by first | exact Or.inl rfl | exact Or.inr rfl) (hy : Loc X.env.scope y := by first | exact Or.inl rfl | exact Or.inr rfl)
    (hf : X.fn x = true ∨ X.env.scope.names.lookup x = some .local := by first | exact .inl rfl | exact .inr rfl | assumption) (hfy : X.fn y = true ∨ X.env.scope.names.lookup y = some .local := by first | exact .inl rfl | exact .inr rfl | assumption)
    (he : starEach [a, b] X.env = (false, eval a X.env) :: starEach [b] X.env := by rfl) (he2 : starEach [b] X.env = (false, eval b X.env) :: starEach [] X.env := by rfl) (hpl : (backTo p3 (starEach [b] X.env)).any (·.1) = false := by rfl)
    (hs : ∀ x, foldedSetIterable (.Call (.Name "zip" p) [a, b] [] p3) X.env x = pure x := by intro _; rfl) :
    BX X (.For (.Tuple [.Name x p1, .Name y p2] kk tpos) (.Call (.Name "zip" p) [a, b] [] p3) body [] pos :: rest) (St B ρ) Po := by
  refine bx_cons (Mid := IS B (P ds.length) (r ds.length)) ?_ h
  refine PS_wk (t := tFor (iZipA X.K fun σ H Q => St B ρ σ H ∧ ∀ vs H', Ext d H H' → RsH [dat X.K (.t ds), dat X.K (.t es')] vs H' → Q vs H') (gTup X.K 2 (gCons (gName j) (gCons (gName k) gNil))) (tBody (Z := Nat × D × D × α) B (fun z => ((r z.1 z.2.2.2).set j (some (dat X.K z.2.1))).set k (some (dat X.K z.2.2.1))) (fun z => ds[z.1]? = some z.2.1 ∧ es'[z.1]? = some z.2.2.1 ∧ P z.1 z.2.2.2) (fun z => Lp Po (IS B (P (z.1 + 1)) (r (z.1 + 1))) (IS B (P ds.length) (r ds.length)))))
    (ps_for hp hc (pi_zipA hg hm (a_cons ha (a_cons hb' a_nil he2) he) he hpl) (pg_tup hc (pgs_cons (pg_name hN hj hx hf) (pgs_cons (pg_name hN hk hy hfy) pgs_nil))) ⟨fun pins s σ H E I ⟨⟨i, w, u, z⟩, ⟨hw, hu, hz⟩, q, l⟩ => (hb i w u z hw hu hz).run pins s σ H E I ⟨q, l⟩⟩ hs) fun E σ H ⟨s, l⟩ => ⟨s, fun vs H1 e1 hv => ?_⟩
  obtain ⟨v, v2, rfl, hv', hv2⟩ := hv.two
  obtain ⟨t, us, rfl, h1, h2⟩ := DR.tup hv'
  obtain ⟨t2, us2, rfl, h3, h4⟩ := DR.tup hv2
  have hl : us.length = us2.length := by rw [← h2.1, ← h4.1]; exact hlen
  refine ⟨t, t2, us, us2, rfl, .inr ⟨h1, h3, for_zipT (K := X.K) (a := t) (b := t2) (xs := us) (ys := us2) (g := gTup X.K 2 (gCons (gName j) (gCons (gName k) gNil))) (tb := tBody (Z := Nat × D × D × α) B (fun z => ((r z.1 z.2.2.2).set j (some (dat X.K z.2.1))).set k (some (dat X.K z.2.2.1))) (fun z => ds[z.1]? = some z.2.1 ∧ es'[z.1]? = some z.2.2.1 ∧ P z.1 z.2.2.2) (fun z => Lp Po (IS B (P (z.1 + 1)) (r (z.1 + 1))) (IS B (P ds.length) (r ds.length)))) hl (fun i σ H => Tk H1 H ∧ IS B (P i) (r i) σ H) ⟨Tk.refl _, h0 _ _ (s.mono e1)⟩ (fun i σ H q => ⟨q.1.sqT h1, q.1.sqT h3⟩) (fun i x' y' T σ H hx hy ⟨kk, z, hz, q⟩ hT => ?_) (fun σ H ⟨kk, q⟩ => l.nx σ H (e1.tk.trans kk) (by rw [h2.1]; exact q))⟩⟩
  obtain ⟨w, hw, hr⟩ := h2.getV hx
  obtain ⟨u, hu, hr2⟩ := h4.getV hy
  have eT : Ext d H (upd H T (.tup [x', y'])) := Ext.new hT
  have kT := kk.trans eT.tk
  refine ⟨T, [x', y'], rfl, SqT.of upd_same, rfl, x', [y'], rfl, y', [], rfl, rfl, (i, w, u, z), ⟨hw, hu, hz⟩, ⟨(q.mono eT).ext, (q.mono eT).dr, ((q.mono eT).good.set j (R := dat X.K w) (hr.tk kT)).set k (R := dat X.K u) (hr2.tk kT)⟩, ?_⟩
  exact ⟨fun σ' H' k' q' => ⟨kT.trans k', q'⟩, fun v H' k' q' => l.rt v H' ((e1.tk.trans kT).trans k') q', fun σ' H' k' q' => l.nx σ' H' ((e1.tk.trans kT).trans k') q', fun σ' H' k' q' => ⟨kT.trans k', q'⟩⟩
end
end Cv

namespace Cv
open PySem PySem.Spec PyProof.Rows L2 RZ
open AutoSeq1 (wpAny_loadPart')
/-! ### xs[i] by values -/
theorem get_list {X : Cx} : PGet X (rIxL X.K) := by
  intro pins s σ H o i ov iv Q I ro ri h
  obtain ⟨p, xs, k, z, rfl, rfl, hq, he, q⟩ := h
  cases ro
  obtain ⟨t, rfl⟩ := ri
  obtain ⟨its, r, pl, hz⟩ := I.list hq
  obtain ⟨j, h1, h2, h3, h4, h5⟩ := atI_get he
  obtain ⟨y, ey, ry⟩ := r.get h2
  have hl := r.length
  have hn := line63
  have fin : EP X pins σ Q y s := ⟨z, H, I, ry, q⟩
  by_cases h0 : 0 ≤ k
  · have hj : k.toNat = j := by
      rw [seqIndex_of h0 h5] at h1
      exact Option.some.inj h1
    exact wpAny_getItem_list pl.isList h0 (by omega) (by rw [hj]; simpa using ey) fin
  · have hj : (k + (its.toArray.size : Int)).toNat = j := by
      rw [seqIndex_neg (by omega) h4] at h1
      rw [List.size_toArray, ← hl]
      exact Option.some.inj h1
    exact wpAny_getItem_list_neg pl.isList (by omega) (by rw [List.size_toArray] <;> omega) (by omega) (by rw [hj]; simpa using ey) fin
/-! ### enumerate(t), t a tuple -/
theorem meets_enumT (l : Addr) (its : Array Value) (n : Nat) (dc : Option Addr) (sl : Array (Option Value)) :
    Meets (Builtin.«enumerate.__new__» ⟨[.type "enumerate", .ref l], []⟩) (fun _ R s => s.heap.get? l = some { cls := .type "tuple", dict := dc, data := .seq its n, slots := sl } ∧
      R (.ok (.ret (.ref (s.heap.push { cls := .type "tuple_iterator", data := .fields #[.ref l, .int 0 0] }).objs.size)))
        { s with heap := (s.heap.push { cls := .type "tuple_iterator", data := .fields #[.ref l, .int 0 0] }).push { cls := .type "enumerate", data := .fields #[.none, .bool false, .ref s.heap.objs.size, rawInt 0, .none, .none] } }) :=
  .of_wp fun prog w A R s h => by
    obtain ⟨hp, gs, dr, tk, os⟩ := s
    obtain ⟨hl, h⟩ := h
    have hsub := sub_enumerate
    have hT : Heap.IsTuple (Shared.heap ⟨hp, gs, dr, tk, os⟩) l its := ⟨_, hl, rfl, n, rfl⟩
    wp_walk using wpAny_loadPart' hl
    refine wpAny_stack_any fun st => wpAny_pure ?_
    split
    · rename_i c _ _ _ _ _
      cases (c == Value.type "enumerate") <;> (wp_walk using wpAny_loadPart' hl, wpAny_pyIter_tuple hT; exact ⟨_, rfl, h⟩)
    · wp_walk using wpAny_loadPart' hl, wpAny_pyIter_tuple hT
      exact ⟨_, rfl, h⟩
section
variable {prog : Program} {w : World} {A : Around} {E : Value → Shared → Prop} {s : Shared}
theorem call_enumT {l : Addr} {its : Array Value} {Q : Value → Shared → Prop} (hL : s.heap.IsTuple l its)
    (h : ∀ h', IsEnum h' (s.heap.objs.size + 1) s.heap.objs.size 0 .none → h'.IsTupleIter s.heap.objs.size l 0 → h'.objs.size = s.heap.objs.size + 2 →
      (∀ b o, s.heap.get? b = some o → h'.get? b = some o) → Q (.ref (s.heap.objs.size + 1)) { s with heap := h' }) :
    wpAny (model prog w) A (call (.type "enumerate") [.ref l]) Q E s := by
  obtain ⟨⟨c, dct, dt, sl⟩, hl, hc, n, hd⟩ := hL
  obtain rfl : c = .type "tuple" := hc
  obtain rfl : dt = .seq its n := hd
  refine callType_new F.called_enumerate (by decide) (F.typeCall_enumerate_1 _) (F.newCall_enumerate_1 _) (fun obj => F.args_object_init_2 obj _) F.entry_enumerate_new (meets_enumT l its n dct sl) ⟨hl, ?_⟩
  have hz : (s.heap.push { cls := .type "tuple_iterator", data := .fields #[.ref l, .int 0 0] }).objs.size = s.heap.objs.size + 1 := Heap.size_push ..
  show _ ∧ _
  rw [hz]
  have he : IsEnum ((s.heap.push { cls := .type "tuple_iterator", data := .fields #[.ref l, .int 0 0] }).push
      { cls := .type "enumerate", data := .fields #[.none, .bool false, .ref s.heap.objs.size, rawInt 0, .none, .none] }) (s.heap.objs.size + 1) s.heap.objs.size 0 .none := by
    have := Heap.get?_push_size (s.heap.push { cls := .type "tuple_iterator", data := .fields #[.ref l, .int 0 0] })
      (o := { cls := .type "enumerate", data := .fields #[.none, .bool false, .ref s.heap.objs.size, rawInt 0, .none, .none] }) rfl
    rw [hz] at this; exact this
  exact ⟨⟨_, he, rfl⟩, h _ he ⟨_, Heap.get?_push_of_some _ (Heap.get?_push_size _ rfl), rfl, rfl⟩ (by rw [Heap.size_push, hz]) fun b o x => Heap.get?_push_of_some _ (Heap.get?_push_of_some _ x)⟩
end
/-- the tuple at a as it stands at each turn, each item in a new pair -/
def IteT (K : PySem.W.Frag) (a : Addr) : It :=
  ⟨fun i H => ∃ (xs : List V) (x : V), SqT K H a xs ∧ xs[i]? = some x, fun i H v H' => ∃ T x, v = .ref T ∧ H T = none ∧ H' = upd H T (.tup [.int (i : Nat), x]) ∧ ∀ xs, SqT K H a xs → xs[i]? = some x, fun i H => ∃ xs : List V, SqT K H a xs ∧ xs.length ≤ i⟩
theorem turn_enumT {P : Program} {w : World} {K : PySem.W.Frag} {elts : List Expr} {kk : Nat} {tpos : Pos} (a e it : Addr) (hai : a ≠ it) :
    Turn P w K (.Tuple elts kk tpos) (IteT K a) [e, it] e (fun i h => (∃ old, IsEnum h e it ((i : Nat) : Int) old) ∧ h.IsTupleIter it a i ∧ e ≠ it) where
  mem := by simp
  obj := fun i h st b hb => by
    obtain ⟨⟨old, he⟩, ⟨o, ho, hc, hd⟩, _⟩ := st
    have e' : b = e ∨ b = it := by simpa using hb
    rcases e' with z | z
    · subst z; exact ⟨_, he, fun v q => nomatch q⟩
    · subst z; exact ⟨o, ho, fun v q => by rw [hd] at q; cases q⟩
  keep := fun i h h' st k => let ⟨⟨old, he⟩, hi, hne⟩ := st; ⟨⟨old, k e (by simp) _ he⟩, hi.at fun o q => k it (by simp) o q, hne⟩
  item := by
    intro X hP hw hK hc i pins s σ H E I hf st hg
    subst hP hw hK
    obtain ⟨⟨old, he⟩, hit, hne⟩ := st
    obtain ⟨xs, x, hq, hx⟩ := hg
    obtain ⟨its, rv, pt, hz⟩ := I.tuple hq
    obtain ⟨u, hu, ru⟩ := rv.get hx
    have hel : e < s.heap.objs.size := Heap.lt_size he
    have hil : it < s.heap.objs.size := by obtain ⟨_, q, _⟩ := hit; exact Heap.lt_size q
    have hlt : i < its.toArray.size := by
      rw [List.size_toArray, ← rv.length]
      exact (List.getElem?_eq_some_iff.mp hx).1
    have hea : e ≠ a := fun z => by
      obtain ⟨o, ho, hc1, _⟩ := pt
      have he' : s.heap.get? e = some _ := he
      rw [z, ho] at he'
      cases he'
      have q1 : Value.type "enumerate" = Value.type "tuple" := hc1
      injection q1 with q2
      exact absurd q2 (by decide)
    refine wpAny_pyNext_enum_itemD (Draws.tuple (A := X.A.in1) (by exact I.ok.hd hc) it a hai its.toArray) he ⟨hit, pt⟩ hlt hne (by simp only [List.mem_cons, List.not_mem_nil, or_false, not_or]; exact ⟨hne, hea⟩) fun y h' tk hy ho st' hT hsz hk => ?_
    obtain ⟨hit', _⟩ := st'
    have eyu : y = u := by
      have h1 : its.toArray[i]? = some u := by simpa using hu
      exact Option.some.inj (hy.symm.trans h1)
    subst eyu
    refine ⟨_, rfl, wpAny_letOwnedTupleGo_enum (s := { s with heap := h', toks := tk + 1 }) ho fun h'' he' sb => ?_⟩
    have hT2 : h''.get? s.heap.objs.size = some { cls := .type "tuple", data := .seq #[.int i tk, y] } := (sb.2 _ (Nat.ne_of_gt hel)).trans hT
    have new : ObjOk X.prog X.w (upd H s.heap.objs.size (.tup [.int (i : Nat), x])) h'' s.heap.objs.size (.tup [.int (i : Nat), x]) :=
      ⟨by show 2 ≤ sizeLine; decide, [.int i tk, y], .cons ⟨_, rfl⟩ (.cons ru .nil), ⟨_, hT2, rfl, _, rfl⟩⟩
    have I1 : Inv X pins σ (upd H s.heap.objs.size (.tup [.int (i : Nat), x])) { s with heap := h'', toks := tk + 1 } :=
      I.turnedNew (ch := [e, it]) (fun b ob hb q => (sb.2 b (fun z => hb (by simp [z]))).trans (hk b ob (fun z => hb (by simp [z])) (fun z => hb (by simp [z])) q)) hf (Nat.le_refl _) new
    refine ⟨.ref s.heap.objs.size, _, I1, rfl, ⟨_, x, rfl, I.hok.fresh (Nat.le_refl _), rfl, fun ys hy => by rw [I.tuple_inj hy hq]; exact hx⟩, ⟨⟨y, ?_⟩, hit'.at fun o q => (sb.2 it (Ne.symm hne)).trans q, hne⟩, fun b hb => ?_⟩
    · have e1 : ((i + 1 : Nat) : Int) = (i : Int) + 1 := by omega
      rw [e1]; exact he'
    · have hb' : b < s.heap.objs.size := by
        have e' : b = e ∨ b = it := by simpa using hb
        rcases e' with z | z
        · subst z; exact hel
        · subst z; exact hil
      rw [upd_ne (Nat.ne_of_lt hb')]
      exact (hf b hb).1
  done := by
    intro X hP hw hK hc i pins s σ H E I hf st hg
    subst hP hw hK
    obtain ⟨⟨old, he⟩, hit, hne⟩ := st
    obtain ⟨xs, hq, hx⟩ := hg
    obtain ⟨its, rv, pt, hz⟩ := I.tuple hq
    obtain ⟨f0, f1, f2, f3, f4, f5⟩ := hf it (by simp)
    have hl := rv.length
    have hD := Draws.tuple (prog := X.prog) (w := X.w) (A := X.A.in1) (by exact I.ok.hd hc) it a hai its.toArray
    have hT : s.TypeIs (.ref e) "enumerate" := ⟨_, he, rfl⟩
    unfold pyNext
    refine wpAny_bind (wpAny_attempt (wpAny_callSpecial?_slot (name := Str.ofString "__next__") hT F.slot_enumerate_next (wpAny_call_entry F.slot_enumerate_next hT F.entry_enumerate_next ?_ (F.args_enumerate_next_1 _))))
    show wpAny _ _ (field (.ref e) 2 >>= _) _ _ _
    refine wpAny_bind (wpAny_field he rfl (x := .ref it) rfl ?_)
    refine wpAny_bind (wpAny_nextOf_tuple_end (by exact I.ok.hd hc) hit pt (by simp; omega) fun h' x he' hx' => ?_)
    obtain ⟨o, ho, hc'⟩ := hx'
    refine wpAny_bind (wpAny_isInstance (T := "StopIteration") (b := true) ⟨o, ho, hc'⟩ isSubtype_stop ?_)
    exact wpAny_pure ⟨rfl, I.turned (t' := s.toks) (fun b o hb q => he' b o hb q) f0 f1 f3 f4 f5⟩
  self := fun A i s Q E st h => let ⟨⟨_, he⟩, _⟩ := st; wpAny_pyIter_enum he h
def iEnumT (K : PySem.W.Frag) (ta : TA) : TI := fun σ H R => ta σ H fun vs H1 => ∃ a xs, vs = [.ref a] ∧ SqT K H1 a xs ∧ R (IteT K a) H1
theorem pi_enumT {X : Cx} {e : Expr} {ta : TA} {p pos tpos : Pos} {elts : List Expr} {kk : Nat} (hg : Gl X "enumerate") (hm : X.mg "enumerate" = none) (ha : PA X [e] ta) (hs : starEach [e] X.env = [(false, eval e X.env)] := by rfl) :
    PI X (.Tuple elts kk tpos) (.Call (.Name "enumerate" p) [e] [] pos) (iEnumT X.K ta) := by
  refine ⟨fun pins s σ H R I h => ?_⟩
  refine Call_ (ld_blt I hg hm boot_enumerate (PyProof.Rows.callWith_type1 (thn (ha.run pos pins s σ H _ I h) fun us s1 ⟨vs, H1, I1, r1, q1⟩ => ?_) hs rfl))
  obtain ⟨a, xs, ex, hq, q⟩ := q1
  subst ex
  cases r1 with
  | cons r rr =>
    cases rr
    cases r
    obtain ⟨its, rv, pt, hz⟩ := I1.tuple hq
    refine call_enumT (show s1.heap.IsTuple a its.toArray from pt) fun h' he hit hsz hk => wpAny_pyIter_enum he ?_
    have I2 : Inv X pins σ H1 { s1 with heap := h' } := I1.kept (t' := s1.toks) hk
    have hlt : a < s1.heap.objs.size := by obtain ⟨o, ho, _⟩ := pt; exact Heap.lt_size ho
    refine ⟨s1.heap.objs.size + 1, [s1.heap.objs.size + 1, s1.heap.objs.size], _, _, H1, rfl, I2, turn_enumT a (s1.heap.objs.size + 1) s1.heap.objs.size (Nat.ne_of_lt hlt), ⟨⟨.none, he⟩, hit, Nat.succ_ne_self _⟩, fun b hb => ?_, q⟩
    have hle : s1.heap.objs.size ≤ b := by
      have e' : b = s1.heap.objs.size + 1 ∨ b = s1.heap.objs.size := by simpa using hb
      rcases e' with z | z
      · rw [z]; exact Nat.le_succ _
      · rw [z]; exact Nat.le_refl _
    exact I1.fpOk hle (I1.hok.fresh hle)
end Cv

namespace Cv
open PySem PySem.Spec PyProof.Rows L2 RZ
section
variable {d : Option Addr} {X : Cx} {B : Hp} {ρ ρ' : Ro d} {a b c e iter elt : Expr} {es : List Expr} {R R' Ra Rb : Rp d} {Rs : List (Rp d)} {pos : Pos} {m n : Int} {st : Stmt} {rest body orelse : List Stmt} {Pre Mid : L2.St → Hp → Prop} {Po : Ends}
/-- for x, y in enumerate(t) -/
theorem bx_forE {α : Type} {ds : List D} (j k : Nat) {x y : Str} {kk : Nat} {tpos p1 p2 p p3 : Pos} (P : Nat → α → Prop) (r : Nat → α → Ro d) (hg : Gl X "enumerate") (hm : X.mg "enumerate" = none) (ha : EX X B ρ a (dat X.K (.t ds))) (h0 : ∀ σ H, St B ρ σ H → IS B (P 0) (r 0) σ H)
    (hb : ∀ (i : Nat) w z, ds[i]? = some w → P i z → BX X body (St B (((r i z).set j (some (rI (i : Int)))).set k (some (dat X.K w)))) (Lp Po (IS B (P (i + 1)) (r (i + 1))) (IS B (P ds.length) (r ds.length)))) (h : BX X rest (IS B (P ds.length) (r ds.length)) Po)
    (hN : X.N.Nodup) (hp : PassesOwn (model X.prog X.w) X.A X.env X.xe) (hj : X.N[j]? = some x := by rfl) (hk : X.N[k]? = some y := by rfl) (hc : X.calm = true := by rfl) (hx : Loc X.env.scope x := by first | exact Or.inl rfl | exact Or.inr rfl) (hy : Loc X.env.scope y := by first | exact Or.inl rfl | exact Or.inr rfl)
    (hf : X.fn x = true ∨ X.env.scope.names.lookup x = some .local := by first | exact .inl rfl | exact .inr rfl | assumption) (hfy : X.fn y = true ∨ X.env.scope.names.lookup y = some .local := by first | exact .inl rfl | exact .inr rfl | assumption)
    (he : starEach [a] X.env = [(false, eval a X.env)] := by rfl) (hs : ∀ x, foldedSetIterable (.Call (.Name "enumerate" p) [a] [] p3) X.env x = pure x := by intro _; rfl) :
    BX X (.For (.Tuple [.Name x p1, .Name y p2] kk tpos) (.Call (.Name "enumerate" p) [a] [] p3) body [] pos :: rest) (St B ρ) Po := by
  refine bx_cons (Mid := IS B (P ds.length) (r ds.length)) ?_ h
  refine PS_wk (t := tFor (iEnumT X.K fun σ H Q => St B ρ σ H ∧ ∀ vs H', Ext d H H' → RsH [dat X.K (.t ds)] vs H' → Q vs H') (gTup X.K 2 (gCons (gName j) (gCons (gName k) gNil))) (tBody (Z := Nat × D × α) B (fun z => ((r z.1 z.2.2).set j (some (rI (z.1 : Int)))).set k (some (dat X.K z.2.1))) (fun z => ds[z.1]? = some z.2.1 ∧ P z.1 z.2.2) (fun z => Lp Po (IS B (P (z.1 + 1)) (r (z.1 + 1))) (IS B (P ds.length) (r ds.length)))))
    (ps_for hp hc (pi_enumT hg hm (a_cons ha a_nil he) he) (pg_tup hc (pgs_cons (pg_name hN hj hx hf) (pgs_cons (pg_name hN hk hy hfy) pgs_nil))) ⟨fun pins s σ H E I ⟨⟨i, w, z⟩, ⟨hw, hz⟩, q, l⟩ => (hb i w z hw hz).run pins s σ H E I ⟨q, l⟩⟩ hs) fun E σ H ⟨s, l⟩ => ⟨s, fun vs H1 e1 hv => ?_⟩
  obtain ⟨v, rfl, hv'⟩ := hv.one
  obtain ⟨t, us, rfl, h1, h2⟩ := DR.tup hv'
  refine ⟨t, us, rfl, h1, fun i m σ H => m = us.length - i ∧ i ≤ us.length ∧ Tk H1 H ∧ IS B (P i) (r i) σ H, ⟨us.length, rfl, Nat.zero_le _, Tk.refl _, h0 _ _ (s.mono e1)⟩, ?_⟩
  rintro i m σ H ⟨rfl, hi, kk, q⟩
  have a1 := kk.sqT h1
  by_cases hlt : i < us.length
  · refine .inr ⟨⟨us, us[i], a1, List.getElem?_eq_getElem hlt⟩, fun σ' H' => Tk H1 H' ∧ IS B (P (i + 1)) (r (i + 1)) σ' H', fun σ' H' p' => ⟨us.length - (i + 1), by omega, rfl, hlt, p'.1, p'.2⟩, fun v H' yl => ?_⟩
    obtain ⟨T, x', rfl, hT, rfl, f1⟩ := yl
    obtain ⟨w, hw, hr⟩ := h2.getV (f1 us a1)
    obtain ⟨z, hz, q⟩ := q
    have eT : Ext d H (upd H T (.tup [.int (i : Nat), x'])) := Ext.new hT
    have kT := kk.trans eT.tk
    refine ⟨T, [.int (i : Nat), x'], rfl, SqT.of upd_same, rfl, .int (i : Nat), [x'], rfl, x', [], rfl, rfl, (i, w, z), ⟨hw, hz⟩, ⟨(q.mono eT).ext, (q.mono eT).dr, ((q.mono eT).good.set j (R := rI (i : Int)) rfl).set k (R := dat X.K w) (hr.tk kT)⟩, ?_⟩
    exact ⟨fun σ' H' k' q' => ⟨kT.trans k', q'⟩, fun v H' k' q' => l.rt v H' ((e1.tk.trans kT).trans k') q', fun σ' H' k' q' => l.nx σ' H' ((e1.tk.trans kT).trans k') q', fun σ' H' k' q' => ⟨kT.trans k', q'⟩⟩
  · have e' : i = us.length := by omega
    subst e'
    exact .inl ⟨⟨us, a1, Nat.le_refl _⟩, l.nx σ H (e1.tk.trans kk) (by rw [h2.1]; exact q)⟩
/-! ### unpacking -/
theorem bx_unp3 {A1 A2 A3 : D} (i1 i2 i3 : Nat) {x1 x2 x3 : Str} {q1 q2 q3 q4 : Pos} {kk : Nat} (he : EX X B ρ e (dat X.K (.t [A1, A2, A3]))) (h : BX X rest (St B (((ρ.set i1 (some (dat X.K A1))).set i2 (some (dat X.K A2))).set i3 (some (dat X.K A3)))) Po)
    (hN : X.N.Nodup) (h1 : X.N[i1]? = some x1 := by rfl) (h2 : X.N[i2]? = some x2 := by rfl) (h3 : X.N[i3]? = some x3 := by rfl) (hc : X.calm = true := by rfl) (l1 : Loc X.env.scope x1 := by first | exact Or.inl rfl | exact Or.inr rfl) (l2 : Loc X.env.scope x2 := by first | exact Or.inl rfl | exact Or.inr rfl) (l3 : Loc X.env.scope x3 := by first | exact Or.inl rfl | exact Or.inr rfl)
    (f1 : X.fn x1 = true ∨ X.env.scope.names.lookup x1 = some .local := by first | exact .inl rfl | exact .inr rfl | assumption) (f2 : X.fn x2 = true ∨ X.env.scope.names.lookup x2 = some .local := by first | exact .inl rfl | exact .inr rfl | assumption) (f3 : X.fn x3 = true ∨ X.env.scope.names.lookup x3 = some .local := by first | exact .inl rfl | exact .inr rfl | assumption)
    (hs : swapsWithSole [.Tuple [.Name x1 q1, .Name x2 q2, .Name x3 q3] kk q4] e pos.line X.env = pure false := by rfl) (hw : swappedStores [.Tuple [.Name x1 q1, .Name x2 q2, .Name x3 q3] kk q4] e X.env = pure none := by rfl) :
    BX X (.Assign [.Tuple [.Name x1 q1, .Name x2 q2, .Name x3 q3] kk q4] e pos :: rest) (St B ρ) Po := by
  refine bx_cons (Mid := St B (((ρ.set i1 (some (dat X.K A1))).set i2 (some (dat X.K A2))).set i3 (some (dat X.K A3)))) ?_ h
  refine PS_wk (ps_asg he (pg_tup hc (pgs_cons (pg_name hN h1 l1 f1) (pgs_cons (pg_name hN h2 l2 f2) (pgs_cons (pg_name hN h3 l3 f3) pgs_nil)))) hs hw) fun E σ H ⟨s, l⟩ => ⟨s, fun v H' e1 hv => ?_⟩
  obtain ⟨t, us, rfl, g1, g2⟩ := DR.tup hv
  match us, g2 with
  | [v1, v2, v3], g2 =>
    refine ⟨t, [v1, v2, v3], rfl, g1, rfl, v1, [v2, v3], rfl, v2, [v3], rfl, v3, [], rfl, rfl, ?_⟩
    exact l.nx _ H' e1.tk ⟨(s.mono e1).ext, (s.mono e1).dr, (((s.mono e1).good.set i1 (R := dat X.K A1) (g2.2 0 A1 v1 rfl rfl)).set i2 (R := dat X.K A2) (g2.2 1 A2 v2 rfl rfl)).set i3 (R := dat X.K A3) (g2.2 2 A3 v3 rfl rfl)⟩
  | [], g2 => exact absurd g2.1 (by simp)
  | [_], g2 => exact absurd g2.1 (by simp)
  | [_, _], g2 => exact absurd g2.1 (by simp)
  | _ :: _ :: _ :: _ :: _, g2 => exact absurd g2.1 (by simp)
/-! ### own lists changed -/
/-- what stands when the list at l changes -/
def Ind (l : Addr) (R : Rp d) : Prop := ∀ v H xs ys, H l = some (.lst xs) → R.p v H → R.p v (upd H l (.lst ys))
theorem ind_I {l : Addr} {n : Int} : Ind l (rI (d := d) n) := fun _ _ _ _ _ h => h
theorem ind_B {l : Addr} {n : Bool} : Ind l (rB (d := d) n) := fun _ _ _ _ _ h => h
theorem ind_any {l : Addr} : Ind l (rAny (d := d)) := fun _ _ _ _ _ h => h
theorem ind_drw {l : Addr} : Ind l (drw (d := d)) := fun _ _ _ _ _ h => h
theorem ind_dat {l : Addr} {K : PySem.W.Frag} {w : D} : Ind l (dat (d := d) K w) := fun _ _ _ _ hl h => h.tk (Tk.lst hl)
theorem ind_ex {l : Addr} {α : Type} {P : α → Prop} {Rz : α → Rp d} (h : ∀ z, Ind l (Rz z)) : Ind l (exR P Rz) := fun v H xs ys hl ⟨z, hz, q⟩ => ⟨z, hz, h z v H xs ys hl q⟩
theorem ind_own {l l' : Addr} {K : PySem.W.Frag} {ds : List D} (hne : l' ≠ l) : Ind l (own (d := d) K l' ds) := fun v H xs ys hl ⟨h1, h2, us, h3, h4⟩ => ⟨h1, h2, us, by rw [upd_ne hne]; exact h3, h4.tk (Tk.lst hl)⟩
theorem ind_lstA {l l' : Addr} {K : PySem.W.Frag} {ds : List D} (hne : l' ≠ l) : Ind l (lstA (d := d) K l' ds) := fun v H xs ys hl ⟨h1, h2, us, h3, h4⟩ => ⟨h1, h2, us, by
  rcases h3 with ⟨k, h⟩ | ⟨o, h⟩ | h
  · exact .inl ⟨k, by rw [upd_ne hne]; exact h⟩
  · exact .inr (.inl ⟨o, by rw [upd_ne hne]; exact h⟩)
  · exact .inr (.inr h), h4.tk (Tk.lst hl)⟩
/-- every slot (but i) stands -/
def IndA (l : Addr) (r : Ro d) : Prop := ∀ (j : Nat) (R : Rp d), r[j]? = some (some R) → Ind l R
def IndBut (l : Addr) (i : Nat) (r : Ro d) : Prop := ∀ (j : Nat) (R : Rp d), j ≠ i → r[j]? = some (some R) → Ind l R
theorem ia_nil {l : Addr} : IndA l ([] : Ro d) := fun j R h => by cases h
theorem ia_none {l : Addr} {r : Ro d} (h : IndA l r) : IndA l (none :: r) := fun j R e => by
  cases j with
  | zero => cases e
  | succ j => exact h j R e
theorem ia_some {l : Addr} {r : Ro d} {R : Rp d} (w : Ind l R) (h : IndA l r) : IndA l (some R :: r) := fun j R' e => by
  cases j with
  | zero => cases e; exact w
  | succ j => exact h j R' e
theorem ib_here {l : Addr} {o : Option (Rp d)} {r : Ro d} (h : IndA l r) : IndBut l 0 (o :: r) := fun j R hj e => by
  cases j with
  | zero => exact absurd rfl hj
  | succ j => exact h j R e
theorem ib_none {l : Addr} {i : Nat} {r : Ro d} (h : IndBut l i r) : IndBut l (i + 1) (none :: r) := fun j R hj e => by
  cases j with
  | zero => cases e
  | succ j => exact h j R (fun z => hj (by rw [z])) e
theorem ib_some {l : Addr} {i : Nat} {r : Ro d} {R : Rp d} (w : Ind l R) (h : IndBut l i r) : IndBut l (i + 1) (some R :: r) := fun j R' hj e => by
  cases j with
  | zero => cases e; exact w
  | succ j => exact h j R' (fun z => hj (by rw [z])) e
theorem st_own {K : PySem.W.Frag} {l : Addr} {ds ds' : List D} {vs' : List V} {i : Nat} {σ : L2.St} {H : Hp} (s : St B ρ σ H) (hi : ρ[i]? = some (some (own K l ds))) (hB : B l = none) (hb : IndBut l i ρ) (hd : DRl K H ds' vs') : St B (ρ.set i (some (own K l ds'))) σ (upd H l (.lst vs')) := by
  obtain ⟨v, h1, rfl, hl, vs, h2, h3⟩ := s.good.get hi
  refine ⟨s.ext.mut hB hl, fun a e => ?_, by simp [s.good.1], fun j R e => ?_⟩
  · obtain ⟨ns, hn, q⟩ := s.dr a e
    have : a ≠ l := fun z => hl (by rw [e, z])
    exact ⟨ns, hn, by rw [upd_ne this]; exact q⟩
  · by_cases hj : j = i
    · subst hj
      have hlt : j < ρ.length := (List.getElem?_eq_some_iff.mp hi).1
      rw [List.getElem?_set_self hlt] at e
      cases e
      exact ⟨_, h1, rfl, hl, vs', upd_same, hd.tk (Tk.lst h2)⟩
    · rw [List.getElem?_set_ne (fun z => hj z.symm)] at e
      obtain ⟨v', a1, a2⟩ := s.good.get e
      exact ⟨v', a1, hb j R hj e v' H vs vs' h2 a2⟩
/-- x.append(e), x in slot i -/
theorem bx_append (i : Nat) {x : Str} {p1 p2 p3 p4 : Pos} {K : PySem.W.Frag} {l : Addr} {ds : List D} {w : D} (hi : ρ[i]? = some (some (own K l ds))) (hK : X.K = K) (he : EX X B ρ e (dat K w)) (hB : B l = none) (hb : IndBut l i ρ) (hz : ds.length ≤ 1000) (h : BX X rest (St B (ρ.set i (some (own K l (ds ++ [w]))))) Po)
    (hN : X.N[i]? = some x := by rfl) (hv : Vis X.env.scope x := by first | exact Or.inl rfl | exact Or.inr (Or.inl rfl) | exact Or.inr (Or.inr rfl)) (hd : (x == ("__debug__" : Str)) = false := by decide) (hcd : (x == ("__classdict__" : Str)) = false := by decide)
    (hbase : attributeBase (.Name x p1) "append" X.env (eval (.Name x p1) X.env) = eval (.Name x p1) X.env := by rfl)
    (hfew : ((backTo p3 (starEach (e :: []) X.env)).all (fun x => !x.1) && (backToKw p3 (keywordEach [] X.env)).all (fun x => x.1.isSome)
      && decide ((e :: []).length + ([] : List Keyword).length + (if ([] : List Keyword).isEmpty then 0 else 1) < 30)) = true := by rfl)
    (hline : (p2.endLine == p3.line) = true := by rfl) (hs : starEach (e :: []) X.env = (false, eval e X.env) :: starEach [] X.env := by rfl) (hplain : (backTo p3 (starEach [] X.env)).any (·.1) = false := by rfl)
    (hsw : swapsWith (.Call (.Attribute (.Name x p1) "append" p2) [e] [] p3) none p4.line X.env = pure false := by rfl) :
    BX X (.Expr (.Call (.Attribute (.Name x p1) "append" p2) [e] [] p3) p4 :: rest) (St B ρ) Po := by
  subst hK
  refine bx_cons (Mid := St B (ρ.set i (some (own X.K l (ds ++ [w]))))) ?_ h
  refine PS_wk (ps_expr (pe_bm PySem.F.plainAttrs_list PySem.F.slot_list_append PySem.F.type_list_append mt_append (pe_var hN hv hd hcd) (a_cons he a_nil hs) hbase hfew hline hs hplain) hsw) fun E σ H ⟨s, q⟩ => ?_
  obtain ⟨v, h1, rfl, hl, vs, h2, h3⟩ := s.good.get hi
  refine ⟨_, h1, Or.inl ⟨rfl, _, SqL.of h2⟩, s, fun us H1 e1 hus => ?_⟩
  obtain ⟨y, rfl, hy⟩ := hus.one
  have s1 := s.mono e1
  have g2 := e1.at h2 hl
  refine ⟨l, vs, y, rfl, rfl, g2, small1000 (by rw [← h3.1]; exact hz), ?_⟩
  exact q.nx σ _ (e1.tk.trans (Tk.lst g2)) (st_own s1 hi hB hb ((h3.tk e1.tk).snoc hy))
/-- x[k] = e, x in slot i -/
theorem bx_setitem (i : Nat) {x : Str} {p1 p2 p3 : Pos} {K : PySem.W.Frag} {l : Addr} {ds : List D} {w : D} {k : Nat} (hi : ρ[i]? = some (some (own K l ds))) (hK : X.K = K) (he : EX X B ρ e (dat K w)) (hk : EX X B ρ b (rI (k : Int))) (hkl : k < ds.length) (hB : B l = none) (hb : IndBut l i ρ) (h : BX X rest (St B (ρ.set i (some (own K l (ds.set k w))))) Po)
    (hN : X.N[i]? = some x := by rfl) (hv : Vis X.env.scope x := by first | exact Or.inl rfl | exact Or.inr (Or.inl rfl) | exact Or.inr (Or.inr rfl)) (hd : (x == ("__debug__" : Str)) = false := by decide) (hcd : (x == ("__classdict__" : Str)) = false := by decide)
    (ha : ∀ v, assign (.Subscript (.Name x p1) b p2) X.env v = (do
      let ov ← holding [v] (eval (.Name x p1) X.env)
      let iv ← holding [v, ov] (eval b X.env)
      standAt p2
      holding [v, ov, iv] (setItem ov iv v)
      release [v, ov, iv] []) := by intro _; rfl)
    (hs : swapsWithSole [.Subscript (.Name x p1) b p2] e p3.line X.env = pure false := by rfl) (hw : swappedStores [.Subscript (.Name x p1) b p2] e X.env = pure none := by rfl) (h1 : (assignEach [.Subscript (.Name x p1) b p2] X.env).map (·.2) = [assign (.Subscript (.Name x p1) b p2) X.env] := by rfl) :
    BX X (.Assign [.Subscript (.Name x p1) b p2] e p3 :: rest) (St B ρ) Po := by
  subst hK
  refine bx_cons (Mid := St B (ρ.set i (some (own X.K l (ds.set k w))))) ?_ h
  refine PS_wk (ps_asg he (pg_sub (pe_var hN hv hd hcd) hk set_list ha) hs hw h1) fun E σ H ⟨s, q⟩ => ⟨s, fun y H1 e1 hy => ?_⟩
  have s1 := s.mono e1
  obtain ⟨v, a1, rfl, hl, vs, a2, a3⟩ := s1.good.get hi
  refine ⟨_, a1, s1, fun iv H2 e2 hiv => ?_⟩
  have s2 := s1.mono e2
  have g2 := e2.at a2 hl
  have a3' := a3.tk e2.tk
  have hkv : k < vs.length := by rw [← a3.1]; exact hkl
  refine ⟨l, vs, k, k, rfl, hiv, g2, by unfold ixN; rw [if_pos (by omega), if_pos (by omega)]; simp, ?_⟩
  refine q.nx σ _ ((e1.tk.trans e2.tk).trans (Tk.lst g2)) (st_own s2 hi hB hb ⟨by simp [a3.1], fun j e' v' b1 b2 => ?_⟩)
  by_cases hj : k = j
  · subst hj
    rw [List.getElem?_set_self hkl] at b1
    rw [List.getElem?_set_self hkv] at b2
    cases b1; cases b2
    exact DR.tk e2.tk hy
  · rw [List.getElem?_set_ne hj] at b1 b2
    exact a3'.2 j e' v' b1 b2
/-- x[k] += e, a list of ints, the place and the number told by P and S -/
theorem bx_augitem (i : Nat) {x : Str} {p1 p2 p3 : Pos} {K : PySem.W.Frag} {l : Addr} {ns : List Int} {P : Int → Prop} (hi : ρ[i]? = some (some (own K l (ns.map D.i)))) (hK : X.K = K) (hk : EX X B ρ b (iE P)) (hP : ∀ k, P k → 0 ≤ k ∧ k < ns.length) (he : EX X B ρ e (rI n)) (hB : B l = none) (hb : IndBut l i ρ)
    (h : ∀ (k : Nat) (z : Int), P k → ns[k]? = some z → BX X rest (St B (ρ.set i (some (own K l ((ns.set k (z + n)).map D.i))))) Po)
    (hN : X.N[i]? = some x := by rfl) (hv : Vis X.env.scope x := by first | exact Or.inl rfl | exact Or.inr (Or.inl rfl) | exact Or.inr (Or.inr rfl)) (hd : (x == ("__debug__" : Str)) = false := by decide) (hcd : (x == ("__classdict__" : Str)) = false := by decide)
    (ha : ∀ ov iv new, augStore b ov iv new = (do holding [new, ov, iv] (setItem ov iv new); release [new, ov, iv] []; pure .next) := by intros; rfl) :
    BX X (.AugAssign (.Subscript (.Name x p1) b p2) .Add e p3 :: rest) (St B ρ) Po := by
  subst hK
  refine bx_cons (Mid := fun σ H => ∃ kz : Nat × Int, (P kz.1 ∧ ns[kz.1]? = some kz.2) ∧ St B (ρ.set i (some (own X.K l ((ns.set kz.1 (kz.2 + n)).map D.i)))) σ H) ?_ (bx_ex fun kz hkz => h kz.1 kz.2 hkz.1 hkz.2)
  refine PS_wk (ps_augS (pe_var hN hv hd hcd) hk get_list he ip_add set_list ha) fun E σ H ⟨s, q⟩ => ?_
  obtain ⟨v, a1, rfl, hl, vs, a2, a3⟩ := s.good.get hi
  refine ⟨_, a1, s, fun iv H1 e1 ⟨k, hPk, hiv⟩ => ?_⟩
  obtain ⟨h0, hkl⟩ := hP k hPk
  obtain ⟨j, rfl⟩ : ∃ j : Nat, k = (j : Int) := ⟨k.toNat, by omega⟩
  have hj : j < ns.length := by omega
  obtain rfl := a3.ints
  have g2 := e1.at a2 hl
  obtain rfl : iv = .int (j : Int) := hiv
  have hz : (ns.map V.int)[j]? = some (.int ns[j]) := by rw [List.getElem?_map, List.getElem?_eq_getElem hj]; rfl
  refine ⟨l, ns.map V.int, j, .int ns[j], rfl, rfl, SqL.of g2, atI_nat hz, s.mono e1, fun y H2 e2 hy => ?_⟩
  obtain rfl : y = .int n := hy
  have g3 := e2.at g2 hl
  refine ⟨ns[j], n, rfl, rfl, l, ns.map V.int, j, j, rfl, rfl, g3, by unfold ixN; rw [if_pos (by omega), if_pos (by rw [List.length_map]; omega)]; simp, ?_⟩
  refine q.nx σ _ ((e1.tk.trans e2.tk).trans (Tk.lst g3)) ⟨(j, ns[j]), ⟨hPk, List.getElem?_eq_getElem hj⟩, ?_⟩
  refine st_own ((s.mono e1).mono e2) hi hB hb ?_
  have eq : (ns.map V.int).set j (.int (ns[j] + n)) = (ns.set j (ns[j] + n)).map V.int := by rw [List.map_set]
  rw [eq]
  exact DRl.of_ints _
end
end Cv

namespace Cv
open PySem PySem.Spec PyProof.Rows L2 RZ
section
variable {d : Option Addr} {X : Cx} {B : Hp} {ρ ρ' : Ro d} {a b c e iter elt : Expr} {es : List Expr} {R R' Ra Rb : Rp d} {Rs : List (Rp d)} {pos : Pos} {m n : Int} {st : Stmt} {rest body orelse : List Stmt} {Pre Mid : L2.St → Hp → Prop} {Po : Ends}
/-! ### comprehensions -/
theorem wipe1 (σ : L2.St) (j : Nat) (x : V) : wipe ((wipe σ [j]).set j (some x)) [j] = wipe σ [j] := by
  show ((σ.set j none).set j (some x)).set j none = σ.set j none
  rw [List.set_set, List.set_set]
/-- the items so far, in the new list at D -/
def Lc (H1 : Hp) (K : PySem.W.Frag) (Dl : Addr) (d : Option Addr) (P : Nat → D → Prop) (i : Nat) (H : Hp) : Prop :=
  Ext d H1 H ∧ ∃ vs ds, H Dl = some (.lst vs) ∧ DRl K H ds vs ∧ ds.length = i ∧ ∀ k w, ds[k]? = some w → P k w
theorem lc_step {H1 H H2 : Hp} {K : PySem.W.Frag} {Dl : Addr} {P : Nat → D → Prop} {i : Nat} {y : V} (hn : H1 Dl = none) (hd : some Dl ≠ d) (h : Lc H1 K Dl d P i H) (e : Ext d H H2) (hy : ∃ w, P i w ∧ DR K H2 w y) (hi : i < 2000) :
    ∃ acc, H2 Dl = some (.lst acc) ∧ acc.length < sizeLine ∧ Lc H1 K Dl d P (i + 1) (upd H2 Dl (.lst (acc ++ [y]))) := by
  obtain ⟨h0, vs, ds, h1, h2, h3, h4⟩ := h
  obtain ⟨w, hw, hr⟩ := hy
  have g := e.at h1 hd
  refine ⟨vs, g, Nat.lt_of_lt_of_le (show vs.length < 2000 by rw [← h2.1, h3]; exact hi) (by decide), (h0.trans e).mut hn hd, _, ds ++ [w], upd_same, ((h2.tk e.tk).snoc hr).tk (Tk.lst g), by simp [h3], fun k u hk => ?_⟩
  by_cases hlt : k < ds.length
  · rw [List.getElem?_append_left hlt] at hk
    exact h4 k u hk
  · rw [List.getElem?_append_right (by omega)] at hk
    have : k - ds.length = 0 := by
      cases q : k - ds.length with
      | zero => rfl
      | succ z => rw [q] at hk; simp at hk
    rw [this] at hk
    cases hk
    have : k = i := by omega
    subst this
    exact hw
def tElt {Z : Type} (B : Hp) (K : PySem.W.Frag) (pr : Z → Ro d) (S : Z → Prop) (P : Z → D → Prop) : TE := fun σ H Q => ∃ z, S z ∧ St B (pr z) σ H ∧ ∀ v H', Ext d H H' → (∃ w, P z w ∧ DR K H' w v) → Q v H'
theorem elt_of {Z : Type} {K : PySem.W.Frag} {pr : Z → Ro d} {S : Z → Prop} {P : Z → D → Prop} {Y : Cx} (h : ∀ z, S z → EX Y B (pr z) elt (dE K (P z))) : PE Y elt (tElt B K pr S P) := ⟨fun pins s σ H Q I ⟨z, hz, st, q⟩ => (h z hz).run pins s σ H Q I ⟨st, fun v H' e1 hv => q v H' e1 hv⟩⟩
theorem st_wipe {σ : L2.St} {H : Hp} {j : Nat} {v : V} (s : St B ρ σ H) (h : R.p v H) : St B (ρ.set j (some R)) ((wipe σ [j]).set j (some v)) H := by
  have e : (wipe σ [j]).set j (some v) = σ.set j (some v) := by show (σ.set j none).set j (some v) = _; rw [List.set_set]
  rw [e]
  exact ⟨s.ext, s.dr, s.good.set j h⟩
/-- [elt for x in range(e)] -/
theorem x_lcR {nn : Int} (j : Nat) {x : Str} {scope : Scope} {tpos p p2 : Pos} (P : Nat → D → Prop) (hg : Gl X "range") (hm : X.mg "range" = none) (hi : EX X B ρ e (rI nn)) (hn : nn < 2000 ∧ -(2 ^ 62) ≤ nn) (hN : X.N.Nodup) (hok : BlkOk X.N X.env.scope scope [(x, j)])
    (hgn : ∀ (s : Shared) (H : Hp) (C : Addr) (cl : List (Str × Addr)) (fp : List Addr), PG (X.blk s H scope (compEnvC scope cl C X.env) fp) (.Name x tpos) (gName j))
    (hb : ∀ (s : Shared) (H : Hp) (C : Addr) (cl : List (Str × Addr)) (fp : List Addr) (i : Nat), (i : Int) < nn → EX (X.blk s H scope (compEnvC scope cl C X.env) fp) B (ρ.set j (some (rI (i : Int)))) elt (dE X.K (P i)))
    (hc : X.calm = true := by rfl) (he : starEach [e] X.env = [(false, eval e X.env)] := by rfl) (hs : ∀ x, foldedSetIterable (.Call (.Name "range" p) [e] [] p2) X.env x = pure x := by intro _; rfl) :
    EX X B ρ (.ListComp elt [⟨.Name x tpos, .Call (.Name "range" p) [e] [] p2, [], 0⟩] scope pos) (newE B X.K fun ds => ds.length = nn.toNat ∧ ∀ k w, ds[k]? = some w → P k w) := by
  refine PE_wk (pe_lc (own := [(x, j)]) (g := gName j) (tt := tYes) (te := tElt (Z := Nat) B X.K (fun i => ρ.set j (some (rI (i : Int)))) (fun i => (i : Int) < nn) P) hc hN (pi_range1 hg hm (a_cons hi a_nil he) he) hok hgn (fun _ _ _ _ _ => pts_nil) (fun s H C cl fp => elt_of fun i hi' => hb s H C cl fp i hi') hs) fun σ H Q ⟨s, q⟩ => ⟨s, fun vs H1 e1 hv => ?_⟩
  obtain ⟨v, rfl, hv'⟩ := hv.one
  obtain rfl : v = .int nn := hv'
  have s1 := s.mono e1
  refine ⟨nn, rfl, hn.2, by have := hn.1; omega, fun Dl hD => ?_⟩
  obtain ⟨hB, hDd⟩ := s1.fresh hD
  refine lc_range (lo := 0) (n := nn.toNat) (Lc H1 X.K Dl d P) ⟨Ext.new hD, [], [], upd_same, DRl.nil, rfl, fun k w h => by cases h⟩ (fun i H' hlt L => ?_) (fun H' L => ?_)
  · refine ⟨wipe1 _ _ _, ?_⟩
    refine ⟨i, by omega, ?_, fun y H2 e2 hy => lc_step hD hDd L e2 hy (by have := hn.1; omega)⟩
    rw [Int.zero_add]
    exact st_wipe (s1.mono L.1) (R := rI (i : Int)) rfl
  · obtain ⟨h0, us, ds, h1, h2, h3, h4⟩ := L
    exact q _ H' (e1.trans h0) ⟨ds, ⟨h3, h4⟩, Dl, hB, rfl, hDd, us, h1, h2⟩
/-- [elt for x in t] -/
theorem x_lcT {src : List D} (j : Nat) {x : Str} {scope : Scope} {tpos : Pos} (P : Nat → D → Prop) (hi : EX X B ρ iter (dat X.K (.t src))) (hn : src.length < 2000) (hN : X.N.Nodup) (hok : BlkOk X.N X.env.scope scope [(x, j)])
    (hgn : ∀ (s : Shared) (H : Hp) (C : Addr) (cl : List (Str × Addr)) (fp : List Addr), PG (X.blk s H scope (compEnvC scope cl C X.env) fp) (.Name x tpos) (gName j))
    (hb : ∀ (s : Shared) (H : Hp) (C : Addr) (cl : List (Str × Addr)) (fp : List Addr) (i : Nat) (w : D), src[i]? = some w → EX (X.blk s H scope (compEnvC scope cl C X.env) fp) B (ρ.set j (some (dat X.K w))) elt (dE X.K (P i)))
    (hc : X.calm = true := by rfl) (hs : ∀ x, foldedSetIterable iter X.env x = pure x := by intro _; rfl) :
    EX X B ρ (.ListComp elt [⟨.Name x tpos, iter, [], 0⟩] scope pos) (newE B X.K fun ds => ds.length = src.length ∧ ∀ k w, ds[k]? = some w → P k w) := by
  refine PE_wk (pe_lc (own := [(x, j)]) (g := gName j) (tt := tYes) (te := tElt (Z := Nat × D) B X.K (fun z => ρ.set j (some (dat X.K z.2))) (fun z => src[z.1]? = some z.2) (fun z => P z.1)) hc hN (pi_tup hi) hok hgn (fun _ _ _ _ _ => pts_nil) (fun s H C cl fp => elt_of fun z hz => hb s H C cl fp z.1 z.2 hz) hs) fun σ H Q ⟨s, q⟩ => ⟨s, fun v H1 e1 hv => ?_⟩
  obtain ⟨t, us, rfl, g1, g2⟩ := DR.tup hv
  have s1 := s.mono e1
  refine ⟨t, rfl, ⟨us, g1⟩, fun Dl hD => ?_⟩
  obtain ⟨hB, hDd⟩ := s1.fresh hD
  refine lc_tup (K := X.K) (a := t) (xs := us) (Lc H1 X.K Dl d P) ⟨Ext.new hD, [], [], upd_same, DRl.nil, rfl, fun k w h => by cases h⟩ (fun i H' _ L => L.1.tk.sqT g1) (fun i y H' hy L => ?_) (fun H' L => ?_)
  · obtain ⟨w, hw, hr⟩ := g2.getV hy
    refine ⟨wipe1 _ _ _, ?_⟩
    exact ⟨(i, w), hw, st_wipe (s1.mono L.1) (R := dat X.K w) (hr.tk L.1.tk), fun y H2 e2 hy => lc_step hD hDd L e2 hy (Nat.lt_trans (List.getElem?_eq_some_iff.mp hw).1 hn)⟩
  · obtain ⟨h0, vs, ds, h1, h2, h3, h4⟩ := L
    exact q _ H' (e1.trans h0) ⟨ds, ⟨by rw [h3, g2.1], h4⟩, Dl, hB, rfl, hDd, vs, h1, h2⟩
/-- [elt for x in xs], xs a list at l -/
theorem x_lcL {src : List D} {l : Addr} (j : Nat) {x : Str} {scope : Scope} {tpos : Pos} (P : Nat → D → Prop) (hi : EX X B ρ iter (lstA X.K l src)) (hn : src.length < 2000) (hN : X.N.Nodup) (hok : BlkOk X.N X.env.scope scope [(x, j)])
    (hgn : ∀ (s : Shared) (H : Hp) (C : Addr) (cl : List (Str × Addr)) (fp : List Addr), PG (X.blk s H scope (compEnvC scope cl C X.env) fp) (.Name x tpos) (gName j))
    (hb : ∀ (s : Shared) (H : Hp) (C : Addr) (cl : List (Str × Addr)) (fp : List Addr) (i : Nat) (w : D), src[i]? = some w → EX (X.blk s H scope (compEnvC scope cl C X.env) fp) B (ρ.set j (some (dat X.K w))) elt (dE X.K (P i)))
    (hc : X.calm = true := by rfl) (hs : ∀ x, foldedSetIterable iter X.env x = pure x := by intro _; rfl) :
    EX X B ρ (.ListComp elt [⟨.Name x tpos, iter, [], 0⟩] scope pos) (newE B X.K fun ds => ds.length = src.length ∧ ∀ k w, ds[k]? = some w → P k w) := by
  refine PE_wk (pe_lc (own := [(x, j)]) (g := gName j) (tt := tYes) (te := tElt (Z := Nat × D) B X.K (fun z => ρ.set j (some (dat X.K z.2))) (fun z => src[z.1]? = some z.2) (fun z => P z.1)) hc hN (pi_list hi) hok hgn (fun _ _ _ _ _ => pts_nil) (fun s H C cl fp => elt_of fun z hz => hb s H C cl fp z.1 z.2 hz) hs) fun σ H Q ⟨s, q⟩ => ⟨s, fun v H1 e1 hv => ?_⟩
  obtain ⟨rfl, hld, us, g1, g2⟩ := hv
  have s1 := s.mono e1
  refine ⟨l, rfl, ⟨us, g1.sq⟩, fun Dl hD => ?_⟩
  obtain ⟨hB, hDd⟩ := s1.fresh hD
  refine lc_list (K := X.K) (a := l) (xs := us) (Lc H1 X.K Dl d P) ⟨Ext.new hD, [], [], upd_same, DRl.nil, rfl, fun k w h => by cases h⟩ (fun i H' _ L => (g1.ext L.1).sq) (fun i y H' hy L => ?_) (fun H' L => ?_)
  · obtain ⟨w, hw, hr⟩ := g2.getV hy
    refine ⟨wipe1 _ _ _, ?_⟩
    exact ⟨(i, w), hw, st_wipe (s1.mono L.1) (R := dat X.K w) (hr.tk L.1.tk), fun y H2 e2 hy => lc_step hD hDd L e2 hy (Nat.lt_trans (List.getElem?_eq_some_iff.mp hw).1 hn)⟩
  · obtain ⟨h0, vs, ds, h1, h2, h3, h4⟩ := L
    exact q _ H' (e1.trans h0) ⟨ds, ⟨by rw [h3, g2.1], h4⟩, Dl, hB, rfl, hDd, vs, h1, h2⟩
/-- what is told of each item makes the list, where it is one thing -/
theorem ds_of {F : Nat → D} : ∀ {ds : List D} {n : Nat}, ds.length = n → (∀ k w, ds[k]? = some w → w = F k) → ds = (List.range n).map F := fun {ds n} h1 h2 => by
  apply List.ext_getElem?
  intro i
  rw [List.getElem?_map, ]
  by_cases hi : i < n
  · rw [List.getElem?_range hi, List.getElem?_eq_getElem (by rw [h1]; exact hi)]
    show _ = some (F i)
    rw [← h2 i _ (List.getElem?_eq_getElem (by rw [h1]; exact hi))]
  · rw [List.getElem?_eq_none (by rw [h1]; exact Nat.le_of_not_lt hi), List.getElem?_eq_none (by rw [List.length_range]; exact Nat.le_of_not_lt hi)]
    rfl
theorem ints_of {P : Nat → Int → Prop} : ∀ {ds : List D}, (∀ k w, ds[k]? = some w → ∃ z, w = .i z ∧ P k z) → ∃ ns : List Int, ds = ns.map D.i ∧ ∀ k z, ns[k]? = some z → P k z := fun {ds} => by
  induction ds generalizing P with
  | nil => exact fun _ => ⟨[], rfl, fun k z h => by cases h⟩
  | cons e ds ih =>
    intro h
    obtain ⟨z, rfl, hz⟩ := h 0 e rfl
    obtain ⟨ns, rfl, hns⟩ := ih (P := fun k => P (k + 1)) fun k w hk => h (k + 1) w hk
    refine ⟨z :: ns, rfl, fun k y hk => ?_⟩
    cases k with
    | zero => cases hk; exact hz
    | succ k => exact hns k y hk
/-! ### a list times a number; a range's list; reverse -/
theorem x_rep {l0 : List D} (ha : EX X B ρ a (newL B X.K l0)) (hb : EX X B ρ b (rI n)) (hn : l0.length * n.toNat ≤ 1000) (h1 : -(2 ^ 62) ≤ n ∧ n < 2 ^ 62) : EX X B ρ (.BinOp a .Mult b pos) (newL B X.K (List.replicate n.toNat l0).flatten) :=
  x_op2 op_rep ha hb fun x y H σ Q s hx hy q => by
    obtain ⟨l, _, rfl, hl, vs, g1, g2⟩ := hx
    refine ⟨l, n, vs, rfl, hy, g1, by omega, by omega, by rw [← g2.1]; exact Nat.le_of_lt (small1000 hn), fun p hp => q _ _ (Ext.new hp) ?_⟩
    obtain ⟨hB, hpd⟩ := s.fresh hp
    refine ⟨p, hB, rfl, hpd, _, upd_same, DRl.tk (Ext.new (d := d) hp).tk ?_⟩
    have key : ∀ k : Nat, DRl X.K H (List.replicate k l0).flatten (List.replicate k vs).flatten := fun k => by
      induction k with
      | zero => exact DRl.nil
      | succ k ih =>
        rw [List.replicate_succ, List.replicate_succ, List.flatten_cons, List.flatten_cons]
        refine ⟨by rw [List.length_append, List.length_append, g2.1, ih.1], fun i e' v' h1 h2 => ?_⟩
        by_cases hi : i < l0.length
        · rw [List.getElem?_append_left hi] at h1
          rw [List.getElem?_append_left (by rw [← g2.1]; exact hi)] at h2
          exact g2.2 i e' v' h1 h2
        · rw [List.getElem?_append_right (by omega)] at h1
          rw [List.getElem?_append_right (by rw [← g2.1]; omega), ← g2.1] at h2
          exact ih.2 _ e' v' h1 h2
    exact key n.toNat
theorem x_listR {p p2 p3 : Pos} (hg : Gl X "list") (hm : X.mg "list" = none) (hg2 : Gl X "range") (hm2 : X.mg "range" = none) (hi : EX X B ρ e (rI n)) (hn : 0 ≤ n ∧ n ≤ 1000) (hc : X.calm = true := by rfl) (na : starEach [e] X.env = (false, eval e X.env) :: starEach [] X.env := by rfl)
    (na2 : starEach [.Call (.Name "range" p2) [e] [] p3] X.env = (false, eval (.Call (.Name "range" p2) [e] [] p3) X.env) :: starEach [] X.env := by rfl) : EX X B ρ (.Call (.Name "list" p) [.Call (.Name "range" p2) [e] [] p3] [] pos) (newL B X.K ((List.range n.toNat).map fun (i : Nat) => D.i (i : Int))) :=
  PE_wk (pe_listRg hc hg hm (prg_1 hg2 hm2 hi na) na2) fun σ H Q ⟨s, q⟩ => ⟨s, fun v H1 e1 hv => by
    obtain rfl : v = .int n := hv
    refine ⟨n, rfl, RgOk.of_le (by omega) (by omega) (by omega) (by omega), fun r hr => q _ _ (e1.trans (Ext.new hr)) ?_⟩
    obtain ⟨hB, hpd⟩ := (s.mono e1).fresh hr
    refine ⟨r, hB, rfl, hpd, _, upd_same, ?_⟩
    have e0 : rgV 0 n = ((List.range n.toNat).map fun (i : Nat) => (i : Int)).map V.int := by
      unfold rgV
      rw [List.map_map, Int.sub_zero]
      apply List.map_congr_left
      intro i _
      show V.int ((0 : Int) + (i : Nat)) = V.int (i : Int)
      rw [Int.zero_add]
    have e2 : ((List.range n.toNat).map fun (i : Nat) => D.i (i : Int)) = ((List.range n.toNat).map fun (i : Nat) => (i : Int)).map D.i := by rw [List.map_map]; rfl
    rw [e0, e2]
    exact DRl.of_ints _⟩
theorem x_tupR {p p2 p3 : Pos} (hg : Gl X "tuple") (hm : X.mg "tuple" = none) (hg2 : Gl X "range") (hm2 : X.mg "range" = none) (hi : EX X B ρ e (rI n)) (hn : 0 ≤ n ∧ n ≤ 1000) (hc : X.calm = true := by rfl) (na : starEach [e] X.env = (false, eval e X.env) :: starEach [] X.env := by rfl)
    (na2 : starEach [.Call (.Name "range" p2) [e] [] p3] X.env = (false, eval (.Call (.Name "range" p2) [e] [] p3) X.env) :: starEach [] X.env := by rfl) : EX X B ρ (.Call (.Name "tuple" p) [.Call (.Name "range" p2) [e] [] p3] [] pos) (dat X.K (tI ((List.range n.toNat).map fun (i : Nat) => (i : Int)))) :=
  PE_wk (pe_tupRg hc hg hm (prg_1 hg2 hm2 hi na) na2) fun σ H Q ⟨s, q⟩ => ⟨s, fun v H1 e1 hv => by
    obtain rfl : v = .int n := hv
    refine ⟨n, rfl, RgOk.of_le (by omega) (by omega) (by omega) (by omega), fun r hr => q _ _ (e1.trans (Ext.new hr)) ?_⟩
    have e0 : rgV 0 n = ((List.range n.toNat).map fun (i : Nat) => (i : Int)).map V.int := by
      unfold rgV
      rw [List.map_map, Int.sub_zero]
      apply List.map_congr_left
      intro i _
      show V.int ((0 : Int) + (i : Nat)) = V.int (i : Int)
      rw [Int.zero_add]
    rw [e0]
    exact DR.of_tup (SqT.of upd_same) (DRl.of_ints _)⟩
/-- x.reverse(), x in slot i -/
theorem bx_reverse (i : Nat) {x : Str} {p1 p2 p3 p4 : Pos} {K : PySem.W.Frag} {l : Addr} {ds : List D} (hi : ρ[i]? = some (some (own K l ds))) (hK : X.K = K) (hB : B l = none) (hb : IndBut l i ρ) (h : BX X rest (St B (ρ.set i (some (own K l ds.reverse)))) Po)
    (hN : X.N[i]? = some x := by rfl) (hv : Vis X.env.scope x := by first | exact Or.inl rfl | exact Or.inr (Or.inl rfl) | exact Or.inr (Or.inr rfl)) (hd : (x == ("__debug__" : Str)) = false := by decide) (hcd : (x == ("__classdict__" : Str)) = false := by decide)
    (hbase : attributeBase (.Name x p1) "reverse" X.env (eval (.Name x p1) X.env) = eval (.Name x p1) X.env := by rfl) (hline : (p2.endLine == p3.line) = true := by rfl)
    (hsw : swapsWith (.Call (.Attribute (.Name x p1) "reverse" p2) [] [] p3) none p4.line X.env = pure false := by rfl) :
    BX X (.Expr (.Call (.Attribute (.Name x p1) "reverse" p2) [] [] p3) p4 :: rest) (St B ρ) Po := by
  subst hK
  refine bx_cons (Mid := St B (ρ.set i (some (own X.K l ds.reverse)))) ?_ h
  refine PS_wk (ps_expr (pe_bm0 PySem.F.plainAttrs_list PySem.F.slot_list_reverse PySem.F.type_list_reverse mt_reverse (pe_var hN hv hd hcd) hbase hline) hsw) fun E σ H ⟨s, q⟩ => ?_
  obtain ⟨v, h1, rfl, hl, vs, h2, h3⟩ := s.good.get hi
  refine ⟨_, h1, Or.inl ⟨rfl, _, SqL.of h2⟩, l, vs, rfl, rfl, h2, ?_⟩
  refine q.nx σ _ (Tk.lst h2) (st_own s hi hB hb ⟨by simp [h3.1], fun j e' v' b1 b2 => ?_⟩)
  have hj : j < ds.length := by
    have := (List.getElem?_eq_some_iff.mp b1).1
    simpa using this
  rw [List.getElem?_reverse hj] at b1
  rw [List.getElem?_reverse (by rw [← h3.1]; exact hj), ← h3.1] at b2
  exact h3.2 _ e' v' b1 b2
end
end Cv

namespace Cv
open PySem PySem.Spec PyProof.Rows L2 RZ
/-! ### data compared -/
mutual
def D.py : D → PyData
  | .i n => .int n
  | .b k => .bool k
  | .n => .none
  | .s x => .str x
  | .t xs => .tuple (pyL xs)
def pyL : List D → List PyData
  | [] => []
  | e :: r => e.py :: pyL r
end
theorem dpAll_of {K : PySem.W.Frag} {H : Hp} : ∀ {ds : List D} {vs : List V}, ds.length = vs.length → (∀ (i : Nat) (e : D) (v : V), ds[i]? = some e → vs[i]? = some v → Dp K H v e.py) → DpAll K H vs (pyL ds)
  | [], [], _, _ => .nil
  | [], _ :: _, h, _ => absurd h (by simp)
  | _ :: _, [], h, _ => absurd h (by simp)
  | e :: ds, v :: vs, h, g => .cons (g 0 e v rfl rfl) (dpAll_of (by simpa using h) fun i e' v' a b => g (i + 1) e' v' a b)
theorem dp_of {K : PySem.W.Frag} {H : Hp} {e : D} {v : V} (h : DR K H e v) : Dp K H v e.py := by
  induction h with
  | i n => exact .int n
  | b k => exact .bl k
  | n => exact .non
  | s x => exact .str x
  | t h hl _ ih => exact .tup h (dpAll_of hl ih)
/-- plain data (no bools) of a depth -/
inductive Shp : Nat → D → Prop
  | i {k : Nat} (n : Int) : Shp k (.i n)
  | n {k : Nat} : Shp k .n
  | s {k : Nat} (x : Str) (h : PyData.strOk x = true) : Shp k (.s x)
  | t {k : Nat} {xs : List D} (h : ∀ e ∈ xs, Shp k e) : Shp (k + 1) (.t xs)
theorem shpL {k : Nat} : ∀ {xs : List D}, (∀ e ∈ xs, e.py.canLay0 = true ∧ e.py.depth ≤ k) → PyData.canLayAll0 (pyL xs) = true ∧ PyData.depthAll (pyL xs) ≤ k
  | [], _ => ⟨by simp [pyL, PyData.canLayAll0], by simp [pyL, PyData.depthAll]⟩
  | e :: r, h => by
    obtain ⟨h1, h2⟩ := h e List.mem_cons_self
    obtain ⟨h3, h4⟩ := shpL (xs := r) fun e' he => h e' (List.mem_cons_of_mem _ he)
    refine ⟨?_, ?_⟩
    · simp only [pyL, PyData.canLayAll0, h1, h3, Bool.and_self]
    · simp only [pyL, PyData.depthAll]
      exact Nat.max_le.mpr ⟨h2, h4⟩
theorem Shp.lay {k : Nat} {e : D} (h : Shp k e) : e.py.canLay0 = true ∧ e.py.depth ≤ k := by
  induction h with
  | i n => exact ⟨by simp [D.py, PyData.canLay0], by simp [D.py, PyData.depth]⟩
  | n => exact ⟨by simp [D.py, PyData.canLay0], by simp [D.py, PyData.depth]⟩
  | s x h => exact ⟨by simpa [D.py, PyData.canLay0] using h, by simp [D.py, PyData.depth]⟩
  | t _ ih =>
    obtain ⟨h1, h2⟩ := shpL ih
    exact ⟨by simpa [D.py, PyData.canLay0] using h1, by simpa [D.py, PyData.depth] using h2⟩
theorem Shp.shaped {k : Nat} {e : D} (h : Shp k e) (hk : k ≤ 64) : SeqAt.shaped e.py = true := by
  obtain ⟨h1, h2⟩ := h.lay
  unfold SeqAt.shaped
  rw [h1, Bool.true_and]
  exact decide_eq_true (Nat.le_trans h2 hk)
theorem eqvL : ∀ {xs ys : List D}, (∀ e ∈ xs, ∀ {f : D}, (∃ k, Shp k f) → (PyData.eqv e.py f.py = true ↔ e = f)) → (∀ f ∈ ys, ∃ k, Shp k f) → (PyData.eqvAll (pyL xs) (pyL ys) = true ↔ xs = ys)
  | [], [], _, _ => by simp [pyL, PyData.eqvAll]
  | [], _ :: _, _, _ => by simp [pyL, PyData.eqvAll]
  | _ :: _, [], _, _ => by simp [pyL, PyData.eqvAll]
  | x :: xs, y :: ys, h, g => by
    have h1 := h x List.mem_cons_self (f := y) (g y List.mem_cons_self)
    have h2 := eqvL (xs := xs) (ys := ys) (fun e he => h e (List.mem_cons_of_mem _ he)) fun f hf => g f (List.mem_cons_of_mem _ hf)
    simp only [pyL, PyData.eqvAll, Bool.and_eq_true, h1, h2, List.cons.injEq]
theorem Shp.eqv {k : Nat} {e : D} (h : Shp k e) : ∀ {f : D}, (∃ j, Shp j f) → (PyData.eqv e.py f.py = true ↔ e = f) := by
  induction h with
  | i n =>
    rintro f ⟨j, hf⟩
    cases hf with
    | i m => simp [D.py, PyData.eqv]
    | n => simp [D.py, PyData.eqv]
    | s y _ => simp [D.py, PyData.eqv]
    | t _ => simp [D.py, PyData.eqv]
  | n =>
    rintro f ⟨j, hf⟩
    cases hf with
    | i m => simp [D.py, PyData.eqv]
    | n => simp [D.py, PyData.eqv]
    | s y _ => simp [D.py, PyData.eqv]
    | t _ => simp [D.py, PyData.eqv]
  | s x _ =>
    rintro f ⟨j, hf⟩
    cases hf with
    | i m => simp [D.py, PyData.eqv]
    | n => simp [D.py, PyData.eqv]
    | s y _ => simp [D.py, PyData.eqv]
    | t _ => simp [D.py, PyData.eqv]
  | @t k xs _ ih =>
    rintro f ⟨j, hf⟩
    cases hf with
    | i m => simp [D.py, PyData.eqv]
    | n => simp [D.py, PyData.eqv]
    | s y _ => simp [D.py, PyData.eqv]
    | @t j' ys g =>
      have := eqvL (xs := xs) (ys := ys) (fun e he {f} hf => ih e he hf) fun f hf => ⟨_, g f hf⟩
      simpa [D.py, PyData.eqv] using this
theorem shp_tI {k : Nat} (ns : List Int) : Shp (k + 1) (tI ns) := .t fun e he => by
  obtain ⟨n, _, rfl⟩ := List.mem_map.mp he
  exact .i n
section
variable {d : Option Addr} {X : Cx} {B : Hp} {ρ ρ' : Ro d} {a b c e iter elt : Expr} {es : List Expr} {R R' Ra Rb : Rp d} {Rs : List (Rp d)} {pos : Pos} {m n : Int} {st : Stmt} {rest body orelse : List Stmt} {Pre Mid : L2.St → Hp → Prop} {Po : Ends}
theorem bool_iff {k : Bool} {P : Prop} [Decidable P] (h : k = true ↔ P) : k = decide P := by
  by_cases hp : P
  · rw [decide_eq_true hp]; exact h.mpr hp
  · rw [decide_eq_false hp]
    cases k with
    | true => exact absurd (h.mp rfl) hp
    | false => rfl
theorem t_eqD {x y : D} {k j : Nat} (hu : X.A.units + 64 < cLine) (ha : EX X B ρ a (dat X.K x)) (hb : EX X B ρ b (dat X.K y)) (hx : Shp k x) (hy : Shp j y) (hk : k ≤ 64 := by decide) (hj : j ≤ 64 := by decide) : TX X B ρ (.Compare a [.Eq] [b] pos) (fun q => q = true ↔ x = y) :=
  t_cmp (op_eqD hu) (nomark _) ha hb fun u v H σ Q _ hx' hy' q => ⟨x.py, y.py, dp_of hx', dp_of hy', hx.shaped hk, hy.shaped hj, q _ H (Ext.refl H) (hx.eqv ⟨_, hy⟩)⟩
theorem t_neD {x y : D} {k j : Nat} (hu : X.A.units + 64 < cLine) (ha : EX X B ρ a (dat X.K x)) (hb : EX X B ρ b (dat X.K y)) (hx : Shp k x) (hy : Shp j y) (hk : k ≤ 64 := by decide) (hj : j ≤ 64 := by decide) : TX X B ρ (.Compare a [.NotEq] [b] pos) (fun q => q = false ↔ x = y) :=
  t_cmp (op_neD hu) (nomark _) ha hb fun u v H σ Q _ hx' hy' q => ⟨x.py, y.py, dp_of hx', dp_of hy', hx.shaped hk, hy.shaped hj, q _ H (Ext.refl H) (by have := hx.eqv ⟨_, hy⟩; rw [← this]; cases PyData.eqv x.py y.py <;> simp)⟩
theorem x_eqD {x y : D} {k j : Nat} (hu : X.A.units + 64 < cLine) (ha : EX X B ρ a (dat X.K x)) (hb : EX X B ρ b (dat X.K y)) (hx : Shp k x) (hy : Shp j y) (hk : k ≤ 64 := by decide) (hj : j ≤ 64 := by decide) : EX X B ρ (.Compare a [.Eq] [b] pos) (exR (fun q => q = true ↔ x = y) rB) :=
  x_cmp (op_eqD hu) (nomark _) ha hb fun u v H σ Q _ hx' hy' q => ⟨x.py, y.py, dp_of hx', dp_of hy', hx.shaped hk, hy.shaped hj, q _ H (Ext.refl H) ⟨_, hx.eqv ⟨_, hy⟩, rfl⟩⟩
theorem t_isN {x : D} {K : PySem.W.Frag} {j : Nat} {p2 : Pos} (ha : EX X B ρ a (dat K x)) : TX X B ρ (.Compare a [.Is] [.Constant .none j p2] pos) (fun q => q = true ↔ x = .n) :=
  t_cmp op_isN (nomark _) ha (x_non (K := K)) fun u v H σ Q _ hx' hy' q => by
    cases hy'
    refine ⟨rfl, q _ H (Ext.refl H) ?_⟩
    cases hx' <;> simp
theorem x_isN {x : D} {K : PySem.W.Frag} {j : Nat} {p2 : Pos} (ha : EX X B ρ a (dat K x)) : EX X B ρ (.Compare a [.Is] [.Constant .none j p2] pos) (exR (fun q => q = true ↔ x = .n) rB) :=
  x_cmp op_isN (nomark _) ha (x_non (K := K)) fun u v H σ Q _ hx' hy' q => by
    cases hy'
    refine ⟨rfl, q _ H (Ext.refl H) ⟨_, ?_, rfl⟩⟩
    cases hx' <;> simp
theorem t_notN {x : D} {K : PySem.W.Frag} {j : Nat} {p2 : Pos} (ha : EX X B ρ a (dat K x)) : TX X B ρ (.Compare a [.IsNot] [.Constant .none j p2] pos) (fun q => q = false ↔ x = .n) :=
  t_cmp op_notN (nomark _) ha (x_non (K := K)) fun u v H σ Q _ hx' hy' q => by
    cases hy'
    refine ⟨rfl, q _ H (Ext.refl H) ?_⟩
    cases hx' <;> simp
theorem x_notN {x : D} {K : PySem.W.Frag} {j : Nat} {p2 : Pos} (ha : EX X B ρ a (dat K x)) : EX X B ρ (.Compare a [.IsNot] [.Constant .none j p2] pos) (exR (fun q => q = false ↔ x = .n) rB) :=
  x_cmp op_notN (nomark _) ha (x_non (K := K)) fun u v H σ Q _ hx' hy' q => by
    cases hy'
    refine ⟨rfl, q _ H (Ext.refl H) ⟨_, ?_, rfl⟩⟩
    cases hx' <;> simp
theorem t_neB {p q : Bool} (ha : EX X B ρ a (rB p)) (hb : EX X B ρ b (rB q)) : TX X B ρ (.Compare a [.NotEq] [b] pos) (is (!decide (p = q))) := t_cmp op_ne (nomark _) ha hb fun x y H σ Q _ hx hy k => by
  subst hx; subst hy
  exact ⟨rfl, k _ H (Ext.refl H) (by show (!decide (V.bl p = V.bl q)) = _; rw [dec_bl, Bool.beq_eq_decide_eq])⟩
theorem t_neBE {P S : Bool → Prop} (ha : EX X B ρ a (exR P rB)) (hb : EX X B ρ b (exR S rB)) : TX X B ρ (.Compare a [.NotEq] [b] pos) (fun k => ∃ p q, P p ∧ S q ∧ k = !decide (p = q)) := t_cmp op_ne (nomark _) ha hb fun x y H σ Q _ hx hy k => by
  obtain ⟨p, hp, hx⟩ := hx
  obtain ⟨q, hq, hy⟩ := hy
  subst hx; subst hy
  exact ⟨rfl, k _ H (Ext.refl H) ⟨p, q, hp, hq, by show (!decide (V.bl p = V.bl q)) = _; rw [dec_bl, Bool.beq_eq_decide_eq]⟩⟩
theorem t_eqBE {P S : Bool → Prop} (ha : EX X B ρ a (exR P rB)) (hb : EX X B ρ b (exR S rB)) : TX X B ρ (.Compare a [.Eq] [b] pos) (fun k => ∃ p q, P p ∧ S q ∧ k = decide (p = q)) := t_cmp op_eq (nomark _) ha hb fun x y H σ Q _ hx hy k => by
  obtain ⟨p, hp, hx⟩ := hx
  obtain ⟨q, hq, hy⟩ := hy
  subst hx; subst hy
  exact ⟨rfl, k _ H (Ext.refl H) ⟨p, q, hp, hq, by rw [dec_bl, Bool.beq_eq_decide_eq]⟩⟩
theorem x_B {k : Bool} (h : EX X B ρ e (rB k)) : EX X B ρ e (exR (is k) rB) := x_sub h fun v H hv => ⟨k, rfl, hv⟩
theorem t_valE {P : Bool → Prop} (h : EX X B ρ e (exR P rB)) (he : ∀ whole, isTrue e X.env whole = (do let v ← whole; standAt e.pos; holding [v] (truthy v)) := by intro _; rfl) : TX X B ρ e P :=
  PT_wk (pt_val h he) fun σ H Q ⟨s, q⟩ => ⟨s, fun v H' e1 ⟨k, hk, hv⟩ => ⟨k, hv, q k H' e1 hk⟩⟩
theorem t_eqE {P S : Int → Prop} (ha : EX X B ρ a (iE P)) (hb : EX X B ρ b (iE S)) : TX X B ρ (.Compare a [.Eq] [b] pos) (fun k => ∃ i j, P i ∧ S j ∧ k = decide (i = j)) := t_cmp op_eq (nomark _) ha hb fun x y H σ Q _ hx hy q => by
  obtain ⟨i, hi, hx⟩ := hx
  obtain ⟨j, hj, hy⟩ := hy
  subst hx; subst hy
  exact ⟨rfl, q _ H (Ext.refl H) ⟨i, j, hi, hj, by rw [dec_int, Bool.beq_eq_decide_eq]⟩⟩
/-! ### isinstance of data -/
def tyD : D → String
  | .i _ => "int"
  | .b _ => "bool"
  | .n => "NoneType"
  | .s _ => "str"
  | .t _ => "tuple"
theorem tyX_of {K : PySem.W.Frag} {H : Hp} {x : D} {v : V} (h : DR K H x v) : TyX K H v (.type (tyD x)) := by
  cases h with
  | i n => exact .base (.int n)
  | b k => exact .base (.bl k)
  | n => exact .base .non
  | s z => exact .base (.str z)
  | t h _ _ =>
    rcases h with (h | ⟨o, h⟩) | ⟨o, its, n, h1, h2, _⟩
    · exact .base (.tup h)
    · exact .fTuple h
    · exact .kTuple h1 h2
theorem x_isi {x : D} {T : Str} (t ty0 : String) (r : Bool) {p p2 : Pos} (hg : Gl X "isinstance") (hm : X.mg "isinstance" = none) (hgT : Gl X T) (hmT : X.mg T = none) (hT : bootBuiltins T = some (.type t)) (hty : tyD x = ty0) (hk : kitB ty0 t = some r) (h : EX X B ρ e (dat X.K x)) (hn : T ≠ "__name__" := by decide) (hdb : (T == ("__debug__" : Str)) = false := by decide)
    (he : starEach [e, .Name T p2] X.env = (false, eval e X.env) :: starEach [.Name T p2] X.env := by rfl) (he2 : starEach [.Name T p2] X.env = (false, eval (.Name T p2) X.env) :: starEach [] X.env := by rfl) (hpl : (backTo pos (starEach [.Name T p2] X.env)).any (·.1) = false := by rfl) : EX X B ρ (.Call (.Name "isinstance" p) [e, .Name T p2] [] pos) (rB r) :=
  x_callB (Rs := [dat X.K x, ⟨fun v _ => v = .ty t, fun _ h => h⟩]) call_isi hg hm (by decide +kernel) (a_cons h (a_cons (PE_wk (pe_bltn (v := .ty t) hgT hmT hT rfl hn hdb) fun σ H Q ⟨s, q⟩ => q _ H (Ext.refl H) rfl) a_nil he2) he) (fun vs H σ Q s hv q => by
    obtain ⟨u, w, rfl, h1, h2⟩ := hv.two
    subst hty
    exact ⟨u, w, .type (tyD x), .type t, r, rfl, by rw [show w = .ty t from h2]; exact .ty t, tyX_of h1, kit_ty hk, q _ H (Ext.refl H) rfl⟩) (he := he) (hpl := hpl)
/-! ### and, or, not as values (bools) -/
theorem x_one {op : BoolOp} (h : EX X B ρ a R) : EX X B ρ (.BoolOp op [a] pos) R := pe_one h
theorem x_and {P S : Bool → Prop} (ha : EX X B ρ a (exR P rB)) (hb : P true → EX X B ρ (.BoolOp .And (b :: es) pos) (exR S rB)) : EX X B ρ (.BoolOp .And (a :: b :: es) pos) (exR (fun k => (P true ∧ S k) ∨ (P false ∧ k = false)) rB) := by
  by_cases hp : P true
  · exact PE_wk (pe_and ha (hb hp)) fun σ H Q ⟨s, q⟩ => ⟨s, fun v H1 e1 ⟨k, hk, hv⟩ => ⟨k, hv, by
      cases k with
      | true => exact iteT ⟨s.mono e1, fun v2 H2 e2 ⟨k2, hk2, hv2⟩ => q v2 H2 (e1.trans e2) ⟨k2, .inl ⟨hp, hk2⟩, hv2⟩⟩
      | false => exact iteF (q _ H1 e1 ⟨false, .inr ⟨hk, rfl⟩, rfl⟩)⟩⟩
  · refine ⟨fun pins s σ H Q I ⟨st, q⟩ => ?_⟩
    refine BoolOp_and (thn (ha.run pins s σ H (fun v H' => v = .bl false ∧ Q v H') I ⟨st, fun v H' e1 ⟨k, hk, hv⟩ => ?_⟩) fun v s1 ⟨x, H1, I1, r1, q1⟩ => ?_)
    · cases k with
      | true => exact absurd hk hp
      | false => exact ⟨hv, q v H' e1 ⟨false, .inr ⟨hk, rfl⟩, hv⟩⟩
    · obtain ⟨rfl, q1⟩ := q1
      cases r1
      exact wpAny_truthy_bool ⟨.bl false, H1, I1, rfl, q1⟩
theorem x_or {P S : Bool → Prop} (ha : EX X B ρ a (exR P rB)) (hb : P false → EX X B ρ (.BoolOp .Or (b :: es) pos) (exR S rB)) : EX X B ρ (.BoolOp .Or (a :: b :: es) pos) (exR (fun k => (P false ∧ S k) ∨ (P true ∧ k = true)) rB) := by
  by_cases hp : P false
  · exact PE_wk (pe_or ha (hb hp)) fun σ H Q ⟨s, q⟩ => ⟨s, fun v H1 e1 ⟨k, hk, hv⟩ => ⟨k, hv, by
      cases k with
      | true => exact iteT (q _ H1 e1 ⟨true, .inr ⟨hk, rfl⟩, rfl⟩)
      | false => exact iteF ⟨s.mono e1, fun v2 H2 e2 ⟨k2, hk2, hv2⟩ => q v2 H2 (e1.trans e2) ⟨k2, .inl ⟨hp, hk2⟩, hv2⟩⟩⟩⟩
  · refine ⟨fun pins s σ H Q I ⟨st, q⟩ => ?_⟩
    refine BoolOp_or (thn (ha.run pins s σ H (fun v H' => v = .bl true ∧ Q v H') I ⟨st, fun v H' e1 ⟨k, hk, hv⟩ => ?_⟩) fun v s1 ⟨x, H1, I1, r1, q1⟩ => ?_)
    · cases k with
      | false => exact absurd hk hp
      | true => exact ⟨hv, q v H' e1 ⟨true, .inr ⟨hk, rfl⟩, hv⟩⟩
    · obtain ⟨rfl, q1⟩ := q1
      cases r1
      exact wpAny_truthy_bool ⟨.bl true, H1, I1, rfl, q1⟩
theorem x_not {P : Bool → Prop} (h : EX X B ρ a (exR P rB)) : EX X B ρ (.UnaryOp .Not a pos) (exR (fun k => P (!k)) rB) :=
  PE_wk (pe_not h) fun σ H Q ⟨s, q⟩ => ⟨s, fun v H1 e1 ⟨k, hk, hv⟩ => ⟨k, hv, q _ H1 e1 ⟨!k, by show P (!!k); rw [Bool.not_not]; exact hk, rfl⟩⟩⟩
theorem x_bE {P S : Bool → Prop} (h : EX X B ρ e (exR P rB)) (w : ∀ k, P k → S k) : EX X B ρ e (exR S rB) := x_sub h fun v H ⟨k, hk, hv⟩ => ⟨k, w k hk, hv⟩
theorem x_bIs {P : Bool → Prop} {k : Bool} (h : EX X B ρ e (exR P rB)) (w : ∀ q, P q → q = k) : EX X B ρ e (rB k) := x_sub h fun v H ⟨q, hq, hv⟩ => by rw [w q hq] at hv; exact hv
end
end Cv

namespace Cv
open PySem PySem.Spec PyProof.Rows L2 RZ
section
variable {d : Option Addr} {X : Cx} {B : Hp} {ρ ρ' : Ro d} {a b c e iter elt : Expr} {es : List Expr} {R R' Ra Rb : Rp d} {Rs : List (Rp d)} {pos : Pos} {m n : Int} {st : Stmt} {rest body orelse : List Stmt} {Pre Mid : L2.St → Hp → Prop} {Po : Ends}
/-! ### instances -/
def FsH (F : List (Str × Rp d)) (fs : List (Str × V)) (H : Hp) : Prop := ∀ (i : Nat) (f : Str) (R : Rp d), F[i]? = some (f, R) → ∃ v, fs.lookup f = some v ∧ R.p v H
theorem FsH.mono {F : List (Str × Rp d)} {fs : List (Str × V)} {H H' : Hp} (e : Ext d H H') (h : FsH F fs H) : FsH F fs H' := fun i f R k => let ⟨v, a, b⟩ := h i f R k; ⟨v, a, R.st e b⟩
/-- an instance of the class at C, at x -/
def insA (C x : Addr) (F : List (Str × Rp d)) : Rp d := ⟨fun v H => v = .ref x ∧ ∃ dx fs, H x = some (.ins C dx fs) ∧ fs.length ≤ F.length ∧ FsH F fs H, fun e ⟨h0, dx, fs, h1, h2, h3⟩ => ⟨h0, dx, fs, e.keep _ _ h1 fun _ _ q => (by cases q), h2, h3.mono e⟩⟩
def insR (C : Addr) (F : List (Str × Rp d)) : Rp d := exR (fun _ => True) fun x => insA C x F
theorem x_insR {C x : Addr} {F : List (Str × Rp d)} (h : EX X B ρ e (insA C x F)) : EX X B ρ e (insR C F) := x_sub h fun v H hv => ⟨x, trivial, hv⟩
theorem x_fld {C : Addr} {F : List (Str × Rp d)} {f : Str} (i : Nat) (cl : Cls X.K C) (na : NoAttr X.K C f) (h : EX X B ρ e (insR C F)) (hi : F[i]? = some (f, R) := by rfl) (hb : attributeBase e f X.env (eval e X.env) = eval e X.env := by rfl) : EX X B ρ (.Attribute e f pos) R :=
  PE_wk (pe_fld h hb) fun σ H Q ⟨s, q⟩ => ⟨s, fun v H1 e1 hv => by
    obtain ⟨x, _, rfl, dx, fs, h1, h2, h3⟩ := hv
    obtain ⟨u, hu, hr⟩ := h3 i f R hi
    exact ⟨x, C, dx, fs, u, rfl, h1, cl, na, hu, q u H1 e1 hr⟩⟩
def IndO (x : Addr) (R : Rp d) : Prop := ∀ v H C dx fs fs', H x = some (.ins C dx fs) → R.p v H → R.p v (upd H x (.ins C dx fs'))
theorem tk_ins {H : Hp} {x C dx : Addr} {fs fs' : List (Str × V)} (h : H x = some (.ins C dx fs)) : Tk H (upd H x (.ins C dx fs')) := by
  refine ⟨fun a zs e => ?_, fun a o u e => ?_⟩
  · have : a ≠ x := fun q => by rw [q, h] at e; cases e
    rw [upd_ne this]; exact e
  · have : a ≠ x := fun q => by rw [q, h] at e; cases e
    rw [upd_ne this]; exact e
theorem io_I {x : Addr} {n : Int} : IndO x (rI (d := d) n) := fun _ _ _ _ _ _ _ h => h
theorem io_any {x : Addr} : IndO x (rAny (d := d)) := fun _ _ _ _ _ _ _ h => h
theorem io_dat {x : Addr} {K : PySem.W.Frag} {w : D} : IndO x (dat (d := d) K w) := fun _ _ _ _ _ _ hx h => h.tk (tk_ins hx)
theorem io_own {x l : Addr} {K : PySem.W.Frag} {ds : List D} : IndO x (own (d := d) K l ds) := fun _ H _ _ _ _ hx ⟨h1, h2, us, h3, h4⟩ => ⟨h1, h2, us, by rw [upd_ne (show l ≠ x from fun z => by rw [z, hx] at h3; cases h3)]; exact h3, h4.tk (tk_ins hx)⟩
theorem io_lstA {x l : Addr} {K : PySem.W.Frag} {ds : List D} : IndO x (lstA (d := d) K l ds) := fun _ H _ _ _ _ hx ⟨h1, h2, us, h3, h4⟩ => ⟨h1, h2, us, by
  rcases h3 with ⟨k, h⟩ | ⟨o, h⟩ | h
  · exact .inl ⟨k, by rw [upd_ne (show l ≠ x from fun z => by rw [z, hx] at h; cases h)]; exact h⟩
  · exact .inr (.inl ⟨o, by rw [upd_ne (show l ≠ x from fun z => by rw [z, hx] at h; cases h)]; exact h⟩)
  · exact .inr (.inr h), h4.tk (tk_ins hx)⟩
theorem io_ex {x : Addr} {α : Type} {P : α → Prop} {Rz : α → Rp d} (h : ∀ z, IndO x (Rz z)) : IndO x (exR P Rz) := fun v H C dx fs fs' hx ⟨z, hz, q⟩ => ⟨z, hz, h z v H C dx fs fs' hx q⟩
def IoBut (x : Addr) (i : Nat) (r : Ro d) : Prop := ∀ (j : Nat) (R : Rp d), j ≠ i → r[j]? = some (some R) → IndO x R
/-- self.f = e (self in slot i) -/
theorem bx_setfld (i : Nat) {x : Str} {p1 p2 : Pos} {C y : Addr} {F : List (Str × Rp d)} {f : Str} (hi : ρ[i]? = some (some (insA C y F))) (hF : F.length ≤ 50) (cl : Cls X.K C) (na : NoAttr X.K C f) (he : EX X B ρ e R) (hB : B y = none) (hb : IoBut y i ρ) (hR : IndO y R) (hFs : ∀ p ∈ F, IndO y p.2 ∧ p.1 ≠ f)
    (h : BX X rest (St B (ρ.set i (some (insA C y ((f, R) :: F))))) Po)
    (hN : X.N[i]? = some x := by rfl) (hv : Vis X.env.scope x := by first | exact Or.inl rfl | exact Or.inr (Or.inl rfl) | exact Or.inr (Or.inr rfl)) (hd : (x == ("__debug__" : Str)) = false := by decide) (hcd : (x == ("__classdict__" : Str)) = false := by decide)
    (hs : swapsWith e (some (.Attribute (.Name x p1) f p2)) pos.line X.env = pure false := by rfl) :
    BX X (.Assign [.Attribute (.Name x p1) f p2] e pos :: rest) (St B ρ) Po := by
  refine bx_cons (Mid := St B (ρ.set i (some (insA C y ((f, R) :: F))))) ?_ h
  refine PS_wk (ps_fld (pe_var hN hv hd hcd) he hs) fun E σ H ⟨s, q⟩ => ⟨s, fun v H1 e1 hvv => ?_⟩
  have s1 := s.mono e1
  obtain ⟨u, a1, rfl, dx, fs, a2, a3, a4⟩ := s1.good.get hi
  refine ⟨_, a1, y, C, dx, fs, rfl, a2, cl, na, by omega, ?_⟩
  have hyd : some y ≠ d := fun z => by
    obtain ⟨ns, _, q'⟩ := s1.dr y z.symm
    rw [a2] at q'; cases q'
  refine q.nx σ _ (e1.tk.trans (tk_ins a2)) ⟨s1.ext.mut hB hyd, fun a' z => ?_, by simp [s1.good.1], fun j R' hj => ?_⟩
  · obtain ⟨ns, hn, q'⟩ := s1.dr a' z
    have : a' ≠ y := fun w => hyd (by rw [z, w])
    exact ⟨ns, hn, by rw [upd_ne this]; exact q'⟩
  · by_cases hij : j = i
    · subst hij
      have hlt : j < ρ.length := (List.getElem?_eq_some_iff.mp hi).1
      rw [List.getElem?_set_self hlt] at hj
      cases hj
      refine ⟨_, a1, rfl, dx, _, upd_same, ?_, fun k g R'' hk => ?_⟩
      · exact Nat.le_trans (length_putF f v fs) (by simpa using a3)
      · rw [lookup_putF]
        cases k with
        | zero => cases hk; rw [if_pos rfl]; exact ⟨v, rfl, hR v H1 C dx fs _ a2 hvv⟩
        | succ k =>
          have hm : (g, R'') ∈ F := List.mem_of_getElem? hk
          obtain ⟨w1, w2⟩ := hFs _ hm
          rw [if_neg w2]
          obtain ⟨v', b1, b2⟩ := a4 k g R'' hk
          exact ⟨v', b1, w1 v' H1 C dx fs _ a2 b2⟩
    · rw [List.getElem?_set_ne (fun z => hij z.symm)] at hj
      obtain ⟨v', b1, b2⟩ := s1.good.get hj
      exact ⟨v', b1, hb j R' hij hj v' H1 C dx fs _ a2 b2⟩
theorem io_insA {x y C' : Addr} {F : List (Str × Rp d)} (hne : y ≠ x) (h : ∀ p ∈ F, IndO x p.2) : IndO x (insA C' y F) := fun v H C dx fs fs' hx ⟨h0, dy, gs, h1, h2, h3⟩ => ⟨h0, dy, gs, by rw [upd_ne hne]; exact h1, h2, fun i f R k => let ⟨u, p, q⟩ := h3 i f R k; ⟨u, p, h _ (List.mem_of_getElem? k) u H C dx fs fs' hx q⟩⟩
theorem ib_all {x : Addr} {i : Nat} {r : Ro d} (h : ∀ (j : Nat) (R : Rp d), j ≠ i → r[j]? = some (some R) → IndO x R) : IoBut x i r := h
theorem io_nil {x : Addr} : ∀ (j : Nat) (R : Rp d), ([] : Ro d)[j]? = some (some R) → IndO x R := fun j R h => by cases h
theorem io_none {x : Addr} {r : Ro d} (h : ∀ (j : Nat) (R : Rp d), r[j]? = some (some R) → IndO x R) : ∀ (j : Nat) (R : Rp d), ((none :: r : Ro d))[j]? = some (some R) → IndO x R := fun j R e => by
  cases j with
  | zero => cases e
  | succ j => exact h j R e
theorem io_some {x : Addr} {r : Ro d} {R : Rp d} (w : IndO x R) (h : ∀ (j : Nat) (R : Rp d), r[j]? = some (some R) → IndO x R) : ∀ (j : Nat) (R' : Rp d), ((some R :: r : Ro d))[j]? = some (some R') → IndO x R' := fun j R' e => by
  cases j with
  | zero => cases e; exact w
  | succ j => exact h j R' e
theorem io_here {x : Addr} {o : Option (Rp d)} {r : Ro d} (h : ∀ (j : Nat) (R : Rp d), r[j]? = some (some R) → IndO x R) : IoBut x 0 (o :: r) := fun j R hj e => by
  cases j with
  | zero => exact absurd rfl hj
  | succ j => exact h j R e
theorem ind_insA {l C y : Addr} {F : List (Str × Rp d)} (h : ∀ p ∈ F, Ind l p.2) : Ind l (insA C y F) := fun v H xs ys hl ⟨h0, dy, gs, h1, h2, h3⟩ => ⟨h0, dy, gs, by rw [upd_ne (show y ≠ l from fun z => by rw [z, hl] at h1; cases h1)]; exact h1, h2, fun i f R k => let ⟨u, p, q⟩ := h3 i f R k; ⟨u, p, h _ (List.mem_of_getElem? k) u H xs ys hl q⟩⟩
/-! ### defs with any promise -/
variable {Pg : Program} {w : World} {K : PySem.W.Frag} {mg : Str → Option Value} {base : Heap}
theorem fn_okG {x qual : Str} {sd : Stmt} {f : Addr} {fd : FuncData} {N ps : List Str} {k : Nat} {sp : Sp} (F : Fun K x qual sd f fd) (S : FnScope N ps (defScope sd)) (len : ∀ vs H Q E, sp vs H Q E → vs.length = ps.length)
    (body : ∀ (vs : List V) (H : Hp) (Q : VK) (E : XK), sp vs H Q E → ∀ (cdv : Value) (A : Around) (outer : List Env) (s : Shared), Room k (A.deeper (envOfC qual (defScope sd) s.heap.objs.size f cdv)) →
      ∃ (Pre : L2.St → Hp → Prop) (Po : Ends), Pre (L2.start N vs) H ∧ BX (cxOf CX0 Pg w K mg base N qual (defScope sd) f cdv A outer s H E).nox (defBody sd) Pre Po ∧ Le H Po { nx := fun _ H' => Q .non H', rt := Q }) : FnOk Pg w K mg base CX0 (k + 1) f fd ps sp := by
  refine F.ok S len (fun cdv A outer s H vs Q E hr h => ?_)
  obtain ⟨Pre, Po, h1, h2, h3⟩ := body vs H Q E h cdv A outer s hr
  exact ⟨_, h2, h1, h3⟩
theorem fn_okX {x qual : Str} {sd : Stmt} {f : Addr} {fd : FuncData} {N ps : List Str} {k : Nat} {sp : Sp} (F : Fun K x qual sd f fd) (S : FnScope N ps (defScope sd)) (len : ∀ vs H Q E, sp vs H Q E → vs.length = ps.length)
    (body : ∀ (vs : List V) (H : Hp) (Q : VK) (E : XK), sp vs H Q E → ∀ (cdv : Value) (A : Around) (outer : List Env) (s : Shared), Room k (A.deeper (envOfC qual (defScope sd) s.heap.objs.size f cdv)) →
      ∃ (Pre : L2.St → Hp → Prop) (Po : Ends), Pre (L2.start N vs) H ∧ BX (cxOf (L2.CX Pg w) Pg w K mg base N qual (defScope sd) f cdv A outer s H E) (defBody sd) Pre Po ∧ Le H Po { nx := fun _ H' => Q .non H', rt := Q }) : FnOk Pg w K mg base (L2.CX Pg w) (k + 1) f fd ps sp := by
  refine F.okX S len (fun cdv A outer s H vs Q E hr h => ?_)
  obtain ⟨Pre, Po, h1, h2, h3⟩ := body vs H Q E h cdv A outer s hr
  exact ⟨_, h2, h1, h3⟩
/-- the heap without x -/
def del (H : Hp) (x : Addr) : Hp := fun b => if b = x then none else H b
theorem del_same {H : Hp} {x : Addr} : del H x x = none := if_pos rfl
theorem del_ne {H : Hp} {x b : Addr} (h : b ≠ x) : del H x b = H b := if_neg h
theorem del_ext {H : Hp} {x : Addr} (hx : some x ≠ d) : Ext d (del H x) H := ⟨fun a o h _ => by
    by_cases z : a = x
    · rw [z, del_same] at h; cases h
    · rw [del_ne z] at h; exact h,
  fun a e ⟨ns, hn, h⟩ => ⟨ns, hn, by rw [del_ne (fun z => hx (by rw [e, z]))] at h; exact h⟩⟩
/-- an __init__'s promise: the new instance at x gets the fields told by F z -/
def spI {α : Type} (d : Option Addr) (C : Addr) (As : α → List (Rp d)) (F : α → List (Str × Rp d)) : Sp := fun vs H Q _ => ∃ (z : α) (x dx : Addr) (us : List V), vs = .ref x :: us ∧ H x = some (.ins C dx []) ∧ RsH (As z) us (del H x) ∧ (∀ a, d = some a → Drw H a) ∧ ∀ H', Ext d (del H x) H' → (insA C x (F z)).p (.ref x) H' → Q .non H'
/-- C(e, ..) -/
theorem x_make {α : Type} {C : Addr} {As : α → List (Rp d)} {F : α → List (Str × Rp d)} {x : Str} {p : Pos} {f : Addr} {fd : FuncData} {ps : List Str} {k : Nat} {CX : CXT} {E : XK} (M : Mk X.K C f) (G : FnOk X.prog X.w X.K X.mg X.base CX k f fd ps (spI d C As F)) (hr : Room (k + 1) X.A) (hg : Gl X x) (hm : X.mg x = some (.ref C)) (hb : Binds X.K fd ps []) (hx : Passes CX X E)
    (z : α) (ha : AX X B ρ (e :: es) (As z))
    (hdb : (x == ("__debug__" : Str)) = false := by decide) (he : starEach (e :: es) X.env = (false, eval e X.env) :: starEach es X.env := by rfl) (hpl : (backTo pos (starEach es X.env)).any (·.1) = false := by rfl) : EX X B ρ (.Call (.Name x p) (e :: es) [] pos) (insR C (F z)) :=
  PE_wk (pe_make (dvs := []) (E := E) M G hr hg hm hb .nil hx ha (hdb := hdb) (he := he) (hpl := hpl)) fun σ H Q ⟨s, q⟩ => ⟨s, fun vs H1 e1 hvs y dy ny ndy hne => by
    rw [List.append_nil]
    have s1 := s.mono e1
    have hyd : some y ≠ d := (s1.fresh ny).2
    have n2 : (upd H1 dy (.own y)) y = none := by rw [upd_ne hne.symm]; exact ny
    have x1 : Ext d H1 (upd H1 dy (.own y)) := Ext.new ndy
    have e2 : del (upd (upd H1 dy (.own y)) y (.ins C dy [])) y = upd H1 dy (.own y) := by
      funext b
      by_cases hb : b = y
      · rw [hb, del_same, n2]
      · rw [del_ne hb, upd_ne hb]
    refine ⟨z, y, dy, vs, rfl, upd_same, by rw [e2]; exact hvs.mono x1, ((s1.mono x1).mono (Ext.new n2)).dr, fun H' e3 h3 => ⟨rfl, ?_⟩⟩
    rw [e2] at e3
    exact q _ H' (e1.trans (x1.trans e3)) ⟨y, trivial, h3⟩⟩
/-! ### draws -/
/-- _law_take(draws, limit) -/
def spTake : Sp := fun vs H Q _ => ∃ (a : Addr) (ns : List Int) (n : Int), vs = [.ref a, .int n] ∧ H a = some (.lst (ns.map V.int)) ∧ ns.length ≤ 1000 ∧ 0 < n ∧
  ∀ (z : Int) (ms : List Int) H', 0 ≤ z → z < n → H' a = some (.lst (ms.map V.int)) → ms.length ≤ 1000 → (∀ b o, b ≠ a → H b = some o → H' b = some o) → Q (.int z) H'
theorem x_take {x : Str} {p : Pos} {f : Addr} {fd : FuncData} {ps : List Str} {k : Nat} {E : XK} {CX : CXT} (F : FnOk X.prog X.w X.K X.mg X.base CX k f fd ps spTake) (hr : Room k X.A) (hg : Gl X x) (hm : X.mg x = some (.ref f)) (hk : PySem.W.keepIn X.K (.ref f) = true) (hb : Binds X.K fd ps []) (hx : Passes CX X E)
    (ha : EX X B ρ a drw) (hn : EX X B ρ b (rI n)) (h0 : 0 < n)
    (hdb : (x == ("__debug__" : Str)) = false := by decide) (he : starEach [a, b] X.env = (false, eval a X.env) :: starEach [b] X.env := by rfl) (he2 : starEach [b] X.env = (false, eval b X.env) :: starEach [] X.env := by rfl) (hpl : (backTo pos (starEach [b] X.env)).any (·.1) = false := by rfl) : EX X B ρ (.Call (.Name x p) [a, b] [] pos) (iE fun z => 0 ≤ z ∧ z < n) :=
  PE_wk (pe_call (dvs := []) (E := E) F hr hg hm hk hb .nil hx (a_cons ha (a_cons hn a_nil he2) he) (hdb := hdb) (he := he) (hpl := hpl)) fun σ H Q ⟨s, q⟩ => ⟨s, fun vs H1 e1 hvs => by
    obtain ⟨u, v, rfl, ⟨t, rfl, hd⟩, rfl⟩ := hvs.two
    obtain ⟨ns, hl, hns⟩ := (s.mono e1).dr t hd
    refine ⟨t, ns, n, rfl, hns, hl, h0, fun z ms H' z0 z1 hm hml hk => q _ H' (e1.trans ⟨fun c o hc hq => ?_, fun c hc _ => ?_⟩) ⟨z, ⟨z0, z1⟩, rfl⟩⟩
    · by_cases hct : c = t
      · subst hct
        rw [hns] at hc
        cases hc
        exact absurd rfl (hq hd.symm _)
      · exact hk c o hct hc
    · rw [hd] at hc
      cases hc
      exact ⟨ms, hml, hm⟩⟩
end
end Cv

namespace Cv
open PySem PySem.Spec PyProof.Rows L2 RZ
section
variable {d : Option Addr} {X : Cx} {B : Hp} {ρ ρ' : Ro d} {a b c e iter elt : Expr} {es : List Expr} {R R' Ra Rb : Rp d} {Rs : List (Rp d)} {pos : Pos} {m n : Int} {st : Stmt} {rest body orelse : List Stmt} {Pre Mid : L2.St → Hp → Prop} {Po : Ends}
/-! ### a list that was there at the start -/
def lstB (B : Hp) (K : PySem.W.Frag) (a : Addr) (ds : List D) : Rp d := ⟨fun v H => v = .ref a ∧ ∃ vs, ((B a ≠ none ∧ SqX d K H a vs) ∨ KL K a vs) ∧ DRl K H ds vs,
  fun e ⟨h1, vs, h2, h3⟩ => ⟨h1, vs, h2.imp (fun h => ⟨h.1, h.2.ext e⟩) id, h3.tk e.tk⟩⟩
theorem lstB_A {B : Hp} {K : PySem.W.Frag} {a : Addr} {ds : List D} {v : V} {H : Hp} (h : (lstB (d := d) B K a ds).p v H) : (lstA (d := d) K a ds).p v H := by
  obtain ⟨h1, vs, h2 | h2, h3⟩ := h
  · exact ⟨h1, trivial, vs, h2.2, h3⟩
  · exact ⟨h1, trivial, vs, .inr (.inr h2), h3⟩
theorem x_lstB {B' : Hp} {K : PySem.W.Frag} {l : Addr} {ds : List D} (h : EX X B ρ e (lstB B' K l ds)) : EX X B ρ e (lstA K l ds) := x_sub h fun v H hv => lstB_A hv
theorem ind_lstB {l a' : Addr} {K : PySem.W.Frag} {ds : List D} (hB : B l = none) : Ind l (lstB (d := d) B K a' ds) := fun v H xs ys hl ⟨h1, us, h2, h3⟩ => by
  refine ⟨h1, us, ?_, h3.tk (Tk.lst hl)⟩
  rcases h2 with ⟨hb, h⟩ | h
  · have hne : a' ≠ l := fun z => hb (by rw [z]; exact hB)
    refine .inl ⟨hb, ?_⟩
    rcases h with ⟨k, h⟩ | ⟨o, h⟩ | h
    · exact .inl ⟨k, by rw [upd_ne hne]; exact h⟩
    · exact .inr (.inl ⟨o, by rw [upd_ne hne]; exact h⟩)
    · exact .inr (.inr h)
  · exact .inr h
theorem io_lstB {x l : Addr} {K : PySem.W.Frag} {ds : List D} : IndO x (lstB (d := d) B K l ds) := fun v H C dx fs fs' hx ⟨h1, us, h2, h3⟩ => by
  refine ⟨h1, us, ?_, h3.tk (tk_ins hx)⟩
  rcases h2 with ⟨hb, h⟩ | h
  · refine .inl ⟨hb, ?_⟩
    rcases h with ⟨k, h⟩ | ⟨o, h⟩ | h
    · exact .inl ⟨k, by rw [upd_ne (show l ≠ x from fun z => by rw [z, hx] at h; cases h)]; exact h⟩
    · exact .inr (.inl ⟨o, by rw [upd_ne (show l ≠ x from fun z => by rw [z, hx] at h; cases h)]; exact h⟩)
    · exact .inr (.inr h)
  · exact .inr h
theorem st_toB {K : PySem.W.Frag} {l : Addr} {ds : List D} {σ : L2.St} {H : Hp} (i : Nat) (hi : ρ[i]? = some (some (lstA K l ds))) (s : St H ρ σ H) : St H (ρ.set i (some (lstB H K l ds))) σ H := by
  refine ⟨s.ext, s.dr, by simp [s.good.1], fun j R e => ?_⟩
  by_cases hj : i = j
  · subst hj
    have hlt : i < ρ.length := (List.getElem?_eq_some_iff.mp hi).1
    rw [List.getElem?_set_self hlt] at e
    cases e
    obtain ⟨v, h1, rfl, _, us, h3, h4⟩ := s.good.get hi
    refine ⟨_, h1, rfl, us, ?_, h4⟩
    rcases h3 with ⟨k, h⟩ | ⟨o, h⟩ | h
    · exact .inl ⟨by rw [h]; exact fun z => (by cases z), .inl ⟨k, h⟩⟩
    · exact .inl ⟨by rw [h]; exact fun z => (by cases z), .inr (.inl ⟨o, h⟩)⟩
    · exact .inr h
  · rw [List.getElem?_set_ne hj] at e
    exact s.good.get e
/-- the draws' address becomes known -/
theorem lstB_d {d' : Option Addr} {B : Hp} {K : PySem.W.Frag} {a : Addr} {ds : List D} {v : V} {H : Hp} (hd : ∀ l, d' = some l → B l = none) (h : (lstB (d := none) B K a ds).p v H) : (lstB (d := d') B K a ds).p v H := by
  obtain ⟨h1, vs, h2, h3⟩ := h
  refine ⟨h1, vs, ?_, h3⟩
  rcases h2 with ⟨hb, h⟩ | h
  · refine .inl ⟨hb, ?_⟩
    rcases h with ⟨k, h⟩ | ⟨o, h⟩ | h
    · exact .inl ⟨fun z => hb (hd a z.symm), h⟩
    · exact .inr (.inl ⟨o, h⟩)
    · exact .inr (.inr h)
  · exact .inr h
theorem newE_up {ρ1 : Ro d} {K : PySem.W.Frag} {S : List D → Prop} {σ : L2.St} {H H' : Hp} {v : V} (s : St B ρ1 σ H) (h : (newE (d := d) H K S).p v H') : (newE (d := d) B K S).p v H' := by
  obtain ⟨ds, hS, l, hl, h⟩ := h
  exact ⟨ds, hS, l, (s.fresh hl).1, h⟩
/-- a list that a new one can't be -/
def Known (l : Addr) (ρ : Ro d) : Prop := ∃ (k : Nat) (R : Rp d), ρ[k]? = some (some R) ∧ ∀ v H, R.p v H → H l ≠ none
theorem known_own {K : PySem.W.Frag} {l : Addr} {ds : List D} (k : Nat) (h : ρ[k]? = some (some (own K l ds))) : Known l ρ := ⟨k, _, h, fun v H ⟨_, _, us, q, _⟩ => by rw [q]; exact fun z => by cases z⟩
/-- x = a new list: it is none of those that are known -/
theorem bx_new (i : Nat) {x : Str} {pos' : Pos} {K : PySem.W.Frag} {ds : List D} (ls : List Addr) (hls : ∀ l ∈ ls, Known l ρ) (he : ∀ B' : Hp, EX X B' ρ e (newL B' K ds)) (h : ∀ l, B l = none → (∀ l' ∈ ls, l ≠ l') → BX X rest (St B (ρ.set i (some (own K l ds)))) Po) (hN : X.N.Nodup) (hi : X.N[i]? = some x := by rfl) (hx : Loc X.env.scope x := by first | exact Or.inl rfl | exact Or.inr rfl) (hs : swapsWith e (some (.Name x pos')) pos.line X.env = pure false := by rfl)
    (hf : X.fn x = true ∨ X.env.scope.names.lookup x = some .local := by first | exact .inl rfl | exact .inr rfl | assumption) : BX X (.Assign [.Name x pos'] e pos :: rest) (St B ρ) Po := by
  refine bx_cons (Mid := fun σ H => ∃ l, (B l = none ∧ ∀ l' ∈ ls, l ≠ l') ∧ St B (ρ.set i (some (own K l ds))) σ H) ?_ (bx_ex fun l hl => h l hl.1 hl.2)
  refine ⟨fun pins s σ H E I ⟨st, q⟩ => ?_⟩
  have hE := ps_set (X := X) (pos := pos) (pos' := pos') hN hi hx (he H) hs hf
  refine hE.run pins s σ H E I ⟨⟨Ext.refl H, st.dr, st.good⟩, fun v H' e1 hv => ?_⟩
  obtain ⟨l, hl, hv⟩ := hv
  have hld : some l ≠ d := hv.2.1
  refine q.nx _ H' e1.tk ⟨l, ⟨?_, fun l' hl' z => ?_⟩, st.ext.trans e1, (st.mono e1).dr, (st.mono e1).good.set i hv⟩
  · cases e2 : B l with
    | none => rfl
    | some o =>
      have := st.ext.at e2 hld
      rw [hl] at this; cases this
  · obtain ⟨k, R, h1, h2⟩ := hls l' hl'
    obtain ⟨w, _, h3⟩ := st.good.get h1
    exact h2 w H h3 (by rw [← z]; exact hl)
theorem bx_newE (i : Nat) {x : Str} {pos' : Pos} {K : PySem.W.Frag} {S : List D → Prop} (ls : List Addr) (hls : ∀ l ∈ ls, Known l ρ) (he : ∀ B' : Hp, EX X B' ρ e (newE B' K S)) (h : ∀ l ds, S ds → B l = none → (∀ l' ∈ ls, l ≠ l') → BX X rest (St B (ρ.set i (some (own K l ds)))) Po) (hN : X.N.Nodup) (hi : X.N[i]? = some x := by rfl) (hx : Loc X.env.scope x := by first | exact Or.inl rfl | exact Or.inr rfl) (hs : swapsWith e (some (.Name x pos')) pos.line X.env = pure false := by rfl)
    (hf : X.fn x = true ∨ X.env.scope.names.lookup x = some .local := by first | exact .inl rfl | exact .inr rfl | assumption) : BX X (.Assign [.Name x pos'] e pos :: rest) (St B ρ) Po := by
  refine bx_cons (Mid := fun σ H => ∃ z : Addr × List D, (S z.2 ∧ B z.1 = none ∧ ∀ l' ∈ ls, z.1 ≠ l') ∧ St B (ρ.set i (some (own K z.1 z.2))) σ H) ?_ (bx_ex fun z hz => h z.1 z.2 hz.1 hz.2.1 hz.2.2)
  refine ⟨fun pins s σ H E I ⟨st, q⟩ => ?_⟩
  have hE := ps_set (X := X) (pos := pos) (pos' := pos') hN hi hx (he H) hs hf
  refine hE.run pins s σ H E I ⟨⟨Ext.refl H, st.dr, st.good⟩, fun v H' e1 hv => ?_⟩
  obtain ⟨ds, hS, l, hl, hv⟩ := hv
  have hld : some l ≠ d := hv.2.1
  refine q.nx _ H' e1.tk ⟨(l, ds), ⟨hS, ?_, fun l' hl' z => ?_⟩, st.ext.trans e1, (st.mono e1).dr, (st.mono e1).good.set i hv⟩
  · cases e2 : B l with
    | none => rfl
    | some o =>
      have := st.ext.at e2 hld
      rw [hl] at this; cases this
  · obtain ⟨k, R, h1, h2⟩ := hls l' hl'
    obtain ⟨w, _, h3⟩ := st.good.get h1
    exact h2 w H h3 (by have z' : l = l' := z; rw [← z']; exact hl)
variable {Pg : Program} {w : World} {K : PySem.W.Frag} {mg : Str → Option Value} {base : Heap}
/-- a def, its slots at the start told anew -/
theorem fn_okB {α : Type} {As : α → List (Rp d)} {Rz : α → Hp → Rp d} {x qual : Str} {sd : Stmt} {f : Addr} {fd : FuncData} {N ps : List Str} {k : Nat} (F : Fun K x qual sd f fd) (S : FnScope N ps (defScope sd)) (hl : ∀ z, (As z).length = ps.length) (hN : ps.length ≤ N.length) (r0 : α → Hp → Ro d) (h0 : ∀ z H σ, St H (ro (As z) (N.length - (As z).length)) σ H → St H (r0 z H) σ H)
    (body : ∀ (z : α) (H : Hp) (cdv : Value) (A : Around) (outer : List Env) (s : Shared) (E : XK), Room k (A.deeper (envOfC qual (defScope sd) s.heap.objs.size f cdv)) →
      BX (cxOf CX0 Pg w K mg base N qual (defScope sd) f cdv A outer s H E).nox (defBody sd) (St H (r0 z H)) (Rt H (Rz z H))) : FnOk Pg w K mg base CX0 (k + 1) f fd ps (spP d As Rz) := by
  refine F.ok S (fun vs H Q E ⟨z, h, _⟩ => by rw [h.len, hl]) (fun cdv A outer s H vs Q E hr h => ?_)
  obtain ⟨z, hz, dr, q⟩ := h
  refine ⟨_, body z H cdv A outer s E hr, h0 z H _ (st_start hz (by rw [hl]; exact hN) dr), ?_⟩
  exact ⟨fun σ' H' _ ⟨e1, h1⟩ => q _ H' e1 h1, fun v H' _ ⟨e1, h1⟩ => q v H' e1 h1, fun _ _ _ h => h.elim, fun _ _ _ h => h.elim⟩
end
section
variable {d : Option Addr} {X : Cx} {B : Hp} {ρ ρ' : Ro d} {a b c e iter elt : Expr} {es : List Expr} {R R' Ra Rb : Rp d} {Rs : List (Rp d)} {pos : Pos} {m n : Int} {st : Stmt} {rest body orelse : List Stmt} {Pre Mid : L2.St → Hp → Prop} {Po : Ends}
/-- for x in range(n), n only told by S -/
theorem bx_forRE {α : Type} {S : Int → Prop} (j : Nat) {x : Str} {tpos p p2 : Pos} (P : Nat → α → Prop) (r : Nat → α → Ro d) (hg : Gl X "range") (hm : X.mg "range" = none) (hi : EX X B ρ e (iE S)) (hn : ∀ nn, S nn → nn < 2 ^ 62 ∧ -(2 ^ 62) ≤ nn) (h0 : ∀ σ H, St B ρ σ H → IS B (P 0) (r 0) σ H)
    (hb : ∀ (nn : Int), S nn → ∀ (i : Nat) z, (i : Int) < nn → P i z → BX X body (St B ((r i z).set j (some (rI (i : Int))))) (Lp Po (IS B (P (i + 1)) (r (i + 1))) (fun σ H => ∃ nn : Int, S nn ∧ IS B (P nn.toNat) (r nn.toNat) σ H))) (h : ∀ nn : Int, S nn → BX X rest (IS B (P nn.toNat) (r nn.toNat)) Po)
    (hN : X.N.Nodup) (hp : PassesOwn (model X.prog X.w) X.A X.env X.xe) (hj : X.N[j]? = some x := by rfl) (hc : X.calm = true := by rfl) (hx : Loc X.env.scope x := by first | exact Or.inl rfl | exact Or.inr rfl)
    (hf : X.fn x = true ∨ X.env.scope.names.lookup x = some .local := by first | exact .inl rfl | exact .inr rfl | assumption) (he : starEach [e] X.env = [(false, eval e X.env)] := by rfl) (hs : ∀ x, foldedSetIterable (.Call (.Name "range" p) [e] [] p2) X.env x = pure x := by intro _; rfl) :
    BX X (.For (.Name x tpos) (.Call (.Name "range" p) [e] [] p2) body [] pos :: rest) (St B ρ) Po := by
  refine bx_cons (Mid := fun σ H => ∃ nn : Int, S nn ∧ IS B (P nn.toNat) (r nn.toNat) σ H) ?_ (bx_ex h)
  refine PS_wk (t := tFor (iRng1 fun σ H Q => St B ρ σ H ∧ ∀ vs H', Ext d H H' → RsH [iE S] vs H' → Q vs H') (gName j) (tBody (Z := Int × Nat × α) B (fun z => (r z.2.1 z.2.2).set j (some (rI (z.2.1 : Int)))) (fun z => S z.1 ∧ (z.2.1 : Int) < z.1 ∧ P z.2.1 z.2.2) (fun z => Lp Po (IS B (P (z.2.1 + 1)) (r (z.2.1 + 1))) (fun σ H => ∃ nn : Int, S nn ∧ IS B (P nn.toNat) (r nn.toNat) σ H))))
    (ps_for hp hc (pi_range1 hg hm (a_cons hi a_nil he) he) (pg_name hN hj hx hf) ⟨fun pins s σ H E I ⟨⟨nn, i, z⟩, ⟨hnn, hw, hz⟩, q, l⟩ => (hb nn hnn i z hw hz).run pins s σ H E I ⟨q, l⟩⟩ hs) fun E σ H ⟨s, l⟩ => ⟨s, fun vs H1 e1 hv => ?_⟩
  obtain ⟨v, rfl, hv'⟩ := hv.one
  obtain ⟨nn, hnn, hv'⟩ := hv'
  obtain rfl : v = .int nn := hv'
  refine ⟨nn, rfl, (hn nn hnn).2, (hn nn hnn).1, for_range (lo := 0) (n := nn.toNat) (g := gName j) (tb := tBody (Z := Int × Nat × α) B (fun z => (r z.2.1 z.2.2).set j (some (rI (z.2.1 : Int)))) (fun z => S z.1 ∧ (z.2.1 : Int) < z.1 ∧ P z.2.1 z.2.2) (fun z => Lp Po (IS B (P (z.2.1 + 1)) (r (z.2.1 + 1))) (fun σ H => ∃ nn : Int, S nn ∧ IS B (P nn.toNat) (r nn.toNat) σ H))) (fun i σ H => Tk H1 H ∧ IS B (P i) (r i) σ H) ⟨Tk.refl _, h0 _ _ (s.mono e1)⟩ (fun i σ H hlt ⟨k, z, hz, q⟩ => ?_) (fun σ H ⟨k, q⟩ => l.nx σ H (e1.tk.trans k) ⟨nn, hnn, q⟩)⟩
  refine ⟨(nn, i, z), ⟨hnn, (by show (i : Int) < nn; omega), hz⟩, ⟨q.ext, q.dr, ?_⟩, ?_⟩
  · rw [Int.zero_add]
    exact q.good.set j (R := rI (i : Int)) (v := .int (i : Int)) rfl
  · exact ⟨fun σ' H' k' q' => ⟨k.trans k', q'⟩, fun v H' k' q' => l.rt v H' ((e1.tk.trans k).trans k') q', fun σ' H' k' q' => l.nx σ' H' ((e1.tk.trans k).trans k') q', fun σ' H' k' q' => ⟨k.trans k', q'⟩⟩
/-- x[k] = e, the value told by S -/
theorem bx_setitemE (i : Nat) {x : Str} {p1 p2 p3 : Pos} {K : PySem.W.Frag} {l : Addr} {ds : List D} {S : D → Prop} {k : Nat} (hi : ρ[i]? = some (some (own K l ds))) (hK : X.K = K) (he : EX X B ρ e (dE K S)) (hk : EX X B ρ b (rI (k : Int))) (hkl : k < ds.length) (hB : B l = none) (hb : IndBut l i ρ) (h : ∀ w, S w → BX X rest (St B (ρ.set i (some (own K l (ds.set k w))))) Po)
    (hN : X.N[i]? = some x := by rfl) (hv : Vis X.env.scope x := by first | exact Or.inl rfl | exact Or.inr (Or.inl rfl) | exact Or.inr (Or.inr rfl)) (hd : (x == ("__debug__" : Str)) = false := by decide) (hcd : (x == ("__classdict__" : Str)) = false := by decide)
    (ha : ∀ v, assign (.Subscript (.Name x p1) b p2) X.env v = (do
      let ov ← holding [v] (eval (.Name x p1) X.env)
      let iv ← holding [v, ov] (eval b X.env)
      standAt p2
      holding [v, ov, iv] (setItem ov iv v)
      release [v, ov, iv] []) := by intro _; rfl)
    (hs : swapsWithSole [.Subscript (.Name x p1) b p2] e p3.line X.env = pure false := by rfl) (hw : swappedStores [.Subscript (.Name x p1) b p2] e X.env = pure none := by rfl) (h1 : (assignEach [.Subscript (.Name x p1) b p2] X.env).map (·.2) = [assign (.Subscript (.Name x p1) b p2) X.env] := by rfl) :
    BX X (.Assign [.Subscript (.Name x p1) b p2] e p3 :: rest) (St B ρ) Po := by
  subst hK
  refine bx_cons (Mid := fun σ H => ∃ w, S w ∧ St B (ρ.set i (some (own X.K l (ds.set k w)))) σ H) ?_ (bx_ex h)
  refine PS_wk (ps_asg he (pg_sub (pe_var hN hv hd hcd) hk set_list ha) hs hw h1) fun E σ H ⟨s, q⟩ => ⟨s, fun y H1 e1 ⟨w, hSw, hy⟩ => ?_⟩
  have s1 := s.mono e1
  obtain ⟨v, a1, rfl, hl, vs, a2, a3⟩ := s1.good.get hi
  refine ⟨_, a1, s1, fun iv H2 e2 hiv => ?_⟩
  have s2 := s1.mono e2
  have g2 := e2.at a2 hl
  have a3' := a3.tk e2.tk
  have hkv : k < vs.length := by rw [← a3.1]; exact hkl
  refine ⟨l, vs, k, k, rfl, hiv, g2, by unfold ixN; rw [if_pos (by omega), if_pos (by omega)]; simp, ?_⟩
  refine q.nx σ _ ((e1.tk.trans e2.tk).trans (Tk.lst g2)) ⟨w, hSw, st_own s2 hi hB hb ⟨by simp [a3.1], fun j e' v' b1 b2 => ?_⟩⟩
  by_cases hj : k = j
  · subst hj
    rw [List.getElem?_set_self hkl] at b1
    rw [List.getElem?_set_self hkv] at b2
    cases b1; cases b2
    exact DR.tk e2.tk hy
  · rw [List.getElem?_set_ne hj] at b1 b2
    exact a3'.2 j e' v' b1 b2
theorem x_iEd {K : PySem.W.Frag} {P : Int → Prop} (h : EX X B ρ e (iE P)) : EX X B ρ e (dE K fun w => ∃ z, P z ∧ w = .i z) := x_sub h fun v H ⟨z, hz, hv⟩ => ⟨_, ⟨z, hz, rfl⟩, by cases hv; exact .i z⟩
theorem x_dE {K : PySem.W.Frag} {P S : D → Prop} (h : EX X B ρ e (dE K P)) (w : ∀ z, P z → S z) : EX X B ρ e (dE K S) := x_sub h fun v H ⟨z, hz, hv⟩ => ⟨z, w z hz, hv⟩
theorem x_d {K : PySem.W.Frag} {x : D} (h : EX X B ρ e (dat K x)) : EX X B ρ e (dE K fun w => w = x) := x_sub h fun v H hv => ⟨x, rfl, hv⟩
theorem x_ixtI {ns : List Int} {k : Nat} {z : Int} (ha : EX X B ρ a (dat X.K (tI ns))) (hb : EX X B ρ b (rI (k : Int))) (hz : ns[k]? = some z) (hs : PlainIx b := by exact (fun _ _ => rfl)) : EX X B ρ (.Subscript a b pos) (rI z) := x_dI (x_ixt ha hb (atI_nat (by rw [List.getElem?_map, hz]; rfl)) hs)
theorem x_ixlI {l : Addr} {ns : List Int} {k : Nat} {z : Int} (ha : EX X B ρ a (lstA X.K l (ns.map D.i))) (hb : EX X B ρ b (rI (k : Int))) (hz : ns[k]? = some z) (hs : PlainIx b := by exact (fun _ _ => rfl)) : EX X B ρ (.Subscript a b pos) (rI z) := x_dI (x_ixl ha hb (atI_nat (by rw [List.getElem?_map, hz]; rfl)) hs)
theorem x_ixnE {ds : List D} {P : Int → Prop} (ha : EX X B ρ a (newL B X.K ds)) (hb : EX X B ρ b (iE P)) (hw : ∀ j, P j → 0 ≤ j ∧ j < ds.length) (hs : PlainIx b := by exact (fun _ _ => rfl)) : EX X B ρ (.Subscript a b pos) (dE X.K fun w => ∃ k : Nat, P k ∧ ds[k]? = some w) :=
  PE_wk (pe_ix ix_list ha hb hs) fun σ H Q ⟨s, q⟩ => ⟨s, fun x H1 e1 hx => ⟨s.mono e1, fun y H2 e2 hy => by
    obtain ⟨l, _, rfl, hd, us, h1, h2⟩ := hx
    obtain ⟨j, hj, hy⟩ := hy
    obtain ⟨h0, hl⟩ := hw j hj
    obtain ⟨k, rfl⟩ : ∃ k : Nat, j = (k : Int) := ⟨j.toNat, by omega⟩
    have hk : k < ds.length := by omega
    obtain ⟨v, hv, hr⟩ := h2.get (List.getElem?_eq_getElem hk)
    exact ⟨l, us, _, v, rfl, hy, SqL.of (e2.at h1 hd), atI_nat hv, q v H2 (e1.trans e2) ⟨_, ⟨k, hj, List.getElem?_eq_getElem hk⟩, hr.tk e2.tk⟩⟩⟩⟩
/-- [elt for x in range(e)], e told by S -/
theorem x_lcRE {S : Int → Prop} (j : Nat) {x : Str} {scope : Scope} {tpos p p2 : Pos} (P : Nat → D → Prop) (hg : Gl X "range") (hm : X.mg "range" = none) (hi : EX X B ρ e (iE S)) (hn : ∀ nn, S nn → nn < 2000 ∧ -(2 ^ 62) ≤ nn) (hN : X.N.Nodup) (hok : BlkOk X.N X.env.scope scope [(x, j)])
    (hgn : ∀ (s : Shared) (H : Hp) (C : Addr) (cl : List (Str × Addr)) (fp : List Addr), PG (X.blk s H scope (compEnvC scope cl C X.env) fp) (.Name x tpos) (gName j))
    (hb : ∀ (s : Shared) (H : Hp) (C : Addr) (cl : List (Str × Addr)) (fp : List Addr) (i : Nat), EX (X.blk s H scope (compEnvC scope cl C X.env) fp) B (ρ.set j (some (rI (i : Int)))) elt (dE X.K (P i)))
    (hc : X.calm = true := by rfl) (he : starEach [e] X.env = [(false, eval e X.env)] := by rfl) (hs : ∀ x, foldedSetIterable (.Call (.Name "range" p) [e] [] p2) X.env x = pure x := by intro _; rfl) :
    EX X B ρ (.ListComp elt [⟨.Name x tpos, .Call (.Name "range" p) [e] [] p2, [], 0⟩] scope pos) (newE B X.K fun ds => (∃ nn, S nn ∧ ds.length = nn.toNat) ∧ ∀ k w, ds[k]? = some w → P k w) := by
  refine PE_wk (pe_lc (own := [(x, j)]) (g := gName j) (tt := tYes) (te := tElt (Z := Nat) B X.K (fun i => ρ.set j (some (rI (i : Int)))) (fun i => True) P) hc hN (pi_range1 hg hm (a_cons hi a_nil he) he) hok hgn (fun _ _ _ _ _ => pts_nil) (fun s H C cl fp => elt_of fun i _ => hb s H C cl fp i) hs) fun σ H Q ⟨s, q⟩ => ⟨s, fun vs H1 e1 hv => ?_⟩
  obtain ⟨v, rfl, hv'⟩ := hv.one
  obtain ⟨nn, hnn, hv'⟩ := hv'
  obtain rfl : v = .int nn := hv'
  have hn' := hn nn hnn
  have s1 := s.mono e1
  refine ⟨nn, rfl, hn'.2, by omega, fun Dl hD => ?_⟩
  obtain ⟨hB, hDd⟩ := s1.fresh hD
  refine lc_range (lo := 0) (n := nn.toNat) (Lc H1 X.K Dl d P) ⟨Ext.new hD, [], [], upd_same, DRl.nil, rfl, fun k w h => by cases h⟩ (fun i H' hlt L => ?_) (fun H' L => ?_)
  · refine ⟨wipe1 _ _ _, ?_⟩
    refine ⟨i, trivial, ?_, fun y H2 e2 hy => lc_step hD hDd L e2 hy (by omega)⟩
    rw [Int.zero_add]
    exact st_wipe (s1.mono L.1) (R := rI (i : Int)) rfl
  · obtain ⟨h0, us, ds, h1, h2, h3, h4⟩ := L
    exact q _ H' (e1.trans h0) ⟨ds, ⟨⟨nn, hnn, h3⟩, h4⟩, Dl, hB, rfl, hDd, us, h1, h2⟩
/-- a <= b <= c -/
theorem t_chainLe {i j k : Int} (ha : EX X B ρ a (rI i)) (hb : EX X B ρ b (rI j)) (hc : EX X B ρ c (rI k)) (hm : lastMarks [CmpOp.LtE, CmpOp.LtE] [b, c] = false := by with_unfolding_all rfl) : TX X B ρ (.Compare a [.LtE, .LtE] [b, c] pos) (is (decide (i ≤ j) && decide (j ≤ k))) :=
  PT_wk (pt_chain op_le op_le ha hb hc hm) fun σ H Q ⟨s, q⟩ => ⟨s, fun x H1 e1 hx => ⟨s.mono e1, fun y H2 e2 hy => by
    obtain rfl : x = .int i := hx
    obtain rfl : y = .int j := hy
    refine ⟨i, j, rfl, rfl, _, rfl, ?_⟩
    by_cases h : i ≤ j
    · rw [if_pos (decide_eq_true h)]
      refine ⟨(s.mono e1).mono e2, fun z H3 e3 hz => ?_⟩
      obtain rfl : z = .int k := hz
      exact ⟨j, k, rfl, rfl, _, rfl, q _ H3 (e1.trans (e2.trans e3)) (by rw [decide_eq_true h, Bool.true_and])⟩
    · rw [if_neg (by rw [decide_eq_false h]; exact Bool.false_ne_true)]
      exact ⟨false, rfl, q _ H2 (e1.trans e2) (by rw [decide_eq_false h, Bool.false_and])⟩⟩⟩
/-- [elt for x in t], t told by S -/
theorem x_lcTE {S : List D → Prop} (j : Nat) {x : Str} {scope : Scope} {tpos : Pos} (P : Nat → D → Prop) (hi : EX X B ρ iter (dE X.K fun w => ∃ src, S src ∧ w = .t src)) (hn : ∀ src, S src → src.length < 2000) (hN : X.N.Nodup) (hok : BlkOk X.N X.env.scope scope [(x, j)])
    (hgn : ∀ (s : Shared) (H : Hp) (C : Addr) (cl : List (Str × Addr)) (fp : List Addr), PG (X.blk s H scope (compEnvC scope cl C X.env) fp) (.Name x tpos) (gName j))
    (hb : ∀ (s : Shared) (H : Hp) (C : Addr) (cl : List (Str × Addr)) (fp : List Addr) (src : List D), S src → ∀ (i : Nat) (w : D), src[i]? = some w → EX (X.blk s H scope (compEnvC scope cl C X.env) fp) B (ρ.set j (some (dat X.K w))) elt (dE X.K (P i)))
    (hc : X.calm = true := by rfl) (hs : ∀ x, foldedSetIterable iter X.env x = pure x := by intro _; rfl) :
    EX X B ρ (.ListComp elt [⟨.Name x tpos, iter, [], 0⟩] scope pos) (newE B X.K fun ds => ∃ src, S src ∧ ds.length = src.length ∧ ∀ k w, ds[k]? = some w → P k w) := by
  refine PE_wk (pe_lc (own := [(x, j)]) (g := gName j) (tt := tYes) (te := tElt (Z := List D × Nat × D) B X.K (fun z => ρ.set j (some (dat X.K z.2.2))) (fun z => S z.1 ∧ z.1[z.2.1]? = some z.2.2) (fun z => P z.2.1)) hc hN (pi_tup hi) hok hgn (fun _ _ _ _ _ => pts_nil) (fun s H C cl fp => elt_of fun z hz => hb s H C cl fp z.1 hz.1 z.2.1 z.2.2 hz.2) hs) fun σ H Q ⟨s, q⟩ => ⟨s, fun v H1 e1 hv => ?_⟩
  obtain ⟨w0, ⟨src, hS, rfl⟩, hv⟩ := hv
  obtain ⟨t, us, rfl, g1, g2⟩ := DR.tup hv
  have s1 := s.mono e1
  refine ⟨t, rfl, ⟨us, g1⟩, fun Dl hD => ?_⟩
  obtain ⟨hB, hDd⟩ := s1.fresh hD
  refine lc_tup (K := X.K) (a := t) (xs := us) (Lc H1 X.K Dl d P) ⟨Ext.new hD, [], [], upd_same, DRl.nil, rfl, fun k w h => by cases h⟩ (fun i H' _ L => L.1.tk.sqT g1) (fun i y H' hy L => ?_) (fun H' L => ?_)
  · obtain ⟨w, hw, hr⟩ := g2.getV hy
    refine ⟨wipe1 _ _ _, ?_⟩
    exact ⟨(src, i, w), ⟨hS, hw⟩, st_wipe (s1.mono L.1) (R := dat X.K w) (hr.tk L.1.tk), fun y H2 e2 hy => lc_step hD hDd L e2 hy (Nat.lt_trans (List.getElem?_eq_some_iff.mp hw).1 (hn src hS))⟩
  · obtain ⟨h0, vs, ds, h1, h2, h3, h4⟩ := L
    exact q _ H' (e1.trans h0) ⟨ds, ⟨src, hS, by rw [h3, g2.1], h4⟩, Dl, hB, rfl, hDd, vs, h1, h2⟩
end
end Cv

namespace Cv
open PySem PySem.Spec PyProof.Rows L2 RZ
/-! ### the greatest of a tuple -/
theorem mx2 {i j : Int} : (if j > i then j else i) = max i j := by
  rw [Int.max_def]
  split <;> split <;> omega
theorem ints_at : ∀ {us : List Value} {ns : List Int}, IntsAre us ns → ∀ (i : Nat) (v : Value), us[i]? = some v → ∃ t, v = Value.int (ns.getD i 0) t
  | _, _, .nil, i, v, h => by cases h
  | _, _, .cons n t h, 0, v, e => by cases e; exact ⟨t, rfl⟩
  | _, _, .cons n t h, i + 1, v, e => ints_at h i v e
theorem ints_len : ∀ {us : List Value} {ns : List Int}, IntsAre us ns → us.length = ns.length
  | _, _, .nil => rfl
  | _, _, .cons n t h => congrArg (· + 1) (ints_len h)
theorem maxT_raw {prog : Program} {w : World} {A : Around} {E : Value → Shared → Prop} {s : Shared} {l : Addr} {its : List Value} {ns : List Int} {Q : Value → Shared → Prop} (hh : A.handled = none) (hl : s.heap.IsTuple l its.toArray) (hi : IntsAre its ns) (hne : 0 < ns.length)
    (h : ∀ (h' : Heap) (tk : Nat) (M : Int) (t' : Tok), (∀ (b : Addr) (o : Obj), s.heap.get? b = some o → h'.get? b = some o) → M ∈ ns → (∀ a, a ∈ ns → a ≤ M) → Q (Value.int M t') { heap := h', gens := s.gens, drawn := s.drawn, toks := tk, os := s.os }) :
    wpAny (model prog w) A (call (Value.builtin "max") [Value.ref l]) Q E s := by
  have hlen := ints_len hi
  have hlt : ∀ (b : Addr) (o : Obj), s.heap.get? b = some o → b < s.heap.objs.size := fun b o h => by
    unfold Heap.get? at h
    cases q : s.heap.objs[b]? with
    | none => rw [q] at h; cases h
    | some x => exact (Array.getElem?_eq_some_iff.mp q).1
  have hll : l < s.heap.objs.size := by
    obtain ⟨o, ho, _⟩ := hl
    exact hlt _ _ ho
  refine call_max_walk (wpAny_pyIter_tuple hl ?_)
  refine ⟨s.heap.objs.size, _, _, its.toArray.size, _, _, fun i j => decide (ns.getD i 0 > ns.getD j 0), rfl, Walks.tuple (A := A.in1) hh s.heap.objs.size l (Nat.ne_of_lt hll) its.toArray, ⟨⟨_, Heap.get?_push_size _ rfl, rfl, rfl⟩, ?_⟩, ?_, ?_, CmpOf.ints_gt (fun i => ns.getD i 0) ?_, ?_⟩
  · obtain ⟨o, ho, h1⟩ := hl
    exact ⟨o, Heap.get?_push_of_some _ ho, h1⟩
  · intro b hb
    show b < (s.heap.push _).objs.size
    rw [Heap.size_push]
    rcases List.mem_cons.mp hb with rfl | hb
    · exact Nat.lt_succ_self _
    · rcases List.mem_cons.mp hb with rfl | hb
      · exact Nat.lt_succ_of_lt hll
      · cases hb
  · simpa [hlen] using hne
  · intro i v hv
    rw [List.getElem?_toArray] at hv
    exact ints_at hi i v hv
  · intro v h' tk hP hk
    rw [List.getElem?_toArray] at hP
    obtain ⟨t, rfl⟩ := ints_at hi _ v hP
    obtain ⟨h1, h2⟩ := argBest_gt (fun i => ns.getD i 0) (its.toArray.size - 1)
    have hsz : its.toArray.size = ns.length := by rw [List.size_toArray, hlen]
    rw [hsz] at h1 h2 ⊢
    refine h h' tk _ t (fun b o ho => hk b o (fun hb => ?_) (Heap.get?_push_of_some _ ho)) ?_ fun a ha => ?_
    · rcases List.mem_cons.mp hb with rfl | hb
      · exact absurd (hlt _ _ ho) (Nat.lt_irrefl _)
      · cases hb
    · have hlt' : argBest (fun i j => decide (ns.getD i 0 > ns.getD j 0)) (ns.length - 1) < ns.length := by omega
      rw [List.getD_eq_getElem?_getD, List.getElem?_eq_getElem hlt']
      exact List.getElem_mem hlt'
    · obtain ⟨k, hk'⟩ := List.getElem?_of_mem ha
      have hkl := (List.getElem?_eq_some_iff.mp hk').1
      have := h2 k (by omega)
      rw [List.getD_eq_getElem?_getD, hk'] at this
      exact this
theorem cr_maxT {X : Cx} (hc : X.calm = true) : CallR X (.builtin "max") (fun vs H Q => ∃ (a : Addr) (ns : List Int), vs = [V.ref a] ∧ SqT X.K H a (ns.map V.int) ∧ 0 < ns.length ∧ ∀ m, m ∈ ns → (∀ y, y ∈ ns → y ≤ m) → Q (.int m) H) := by
  rintro pins s σ H vs us Q I r ⟨a, ns, rfl, hs, hne, q⟩
  obtain ⟨its, rv, hl, _⟩ := I.tuple hs
  rw [Vals.ref1 r]
  exact maxT_raw (I.ok.hd hc) hl (Vals.ints rv) hne fun h' tk m t' hk h1 h2 => ⟨V.int m, H, Inv.kept I hk, ⟨t', rfl⟩, q m h1 h2⟩
section
variable {d : Option Addr} {X : Cx} {B : Hp} {ρ ρ' : Ro d} {a b c e iter elt : Expr} {es : List Expr} {R R' Ra Rb : Rp d} {Rs : List (Rp d)} {pos : Pos} {m n : Int} {st : Stmt} {rest body orelse : List Stmt} {Pre Mid : L2.St → Hp → Prop} {Po : Ends}
theorem x_maxT {ns : List Int} {p : Pos} (hg : Gl X "max") (hm : X.mg "max" = none) (h : EX X B ρ e (dat X.K (tI ns))) (hne : 0 < ns.length) (hc : X.calm = true := by rfl) (he : starEach [e] X.env = (false, eval e X.env) :: starEach [] X.env := by rfl) (hpl : (backTo pos (starEach [] X.env)).any (·.1) = false := by rfl) : EX X B ρ (.Call (.Name "max" p) [e] [] pos) (iE fun M => M ∈ ns ∧ ∀ y, y ∈ ns → y ≤ M) :=
  x_callB (cr_maxT hc) hg hm (by decide +kernel) (a_cons h a_nil he) (fun vs H σ Q s hv q => by
    obtain ⟨x, rfl, hx⟩ := hv.one
    obtain ⟨t, rfl, h1⟩ := hx.tupI
    exact ⟨t, ns, rfl, h1, hne, fun M h2 h3 => q _ H (Ext.refl H) ⟨M, ⟨h2, h3⟩, rfl⟩⟩) (he := he) (hpl := hpl)
theorem x_max2 {p : Pos} (hg : Gl X "max") (hm : X.mg "max" = none) (ha : EX X B ρ a (rI m)) (hb : EX X B ρ b (rI n)) (hc : X.calm = true := by rfl) (he : starEach [a, b] X.env = (false, eval a X.env) :: starEach [b] X.env := by rfl) (he2 : starEach [b] X.env = (false, eval b X.env) :: starEach [] X.env := by rfl) (hpl : (backTo pos (starEach [b] X.env)).any (·.1) = false := by rfl) : EX X B ρ (.Call (.Name "max" p) [a, b] [] pos) (rI (max m n)) :=
  x_callB (call_max2 hc) hg hm (by decide +kernel) (a_cons ha (a_cons hb a_nil he2) he) (fun vs H σ Q s hv q => by
    obtain ⟨x, y, rfl, h1, h2⟩ := hv.two
    obtain rfl : x = .int m := h1
    obtain rfl : y = .int n := h2
    exact ⟨m, n, rfl, q _ H (Ext.refl H) (by show V.int _ = V.int _; rw [mx2])⟩) (he := he) (hpl := hpl)
/-! ### parts of lists and tuples -/
theorem DRl.drop {K : PySem.W.Frag} {H : Hp} {ds : List D} {vs : List V} (h : DRl K H ds vs) (k : Nat) : DRl K H (ds.drop k) (vs.drop k) := ⟨by rw [List.length_drop, List.length_drop, h.1], fun i e v a b => by
  rw [List.getElem?_drop] at a b
  exact h.2 _ e v a b⟩
theorem DRl.take {K : PySem.W.Frag} {H : Hp} {ds : List D} {vs : List V} (h : DRl K H ds vs) (k : Nat) : DRl K H (ds.take k) (vs.take k) := ⟨by rw [List.length_take, List.length_take, h.1], fun i e v a b => by
  rw [List.getElem?_take] at a b
  split at a
  · rw [if_pos (by assumption)] at b
    exact h.2 _ e v a b
  · cases a⟩
theorem DRl.app {K : PySem.W.Frag} {H : Hp} {ds es : List D} {vs us : List V} (h : DRl K H ds vs) (g : DRl K H es us) : DRl K H (ds ++ es) (vs ++ us) := ⟨by rw [List.length_append, List.length_append, h.1, g.1], fun i e v a b => by
  by_cases hi : i < ds.length
  · rw [List.getElem?_append_left hi] at a
    rw [List.getElem?_append_left (by rw [← h.1]; exact hi)] at b
    exact h.2 i e v a b
  · rw [List.getElem?_append_right (by omega)] at a
    rw [List.getElem?_append_right (by rw [← h.1]; omega), ← h.1] at b
    exact g.2 _ e v a b⟩
theorem cut_hi (vs : List V) (k : Nat) : cutV vs none (some (k : Int)) = vs.take k := by
  have e1 : HT.sIx vs.length 0 none = 0 := rfl
  have e2 : HT.sIx vs.length vs.length (some (k : Int)) = min k vs.length := by
    unfold HT.sIx
    dsimp only
    rw [if_neg (by omega)]
    rfl
  unfold cutV
  rw [e1, e2, List.drop_zero, Nat.sub_zero, ← List.take_eq_take_min]
theorem cut_lo (vs : List V) (k : Nat) : cutV vs (some (k : Int)) none = vs.drop k := by
  have e1 : HT.sIx vs.length 0 (some (k : Int)) = min k vs.length := by
    unfold HT.sIx
    dsimp only
    rw [if_neg (by omega)]
    rfl
  have e2 : HT.sIx vs.length vs.length none = vs.length := rfl
  unfold cutV
  rw [e1, e2]
  rw [List.take_of_length_le (by rw [List.length_drop]; omega)]
  by_cases h : k ≤ vs.length
  · rw [Nat.min_eq_left h]
  · rw [Nat.min_eq_right (by omega), List.drop_length, List.drop_eq_nil_of_le (by omega)]
theorem x_slHi {l : Addr} {ds : List D} {k : Nat} {p2 : Pos} (ha : EX X B ρ a (lstA X.K l ds)) (hb : EX X B ρ b (rI (k : Int))) : EX X B ρ (.Subscript a (.Slice none (some b) none p2) pos) (newL B X.K (ds.take k)) :=
  PE_wk (pe_slice sl_list ha po_none (po_some hb)) fun σ H Q ⟨s, q⟩ => ⟨s, fun x H1 e1 hx => ⟨s.mono e1, fun y H2 e2 hy => ⟨(k : Int), hy, by
    obtain ⟨rfl, _, us, h1, h2⟩ := hx
    refine ⟨l, us, rfl, (h1.ext e2).sq, fun p hp => q _ _ (e1.trans (e2.trans (Ext.new hp))) ?_⟩
    obtain ⟨hB, hd⟩ := ((s.mono e1).mono e2).fresh hp
    rw [cut_hi]
    exact ⟨p, hB, rfl, hd, us.take k, upd_same, (h2.take k).tk (e2.trans (Ext.new (d := d) hp)).tk⟩⟩⟩⟩
theorem x_slLo {l : Addr} {ds : List D} {k : Nat} {p2 : Pos} (ha : EX X B ρ a (lstA X.K l ds)) (hb : EX X B ρ b (rI (k : Int))) : EX X B ρ (.Subscript a (.Slice (some b) none none p2) pos) (newL B X.K (ds.drop k)) :=
  PE_wk (pe_slice sl_list ha (po_some hb) po_none) fun σ H Q ⟨s, q⟩ => ⟨s, fun x H1 e1 hx => ⟨s.mono e1, fun y H2 e2 hy => ⟨(k : Int), hy, by
    obtain ⟨rfl, _, us, h1, h2⟩ := hx
    refine ⟨l, us, rfl, (h1.ext e2).sq, fun p hp => q _ _ (e1.trans (e2.trans (Ext.new hp))) ?_⟩
    obtain ⟨hB, hd⟩ := ((s.mono e1).mono e2).fresh hp
    rw [cut_lo]
    exact ⟨p, hB, rfl, hd, us.drop k, upd_same, (h2.drop k).tk (e2.trans (Ext.new (d := d) hp)).tk⟩⟩⟩⟩
theorem x_tlHi {ds : List D} {k : Nat} {p2 : Pos} (ha : EX X B ρ a (dat X.K (.t ds))) (hb : EX X B ρ b (rI (k : Int))) : EX X B ρ (.Subscript a (.Slice none (some b) none p2) pos) (dat X.K (.t (ds.take k))) :=
  PE_wk (pe_slice sl_tupA ha po_none (po_some hb)) fun σ H Q ⟨s, q⟩ => ⟨s, fun x H1 e1 hx => ⟨s.mono e1, fun y H2 e2 hy => ⟨(k : Int), hy, by
    obtain ⟨t, us, rfl, h1, h2⟩ := DR.tup hx
    refine ⟨t, us, rfl, e2.tk.sqT h1, fun h => q _ _ (e1.trans e2) ?_, fun h p hp => q _ _ (e1.trans (e2.trans (Ext.new hp))) ?_⟩
    · have e : us.take k = us := by
        rw [← cut_hi]
        unfold cutV
        rw [h.1, h.2, Nat.sub_zero, List.drop_zero, List.take_length]
      have := h2.take k
      rw [e] at this
      exact DR.of_tup (e2.tk.sqT h1) (this.tk e2.tk)
    · rw [cut_hi]
      exact DR.of_tup (SqT.of upd_same) ((h2.take k).tk (e2.trans (Ext.new (d := d) hp)).tk)⟩⟩⟩
theorem x_tlLo {ds : List D} {k : Nat} {p2 : Pos} (ha : EX X B ρ a (dat X.K (.t ds))) (hb : EX X B ρ b (rI (k : Int))) : EX X B ρ (.Subscript a (.Slice (some b) none none p2) pos) (dat X.K (.t (ds.drop k))) :=
  PE_wk (pe_slice sl_tupA ha (po_some hb) po_none) fun σ H Q ⟨s, q⟩ => ⟨s, fun x H1 e1 hx => ⟨s.mono e1, fun y H2 e2 hy => ⟨(k : Int), hy, by
    obtain ⟨t, us, rfl, h1, h2⟩ := DR.tup hx
    refine ⟨t, us, rfl, e2.tk.sqT h1, fun h => q _ _ (e1.trans e2) ?_, fun h p hp => q _ _ (e1.trans (e2.trans (Ext.new hp))) ?_⟩
    · have e : us.drop k = us := by
        rw [← cut_lo]
        unfold cutV
        rw [h.1, h.2, Nat.sub_zero, List.drop_zero, List.take_length]
      have := h2.drop k
      rw [e] at this
      exact DR.of_tup (e2.tk.sqT h1) (this.tk e2.tk)
    · rw [cut_lo]
      exact DR.of_tup (SqT.of upd_same) ((h2.drop k).tk (e2.trans (Ext.new (d := d) hp)).tk)⟩⟩⟩
/-! ### lists and tuples joined -/
theorem x_catL {ds es' : List D} (ha : EX X B ρ a (newL B X.K ds)) (hb : EX X B ρ b (newL B X.K es')) (hl : ds.length + es'.length ≤ 1000) : EX X B ρ (.BinOp a .Add b pos) (newL B X.K (ds ++ es')) :=
  x_op2 op_cat ha hb fun x y H σ Q s hx hy q => by
    obtain ⟨l, _, rfl, _, us, h1, h2⟩ := hx
    obtain ⟨l2, _, rfl, _, us2, h3, h4⟩ := hy
    refine ⟨l, l2, us, us2, rfl, rfl, h1, h3, by rw [← h2.1, ← h4.1]; exact Nat.le_of_lt (small1000 hl), fun p hp => q _ _ (Ext.new hp) ?_⟩
    obtain ⟨hB, hd⟩ := s.fresh hp
    exact ⟨p, hB, rfl, hd, us ++ us2, upd_same, (h2.app h4).tk (Ext.new (d := d) hp).tk⟩
theorem x_catT {ds es' : List D} (ha : EX X B ρ a (dat X.K (.t ds))) (hb : EX X B ρ b (dat X.K (.t es'))) (hl : ds.length + es'.length ≤ 1000) : EX X B ρ (.BinOp a .Add b pos) (dat X.K (.t (ds ++ es'))) :=
  x_op2 op_catA ha hb fun x y H σ Q s hx hy q => by
    obtain ⟨l, us, rfl, h1, h2⟩ := DR.tup hx
    obtain ⟨l2, us2, rfl, h3, h4⟩ := DR.tup hy
    have h5 := h2.app h4
    refine ⟨l, l2, us, us2, rfl, rfl, h1, h3, by rw [← h2.1, ← h4.1]; exact Nat.le_of_lt (small1000 hl), fun z => q _ _ (Ext.refl H) ?_, fun _ z => q _ _ (Ext.refl H) ?_, fun _ _ p hp => q _ _ (Ext.new hp) ?_⟩
    · rw [z, List.nil_append] at h5
      exact DR.of_tup h3 h5
    · rw [z, List.append_nil] at h5
      exact DR.of_tup h1 h5
    · exact DR.of_tup (SqT.of upd_same) (h5.tk (Ext.new (d := d) hp).tk)
/-! ### texts; lists compared -/
theorem x_str {K : PySem.W.Frag} {j : Nat} {x : Str} : EX X B ρ (.Constant (.str x) j pos) (dat K (.s x)) := PE_wk pe_str fun σ H Q ⟨s, q⟩ => q _ H (Ext.refl H) (.s x)
theorem t_eqS {K : PySem.W.Frag} {x y : Str} (ha : EX X B ρ a (dat K (.s x))) (hb : EX X B ρ b (dat K (.s y))) : TX X B ρ (.Compare a [.Eq] [b] pos) (is (decide (x = y))) := t_cmp op_eq (nomark _) ha hb fun u v H σ Q _ hx hy q => by
  cases hx; cases hy
  refine ⟨rfl, q _ H (Ext.refl H) ?_⟩
  by_cases h : x = y
  · rw [h, decide_eq_true rfl, decide_eq_true rfl]
  · rw [decide_eq_false h, decide_eq_false fun z => h (V.str.inj z)]
theorem shpLs {k : Nat} {xs : List D} (h : ∀ e ∈ xs, Shp k e) (hk : k < 64) : SeqAt.shaped (.list (pyL xs)) = true := by
  obtain ⟨h1, h2⟩ := shpL fun e he => (h e he).lay
  unfold SeqAt.shaped
  have e1 : (PyData.list (pyL xs)).canLay0 = true := by simpa [PyData.canLay0] using h1
  have e2 : (PyData.list (pyL xs)).depth ≤ 64 := by
    have : (PyData.list (pyL xs)).depth ≤ k + 1 := by simpa [PyData.depth] using h2
    omega
  rw [e1, Bool.true_and]
  exact decide_eq_true e2
theorem eqvLs {k j : Nat} {xs ys : List D} (h : ∀ e ∈ xs, Shp k e) (g : ∀ e ∈ ys, Shp j e) : PyData.eqv (.list (pyL xs)) (.list (pyL ys)) = true ↔ xs = ys := by
  have := eqvL (xs := xs) (ys := ys) (fun e he {f} hf => (h e he).eqv hf) fun f hf => ⟨_, g f hf⟩
  simpa [PyData.eqv] using this
theorem dpLs {K : PySem.W.Frag} {l : Addr} {ds : List D} {v : V} {H : Hp} (h : (lstA (d := d) K l ds).p v H) : Dp K H v (.list (pyL ds)) := by
  obtain ⟨rfl, _, us, h1, h2⟩ := h
  exact .lst h1.sq (dpAll_of h2.1 fun i e v a b => dp_of (h2.2 i e v a b))
theorem t_eqL {l1 l2 : Addr} {xs ys : List D} {k j : Nat} (hu : X.A.units + 64 < cLine) (ha : EX X B ρ a (lstA X.K l1 xs)) (hb : EX X B ρ b (lstA X.K l2 ys)) (hx : ∀ e ∈ xs, Shp k e) (hy : ∀ e ∈ ys, Shp j e) (hk : k < 64 := by decide) (hj : j < 64 := by decide) : TX X B ρ (.Compare a [.Eq] [b] pos) (fun q => q = true ↔ xs = ys) :=
  t_cmp (op_eqD hu) (nomark _) ha hb fun u v H σ Q _ hx' hy' q => ⟨_, _, dpLs hx', dpLs hy', shpLs hx hk, shpLs hy hj, q _ H (Ext.refl H) (eqvLs hx hy)⟩
theorem t_neL {l1 l2 : Addr} {xs ys : List D} {k j : Nat} (hu : X.A.units + 64 < cLine) (ha : EX X B ρ a (lstA X.K l1 xs)) (hb : EX X B ρ b (lstA X.K l2 ys)) (hx : ∀ e ∈ xs, Shp k e) (hy : ∀ e ∈ ys, Shp j e) (hk : k < 64 := by decide) (hj : j < 64 := by decide) : TX X B ρ (.Compare a [.NotEq] [b] pos) (fun q => q = false ↔ xs = ys) :=
  t_cmp (op_neD hu) (nomark _) ha hb fun u v H σ Q _ hx' hy' q => ⟨_, _, dpLs hx', dpLs hy', shpLs hx hk, shpLs hy hj, q _ H (Ext.refl H) (by have := eqvLs hx hy; rw [← this]; cases PyData.eqv (.list (pyL xs)) (.list (pyL ys)) <;> simp)⟩
theorem x_eqL {l1 l2 : Addr} {xs ys : List D} {k j : Nat} (hu : X.A.units + 64 < cLine) (ha : EX X B ρ a (lstA X.K l1 xs)) (hb : EX X B ρ b (lstA X.K l2 ys)) (hx : ∀ e ∈ xs, Shp k e) (hy : ∀ e ∈ ys, Shp j e) (hk : k < 64 := by decide) (hj : j < 64 := by decide) : EX X B ρ (.Compare a [.Eq] [b] pos) (exR (fun q => q = true ↔ xs = ys) rB) :=
  x_cmp (op_eqD hu) (nomark _) ha hb fun u v H σ Q _ hx' hy' q => ⟨_, _, dpLs hx', dpLs hy', shpLs hx hk, shpLs hy hj, q _ H (Ext.refl H) ⟨_, eqvLs hx hy, rfl⟩⟩
/-! ### a tuple of what is no data -/
def tupR (K : PySem.W.Frag) (Rs : List (Rp d)) : Rp d := ⟨fun v H => ∃ t vs, v = .ref t ∧ SqT K H t vs ∧ RsH Rs vs H, fun e ⟨t, vs, h1, h2, h3⟩ => ⟨t, vs, h1, e.tk.sqT h2, h3.mono e⟩⟩
theorem x_tupX {x1} (h : AX X B ρ es Rs) (hl : Rs.length ≤ 1000 := by first | decide | simp) : EX X B ρ (.Tuple es x1 pos) (tupR X.K Rs) :=
  PE_wk (pe_tup h) fun σ H Q ⟨s, q⟩ => ⟨s, fun vs H1 e1 hv => by
    refine ⟨by rw [hv.len]; exact Nat.le_of_lt (small1000 hl), fun p hp => q _ _ (e1.trans (Ext.new hp)) ?_⟩
    exact ⟨p, vs, rfl, SqT.of upd_same, hv.mono (Ext.new hp)⟩⟩
theorem x_ixX (k : Nat) (ha : EX X B ρ a (tupR X.K Rs)) (hb : EX X B ρ b (rI (k : Int))) (hw : Rs[k]? = some R) (hs : PlainIx b := by exact (fun _ _ => rfl)) : EX X B ρ (.Subscript a b pos) R :=
  PE_wk (pe_ix ix_tup ha hb hs) fun σ H Q ⟨s, q⟩ => ⟨s, fun x H1 e1 hx => ⟨s.mono e1, fun y H2 e2 hy => by
    obtain ⟨t, us, rfl, h1, h2⟩ := hx
    obtain ⟨v, hv, hr⟩ := h2.get hw
    exact ⟨t, us, _, v, rfl, hy, e2.tk.sqT h1, atI_nat hv, q v H2 (e1.trans e2) (R.st e2 hr)⟩⟩⟩
/-- for x, y in enumerate(a list that the slots tell) -/
theorem bx_forEL {α : Type} {ds : List D} {la : Addr} (j k : Nat) {x y : Str} {kk : Nat} {tpos p1 p2 p p3 : Pos} (P : Nat → α → Prop) (r : Nat → α → Ro d) (hg : Gl X "enumerate") (hm : X.mg "enumerate" = none) (ha : EX X B ρ a (lstA X.K la ds)) (h0 : ∀ σ H, St B ρ σ H → IS B (P 0) (r 0) σ H)
    (hl : ∀ i z, P i z → ∃ (k : Nat) (R : Rp d), (r i z)[k]? = some (some R) ∧ ∀ v H, R.p v H → (lstA (d := d) X.K la ds).p v H)
    (hb : ∀ (i : Nat) w z, ds[i]? = some w → P i z → BX X body (St B (((r i z).set j (some (rI (i : Int)))).set k (some (dat X.K w)))) (Lp Po (IS B (P (i + 1)) (r (i + 1))) (IS B (P ds.length) (r ds.length)))) (h : BX X rest (IS B (P ds.length) (r ds.length)) Po)
    (hN : X.N.Nodup) (hp : PassesOwn (model X.prog X.w) X.A X.env X.xe) (hj : X.N[j]? = some x := by rfl) (hk : X.N[k]? = some y := by rfl) (hc : X.calm = true := by rfl) (hx : Loc X.env.scope x := by first | exact Or.inl rfl | exact Or.inr rfl) (hy : Loc X.env.scope y := by first | exact Or.inl rfl | exact Or.inr rfl)
    (hf : X.fn x = true ∨ X.env.scope.names.lookup x = some .local := by first | exact .inl rfl | exact .inr rfl | assumption) (hfy : X.fn y = true ∨ X.env.scope.names.lookup y = some .local := by first | exact .inl rfl | exact .inr rfl | assumption)
    (he : starEach [a] X.env = [(false, eval a X.env)] := by rfl) (hs : ∀ x, foldedSetIterable (.Call (.Name "enumerate" p) [a] [] p3) X.env x = pure x := by intro _; rfl) :
    BX X (.For (.Tuple [.Name x p1, .Name y p2] kk tpos) (.Call (.Name "enumerate" p) [a] [] p3) body [] pos :: rest) (St B ρ) Po := by
  refine bx_cons (Mid := IS B (P ds.length) (r ds.length)) ?_ h
  refine PS_wk (t := tFor (iEnum X.K fun σ H Q => St B ρ σ H ∧ ∀ vs H', Ext d H H' → RsH [lstA X.K la ds] vs H' → Q vs H') (gTup X.K 2 (gCons (gName j) (gCons (gName k) gNil))) (tBody (Z := Nat × D × α) B (fun z => ((r z.1 z.2.2).set j (some (rI (z.1 : Int)))).set k (some (dat X.K z.2.1))) (fun z => ds[z.1]? = some z.2.1 ∧ P z.1 z.2.2) (fun z => Lp Po (IS B (P (z.1 + 1)) (r (z.1 + 1))) (IS B (P ds.length) (r ds.length)))))
    (ps_for hp hc (pi_enum hg hm (a_cons ha a_nil he) he) (pg_tup hc (pgs_cons (pg_name hN hj hx hf) (pgs_cons (pg_name hN hk hy hfy) pgs_nil))) ⟨fun pins s σ H E I ⟨⟨i, w, z⟩, ⟨hw, hz⟩, q, l⟩ => (hb i w z hw hz).run pins s σ H E I ⟨q, l⟩⟩ hs) fun E σ H ⟨s, l⟩ => ⟨s, fun vs H1 e1 hv => ?_⟩
  obtain ⟨v, rfl, hv'⟩ := hv.one
  obtain ⟨rfl, hld, us, h1, h2⟩ := hv'
  have key : ∀ i σ H, IS B (P i) (r i) σ H → ∃ vs, SqL X.K H la vs ∧ DRl X.K H ds vs := fun i σ H ⟨z, hz, q⟩ => by
    obtain ⟨k, R, hk, hR⟩ := hl i z hz
    obtain ⟨v, _, g⟩ := q.good.get hk
    obtain ⟨_, _, vs, a1, a2⟩ := hR v H g
    exact ⟨vs, a1.sq, a2⟩
  refine ⟨la, us, rfl, h1.sq, fun i m σ H => m = ds.length - i ∧ i ≤ ds.length ∧ Tk H1 H ∧ IS B (P i) (r i) σ H, ⟨ds.length, rfl, Nat.zero_le _, Tk.refl _, h0 _ _ (s.mono e1)⟩, ?_⟩
  rintro i m σ H ⟨rfl, hi, kk, q⟩
  obtain ⟨vs, a1, a2⟩ := key i σ H q
  by_cases hlt : i < ds.length
  · have hv : i < vs.length := by rw [← a2.1]; exact hlt
    refine .inr ⟨⟨vs, vs[i], a1, List.getElem?_eq_getElem hv⟩, fun σ' H' => Tk H1 H' ∧ IS B (P (i + 1)) (r (i + 1)) σ' H', fun σ' H' p' => ⟨ds.length - (i + 1), by omega, rfl, hlt, p'.1, p'.2⟩, fun v H' yl => ?_⟩
    obtain ⟨T, x', rfl, hT, rfl, f1⟩ := yl
    obtain ⟨w, hw, hr⟩ := a2.getV (f1 vs a1)
    obtain ⟨z, hz, q⟩ := q
    have eT : Ext d H (upd H T (.tup [.int (i : Nat), x'])) := Ext.new hT
    have kT := kk.trans eT.tk
    refine ⟨T, [.int (i : Nat), x'], rfl, SqT.of upd_same, rfl, .int (i : Nat), [x'], rfl, x', [], rfl, rfl, (i, w, z), ⟨hw, hz⟩, ⟨(q.mono eT).ext, (q.mono eT).dr, ((q.mono eT).good.set j (R := rI (i : Int)) rfl).set k (R := dat X.K w) (hr.tk eT.tk)⟩, ?_⟩
    exact ⟨fun σ' H' k' q' => ⟨kT.trans k', q'⟩, fun v H' k' q' => l.rt v H' ((e1.tk.trans kT).trans k') q', fun σ' H' k' q' => l.nx σ' H' ((e1.tk.trans kT).trans k') q', fun σ' H' k' q' => ⟨kT.trans k', q'⟩⟩
  · have e' : i = ds.length := by omega
    subst e'
    exact .inl ⟨⟨vs, a1, by rw [← a2.1]; exact Nat.le_refl _⟩, l.nx σ H (e1.tk.trans kk) q⟩
theorem t_ltE {P S : Int → Prop} (ha : EX X B ρ a (iE P)) (hb : EX X B ρ b (iE S)) : TX X B ρ (.Compare a [.Lt] [b] pos) (fun k => ∃ i j, P i ∧ S j ∧ k = decide (i < j)) := t_cmp op_lt (nomark _) ha hb fun x y H σ Q _ ⟨i, hi, hx⟩ ⟨j, hj, hy⟩ q => ⟨i, j, hx, hy, q _ H (Ext.refl H) ⟨i, j, hi, hj, rfl⟩⟩
theorem t_gtE {P S : Int → Prop} (ha : EX X B ρ a (iE P)) (hb : EX X B ρ b (iE S)) : TX X B ρ (.Compare a [.Gt] [b] pos) (fun k => ∃ i j, P i ∧ S j ∧ k = decide (j < i)) := t_cmp op_gt (nomark _) ha hb fun x y H σ Q _ ⟨i, hi, hx⟩ ⟨j, hj, hy⟩ q => ⟨i, j, hx, hy, q _ H (Ext.refl H) ⟨i, j, hi, hj, rfl⟩⟩
theorem x_newE {ds : List D} {K : PySem.W.Frag} (h : EX X B ρ e (newL B K ds)) : EX X B ρ e (newE B K fun es => es = ds) := x_sub h fun v H hv => ⟨ds, rfl, hv⟩
theorem x_lstE {P : Int → Prop} (h : EX X B ρ e (iE P)) (hs : starEach [e] X.env = (false, eval e X.env) :: starEach [] X.env := by rfl) : EX X B ρ (.List [e] pos) (newE B X.K fun ds => ∃ z, P z ∧ ds = [.i z]) :=
  PE_wk (pe_lst (a_cons h a_nil hs)) fun σ H Q ⟨s, q⟩ => ⟨s, fun vs H1 e1 hv => by
    obtain ⟨v, rfl, z, hz, hv⟩ := hv.one
    obtain rfl : v = .int z := hv
    refine ⟨Nat.le_of_lt (small1000 (by simp)), fun p hp => q _ _ (e1.trans (Ext.new hp)) ?_⟩
    obtain ⟨hB, hpd⟩ := (s.mono e1).fresh hp
    exact ⟨_, ⟨z, hz, rfl⟩, p, hB, rfl, hpd, [.int z], upd_same, DRl.of_ints [z]⟩⟩
theorem x_catLE {P S : List D → Prop} (ha : EX X B ρ a (newE B X.K P)) (hb : EX X B ρ b (newE B X.K S)) (hl : ∀ x y, P x → S y → x.length + y.length ≤ 1000) : EX X B ρ (.BinOp a .Add b pos) (newE B X.K fun ds => ∃ x y, P x ∧ S y ∧ ds = x ++ y) :=
  x_op2 op_cat ha hb fun x y H σ Q s hx hy q => by
    obtain ⟨ds, hds, l, _, rfl, _, us, h1, h2⟩ := hx
    obtain ⟨es', hes, l2, _, rfl, _, us2, h3, h4⟩ := hy
    refine ⟨l, l2, us, us2, rfl, rfl, h1, h3, by rw [← h2.1, ← h4.1]; exact Nat.le_of_lt (small1000 (hl _ _ hds hes)), fun p hp => q _ _ (Ext.new hp) ?_⟩
    obtain ⟨hB, hd⟩ := s.fresh hp
    exact ⟨_, ⟨ds, es', hds, hes, rfl⟩, p, hB, rfl, hd, us ++ us2, upd_same, (h2.app h4).tk (Ext.new (d := d) hp).tk⟩
/-- y = [elt for ..]: a store of its own kind -/
def AsgX (X : Cx) (B : Hp) (ρ : Ro d) (i : Nat) (st : Stmt) (R : Rp d) : Prop := PS X st fun E σ H => St B ρ σ H ∧ ∀ v H', Ext d H H' → R.p v H' → E.nx (σ.set i (some v)) H'
theorem as_sub {i : Nat} (h : AsgX X B ρ i st R) (w : ∀ v H, R.p v H → R'.p v H) : AsgX X B ρ i st R' := PS_wk h fun E σ H ⟨s, q⟩ => ⟨s, fun v H' e1 hv => q v H' e1 (w v H' hv)⟩
theorem bx_newA (i : Nat) {K : PySem.W.Frag} {S : List D → Prop} (ls : List Addr) (hls : ∀ l ∈ ls, Known l ρ) (he : ∀ B' : Hp, AsgX X B' ρ i st (newE B' K S)) (h : ∀ l ds, S ds → B l = none → (∀ l' ∈ ls, l ≠ l') → BX X rest (St B (ρ.set i (some (own K l ds)))) Po) : BX X (st :: rest) (St B ρ) Po := by
  refine bx_cons (Mid := fun σ H => ∃ z : Addr × List D, (S z.2 ∧ B z.1 = none ∧ ∀ l' ∈ ls, z.1 ≠ l') ∧ St B (ρ.set i (some (own K z.1 z.2))) σ H) ?_ (bx_ex fun z hz => h z.1 z.2 hz.1 hz.2.1 hz.2.2)
  refine ⟨fun pins s σ H E I ⟨st, q⟩ => ?_⟩
  refine (he H).run pins s σ H E I ⟨⟨Ext.refl H, st.dr, st.good⟩, fun v H' e1 hv => ?_⟩
  obtain ⟨ds, hS, l, hl, hv⟩ := hv
  have hld : some l ≠ d := hv.2.1
  refine q.nx _ H' e1.tk ⟨(l, ds), ⟨hS, ?_, fun l' hl' z => ?_⟩, st.ext.trans e1, (st.mono e1).dr, (st.mono e1).good.set i hv⟩
  · cases e2 : B l with
    | none => rfl
    | some o =>
      have := st.ext.at e2 hld
      rw [hl] at this; cases this
  · obtain ⟨k, R, h1, h2⟩ := hls l' hl'
    obtain ⟨w, _, h3⟩ := st.good.get h1
    exact h2 w H h3 (by have z' : l = l' := z; rw [← z']; exact hl)
theorem as_lcRE {S : Int → Prop} (i0 j : Nat) {x y : Str} {py spos : Pos} {scope : Scope} {tpos p p2 : Pos} (P : Nat → D → Prop) (hg : Gl X "range") (hm : X.mg "range" = none) (hi : EX X B ρ e (iE S)) (hn : ∀ nn, S nn → nn < 2000 ∧ -(2 ^ 62) ≤ nn) (hN : X.N.Nodup) (hok : BlkOk X.N X.env.scope scope [(x, j)])
    (hgn : ∀ (s : Shared) (H : Hp) (C : Addr) (cl : List (Str × Addr)) (fp : List Addr), PG (X.blk s H scope (compEnvC scope cl C X.env) fp) (.Name x tpos) (gName j))
    (hb : ∀ (s : Shared) (H : Hp) (C : Addr) (cl : List (Str × Addr)) (fp : List Addr) (i : Nat), EX (X.blk s H scope (compEnvC scope cl C X.env) fp) B (ρ.set j (some (rI (i : Int)))) elt (dE X.K (P i)))
    (hc : X.calm = true := by rfl) (he : starEach [e] X.env = [(false, eval e X.env)] := by rfl) (hs : ∀ x, foldedSetIterable (.Call (.Name "range" p) [e] [] p2) X.env x = pure x := by intro _; rfl)
    (hy : X.N[i0]? = some y := by rfl) (hyl : X.env.scope.names.lookup y = some .local := by rfl) (hsw : swapsWith (.ListComp elt [⟨.Name x tpos, .Call (.Name "range" p) [e] [] p2, [], 0⟩] scope pos) (some (.Name y py)) spos.line X.env = pure true := by rfl) :
    AsgX X B ρ i0 (.Assign [.Name y py] (.ListComp elt [⟨.Name x tpos, .Call (.Name "range" p) [e] [] p2, [], 0⟩] scope pos) spos) (newE B X.K fun ds => (∃ nn, S nn ∧ ds.length = nn.toNat) ∧ ∀ k w, ds[k]? = some w → P k w) := by
  refine PS_wk (ps_setLc (own := [(x, j)]) (g := gName j) (tt := tYes) (te := tElt (Z := Nat) B X.K (fun i => ρ.set j (some (rI (i : Int)))) (fun i => True) P) hc hN hy hyl hsw (pi_range1 hg hm (a_cons hi a_nil he) he) hok hgn (fun _ _ _ _ _ => pts_nil) (fun s H C cl fp => elt_of fun i _ => hb s H C cl fp i) hs) fun E σ H ⟨s, q⟩ => ⟨s, fun vs H1 e1 hv => ?_⟩
  obtain ⟨v, rfl, hv'⟩ := hv.one
  obtain ⟨nn, hnn, hv'⟩ := hv'
  obtain rfl : v = .int nn := hv'
  have hn' := hn nn hnn
  have s1 := s.mono e1
  refine ⟨nn, rfl, hn'.2, by omega, fun Dl hD => ?_⟩
  obtain ⟨hB, hDd⟩ := s1.fresh hD
  refine lc_range (lo := 0) (n := nn.toNat) (Lc H1 X.K Dl d P) ⟨Ext.new hD, [], [], upd_same, DRl.nil, rfl, fun k w h => by cases h⟩ (fun i H' hlt L => ?_) (fun H' L => ?_)
  · refine ⟨wipe1 _ _ _, ?_⟩
    refine ⟨i, trivial, ?_, fun y H2 e2 hy => lc_step hD hDd L e2 hy (by omega)⟩
    rw [Int.zero_add]
    exact st_wipe (s1.mono L.1) (R := rI (i : Int)) rfl
  · obtain ⟨h0, us, ds, h1, h2, h3, h4⟩ := L
    exact q _ H' (e1.trans h0) ⟨ds, ⟨⟨nn, hnn, h3⟩, h4⟩, Dl, hB, rfl, hDd, us, h1, h2⟩
theorem tupR2_up {ρ1 : Ro d} {K : PySem.W.Frag} {S : List D → Prop} {σ : L2.St} {H H' : Hp} {v : V} (s : St B ρ1 σ H) (h : (tupR (d := d) K [newE H K S, rAny]).p v H') : (tupR (d := d) K [newE B K S, rAny]).p v H' := by
  obtain ⟨t, vs, h1, h2, h3⟩ := h
  obtain ⟨x, y, rfl, h4, h5⟩ := h3.two
  exact ⟨t, [x, y], h1, h2, newE_up s h4, trivial, trivial⟩
end
end Cv

namespace Cv
open PySem PySem.Spec PyProof.Rows L2 RZ
section
variable {d : Option Addr} {X : Cx} {B : Hp} {ρ ρ' : Ro d} {a b c e iter elt : Expr} {es : List Expr} {R R' Ra Rb : Rp d} {Rs : List (Rp d)} {pos : Pos} {m n : Int} {st : Stmt} {rest body orelse : List Stmt} {Pre Mid : L2.St → Hp → Prop} {Po : Ends}
theorem bx_unp2 {A1 A2 : D} (i1 i2 : Nat) {x1 x2 : Str} {q1 q2 q4 : Pos} {kk : Nat} (he : EX X B ρ e (dat X.K (.t [A1, A2]))) (h : BX X rest (St B ((ρ.set i1 (some (dat X.K A1))).set i2 (some (dat X.K A2)))) Po)
    (hN : X.N.Nodup) (h1 : X.N[i1]? = some x1 := by rfl) (h2 : X.N[i2]? = some x2 := by rfl) (hc : X.calm = true := by rfl) (l1 : Loc X.env.scope x1 := by first | exact Or.inl rfl | exact Or.inr rfl) (l2 : Loc X.env.scope x2 := by first | exact Or.inl rfl | exact Or.inr rfl)
    (f1 : X.fn x1 = true ∨ X.env.scope.names.lookup x1 = some .local := by first | exact .inl rfl | exact .inr rfl | assumption) (f2 : X.fn x2 = true ∨ X.env.scope.names.lookup x2 = some .local := by first | exact .inl rfl | exact .inr rfl | assumption)
    (hs : swapsWithSole [.Tuple [.Name x1 q1, .Name x2 q2] kk q4] e pos.line X.env = pure false := by rfl) (hw : swappedStores [.Tuple [.Name x1 q1, .Name x2 q2] kk q4] e X.env = pure none := by rfl) :
    BX X (.Assign [.Tuple [.Name x1 q1, .Name x2 q2] kk q4] e pos :: rest) (St B ρ) Po := by
  refine bx_cons (Mid := St B ((ρ.set i1 (some (dat X.K A1))).set i2 (some (dat X.K A2)))) ?_ h
  refine PS_wk (ps_asg he (pg_tup hc (pgs_cons (pg_name hN h1 l1 f1) (pgs_cons (pg_name hN h2 l2 f2) pgs_nil))) hs hw) fun E σ H ⟨s, l⟩ => ⟨s, fun v H' e1 hv => ?_⟩
  obtain ⟨t, us, rfl, g1, g2⟩ := DR.tup hv
  match us, g2 with
  | [v1, v2], g2 =>
    refine ⟨t, [v1, v2], rfl, g1, rfl, v1, [v2], rfl, v2, [], rfl, rfl, ?_⟩
    exact l.nx _ H' e1.tk ⟨(s.mono e1).ext, (s.mono e1).dr, ((s.mono e1).good.set i1 (R := dat X.K A1) (g2.2 0 A1 v1 rfl rfl)).set i2 (R := dat X.K A2) (g2.2 1 A2 v2 rfl rfl)⟩
  | [], g2 => exact absurd g2.1 (by simp)
  | [_], g2 => exact absurd g2.1 (by simp)
  | _ :: _ :: _ :: _, g2 => exact absurd g2.1 (by simp)
theorem passX : Passes (L2.CX X.prog X.w) X E0 := fun _ _ _ _ _ _ _ h => by
  obtain ⟨_, _, _, _, _, _, _, _, _, _, _, _, z⟩ := h
  exact z.elim
/-- a class of errors of the program's own, made with a text -/
structure ErrTxt (K : PySem.W.Frag) (mg : Str → Option Value) (C : Addr) (x : Str) : Prop where
  gC : mg x = some (.ref C)
  exc : PySem.W.excIn K C [Value.type "ValueError", Value.type "Exception", Value.type "BaseException", Value.type "object"] "ValueError.__new__" = true
  kC : PySem.W.keepIn K (.ref C) = true
  exB : PySem.W.subIn K (.ref C) (.type "BaseException") = some true
  tyC : PySem.W.typeIn K (.ref C) = some (.type "type")
  te : PySem.W.exmOne K (.ref C) (.ref C) = some true
/-- raise C('text') -/
theorem bx_raiseC {C : Addr} {x m : Str} {j : Nat} {p p2 pos2 : Pos} {E : XK} {W : L2.WX} (T : ErrTxt X.K X.mg C x) (tk : L2.Takes X W) (hW : ∀ σ H, E (.ref C) none H → W (.ref C) none σ H) (hE : ∀ H1, Ext d B H1 → E (.ref C) none H1)
    (hc : X.calm = true := by rfl) (hg : Gl X x := by rfl) (hd : (x == ("__debug__" : Str)) = false := by decide) :
    BX X (.Raise (some (.Call (.Name x p) [.Constant (.str m) j p2] [] pos)) none pos2 :: rest) (St B ρ) Po :=
  bx_cons (Mid := fun _ _ => False) (PS_wk (L2.ps_raise hc tk (L2.pmk_own PySem.F.excBase_ValueError T.exc T.gC T.kC (raises_own T.exB T.tyC) hg hd)) fun D σ H ⟨s, _⟩ => hW σ H (hE H s.ext)) bx_false
/-- the call's promise tells of results and errors -/
def spE {α : Type} (d : Option Addr) (As : α → List (Rp d)) (Ok : α → Prop) (Rz : α → Rp d) (Bad : α → Prop) (c : Value) : Sp := fun vs H Q E => ∃ z : α, RsH (As z) vs H ∧ (∀ a, d = some a → Drw H a) ∧ (Ok z → ∀ v H', Ext d H H' → (Rz z).p v H' → Q v H') ∧ (Bad z → ∀ H', Ext d H H' → E c none H') ∧ (Ok z ∨ Bad z)
end
section
variable {d : Option Addr} {Pg : Program} {w : World} {K : PySem.W.Frag} {mg : Str → Option Value} {base : Heap}
/-- a def that may raise c: its body with B := the heap at the start -/
theorem fn_okE {α : Type} {As : α → List (Rp d)} {Ok : α → Prop} {Rz : α → Rp d} {Bad : α → Prop} {c : Value} {x qual : Str} {sd : Stmt} {f : Addr} {fd : FuncData} {N ps : List Str} {k : Nat} (F : Fun K x qual sd f fd) (S : FnScope N ps (defScope sd)) (hl : ∀ z, (As z).length = ps.length) (hN : ps.length ≤ N.length)
    (body : ∀ (z : α) (H : Hp) (cdv : Value) (A : Around) (outer : List Env) (s : Shared) (E : XK), Room k (A.deeper (envOfC qual (defScope sd) s.heap.objs.size f cdv)) → (Bad z → ∀ H', Ext d H H' → E c none H') → (Ok z ∨ Bad z) →
      BX (cxOf (L2.CX Pg w) Pg w K mg base N qual (defScope sd) f cdv A outer s H E) (defBody sd) (St H (ro (As z) (N.length - (As z).length))) { nx := fun _ H' => Ok z ∧ Ext d H H' ∧ (Rz z).p .non H', rt := fun v H' => Ok z ∧ Ext d H H' ∧ (Rz z).p v H' }) : FnOk Pg w K mg base (L2.CX Pg w) (k + 1) f fd ps (spE d As Ok Rz Bad c) := by
  refine fn_okX F S (fun vs H Q E ⟨z, h, _⟩ => by rw [h.len, hl]) fun vs H Q E h cdv A outer s hr => ?_
  obtain ⟨z, hz, dr, q, qe, ob⟩ := h
  refine ⟨_, _, st_start hz (by rw [hl]; exact hN) dr, body z H cdv A outer s E hr qe ob, ?_⟩
  exact ⟨fun σ' H' _ ⟨o, e1, h1⟩ => q o _ H' e1 h1, fun v H' _ ⟨o, e1, h1⟩ => q o v H' e1 h1, fun _ _ _ h => h.elim, fun _ _ _ h => h.elim⟩
end
end Cv

namespace Cv
open PySem PySem.Spec PyProof.Rows L2 RZ
/-! ### zip(a, b, c), tuples of one length -/
def IteZ (K : PySem.W.Frag) (a b c : Addr) : It :=
  ⟨fun i H => ∃ (xs ys zs : List V) (x y z : V), SqT K H a xs ∧ SqT K H b ys ∧ SqT K H c zs ∧ xs[i]? = some x ∧ ys[i]? = some y ∧ zs[i]? = some z,
    fun i H v H' => ∃ T x y z, v = .ref T ∧ H T = none ∧ H' = upd H T (.tup [x, y, z]) ∧ (∀ xs, SqT K H a xs → xs[i]? = some x) ∧ (∀ xs, SqT K H b xs → xs[i]? = some y) ∧ (∀ xs, SqT K H c xs → xs[i]? = some z),
    fun i H => ∃ xs ys zs : List V, SqT K H a xs ∧ SqT K H b ys ∧ SqT K H c zs ∧ xs.length = i ∧ ys.length = i ∧ zs.length = i⟩
theorem turn_zip3 {P : Program} {w : World} {K : PySem.W.Frag} {elts : List Expr} {kk : Nat} {tpos : Pos} {a b c z TI TO i1 i2 i3 : Addr} (sep : ZipSep3 z TI TO i1 i2 i3 [i1, a] [i2, b] [i3, c]) (h1 : a ≠ i1) (h2 : b ≠ i2) (h3 : c ≠ i3) :
    Turn P w K (.Tuple elts kk tpos) (IteZ K a b c) [z, TI, TO, i1, i2, i3] z (fun i h => IsZip h z TI TO .none ∧ IsTupOf3 h TI (.ref i1) (.ref i2) (.ref i3) ∧ (∃ a1 a2 a3, IsTupOf3 h TO a1 a2 a3) ∧ h.IsTupleIter i1 a i ∧ h.IsTupleIter i2 b i ∧ h.IsTupleIter i3 c i) where
  mem := by simp
  obj := fun i h ⟨q1, q2, ⟨_, _, _, q3⟩, ⟨o4, q4, _, d4⟩, ⟨o5, q5, _, d5⟩, ⟨o6, q6, _, d6⟩⟩ x hx => by
    have e : x = z ∨ x = TI ∨ x = TO ∨ x = i1 ∨ x = i2 ∨ x = i3 := by simpa using hx
    rcases e with e | e | e | e | e | e
    · rw [e]; exact ⟨_, q1, fun v q => nomatch q⟩
    · rw [e]; exact ⟨_, q2, fun v q => nomatch q⟩
    · rw [e]; exact ⟨_, q3, fun v q => nomatch q⟩
    · rw [e]; exact ⟨_, q4, fun v q => by rw [d4] at q; cases q⟩
    · rw [e]; exact ⟨_, q5, fun v q => by rw [d5] at q; cases q⟩
    · rw [e]; exact ⟨_, q6, fun v q => by rw [d6] at q; cases q⟩
  keep := fun i h h' ⟨q1, q2, ⟨a1, a2, a3, q3⟩, q4, q5, q6⟩ k => ⟨k z (by simp) _ q1, k TI (by simp) _ q2, ⟨a1, a2, a3, k TO (by simp) _ q3⟩, q4.at fun o q => k i1 (by simp) o q, q5.at fun o q => k i2 (by simp) o q, q6.at fun o q => k i3 (by simp) o q⟩
  item := by
    intro X hP hw hK hc i pins s σ H E I hf st hg
    subst hP hw hK
    obtain ⟨xs, ys, zs, x, y, u, hx, hy, hu, ex, ey, eu⟩ := hg
    obtain ⟨s1, s2, s3, s4, s5, s6⟩ := st
    obtain ⟨t1, r1, p1, _⟩ := I.tuple hx
    obtain ⟨t2, r2, p2, _⟩ := I.tuple hy
    obtain ⟨t3, r3, p3, _⟩ := I.tuple hu
    obtain ⟨x', hx', rx⟩ := r1.get ex
    obtain ⟨y', hy', ry⟩ := r2.get ey
    obtain ⟨u', hu', ru⟩ := r3.get eu
    have l1 : i < t1.toArray.size := by rw [List.size_toArray, ← r1.length]; exact (List.getElem?_eq_some_iff.mp ex).1
    have l2 : i < t2.toArray.size := by rw [List.size_toArray, ← r2.length]; exact (List.getElem?_eq_some_iff.mp ey).1
    have l3 : i < t3.toArray.size := by rw [List.size_toArray, ← r3.length]; exact (List.getElem?_eq_some_iff.mp eu).1
    have G := GoesN.zip3 (prog := X.prog) (w := X.w) (A := X.A) (elts := elts) (x1 := kk) (pos := tpos) sep (Draws.tuple (A := X.A.in1) (by exact I.ok.hd hc) i1 a h1 t1.toArray) (Draws.tuple (A := X.A.in1) (by exact I.ok.hd hc) i2 b h2 t2.toArray) (Draws.tuple (A := X.A.in1) (by exact I.ok.hd hc) i3 c h3 t3.toArray)
    refine G.goes i s _ E (by omega) ⟨s1, s2, s3, ⟨s4, p1⟩, ⟨s5, p2⟩, ⟨s6, p3⟩⟩ fun v h' tk hY hS hk _ => ?_
    obtain ⟨T, x2, y2, u2, rfl, hT, e1, e2, e3, hTup⟩ := hY
    obtain ⟨k1, k2, k3, ⟨k4, _⟩, ⟨k5, _⟩, ⟨k6, _⟩⟩ := hS
    have e1 : x2 = x' := by
      have q : t1.toArray[i]? = some x' := by simpa using hx'
      exact Option.some.inj (e1.symm.trans q)
    have e2 : y2 = y' := by
      have q : t2.toArray[i]? = some y' := by simpa using hy'
      exact Option.some.inj (e2.symm.trans q)
    have e3 : u2 = u' := by
      have q : t3.toArray[i]? = some u' := by simpa using hu'
      exact Option.some.inj (e3.symm.trans q)
    subst e1 e2 e3
    have new : ObjOk X.prog X.w (upd H T (.tup [x, y, u])) h' T (.tup [x, y, u]) :=
      ⟨by show 3 ≤ sizeLine; exact Nat.le_of_lt (small1000 (by decide)), [x2, y2, u2], .cons rx (.cons ry (.cons ru .nil)), hTup⟩
    have I1 : Inv X pins σ (upd H T (.tup [x, y, u])) { s with heap := h', toks := tk } :=
      I.turnedNew (ch := [z, TO, i1, i2, i3]) (fun b' ob hb q => hk b' ob hb q) (fun b' hb => hf b' (by simp at hb ⊢; rcases hb with e | e | e | e | e <;> simp [e])) hT new
    refine ⟨.ref T, _, I1, rfl, ⟨T, x, y, u, rfl, I.hok.fresh hT, rfl, fun q hq => by rw [I.tuple_inj hq hx]; exact ex, fun q hq => by rw [I.tuple_inj hq hy]; exact ey, fun q hq => by rw [I.tuple_inj hq hu]; exact eu⟩, ⟨k1, k2, k3, k4, k5, k6⟩, fun b' hb => ?_⟩
    have hb' : b' < s.heap.objs.size := by
      have e : b' = z ∨ b' = TI ∨ b' = TO ∨ b' = i1 ∨ b' = i2 ∨ b' = i3 := by simpa using hb
      obtain ⟨_, _, _, s3⟩ := s3
      obtain ⟨_, s4, _⟩ := s4
      obtain ⟨_, s5, _⟩ := s5
      obtain ⟨_, s6, _⟩ := s6
      rcases e with e | e | e | e | e | e
      · rw [e]; exact Heap.lt_size s1
      · rw [e]; exact Heap.lt_size s2
      · rw [e]; exact Heap.lt_size s3
      · rw [e]; exact Heap.lt_size s4
      · rw [e]; exact Heap.lt_size s5
      · rw [e]; exact Heap.lt_size s6
    rw [upd_ne (Nat.ne_of_lt (Nat.lt_of_lt_of_le hb' hT))]
    exact (hf b' hb).1
  done := by
    intro X hP hw hK hc i pins s σ H E I hf st hg
    subst hP hw hK
    obtain ⟨xs, ys, zs, hx, hy, hu, ex, ey, eu⟩ := hg
    obtain ⟨s1, s2, s3, s4, s5, s6⟩ := st
    obtain ⟨t1, r1, p1, _⟩ := I.tuple hx
    obtain ⟨t2, r2, p2, _⟩ := I.tuple hy
    obtain ⟨t3, r3, p3, _⟩ := I.tuple hu
    have l1 : t1.toArray.size = i := by rw [List.size_toArray, ← r1.length]; exact ex
    have l2 : t2.toArray.size = i := by rw [List.size_toArray, ← r2.length]; exact ey
    have l3 : t3.toArray.size = i := by rw [List.size_toArray, ← r3.length]; exact eu
    have G := GoesN.zip3 (prog := X.prog) (w := X.w) (A := X.A) (elts := elts) (x1 := kk) (pos := tpos) sep (Draws.tuple (A := X.A.in1) (by exact I.ok.hd hc) i1 a h1 t1.toArray) (Draws.tuple (A := X.A.in1) (by exact I.ok.hd hc) i2 b h2 t2.toArray) (Draws.tuple (A := X.A.in1) (by exact I.ok.hd hc) i3 c h3 t3.toArray)
    have en : min (min t1.toArray.size t2.toArray.size) t3.toArray.size = i := by omega
    refine G.stops s _ E (by rw [en]; exact ⟨s1, s2, s3, ⟨s4, p1⟩, ⟨s5, p2⟩, ⟨s6, p3⟩⟩) fun h' tk hk _ => ?_
    exact I.turnedL (ch := [z, TO, i1, i2, i3]) (fun b' o hb q => hk b' o hb q) (fun b' hb => hf b' (by simp at hb ⊢; rcases hb with e | e | e | e | e <;> simp [e]))
  self := fun A i s Q E ⟨s1, _⟩ h => wpAny_pyIter_zip s1 h
def iZip3 (K : PySem.W.Frag) (ta : TA) : TI := fun σ H R => ta σ H fun vs H1 => ∃ a b c xs ys zs, vs = [.ref a, .ref b, .ref c] ∧ SqT K H1 a xs ∧ SqT K H1 b ys ∧ SqT K H1 c zs ∧ R (IteZ K a b c) H1
theorem pi_zip3 {X : Cx} {e e2 e3 : Expr} {ta : TA} {p pos tpos : Pos} {elts : List Expr} {kk : Nat} (hg : Gl X "zip") (hm : X.mg "zip" = none) (ha : PA X [e, e2, e3] ta) (hs : starEach [e, e2, e3] X.env = (false, eval e X.env) :: starEach [e2, e3] X.env := by rfl) (hpl : (backTo pos (starEach [e2, e3] X.env)).any (·.1) = false := by rfl) :
    PI X (.Tuple elts kk tpos) (.Call (.Name "zip" p) [e, e2, e3] [] pos) (iZip3 X.K ta) := by
  refine ⟨fun pins s σ H R I h => ?_⟩
  refine Call_ (ld_blt I hg hm boot_zip (PyProof.Rows.callWith_type1 (thn (ha.run pos pins s σ H _ I h) fun us s1 ⟨vs, H1, I1, r1, q1⟩ => ?_) hs hpl))
  obtain ⟨a, b, c, xs, ys, zs, ex, hx, hy, hz, q⟩ := q1
  subst ex
  cases r1 with
  | cons ra rr =>
    cases rr with
    | cons rb rr =>
      cases rr with
      | cons rc rr =>
        cases rr
        cases ra
        cases rb
        cases rc
        obtain ⟨t1, rv1, p1, _⟩ := I1.tuple hx
        obtain ⟨t2, rv2, p2, _⟩ := I1.tuple hy
        obtain ⟨t3, rv3, p3, _⟩ := I1.tuple hz
        have la : a < s1.heap.objs.size := by obtain ⟨o, ho, _⟩ := p1; exact Heap.lt_size ho
        have lb : b < s1.heap.objs.size := by obtain ⟨o, ho, _⟩ := p2; exact Heap.lt_size ho
        have lc : c < s1.heap.objs.size := by obtain ⟨o, ho, _⟩ := p3; exact Heap.lt_size ho
        refine zip_begins3 (begins_tuple a t1.toArray) (begins_tuple b t2.toArray) (begins_tuple c t3.toArray) p1 p2 p3 fun h' hz hTI hTO o1 o2 o3 hsz hk => wpAny_pyIter_zip hz ?_
        have I2 : Inv X pins σ H1 { s1 with heap := h' } := I1.kept (t' := s1.toks) hk
        refine ⟨_, _, _, _, H1, rfl, I2, turn_zip3 (zip_sep3 (N := s1.heap.objs.size) (fp1 := [a]) (fp2 := [b]) (fp3 := [c]) (by simpa using la) (by simpa using lb) (by simpa using lc)) (Nat.ne_of_lt la) (Nat.ne_of_lt (Nat.lt_succ_of_lt lb)) (Nat.ne_of_lt (Nat.lt_succ_of_lt (Nat.lt_succ_of_lt lc))), ⟨hz, hTI, ⟨_, _, _, hTO⟩, ⟨_, o1, rfl, rfl⟩, ⟨_, o2, rfl, rfl⟩, ⟨_, o3, rfl, rfl⟩⟩, fun b' hb => ?_, q⟩
        have hle : s1.heap.objs.size ≤ b' := by
          simp at hb
          rcases hb with e | e | e | e | e | e <;> (rw [e]; first | exact Nat.le_refl _ | exact Nat.le_add_right _ _)
        exact I1.fpOk hle (I1.hok.fresh hle)
section
variable {d : Option Addr} {X : Cx} {B : Hp} {ρ ρ' : Ro d} {a b c e iter elt : Expr} {es : List Expr} {R R' Ra Rb : Rp d} {Rs : List (Rp d)} {pos : Pos} {m n : Int} {st : Stmt} {rest body orelse : List Stmt} {Pre Mid : L2.St → Hp → Prop} {Po : Ends}
/-- for x, y, z in zip(a, b, c), tuples of one length -/
theorem bx_forZ3 {α : Type} {ds es' fs : List D} (j k l0 : Nat) {x y z : Str} {kk : Nat} {tpos p1 p2 p4 p p3 : Pos} (P : Nat → α → Prop) (r : Nat → α → Ro d) (hg : Gl X "zip") (hm : X.mg "zip" = none) (ha : EX X B ρ a (dat X.K (.t ds))) (hb' : EX X B ρ b (dat X.K (.t es'))) (hc' : EX X B ρ c (dat X.K (.t fs))) (hlen : ds.length = es'.length) (hlen2 : ds.length = fs.length) (h0 : ∀ σ H, St B ρ σ H → IS B (P 0) (r 0) σ H)
    (hb : ∀ (i : Nat) w u t z, ds[i]? = some w → es'[i]? = some u → fs[i]? = some t → P i z → BX X body (St B ((((r i z).set j (some (dat X.K w))).set k (some (dat X.K u))).set l0 (some (dat X.K t)))) (Lp Po (IS B (P (i + 1)) (r (i + 1))) (IS B (P ds.length) (r ds.length)))) (h : BX X rest (IS B (P ds.length) (r ds.length)) Po)
    (hN : X.N.Nodup) (hp : PassesOwn (model X.prog X.w) X.A X.env X.xe) (hj : X.N[j]? = some x := by rfl) (hk : X.N[k]? = some y := by rfl) (hl : X.N[l0]? = some z := by rfl) (hc : X.calm = true := by rfl) (hx : Loc X.env.scope x := by first | exact Or.inl rfl | exact Or.inr rfl) (hy : Loc X.env.scope y := by first | exact Or.inl rfl | exact Or.inr rfl) (hz : Loc X.env.scope z := by first | exact Or.inl rfl | exact Or.inr rfl)
    (hf : X.fn x = true ∨ X.env.scope.names.lookup x = some .local := by first | exact .inl rfl | exact .inr rfl | assumption) (hfy : X.fn y = true ∨ X.env.scope.names.lookup y = some .local := by first | exact .inl rfl | exact .inr rfl | assumption) (hfz : X.fn z = true ∨ X.env.scope.names.lookup z = some .local := by first | exact .inl rfl | exact .inr rfl | assumption)
    (he : starEach [a, b, c] X.env = (false, eval a X.env) :: starEach [b, c] X.env := by rfl) (he2 : starEach [b, c] X.env = (false, eval b X.env) :: starEach [c] X.env := by rfl) (he3 : starEach [c] X.env = (false, eval c X.env) :: starEach [] X.env := by rfl) (hpl : (backTo p3 (starEach [b, c] X.env)).any (·.1) = false := by rfl)
    (hs : ∀ x, foldedSetIterable (.Call (.Name "zip" p) [a, b, c] [] p3) X.env x = pure x := by intro _; rfl) :
    BX X (.For (.Tuple [.Name x p1, .Name y p2, .Name z p4] kk tpos) (.Call (.Name "zip" p) [a, b, c] [] p3) body [] pos :: rest) (St B ρ) Po := by
  refine bx_cons (Mid := IS B (P ds.length) (r ds.length)) ?_ h
  refine PS_wk (t := tFor (iZip3 X.K fun σ H Q => St B ρ σ H ∧ ∀ vs H', Ext d H H' → RsH [dat X.K (.t ds), dat X.K (.t es'), dat X.K (.t fs)] vs H' → Q vs H') (gTup X.K 3 (gCons (gName j) (gCons (gName k) (gCons (gName l0) gNil)))) (tBody (Z := Nat × D × D × D × α) B (fun z => (((r z.1 z.2.2.2.2).set j (some (dat X.K z.2.1))).set k (some (dat X.K z.2.2.1))).set l0 (some (dat X.K z.2.2.2.1))) (fun z => ds[z.1]? = some z.2.1 ∧ es'[z.1]? = some z.2.2.1 ∧ fs[z.1]? = some z.2.2.2.1 ∧ P z.1 z.2.2.2.2) (fun z => Lp Po (IS B (P (z.1 + 1)) (r (z.1 + 1))) (IS B (P ds.length) (r ds.length)))))
    (ps_for hp hc (pi_zip3 hg hm (a_cons ha (a_cons hb' (a_cons hc' a_nil he3) he2) he) he hpl) (pg_tup hc (pgs_cons (pg_name hN hj hx hf) (pgs_cons (pg_name hN hk hy hfy) (pgs_cons (pg_name hN hl hz hfz) pgs_nil)))) ⟨fun pins s σ H E I ⟨⟨i, w, u, t, z⟩, ⟨hw, hu, ht, hz⟩, q, l⟩ => (hb i w u t z hw hu ht hz).run pins s σ H E I ⟨q, l⟩⟩ hs) fun E σ H ⟨s, l⟩ => ⟨s, fun vs H1 e1 hv => ?_⟩
  match vs, hv with
  | [v1, v2, v3], ⟨g1, g2, g3, _⟩ =>
    obtain ⟨t1, us, rfl, h1, h2⟩ := DR.tup g1
    obtain ⟨t2, us2, rfl, h3, h4⟩ := DR.tup g2
    obtain ⟨t3, us3, rfl, h5, h6⟩ := DR.tup g3
    have k1 : us.length = us2.length := by rw [← h2.1, ← h4.1]; exact hlen
    have k2 : us.length = us3.length := by rw [← h2.1, ← h6.1]; exact hlen2
    refine ⟨t1, t2, t3, us, us2, us3, rfl, h1, h3, h5, fun i m σ H => m = us.length - i ∧ i ≤ us.length ∧ Tk H1 H ∧ IS B (P i) (r i) σ H, ⟨us.length, rfl, Nat.zero_le _, Tk.refl _, h0 _ _ (s.mono e1)⟩, ?_⟩
    rintro i m σ H ⟨rfl, hi, kk, q⟩
    have a1 := kk.sqT h1
    have a2 := kk.sqT h3
    have a3 := kk.sqT h5
    by_cases hlt : i < us.length
    · refine .inr ⟨⟨us, us2, us3, us[i], us2[i]'(by omega), us3[i]'(by omega), a1, a2, a3, List.getElem?_eq_getElem hlt, List.getElem?_eq_getElem (by omega), List.getElem?_eq_getElem (by omega)⟩, fun σ' H' => Tk H1 H' ∧ IS B (P (i + 1)) (r (i + 1)) σ' H', fun σ' H' p' => ⟨us.length - (i + 1), by omega, rfl, hlt, p'.1, p'.2⟩, fun v H' yl => ?_⟩
      obtain ⟨T, x', y', z', rfl, hT, rfl, f1, f2, f3⟩ := yl
      obtain ⟨w, hw, hr⟩ := h2.getV (f1 us a1)
      obtain ⟨u, hu, hr2⟩ := h4.getV (f2 us2 a2)
      obtain ⟨t, ht, hr3⟩ := h6.getV (f3 us3 a3)
      obtain ⟨z, hz, q⟩ := q
      have eT : Ext d H (upd H T (.tup [x', y', z'])) := Ext.new hT
      have kT := kk.trans eT.tk
      refine ⟨T, [x', y', z'], rfl, SqT.of upd_same, rfl, x', [y', z'], rfl, y', [z'], rfl, z', [], rfl, rfl, (i, w, u, t, z), ⟨hw, hu, ht, hz⟩, ⟨(q.mono eT).ext, (q.mono eT).dr, (((q.mono eT).good.set j (R := dat X.K w) (hr.tk kT)).set k (R := dat X.K u) (hr2.tk kT)).set l0 (R := dat X.K t) (hr3.tk kT)⟩, ?_⟩
      exact ⟨fun σ' H' k' q' => ⟨kT.trans k', q'⟩, fun v H' k' q' => l.rt v H' ((e1.tk.trans kT).trans k') q', fun σ' H' k' q' => l.nx σ' H' ((e1.tk.trans kT).trans k') q', fun σ' H' k' q' => ⟨kT.trans k', q'⟩⟩
    · have e' : i = us.length := by omega
      subst e'
      exact .inl ⟨⟨us, us2, us3, a1, a2, a3, rfl, by omega, by omega⟩, l.nx σ H (e1.tk.trans kk) (by rw [h2.1]; exact q)⟩
theorem mn2 {i j : Int} : (if j < i then j else i) = min i j := by
  rw [Int.min_def]
  split <;> split <;> omega
theorem x_min2 {p : Pos} (hg : Gl X "min") (hm : X.mg "min" = none) (ha : EX X B ρ a (rI m)) (hb : EX X B ρ b (rI n)) (hc : X.calm = true := by rfl) (he : starEach [a, b] X.env = (false, eval a X.env) :: starEach [b] X.env := by rfl) (he2 : starEach [b] X.env = (false, eval b X.env) :: starEach [] X.env := by rfl) (hpl : (backTo pos (starEach [b] X.env)).any (·.1) = false := by rfl) : EX X B ρ (.Call (.Name "min" p) [a, b] [] pos) (rI (min m n)) :=
  x_callB (call_min2 hc) hg hm (by decide +kernel) (a_cons ha (a_cons hb a_nil he2) he) (fun vs H σ Q s hv q => by
    obtain ⟨x, y, rfl, h1, h2⟩ := hv.two
    obtain rfl : x = .int m := h1
    obtain rfl : y = .int n := h2
    exact ⟨m, n, rfl, q _ H (Ext.refl H) (by show V.int _ = V.int _; rw [mn2])⟩) (he := he) (hpl := hpl)
/-- x.append(e), e told by S -/
theorem bx_appendE (i : Nat) {x : Str} {p1 p2 p3 p4 : Pos} {K : PySem.W.Frag} {l : Addr} {ds : List D} {S : D → Prop} (hi : ρ[i]? = some (some (own K l ds))) (hK : X.K = K) (he : EX X B ρ e (dE K S)) (hB : B l = none) (hb : IndBut l i ρ) (hz : ds.length ≤ 1000) (h : ∀ w, S w → BX X rest (St B (ρ.set i (some (own K l (ds ++ [w]))))) Po)
    (hN : X.N[i]? = some x := by rfl) (hv : Vis X.env.scope x := by first | exact Or.inl rfl | exact Or.inr (Or.inl rfl) | exact Or.inr (Or.inr rfl)) (hd : (x == ("__debug__" : Str)) = false := by decide) (hcd : (x == ("__classdict__" : Str)) = false := by decide)
    (hbase : attributeBase (.Name x p1) "append" X.env (eval (.Name x p1) X.env) = eval (.Name x p1) X.env := by rfl)
    (hfew : ((backTo p3 (starEach (e :: []) X.env)).all (fun x => !x.1) && (backToKw p3 (keywordEach [] X.env)).all (fun x => x.1.isSome)
      && decide ((e :: []).length + ([] : List Keyword).length + (if ([] : List Keyword).isEmpty then 0 else 1) < 30)) = true := by rfl)
    (hline : (p2.endLine == p3.line) = true := by rfl) (hs : starEach (e :: []) X.env = (false, eval e X.env) :: starEach [] X.env := by rfl) (hplain : (backTo p3 (starEach [] X.env)).any (·.1) = false := by rfl)
    (hsw : swapsWith (.Call (.Attribute (.Name x p1) "append" p2) [e] [] p3) none p4.line X.env = pure false := by rfl) :
    BX X (.Expr (.Call (.Attribute (.Name x p1) "append" p2) [e] [] p3) p4 :: rest) (St B ρ) Po := by
  subst hK
  refine bx_cons (Mid := fun σ H => ∃ w, S w ∧ St B (ρ.set i (some (own X.K l (ds ++ [w])))) σ H) ?_ (bx_ex fun w hw => h w hw)
  refine PS_wk (ps_expr (pe_bm PySem.F.plainAttrs_list PySem.F.slot_list_append PySem.F.type_list_append mt_append (pe_var hN hv hd hcd) (a_cons he a_nil hs) hbase hfew hline hs hplain) hsw) fun E σ H ⟨s, q⟩ => ?_
  obtain ⟨v, h1, rfl, hl, vs, h2, h3⟩ := s.good.get hi
  refine ⟨_, h1, Or.inl ⟨rfl, _, SqL.of h2⟩, s, fun us H1 e1 hus => ?_⟩
  obtain ⟨y, rfl, w, hw, hy⟩ := hus.one
  have s1 := s.mono e1
  have g2 := e1.at h2 hl
  refine ⟨l, vs, y, rfl, rfl, g2, small1000 (by rw [← h3.1]; exact hz), ?_⟩
  exact q.nx σ _ (e1.tk.trans (Tk.lst g2)) ⟨w, hw, st_own s1 hi hB hb ((h3.tk e1.tk).snoc hy)⟩
end
end Cv

namespace Cv
open PySem PySem.Spec PyProof.Rows L2 RZ
/-! ### try, an except that names the error and one more behind it -/
def wAs2 (K : PySem.W.Frag) (c c2 : Value) (i : Nat) (ts ts2 : Addr → Value → Option Addr → TS) (D : Ends) : L2.WX := fun cls d σ H =>
  ∃ b, PySem.W.exmOne K cls c = some b ∧ (b = true → ∀ a, H a = none → ts a cls d { nx := fun σ' H' => D.nx (σ'.set i none) H', rt := D.rt, bk := fun σ' H' => D.bk (σ'.set i none) H', ct := fun σ' H' => D.ct (σ'.set i none) H' } (σ.set i (some (.ref a))) H) ∧
    (b = false → PySem.W.exmOne K cls c2 = some true ∧ ∀ a, H a = none → ts2 a cls d D σ H)
theorem ps_try_as2 {X : Cx} {x n x2 : Str} {c c2 : Value} {i : Nat} {body suite suite2 : List Stmt} {b₀ b₂ : Stmt} {np np2 pos pos' pos2 : Pos} {tb : L2.WX → TS} {ts ts2 : Addr → Value → Option Addr → TS} (hs : X.stack = X.env :: X.outer) (hf : X.env.frame = some X.env.locals) (hN : X.N.Nodup) (hi : X.N[i]? = some n) (hln : X.env.kindOf n = some .local)
    (hg : Gl X x) (hdbg : (x == ("__debug__" : Str)) = false) (hm : X.mg x = some c) (hg2 : Gl X x2) (hdbg2 : (x2 == ("__debug__" : Str)) = false) (hm2 : X.mg x2 = some c2)
    (hb : ∀ (W : L2.WX) (pn : List (Addr × Obj)) (xe : Value → Shared → Prop), L2N.Takes (X.tr pn xe) W → PassesOwn (model X.prog X.w) X.A X.env xe → PSs (X.tr pn xe) body (tb W))
    (hsu : ∀ (a : Addr) (oe : Obj) (cls : Value) (d : Option Addr) (pn : List (Addr × Obj)), L2N.Zn cls d oe → (∃ vs, oe.data = .fields vs) → PSs (X.suite a ((a, oe) :: pn)) (b₀ :: suite) (ts a cls d))
    (hsu2 : ∀ (a : Addr) (oe : Obj) (cls : Value) (d : Option Addr) (pn : List (Addr × Obj)), L2N.Zn cls d oe → (∃ vs, oe.data = .fields vs) → PSs (X.suite a ((a, oe) :: pn)) (b₂ :: suite2) (ts2 a cls d)) :
    PS X (.Try body [.ExceptHandler (some (.Name x np)) (some n) (b₀ :: suite) pos', .ExceptHandler (some (.Name x2 np2)) none (b₂ :: suite2) pos2] [] [] pos) fun D σ H => tb (wAs2 X.K c c2 i ts ts2 D) D σ H := by
  refine ⟨fun pins s σ H D I h => ?_⟩
  have ok := I.ok
  have hfr : X.A.frames = some (X.env :: X.outer) := by rw [ok.frames, hs]
  have hloc : Loc X.env.scope n := Or.inl hln
  refine wpAny_Try_except (wpAny_mono ((hb (wAs2 X.K c c2 i ts ts2 D) (X.pn ++ pins)
    (fun e s₁ => wpAny (model X.prog X.w) X.A (noteFrame e X.env) (fun _ s₂ => wpAny (model X.prog X.w) X.A (setFlight e none) (fun _ s₃ => wpAny (model X.prog X.w) X.A (handleBy e X.env [.ExceptHandler (some (.Name x np)) (some n) (b₀ :: suite) pos', .ExceptHandler (some (.Name x2 np2)) none (b₂ :: suite2) pos2]) (SP X pins D) X.xe s₃) X.xe s₂) X.xe s₁)
    (fun u s' xx => ?_) PassesOwn.looking).run [] s σ H D (I.toTry _) h) (fun f s1 hsp => ?_) (fun e s1 he => he))
  · obtain ⟨a, B, sI, pins', σ', H', cls, d, rfl, J', nb, up, sky, na, os, ag, b, hb1, hyes, hno⟩ := xx
    have J := J'.ofTry ok
    have sky' : Sky B (X.env :: X.outer) a (L2N.Zn cls d) X.env.locals s'.heap := by rw [← hs]; exact sky
    show wpAny (model X.prog X.w) X.A (noteFrame (.ref a) X.env) _ _ _
    refine L2N.Sky.land L2N.Zn.steady hfr hf sky' fun h3 fl3 up3 => ?_
    have J3 : L2.Inv X pins σ' H' { heap := h3, gens := s'.gens, drawn := s'.drawn, toks := s'.toks, os := s'.os } := J.landed nb fl3.left (Heap.UpToSlots.trans up up3) os ag
    obtain ⟨oe3, vs3, he3, hz3, hd3⟩ := HandSPX.FlyingZ.there fl3
    have nfr : ¬ a ∈ (X.env :: X.outer).filterMap (·.frame) := fun hm => by
      obtain ⟨_, o', e', hnf⟩ := Heap.FunFrames.mem fl3.right.right.left hm
      rw [he3] at e'
      cases e'
      exact hnf vs3 hd3
    have nL : a ≠ X.env.locals := fun z => nfr (List.mem_filterMap.mpr ⟨X.env, List.mem_cons_self, by rw [hf, z]⟩)
    have nF : ¬ a ∈ X.outer.filterMap (·.frame) := fun hm => by
      obtain ⟨e, he, q⟩ := List.mem_filterMap.mp hm
      exact nfr (List.mem_filterMap.mpr ⟨e, List.mem_cons_of_mem X.env he, q⟩)
    have S3 := J3.suite he3 hd3 na nL nF
    have LM := PySem.W.exm_one (M := model X.prog X.w) J3.kIn (fun A Q E s k q => wpAny_typeOf_ref (k a oe3 he3) (by rw [hz3.left]; exact q)) hb1
    refine wpAny_handleBy_cons (codeAny_handlers_test (ld_glob S3 hg hm (PySem.W.Looks.here LM ?_) hdbg)) (fun q => by cases q)
    cases b with
    | true =>
      refine codeAny_handlers_suite_as (HandSPX.lands_againZ fl3 fun h4 fl4 up4 => ?_)
      have J4 : L2.Inv X pins σ' H' { heap := h4, gens := s'.gens, drawn := s'.drawn, toks := s'.toks, os := s'.os } := J.landed nb fl4.left (Heap.UpToSlots.trans (Heap.UpToSlots.trans up up3) up4) os ag
      obtain ⟨oe4, vs4, he4, hz4, hd4⟩ := HandSPX.FlyingZ.there fl4
      have S4 := J4.suite he4 hd4 na nL nF
      refine store_ok (X := X.suite a ((a, oe4) :: (X.pn ++ pins))) S4 hN hi hloc (show RelV (.ref a) (Value.ref a) from rfl) (fun s5 S5 => wpAny_mono ((hsu a oe4 cls d (X.pn ++ pins) hz4 ⟨vs4, hd4⟩).run [] s5 _ H' _ S5 (hyes rfl a na)) (fun f s6 hsp => ?_) (fun _ _ z => z.elim)) (Or.inr hln)
      cases f with
      | next =>
        obtain ⟨σ6, H6, S6, q6⟩ := hsp
        exact gone_ok (S6.unsuite ok) hN hi hln fun s7 J7 => ⟨σ6.set i none, H6, J7, q6⟩
      | brk =>
        obtain ⟨σ6, H6, S6, q6⟩ := hsp
        exact gone_ok (S6.unsuite ok) hN hi hln fun s7 J7 => ⟨σ6.set i none, H6, J7, q6⟩
      | cont =>
        obtain ⟨σ6, H6, S6, q6⟩ := hsp
        exact gone_ok (S6.unsuite ok) hN hi hln fun s7 J7 => ⟨σ6.set i none, H6, J7, q6⟩
      | ret u =>
        obtain ⟨v6, σ6, H6, S6, r6, q6⟩ := hsp
        exact gone_ok (S6.unsuite ok) hN hi hln fun s7 J7 => ⟨v6, σ6.set i none, H6, J7, r6, q6⟩
    | false =>
      obtain ⟨hb2, hy2⟩ := hno rfl
      have LM2 := PySem.W.exm_one (M := model X.prog X.w) J3.kIn (fun A Q E s k q => wpAny_typeOf_ref (k a oe3 he3) (by rw [hz3.left]; exact q)) hb2
      refine wpAny_handleBy_cons (codeAny_handlers_test (ld_glob S3 hg2 hm2 (PySem.W.Looks.here LM2 ?_) hdbg2)) (fun q => by cases q)
      refine codeAny_handlers_suite (HandSPX.lands_againZ fl3 fun h4 fl4 up4 => ?_)
      have J4 : L2.Inv X pins σ' H' { heap := h4, gens := s'.gens, drawn := s'.drawn, toks := s'.toks, os := s'.os } := J.landed nb fl4.left (Heap.UpToSlots.trans (Heap.UpToSlots.trans up up3) up4) os ag
      obtain ⟨oe4, vs4, he4, hz4, hd4⟩ := HandSPX.FlyingZ.there fl4
      have S4 := J4.suite he4 hd4 na nL nF
      refine wpAny_mono ((hsu2 a oe4 cls d (X.pn ++ pins) hz4 ⟨vs4, hd4⟩).run [] _ σ' H' D S4 (hy2 a na)) (fun f s6 hsp => ?_) (fun _ _ z => z.elim)
      cases f with
      | next =>
        obtain ⟨σ6, H6, S6, q6⟩ := hsp
        exact ⟨σ6, H6, S6.unsuite ok, q6⟩
      | brk =>
        obtain ⟨σ6, H6, S6, q6⟩ := hsp
        exact ⟨σ6, H6, S6.unsuite ok, q6⟩
      | cont =>
        obtain ⟨σ6, H6, S6, q6⟩ := hsp
        exact ⟨σ6, H6, S6.unsuite ok, q6⟩
      | ret u =>
        obtain ⟨v6, σ6, H6, S6, r6, q6⟩ := hsp
        exact ⟨v6, σ6, H6, S6.unsuite ok, r6, q6⟩
  · cases f with
    | next =>
      obtain ⟨σ', H', J', q⟩ := hsp
      exact wpAny_execs_nil ⟨σ', H', J'.ofTry ok, q⟩
    | brk =>
      obtain ⟨σ', H', J', q⟩ := hsp
      exact ⟨σ', H', J'.ofTry ok, q⟩
    | cont =>
      obtain ⟨σ', H', J', q⟩ := hsp
      exact ⟨σ', H', J'.ofTry ok, q⟩
    | ret u =>
      obtain ⟨v, σ', H', J', r, q⟩ := hsp
      exact ⟨v, σ', H', J'.ofTry ok, r, q⟩
end Cv

namespace Cv
open PySem PySem.Spec PyProof.Rows L2 RZ
theorem set4 {α : Type} {σ : List α} {j k : Nat} {a b x y : α} : ((((σ.set k b).set j a).set j x).set k y) = (σ.set j x).set k y := by
  apply List.ext_getElem?
  intro i
  simp only [List.getElem?_set, List.length_set]
  by_cases h1 : k = i
  · simp [h1]
  · by_cases h2 : j = i
    · simp [h1, h2]
    · simp [h1, h2]
theorem set6 {α : Type} {σ : List α} {j k : Nat} {a b x y : α} : ((((((σ.set k b).set j a).set j x).set k y).set k b).set j a) = (σ.set k b).set j a := by
  apply List.ext_getElem?
  intro i
  simp only [List.getElem?_set, List.length_set]
  by_cases h1 : k = i
  · simp [h1]
  · by_cases h2 : j = i
    · simp [h1, h2]
    · simp [h1, h2]
theorem wipe2 (σ : L2.St) (j k : Nat) (x y : V) : wipe (((wipe σ [j, k]).set j (some x)).set k (some y)) [j, k] = wipe σ [j, k] := by
  show ((((((σ.set k none).set j none).set j (some x)).set k (some y)).set k none).set j none) = ((σ.set k none).set j none)
  exact set6
section
variable {d : Option Addr} {X : Cx} {B : Hp} {ρ ρ' : Ro d} {a b c e iter elt : Expr} {es : List Expr} {R R' Ra Rb : Rp d} {Rs : List (Rp d)} {pos : Pos} {m n : Int} {st : Stmt} {rest body orelse : List Stmt} {Pre Mid : L2.St → Hp → Prop} {Po : Ends}
/-- [elt for x, y in zip(a, b)], tuples of one length -/
theorem x_lcZ {ds es' : List D} (j k : Nat) {x y : Str} {kk : Nat} {scope : Scope} {tpos p1 p2 p p3 : Pos} (P : Nat → D → Prop) (hg : Gl X "zip") (hm : X.mg "zip" = none) (ha : EX X B ρ a (dat X.K (.t ds))) (hb' : EX X B ρ b (dat X.K (.t es'))) (hlen : ds.length = es'.length) (hn : ds.length < 2000) (hN : X.N.Nodup) (hok : BlkOk X.N X.env.scope scope [(x, j), (y, k)])
    (hgn : ∀ (s : Shared) (H : Hp) (C : Addr) (cl : List (Str × Addr)) (fp : List Addr), PG (X.blk s H scope (compEnvC scope cl C X.env) fp) (.Tuple [.Name x p1, .Name y p2] kk tpos) (gTup X.K 2 (gCons (gName j) (gCons (gName k) gNil))))
    (hb : ∀ (s : Shared) (H : Hp) (C : Addr) (cl : List (Str × Addr)) (fp : List Addr) (i : Nat) (w u : D), ds[i]? = some w → es'[i]? = some u → EX (X.blk s H scope (compEnvC scope cl C X.env) fp) B ((ρ.set j (some (dat X.K w))).set k (some (dat X.K u))) elt (dE X.K (P i)))
    (hc : X.calm = true := by rfl) (he : starEach [a, b] X.env = (false, eval a X.env) :: starEach [b] X.env := by rfl) (he2 : starEach [b] X.env = (false, eval b X.env) :: starEach [] X.env := by rfl) (hpl : (backTo p3 (starEach [b] X.env)).any (·.1) = false := by rfl) (hs : ∀ x, foldedSetIterable (.Call (.Name "zip" p) [a, b] [] p3) X.env x = pure x := by intro _; rfl) :
    EX X B ρ (.ListComp elt [⟨.Tuple [.Name x p1, .Name y p2] kk tpos, .Call (.Name "zip" p) [a, b] [] p3, [], 0⟩] scope pos) (newE B X.K fun fs => fs.length = ds.length ∧ ∀ k w, fs[k]? = some w → P k w) := by
  refine PE_wk (pe_lc (own := [(x, j), (y, k)]) (g := gTup X.K 2 (gCons (gName j) (gCons (gName k) gNil))) (tt := tYes) (te := tElt (Z := Nat × D × D) B X.K (fun z => (ρ.set j (some (dat X.K z.2.1))).set k (some (dat X.K z.2.2))) (fun z => ds[z.1]? = some z.2.1 ∧ es'[z.1]? = some z.2.2) (fun z => P z.1)) hc hN (pi_zipA hg hm (a_cons ha (a_cons hb' a_nil he2) he) he hpl) hok hgn (fun _ _ _ _ _ => pts_nil) (fun s H C cl fp => elt_of fun z hz => hb s H C cl fp z.1 z.2.1 z.2.2 hz.1 hz.2) hs) fun σ H Q ⟨s, q⟩ => ⟨s, fun vs H1 e1 hv => ?_⟩
  obtain ⟨v, v2, rfl, hv', hv2⟩ := hv.two
  obtain ⟨t, us, rfl, h1, h2⟩ := DR.tup hv'
  obtain ⟨t2, us2, rfl, h3, h4⟩ := DR.tup hv2
  have hl : us.length = us2.length := by rw [← h2.1, ← h4.1]; exact hlen
  have s1 := s.mono e1
  refine ⟨t, t2, us, us2, rfl, .inr ⟨h1, h3, fun Dl hD => ?_⟩⟩
  obtain ⟨hB, hDd⟩ := s1.fresh hD
  refine ⟨fun i m H => m = us.length - i ∧ i ≤ us.length ∧ Lc H1 X.K Dl d P i H, ⟨us.length, rfl, Nat.zero_le _, Ext.new hD, [], [], upd_same, DRl.nil, rfl, fun k w h => by cases h⟩, ?_⟩
  rintro i m H' ⟨rfl, hi, L⟩
  by_cases hlt : i < us.length
  · refine .inr ⟨⟨us, us2, us[i], us2[i]'(by omega), L.1.tk.sqT h1, L.1.tk.sqT h3, List.getElem?_eq_getElem hlt, List.getElem?_eq_getElem (by omega)⟩, fun H'' => Lc H1 X.K Dl d P (i + 1) H'', fun H'' p => ⟨us.length - (i + 1), by omega, rfl, hlt, p⟩, fun v H'' yl => ?_⟩
    obtain ⟨T, x', y', rfl, hT, rfl, f1, f2⟩ := yl
    obtain ⟨w, hw, hr⟩ := h2.getV (f1 us (L.1.tk.sqT h1))
    obtain ⟨u, hu, hr2⟩ := h4.getV (f2 us2 (L.1.tk.sqT h3))
    have eT : Ext d H' (upd H' T (.tup [x', y'])) := Ext.new hT
    have kT := L.1.tk.trans eT.tk
    have s2 := (s1.mono L.1).mono eT
    refine ⟨T, [x', y'], rfl, SqT.of upd_same, rfl, x', [y'], rfl, y', [], rfl, rfl, wipe2 _ _ _ _ _, (i, w, u), ⟨hw, hu⟩, ?_, fun y H2 e2 hy => lc_step hD hDd L (eT.trans e2) hy (by rw [h2.1] at hn; omega)⟩
    have e : ((wipe σ [j, k]).set j (some x')).set k (some y') = (σ.set j (some x')).set k (some y') := by
      show ((((σ.set k none).set j none).set j (some x')).set k (some y')) = _
      exact set4
    show St B _ (((wipe σ [j, k]).set j (some x')).set k (some y')) _
    rw [e]
    exact ⟨s2.ext, s2.dr, (s2.good.set j (R := dat X.K w) (hr.tk kT)).set k (R := dat X.K u) (hr2.tk kT)⟩
  · obtain ⟨h0, vs, fs, g1, g2, g3, g4⟩ := L
    exact .inl ⟨⟨us, us2, h0.tk.sqT h1, h0.tk.sqT h3, .inl (by omega)⟩, q _ H' (e1.trans h0) ⟨fs, ⟨by rw [g3, h2.1]; omega, g4⟩, Dl, hB, rfl, hDd, vs, g1, g2⟩⟩
/-- x.extend(a new list), x in slot i -/
theorem bx_extend (i : Nat) {x : Str} {p1 p2 p3 p4 : Pos} {K : PySem.W.Frag} {l : Addr} {ds es' : List D} (hi : ρ[i]? = some (some (own K l ds))) (hK : X.K = K) (he : EX X B ρ e (newL B K es')) (hB : B l = none) (hb : IndBut l i ρ) (hz : ds.length + es'.length ≤ 1000) (h : BX X rest (St B (ρ.set i (some (own K l (ds ++ es'))))) Po)
    (hN : X.N[i]? = some x := by rfl) (hv : Vis X.env.scope x := by first | exact Or.inl rfl | exact Or.inr (Or.inl rfl) | exact Or.inr (Or.inr rfl)) (hd : (x == ("__debug__" : Str)) = false := by decide) (hcd : (x == ("__classdict__" : Str)) = false := by decide)
    (hbase : attributeBase (.Name x p1) "extend" X.env (eval (.Name x p1) X.env) = eval (.Name x p1) X.env := by rfl)
    (hfew : ((backTo p3 (starEach (e :: []) X.env)).all (fun x => !x.1) && (backToKw p3 (keywordEach [] X.env)).all (fun x => x.1.isSome)
      && decide ((e :: []).length + ([] : List Keyword).length + (if ([] : List Keyword).isEmpty then 0 else 1) < 30)) = true := by rfl)
    (hline : (p2.endLine == p3.line) = true := by rfl) (hs : starEach (e :: []) X.env = (false, eval e X.env) :: starEach [] X.env := by rfl) (hplain : (backTo p3 (starEach [] X.env)).any (·.1) = false := by rfl)
    (hsw : swapsWith (.Call (.Attribute (.Name x p1) "extend" p2) [e] [] p3) none p4.line X.env = pure false := by rfl) :
    BX X (.Expr (.Call (.Attribute (.Name x p1) "extend" p2) [e] [] p3) p4 :: rest) (St B ρ) Po := by
  subst hK
  refine bx_cons (Mid := St B (ρ.set i (some (own X.K l (ds ++ es'))))) ?_ h
  refine PS_wk (ps_expr (pe_bm PySem.F.plainAttrs_list PySem.F.slot_list_extend PySem.F.type_list_extend mt_extend (pe_var hN hv hd hcd) (a_cons he a_nil hs) hbase hfew hline hs hplain) hsw) fun E σ H ⟨s, q⟩ => ?_
  obtain ⟨v, h1, rfl, hl, vs, h2, h3⟩ := s.good.get hi
  refine ⟨_, h1, Or.inl ⟨rfl, _, SqL.of h2⟩, s, fun us H1 e1 hus => ?_⟩
  obtain ⟨y, rfl, l2, _, rfl, _, us2, g1, g3⟩ := hus.one
  have s1 := s.mono e1
  have g2 := e1.at h2 hl
  refine ⟨l, l2, vs, us2, rfl, rfl, g2, g1, by rw [← h3.1, ← g3.1]; exact Nat.le_of_lt (small1000 hz), ?_⟩
  exact q.nx σ _ (e1.tk.trans (Tk.lst g2)) (st_own s1 hi hB hb ((h3.tk e1.tk).app g3))
/-- for x, y in xs, its items pairs -/
theorem bx_forL2 {α : Type} {ds : List D} {la : Addr} (j k : Nat) {x y : Str} {kk : Nat} {tpos p1 p2 : Pos} (P : Nat → α → Prop) (r : Nat → α → Ro d) (hi : EX X B ρ iter (lstA X.K la ds)) (h0 : ∀ σ H, St B ρ σ H → IS B (P 0) (r 0) σ H)
    (hl : ∀ i z, P i z → ∃ (k : Nat) (R : Rp d), (r i z)[k]? = some (some R) ∧ ∀ v H, R.p v H → (lstA (d := d) X.K la ds).p v H) (hd : ∀ (i : Nat) w, ds[i]? = some w → ∃ A C, w = .t [A, C])
    (hb : ∀ (i : Nat) A C z, ds[i]? = some (.t [A, C]) → P i z → BX X body (St B (((r i z).set j (some (dat X.K A))).set k (some (dat X.K C)))) (Lp Po (IS B (P (i + 1)) (r (i + 1))) (IS B (P ds.length) (r ds.length)))) (h : BX X rest (IS B (P ds.length) (r ds.length)) Po)
    (hN : X.N.Nodup) (hp : PassesOwn (model X.prog X.w) X.A X.env X.xe) (hj : X.N[j]? = some x := by rfl) (hk : X.N[k]? = some y := by rfl) (hc : X.calm = true := by rfl) (hx : Loc X.env.scope x := by first | exact Or.inl rfl | exact Or.inr rfl) (hy : Loc X.env.scope y := by first | exact Or.inl rfl | exact Or.inr rfl)
    (hf : X.fn x = true ∨ X.env.scope.names.lookup x = some .local := by first | exact .inl rfl | exact .inr rfl | assumption) (hfy : X.fn y = true ∨ X.env.scope.names.lookup y = some .local := by first | exact .inl rfl | exact .inr rfl | assumption) (hs : ∀ x, foldedSetIterable iter X.env x = pure x := by intro _; rfl) :
    BX X (.For (.Tuple [.Name x p1, .Name y p2] kk tpos) iter body [] pos :: rest) (St B ρ) Po := by
  refine bx_cons (Mid := IS B (P ds.length) (r ds.length)) ?_ h
  refine PS_wk (t := tFor (iList X.K fun σ H Q => St B ρ σ H ∧ ∀ v H', Ext d H H' → (lstA X.K la ds).p v H' → Q v H') (gTup X.K 2 (gCons (gName j) (gCons (gName k) gNil))) (tBody (Z := Nat × D × D × α) B (fun z => ((r z.1 z.2.2.2).set j (some (dat X.K z.2.1))).set k (some (dat X.K z.2.2.1))) (fun z => ds[z.1]? = some (.t [z.2.1, z.2.2.1]) ∧ P z.1 z.2.2.2) (fun z => Lp Po (IS B (P (z.1 + 1)) (r (z.1 + 1))) (IS B (P ds.length) (r ds.length)))))
    (ps_for hp hc (pi_list hi) (pg_tup hc (pgs_cons (pg_name hN hj hx hf) (pgs_cons (pg_name hN hk hy hfy) pgs_nil))) ⟨fun pins s σ H E I ⟨⟨i, A, C, z⟩, ⟨hw, hz⟩, q, l⟩ => (hb i A C z hw hz).run pins s σ H E I ⟨q, l⟩⟩ hs) fun E σ H ⟨s, l⟩ => ⟨s, fun v H1 e1 hv => ?_⟩
  obtain ⟨rfl, hld, us, h1, h2⟩ := hv
  refine ⟨la, rfl, ⟨us, h1.sq⟩, ?_⟩
  have key : ∀ i σ H, IS B (P i) (r i) σ H → ∃ vs, SqL X.K H la vs ∧ DRl X.K H ds vs := fun i σ H ⟨z, hz, q⟩ => by
    obtain ⟨k, R, hk, hR⟩ := hl i z hz
    obtain ⟨v, _, g⟩ := q.good.get hk
    obtain ⟨_, _, vs, a1, a2⟩ := hR v H g
    exact ⟨vs, a1.sq, a2⟩
  refine ⟨fun i m σ H => m = ds.length - i ∧ i ≤ ds.length ∧ Tk H1 H ∧ IS B (P i) (r i) σ H, ⟨ds.length, rfl, Nat.zero_le _, Tk.refl _, h0 _ _ (s.mono e1)⟩, ?_⟩
  rintro i m σ H ⟨rfl, hi', k', q⟩
  obtain ⟨vs, a1, a2⟩ := key i σ H q
  by_cases hlt : i < ds.length
  · have hv : i < vs.length := by rw [← a2.1]; exact hlt
    refine .inr ⟨⟨vs, vs[i], a1, List.getElem?_eq_getElem hv⟩, fun σ' H' => Tk H1 H' ∧ IS B (P (i + 1)) (r (i + 1)) σ' H', fun σ' H' p' => ⟨ds.length - (i + 1), by omega, rfl, hlt, p'.1, p'.2⟩, fun x H' y => ?_⟩
    obtain ⟨rfl, y⟩ := y
    obtain ⟨w, hw, hr⟩ := a2.getV (y vs a1)
    obtain ⟨A, C, rfl⟩ := hd i w hw
    obtain ⟨z, hz, q⟩ := q
    obtain ⟨t, ws, rfl, g1, g2⟩ := DR.tup hr
    match ws, g2 with
    | [w1, w2], g2 =>
      refine ⟨t, [w1, w2], rfl, g1, rfl, w1, [w2], rfl, w2, [], rfl, rfl, (i, A, C, z), ⟨hw, hz⟩, ⟨q.ext, q.dr, (q.good.set j (R := dat X.K A) (g2.2 0 A w1 rfl rfl)).set k (R := dat X.K C) (g2.2 1 C w2 rfl rfl)⟩, ?_⟩
      exact ⟨fun σ' H' k2 q' => ⟨k'.trans k2, q'⟩, fun v H' k2 q' => l.rt v H' ((e1.tk.trans k').trans k2) q', fun σ' H' k2 q' => l.nx σ' H' ((e1.tk.trans k').trans k2) q', fun σ' H' k2 q' => ⟨k'.trans k2, q'⟩⟩
    | [], g2 => exact absurd g2.1 (by simp)
    | [_], g2 => exact absurd g2.1 (by simp)
    | _ :: _ :: _ :: _, g2 => exact absurd g2.1 (by simp)
  · have e : i = ds.length := by omega
    subst e
    exact .inl ⟨⟨vs, a1, by rw [← a2.1]; exact Nat.le_refl _⟩, l.nx σ H (e1.tk.trans k') q⟩
/-- for x, (y, z) in enumerate(xs), its items pairs -/
theorem bx_forEL2 {α : Type} {ds : List D} {la : Addr} (j k l0 : Nat) {x y z : Str} {kk k2 : Nat} {tpos tp2 p1 p2 p4 p p3 : Pos} (P : Nat → α → Prop) (r : Nat → α → Ro d) (hg : Gl X "enumerate") (hm : X.mg "enumerate" = none) (ha : EX X B ρ a (lstA X.K la ds)) (h0 : ∀ σ H, St B ρ σ H → IS B (P 0) (r 0) σ H)
    (hl : ∀ i z, P i z → ∃ (k : Nat) (R : Rp d), (r i z)[k]? = some (some R) ∧ ∀ v H, R.p v H → (lstA (d := d) X.K la ds).p v H) (hd : ∀ (i : Nat) w, ds[i]? = some w → ∃ A C, w = .t [A, C])
    (hb : ∀ (i : Nat) A C z, ds[i]? = some (.t [A, C]) → P i z → BX X body (St B ((((r i z).set j (some (rI (i : Int)))).set k (some (dat X.K A))).set l0 (some (dat X.K C)))) (Lp Po (IS B (P (i + 1)) (r (i + 1))) (IS B (P ds.length) (r ds.length)))) (h : BX X rest (IS B (P ds.length) (r ds.length)) Po)
    (hN : X.N.Nodup) (hp : PassesOwn (model X.prog X.w) X.A X.env X.xe) (hj : X.N[j]? = some x := by rfl) (hk : X.N[k]? = some y := by rfl) (hz : X.N[l0]? = some z := by rfl) (hc : X.calm = true := by rfl) (hx : Loc X.env.scope x := by first | exact Or.inl rfl | exact Or.inr rfl) (hy : Loc X.env.scope y := by first | exact Or.inl rfl | exact Or.inr rfl) (hlz : Loc X.env.scope z := by first | exact Or.inl rfl | exact Or.inr rfl)
    (hf : X.fn x = true ∨ X.env.scope.names.lookup x = some .local := by first | exact .inl rfl | exact .inr rfl | assumption) (hfy : X.fn y = true ∨ X.env.scope.names.lookup y = some .local := by first | exact .inl rfl | exact .inr rfl | assumption) (hfz : X.fn z = true ∨ X.env.scope.names.lookup z = some .local := by first | exact .inl rfl | exact .inr rfl | assumption)
    (he : starEach [a] X.env = [(false, eval a X.env)] := by rfl) (hs : ∀ x, foldedSetIterable (.Call (.Name "enumerate" p) [a] [] p3) X.env x = pure x := by intro _; rfl) :
    BX X (.For (.Tuple [.Name x p1, .Tuple [.Name y p2, .Name z p4] k2 tp2] kk tpos) (.Call (.Name "enumerate" p) [a] [] p3) body [] pos :: rest) (St B ρ) Po := by
  refine bx_cons (Mid := IS B (P ds.length) (r ds.length)) ?_ h
  refine PS_wk (t := tFor (iEnum X.K fun σ H Q => St B ρ σ H ∧ ∀ vs H', Ext d H H' → RsH [lstA X.K la ds] vs H' → Q vs H') (gTup X.K 2 (gCons (gName j) (gCons (gTup X.K 2 (gCons (gName k) (gCons (gName l0) gNil))) gNil))) (tBody (Z := Nat × D × D × α) B (fun z => (((r z.1 z.2.2.2).set j (some (rI (z.1 : Int)))).set k (some (dat X.K z.2.1))).set l0 (some (dat X.K z.2.2.1))) (fun z => ds[z.1]? = some (.t [z.2.1, z.2.2.1]) ∧ P z.1 z.2.2.2) (fun z => Lp Po (IS B (P (z.1 + 1)) (r (z.1 + 1))) (IS B (P ds.length) (r ds.length)))))
    (ps_for hp hc (pi_enum hg hm (a_cons ha a_nil he) he) (pg_tup hc (pgs_cons (pg_name hN hj hx hf) (pgs_cons (pg_tup hc (pgs_cons (pg_name hN hk hy hfy) (pgs_cons (pg_name hN hz hlz hfz) pgs_nil))) pgs_nil))) ⟨fun pins s σ H E I ⟨⟨i, A, C, z⟩, ⟨hw, hz⟩, q, l⟩ => (hb i A C z hw hz).run pins s σ H E I ⟨q, l⟩⟩ hs) fun E σ H ⟨s, l⟩ => ⟨s, fun vs H1 e1 hv => ?_⟩
  obtain ⟨v, rfl, hv'⟩ := hv.one
  obtain ⟨rfl, hld, us, h1, h2⟩ := hv'
  have key : ∀ i σ H, IS B (P i) (r i) σ H → ∃ vs, SqL X.K H la vs ∧ DRl X.K H ds vs := fun i σ H ⟨z, hz, q⟩ => by
    obtain ⟨k, R, hk, hR⟩ := hl i z hz
    obtain ⟨v, _, g⟩ := q.good.get hk
    obtain ⟨_, _, vs, a1, a2⟩ := hR v H g
    exact ⟨vs, a1.sq, a2⟩
  refine ⟨la, us, rfl, h1.sq, fun i m σ H => m = ds.length - i ∧ i ≤ ds.length ∧ Tk H1 H ∧ IS B (P i) (r i) σ H, ⟨ds.length, rfl, Nat.zero_le _, Tk.refl _, h0 _ _ (s.mono e1)⟩, ?_⟩
  rintro i m σ H ⟨rfl, hi, kk, q⟩
  obtain ⟨vs, a1, a2⟩ := key i σ H q
  by_cases hlt : i < ds.length
  · have hv : i < vs.length := by rw [← a2.1]; exact hlt
    refine .inr ⟨⟨vs, vs[i], a1, List.getElem?_eq_getElem hv⟩, fun σ' H' => Tk H1 H' ∧ IS B (P (i + 1)) (r (i + 1)) σ' H', fun σ' H' p' => ⟨ds.length - (i + 1), by omega, rfl, hlt, p'.1, p'.2⟩, fun v H' yl => ?_⟩
    obtain ⟨T, x', rfl, hT, rfl, f1⟩ := yl
    obtain ⟨w, hw, hr⟩ := a2.getV (f1 vs a1)
    obtain ⟨A, C, rfl⟩ := hd i w hw
    obtain ⟨z, hz, q⟩ := q
    have eT : Ext d H (upd H T (.tup [.int (i : Nat), x'])) := Ext.new hT
    have kT := kk.trans eT.tk
    obtain ⟨t, ws, rfl, g1, g2⟩ := DR.tup (hr.tk eT.tk)
    match ws, g2 with
    | [w1, w2], g2 =>
      refine ⟨T, [.int (i : Nat), .ref t], rfl, SqT.of upd_same, rfl, .int (i : Nat), [.ref t], rfl, .ref t, [], rfl, ⟨t, [w1, w2], rfl, g1, rfl, w1, [w2], rfl, w2, [], rfl, rfl, rfl, (i, A, C, z), ⟨hw, hz⟩, ⟨(q.mono eT).ext, (q.mono eT).dr, (((q.mono eT).good.set j (R := rI (i : Int)) rfl).set k (R := dat X.K A) (g2.2 0 A w1 rfl rfl)).set l0 (R := dat X.K C) (g2.2 1 C w2 rfl rfl)⟩, ?_⟩⟩
      exact ⟨fun σ' H' k' q' => ⟨kT.trans k', q'⟩, fun v H' k' q' => l.rt v H' ((e1.tk.trans kT).trans k') q', fun σ' H' k' q' => l.nx σ' H' ((e1.tk.trans kT).trans k') q', fun σ' H' k' q' => ⟨kT.trans k', q'⟩⟩
    | [], g2 => exact absurd g2.1 (by simp)
    | [_], g2 => exact absurd g2.1 (by simp)
    | _ :: _ :: _ :: _, g2 => exact absurd g2.1 (by simp)
  · have e' : i = ds.length := by omega
    subst e'
    exact .inl ⟨⟨vs, a1, by rw [← a2.1]; exact Nat.le_refl _⟩, l.nx σ H (e1.tk.trans kk) q⟩
end
end Cv

set_option maxHeartbeats 4000000
namespace PySem
namespace LowX
open PySem.W PySem.Calls PyProof.Rows PySem.HandSPX
/-! ### the text of __init__ -/
def iA (p1 p2 : Pos) : Arguments := { posonlyargs := [], args := [{ arg := "self", annotation := none, pos := p1 }, { arg := "position", annotation := none, pos := p2 }], vararg := none, kwonlyargs := [], kw_defaults := [], kwarg := none, defaults := [] }
def iB (q1 q2 q3 q4 : Pos) : List Stmt := [.Assign [.Attribute (.Name "self" q1) "position" q2] (.Name "position" q3) q4]
def iS : Scope := { kind := .function, names := [(PySem.Str.ofString "self", .local), (PySem.Str.ofString "position", .local)], isGenerator := false, isCoroutine := false, more := [] }
/-- what the written part says of Low, at C, and of its __init__, at fI -/
structure LowTxt (K : Frag) (mg : Str → Option Value) (C fI : Addr) : Prop where
  gC : mg "NotEnabled" = some (.ref C)
  cls : ∃ nm q N bs bm sn sub ab col dd k0 k1 k2 k3 k5, K.lookup C = some (excClassObj nm q C N bs bm true sn sub ab col dd k0 k1 k2 k3 k5 "ValueError.__new__") ∧ refsVE bm = true
  sa : findIn K (.ref C) "__setattr__" = some (some (.builtin "object.__setattr__"))
  ga : findIn K (.ref C) "__getattribute__" = some (some (.builtin "BaseException.__getattribute__"))
  gg : findIn K (.ref C) "__getattr__" = some none
  noN : findIn K (.ref C) "position" = some none
  iC : findIn K (.ref C) "__init__" = some (some (.ref fI))
  tC : typeIn K (.ref fI) = some (.type "function")
  kC : keepIn K (.ref C) = true
  exC : subIn K (.ref C) (.type "BaseException") = some true
  tyC : typeIn K (.ref C) = some (.type "type")
  hdC : hasDictIn K C = true
  te : exmOne K (.ref C) (.ref C) = some true
  fn : ∃ (oc : Value) (od : Option Addr) (doc pm : Value) (an : Option Addr) (cdv ct : Value) (osl : Array (Option Value)) (p1 p2 q1 q2 q3 q4 : Pos),
    K.lookup fI = some ⟨oc, od, .func (fnOf "__init__" "NotEnabled.__init__" (iA p1 p2) (iB q1 q2 q3 q4) iS .none .none doc pm an cdv ct), osl⟩ ∧ codeIn K cdv "NotEnabled.__init__" = true
theorem one_size (v : Value) : [v].length ≤ sizeLine := by
  rw [sizeLine_eq]
  exact (by decide : 1 ≤ 16777216)
theorem kept_but {K : Frag} {h h' : Heap} {x : Addr} (X : K.In h) (hx : K.lookup x = none) (k : ∀ b o, b ≠ x → h.get? b = some o → h'.get? b = some o) : K.In h' := fun a o e =>
  k a o (fun z => by rw [z, hx] at e; cases e) (X a o e)
theorem ldC {M : Model} {s : Shared} {name : Str} {scope : Scope} {L a : Addr} {cd : Value} {m : Str → Option Value} {x : Str} {pos : Pos} {v : Value} {Q : Value → Shared → Prop} {A : Around} {E : Value → Shared → Prop} (hn : s.heap.Ns L m) (hv : m x = some v) (h : Q v s)
    (hk : scope.kind = .function := by rfl) (hl : (envOfC name scope L a cd).kindOf x = some .local := by rfl) (hd : (x == ("__debug__" : Str)) = false := by decide) :
    wpAny M A (eval (.Name x pos) (envOfC name scope L a cd)) Q E s := wpAny_Name (wpAny_loadName_local hk hl hn hv h) hd
/-- what __init__ leaves of a fresh exception at x -/
structure InitEnd (h h' : Heap) (x C dx t1 : Addr) (v : Value) : Prop where
  keep : ∀ b o, b ≠ x → h.get? b = some o → h'.get? b = some o
  obj : h'.get? x = some { cls := .ref C, dict := some dx, data := .fields #[.ref t1, .none, .none, .none, .bool false, .none] }
  dbig : h.objs.size ≤ dx
  dne : dx ≠ x
  ns : h'.Ns1 dx (fun y => if y = "position" then some v else none)
/-- a made Low -/
structure OwnMade (h h' : Heap) (e C d : Addr) (v : Value) : Prop where
  keep : ∀ b o, h.get? b = some o → h'.get? b = some o
  new : h.objs.size ≤ e
  obj : ∃ oe vs, h'.get? e = some oe ∧ oe.cls = .ref C ∧ oe.dict = some d ∧ oe.data = .fields vs ∧ vs[1]? = some .none ∧ vs[2]? = some .none
  dbig : h.objs.size ≤ d
  dne : d ≠ e
  ns : h'.Ns1 d (fun y => if y = "position" then some v else none)
section
variable {prog : Program} {w : World} {A : Around} {E : Value → Shared → Prop} {R : Result → Shared → Prop} {s : Shared} {K : Frag} {mg : Str → Option Value} {C fI : Addr}
theorem low_init (T : LowTxt K mg C fI) {x t0 : Addr} {v : Value} (X : K.In s.heap) (hlim : s.heap.NoLimit) (hx : s.heap.get? x = some (excO C t0)) (hnx : K.lookup x = none) (hroom : A.depth < recursionLimit)
    (hq : ∀ h' tk dx, InitEnd s.heap h' x C dx t0 v → R (.ok (.ret .none)) { s with heap := h', toks := tk }) :
    codeAny (model prog w) A (.call (.ref fI) ⟨[.ref x, v], []⟩) R s := by
  obtain ⟨oc, od, doc, pm, an, cdv, ct, osl, p1, p2, q1, q2, q3, q4, ho, hcd⟩ := T.fn
  obtain ⟨nm, q, N, bs, bm, sn, sub, ab, col, dd, k0, k1, k2, k3, k5, hC, hbm⟩ := T.cls
  have hcl : clsIn K C = some { name := nm, bases := bs, mro := .ref C :: bm, ns := N, qualname := q, hasDict := true, slotNames := sn, subclasses := sub, abstract := ab, collection := col, hasDel := false } := by unfold clsIn; rw [hC] <;> rfl
  refine Att.call_fn (binds := [("self", .ref x), ("position", v)]) X hlim ho hcd hroom (BindsTo.of_eq (by first | rfl | with_unfolding_all rfl)) (by first | rfl | decide | with_unfolding_all rfl) (fun s₁ IC => ?_) rfl rfl rfl
  obtain ⟨h₁, tk₁, rfl⟩ := IC.toInCall.same
  have k : ∀ b o, s.heap.get? b = some o → h₁.get? b = some o := IC.toInCall.keep
  have hn := IC.toInCall.ns
  have hxL : s.heap.objs.size ≠ x := Nat.ne_of_gt (Heap.lt_size hx)
  have X₁ : K.In h₁ := X.keeps k
  have hx₁ := k _ _ hx
  -- self.by = by
  show wpAny _ _ (execs _ _) _ _ _
  refine wpAny_execs_cons (plainObj_wpAny_Assign_Attribute ?_)
  refine ldC (v := v) hn (by first | rfl | with_unfolding_all rfl | kernel_rfl) (ldC (v := .ref x) hn (by first | rfl | with_unfolding_all rfl | kernel_rfl) ?_)
  refine set_plain X₁ (ox := excO C t0) (od := none) ⟨hx₁, rfl, rfl, trivial⟩ T.sa ?_
  refine exc_osa X₁ hx₁ hcl (show refsVE (.ref C :: bm) = true from hbm) rfl T.noN (fun h₃ tk₃ dx k₃ dn dne hx₃ hn₃ => ?_)
  show wpAny _ _ (execs _ _) _ _ _
  have z : s.heap.objs.size < h₁.objs.size := hn.lt
  exact wpAny_execs_nil (hq h₃ tk₃ dx ⟨fun b o hb e => k₃ b o hb (k b o e), hx₃, Nat.le_of_lt (Nat.lt_of_lt_of_le z dn), dne, hn₃⟩)
theorem low_made (T : LowTxt K mg C fI) {v : Value} (X : K.In s.heap) (hlim : s.heap.NoLimit) (hroom : A.depth + 1 < recursionLimit)
    (hq : ∀ h' tk e d, OwnMade s.heap h' e C d v → R (.ok (.ret (.ref e))) { s with heap := h', toks := tk }) :
    codeAny (model prog w) A (.call (.ref C) ⟨[v], []⟩) R s := by
  obtain ⟨nm, q, N, bs, bm, sn, sub, ab, col, dd, k0, k1, k2, k3, k5, hC, hbm⟩ := T.cls
  obtain ⟨hp, g, dr, tk, os⟩ := s
  have k : ∀ b o, hp.get? b = some o → ((hp.push (kdv_tup [v])).push (excO C hp.objs.size)).get? b = some o := fun b o e => Heap.get?_push_of_some _ (Heap.get?_push_of_some _ e)
  have hget : ((hp.push (kdv_tup [v])).push (excO C hp.objs.size)).get? (hp.objs.size + 1) = some (excO C hp.objs.size) := by heap_get
  have hnx : K.lookup (hp.objs.size + 1) = none := by
    cases e : K.lookup (hp.objs.size + 1) with
    | none => rfl
    | some o =>
      have z : hp.get? (hp.objs.size + 1) = some o := X _ _ e
      exact absurd (Nat.lt_of_succ_lt (Heap.lt_size z)) (Nat.lt_irrefl _)
  refine call_own F.excBase_ValueError (fun X => refsVE_contains X bm hbm) (X _ _ hC) (looks_findIn X T.iC) (fun self => bind_fn X self T.tC) (one_size v) ?_
  refine low_init (s := ⟨(hp.push (kdv_tup [v])).push (excO C hp.objs.size), g, dr, tk, os⟩) T (X.keeps k) (hlim.keeps k) hget hnx ?_ fun h' tk' dx ⟨k', hx, dn, dne, hns⟩ => ?_
  · show A.depth + 1 < recursionLimit
    exact hroom
  · have old : ∀ b o, hp.get? b = some o → h'.get? b = some o := fun b o e => k' b o (Nat.ne_of_lt (Nat.lt_succ_of_lt (Heap.lt_size e))) (k b o e)
    have z : hp.objs.size + 1 + 1 ≤ dx := by
      first
        | (simpa only [Heap.size_push] using dn)
        | exact dn
        | (have q := dn; rw [Heap.size_push, Heap.size_push] at q; exact q)
    exact ⟨rfl, hq h' tk' (hp.objs.size + 1) dx ⟨old, Nat.le_succ _, ⟨_, _, hx, rfl, rfl, rfl, rfl, rfl⟩, Nat.le_trans (Nat.le_trans (Nat.le_succ _) (Nat.le_succ _)) z, dne, hns⟩⟩
end
end LowX
end PySem
namespace L2
open PySem PySem.Spec PyProof.Rows
theorem relO_low {v : V} {v' : Value} (r : RelV v v') (f : Str) : RelO (List.lookup f [(("position" : Str), v)]) (if f = "position" then some v' else none) := by
  by_cases hw : f = "position"
  · subst hw
    rw [if_pos rfl]
    have q : List.lookup ("position" : Str) [(("position" : Str), v)] = some v := by simp [List.lookup]
    rw [q]
    exact r
  · rw [if_neg hw]
    have qw : (f == ("position" : Str)) = false := by simpa using hw
    have q2 : List.lookup f [(("position" : Str), v)] = none := by simp [List.lookup, qw]
    rw [q2]
    trivial
section
variable {X : Cx} {C fI : Addr}
/-- Low(e) -/
def tMkLow (C : Addr) (ta : TA) : St → Hp → XK → Prop := fun σ H Q => ta σ H fun vs H1 => ∃ v, vs = [v] ∧ ∀ d, H1 d = none → Q (.ref C) (some d) (upd H1 d (.xd [(("position" : Str), v)]))
theorem pmk_low {a : Expr} {ta : TA} {p pos : Pos} {k : Nat} (T : PySem.LowX.LowTxt X.K X.mg C fI) (hr : Room k X.A) (ha : PA X [a] ta) (hg : Gl X "NotEnabled" := by rfl)
    (he : starEach (a :: []) X.env = (false, eval a X.env) :: starEach [] X.env := by rfl) (hpl : (backTo pos (starEach [] X.env)).any (·.1) = false := by rfl) :
    L2N.PMk X (.Call (.Name "NotEnabled" p) [a] [] pos) (tMkLow C ta) := by
  intro pins s σ H Q I h
  refine wpAny_Call_Name_kw (ld_glob I hg T.gC ?_)
  refine PySem.W.callWith_K (h₀ := X.base) I.ok.mod.kin T.kC (thn (ha.run pos pins s σ H _ I h) fun us s1 hh => ?_) he hpl
  obtain ⟨vs, H1, I1, r1, v, ev, q1⟩ := hh
  subst ev
  refine ⟨I1.kIn, ?_⟩
  cases r1 with
  | cons rv rn =>
    rename_i v' us'
    cases rn
    show wpAny _ _ (call (.ref C) [v']) _ _ _
    have hlim := I1.nolimit
    obtain ⟨hp, g, dr, tk, os⟩ := s1
    refine wpAny_call (PySem.LowX.low_made T I1.kIn hlim (by have := hr.dp; omega) fun h' tk' e d M => ?_)
    show L2N.MkP X pins σ Q (.ref e) ⟨h', g, dr, tk', os⟩
    obtain ⟨oe, fv, hoe, hc, hd, hdat, h1, h2⟩ := M.obj
    have hns := M.ns
    obtain ⟨G', g1, g2⟩ := restrict h' fun b => decide (b ≠ e)
    have gk : ∀ b, b ≠ e → G'.get? b = h'.get? b := fun b hb => g1 b (decide_eq_true hb)
    have ge : G'.get? e = none := g2 e (by simp)
    have old : ∀ b o, hp.get? b = some o → G'.get? b = some o := fun b o q => (gk b (Nat.ne_of_lt (Nat.lt_of_lt_of_le (Heap.lt_size q) M.new))).trans (M.keep b o q)
    have ob : ObjOk X.prog X.w (upd H1 d (.xd [(("position" : Str), v)])) G' d (.xd [(("position" : Str), v)]) :=
      ⟨_, hns.at (fun o q => (gk d M.dne).trans q), fun f => relO_low rv f⟩
    have J : Inv X pins σ (upd H1 d (.xd [(("position" : Str), v)])) ⟨G', g, dr, tk', os⟩ := I1.laid (t' := tk') old M.dbig ob
    refine ⟨e, oe, fv, ⟨G', g, dr, tk', os⟩, _, .ref C, some d, rfl, J, fun b o q => ?_, ge, hoe, ⟨hc, hd, fun vs e => by rw [hdat] at e; cases e; exact h2⟩, hdat, h1, ?_, rfl, I1.bare, raises_own T.exC T.tyC, q1 d (I1.hok.fresh M.dbig)⟩
    · by_cases hb : b = e
      · have q' : G'.get? b = some o := q
        rw [hb, ge] at q'; cases q'
      · exact (gk b hb).symm.trans q
    · rw [upd_ne (Ne.symm M.dne)]
      exact I1.hok.fresh M.new
/-- raise Low(e) -/
def tRaiseLow (C : Addr) (W : WX) (ta : TA) : TS := fun _ σ H => tMkLow C ta σ H fun cls d H' => W cls d σ H'
theorem ps_raiseLow {a : Expr} {ta : TA} {W : WX} {p pos pos2 : Pos} {k : Nat} (hc : X.calm = true) (T : PySem.LowX.LowTxt X.K X.mg C fI) (hr : Room k X.A) (tk : L2N.Takes X W) (ha : PA X [a] ta) (hg : Gl X "NotEnabled" := by rfl)
    (he : starEach (a :: []) X.env = (false, eval a X.env) :: starEach [] X.env := by rfl) (hpl : (backTo pos (starEach [] X.env)).any (·.1) = false := by rfl) :
    PS X (.Raise (some (.Call (.Name "NotEnabled" p) [a] [] pos)) none pos2) (tRaiseLow C W ta)   := L2N.ps_raise hc tk (pmk_low T hr ha hg he hpl)
/-- low.by, low the exception that the suite holds (at a; its class cls, its dict d) -/
def tByLow (C : Addr) (a : Addr) (cls : Value) (d : Option Addr) (te : TE) : TE := fun σ H Q => te σ H fun x H1 => x = .ref a ∧ cls = .ref C ∧ ∃ (dd : Addr) (v : V), d = some dd ∧ H1 dd = some (.xd [(("position" : Str), v)]) ∧ Q v H1
theorem pe_byLow {a : Addr} {oe : Obj} {cls : Value} {d : Option Addr} {pn : List (Addr × Obj)} {e : Expr} {te : TE} {pos : Pos} (T : PySem.LowX.LowTxt X.K X.mg C fI) (hz : L2N.Zn cls d oe) (hf : ∃ vs, oe.data = .fields vs) (he : PE (X.suite a ((a, oe) :: pn)) e te)
    (hb : attributeBase e "position" X.env (eval e X.env) = eval e X.env := by rfl) :
    PE (X.suite a ((a, oe) :: pn)) (.Attribute e "position" pos) (tByLow C a cls d te) := by
  refine ⟨fun pins s σ H Q I h => ?_⟩
  refine attr_of hb (thn (he.run pins s σ H _ I h) fun u s1 hh => ?_)
  obtain ⟨x, H1, I1, rx, ex, ec, dd, v, ed, ea, q⟩ := hh
  subst ex
  obtain rfl : u = Value.ref a := rx
  subst ec
  subst ed
  obtain ⟨ha, _⟩ := I1.pin (a, oe) (List.mem_append_left _ List.mem_cons_self)
  obtain ⟨vs, hd⟩ := hf
  have hx : ObjOk X.prog X.w H1 s1.heap dd (.xd [(("position" : Str), v)]) := I1.hok dd _ ea
  obtain ⟨mA, hns, hr⟩ := hx
  obtain ⟨od, ho, hl⟩ := lookIn_ns hns
  have l : List.lookup ("position" : Str) [(("position" : Str), v)] = some v := by simp [List.lookup]
  obtain ⟨u, hu, ru⟩ := RelO.some_of (v := v) (o := mA "position") (by rw [← l]; exact hr "position")
  have J : PySem.W.InstAt s1.heap a oe C (some od) := ⟨ha, hz.1, by unfold PySem.W.notCls; rw [hd] <;> rfl, by rw [hz.2.1]; exact ho⟩
  exact HandSPX.exc_get I1.kIn J T.ga T.gg T.exC (PySem.W.findObj_own T.hdC T.noN rfl (by rw [hl, hu])) (handed_of ru) ⟨v, H1, I1.tok _, ru, q⟩
end
end L2


namespace Cv
open PySem PySem.Spec PyProof.Rows L2 RZ
section
variable {d : Option Addr} {X : Cx} {B : Hp} {ρ ρ' : Ro d} {a b c e iter elt : Expr} {es : List Expr} {R R' Ra Rb : Rp d} {Rs : List (Rp d)} {pos : Pos} {m n : Int} {st : Stmt} {rest body orelse : List Stmt} {Pre Mid : L2.St → Hp → Prop} {Po : Ends}
/-- a <= b < c -/
theorem t_chainLt {i j k : Int} (ha : EX X B ρ a (rI i)) (hb : EX X B ρ b (rI j)) (hc : EX X B ρ c (rI k)) (hm : lastMarks [CmpOp.LtE, CmpOp.Lt] [b, c] = false := by with_unfolding_all rfl) : TX X B ρ (.Compare a [.LtE, .Lt] [b, c] pos) (is (decide (i ≤ j) && decide (j < k))) :=
  PT_wk (pt_chain op_le op_lt ha hb hc hm) fun σ H Q ⟨s, q⟩ => ⟨s, fun x H1 e1 hx => ⟨s.mono e1, fun y H2 e2 hy => by
    obtain rfl : x = .int i := hx
    obtain rfl : y = .int j := hy
    refine ⟨i, j, rfl, rfl, _, rfl, ?_⟩
    by_cases h : i ≤ j
    · rw [if_pos (decide_eq_true h)]
      refine ⟨(s.mono e1).mono e2, fun z H3 e3 hz => ?_⟩
      obtain rfl : z = .int k := hz
      exact ⟨j, k, rfl, rfl, _, rfl, q _ H3 (e1.trans (e2.trans e3)) (by rw [decide_eq_true h, Bool.true_and])⟩
    · rw [if_neg (by rw [decide_eq_false h]; exact Bool.false_ne_true)]
      exact ⟨false, rfl, q _ H2 (e1.trans e2) (by rw [decide_eq_false h, Bool.false_and])⟩⟩⟩
/-- a <= b < c, c only asked where a <= b -/
theorem t_chainLtG {i j k : Int} (ha : EX X B ρ a (rI i)) (hb : EX X B ρ b (rI j)) (hc : i ≤ j → EX X B ρ c (rI k)) (hm : lastMarks [CmpOp.LtE, CmpOp.Lt] [b, c] = false := by with_unfolding_all rfl) : TX X B ρ (.Compare a [.LtE, .Lt] [b, c] pos) (is (decide (i ≤ j) && decide (j < k))) := by
  by_cases h : i ≤ j
  · exact t_chainLt ha hb (hc h) hm
  · have hc' : PE X c fun _ _ _ => False := ⟨fun pins s σ H Q I q => q.elim⟩
    exact PT_wk (pt_chain op_le op_lt ha hb hc' hm) fun σ H Q ⟨s, q⟩ => ⟨s, fun x H1 e1 hx => ⟨s.mono e1, fun y H2 e2 hy => by
      obtain rfl : x = .int i := hx
      obtain rfl : y = .int j := hy
      refine ⟨i, j, rfl, rfl, _, rfl, ?_⟩
      rw [if_neg (by rw [decide_eq_false h]; exact Bool.false_ne_true)]
      exact ⟨false, rfl, q _ H2 (e1.trans e2) (by rw [decide_eq_false h, Bool.false_and])⟩⟩⟩
/-- the same as a value -/
theorem x_chainLt {i j k : Int} (ha : EX X B ρ a (rI i)) (hb : EX X B ρ b (rI j)) (hc : EX X B ρ c (rI k)) (hm : lastMarks [CmpOp.LtE, CmpOp.Lt] [b, c] = false := by with_unfolding_all rfl) : EX X B ρ (.Compare a [.LtE, .Lt] [b, c] pos) (rB (decide (i ≤ j) && decide (j < k))) :=
  PE_wk (pe_chain op_le op_lt ha hb hc hm) fun σ H Q ⟨s, q⟩ => ⟨s, fun x H1 e1 hx => ⟨s.mono e1, fun y H2 e2 hy => by
    obtain rfl : x = .int i := hx
    obtain rfl : y = .int j := hy
    refine ⟨i, j, rfl, rfl, _, rfl, ?_⟩
    by_cases h : i ≤ j
    · rw [if_pos (decide_eq_true h)]
      refine ⟨(s.mono e1).mono e2, fun z H3 e3 hz => ?_⟩
      obtain rfl : z = .int k := hz
      exact ⟨j, k, rfl, rfl, q _ H3 (e1.trans (e2.trans e3)) (by rw [decide_eq_true h, Bool.true_and]; exact rfl)⟩
    · rw [if_neg (by rw [decide_eq_false h]; exact Bool.false_ne_true)]
      exact q _ H2 (e1.trans e2) (by rw [decide_eq_false h, Bool.false_and]; exact rfl)⟩⟩
/-- for x, y in t, its items pairs -/
theorem bx_forT2 {α : Type} {ds : List D} (j k : Nat) {x y : Str} {kk : Nat} {tpos p1 p2 : Pos} (P : Nat → α → Prop) (r : Nat → α → Ro d) (hi : EX X B ρ iter (dat X.K (.t ds))) (h0 : ∀ σ H, St B ρ σ H → IS B (P 0) (r 0) σ H)
    (hd : ∀ (i : Nat) w, ds[i]? = some w → ∃ A C, w = .t [A, C])
    (hb : ∀ (i : Nat) A C z, ds[i]? = some (.t [A, C]) → P i z → BX X body (St B (((r i z).set j (some (dat X.K A))).set k (some (dat X.K C)))) (Lp Po (IS B (P (i + 1)) (r (i + 1))) (IS B (P ds.length) (r ds.length)))) (h : BX X rest (IS B (P ds.length) (r ds.length)) Po)
    (hN : X.N.Nodup) (hp : PassesOwn (model X.prog X.w) X.A X.env X.xe) (hj : X.N[j]? = some x := by rfl) (hk : X.N[k]? = some y := by rfl) (hc : X.calm = true := by rfl) (hx : Loc X.env.scope x := by first | exact Or.inl rfl | exact Or.inr rfl) (hy : Loc X.env.scope y := by first | exact Or.inl rfl | exact Or.inr rfl)
    (hf : X.fn x = true ∨ X.env.scope.names.lookup x = some .local := by first | exact .inl rfl | exact .inr rfl | assumption) (hfy : X.fn y = true ∨ X.env.scope.names.lookup y = some .local := by first | exact .inl rfl | exact .inr rfl | assumption) (hs : ∀ x, foldedSetIterable iter X.env x = pure x := by intro _; rfl) :
    BX X (.For (.Tuple [.Name x p1, .Name y p2] kk tpos) iter body [] pos :: rest) (St B ρ) Po := by
  refine bx_cons (Mid := IS B (P ds.length) (r ds.length)) ?_ h
  refine PS_wk (t := tFor (iTup X.K fun σ H Q => St B ρ σ H ∧ ∀ v H', Ext d H H' → (dat X.K (.t ds)).p v H' → Q v H') (gTup X.K 2 (gCons (gName j) (gCons (gName k) gNil))) (tBody (Z := Nat × D × D × α) B (fun z => ((r z.1 z.2.2.2).set j (some (dat X.K z.2.1))).set k (some (dat X.K z.2.2.1))) (fun z => ds[z.1]? = some (.t [z.2.1, z.2.2.1]) ∧ P z.1 z.2.2.2) (fun z => Lp Po (IS B (P (z.1 + 1)) (r (z.1 + 1))) (IS B (P ds.length) (r ds.length)))))
    (ps_for hp hc (pi_tup hi) (pg_tup hc (pgs_cons (pg_name hN hj hx hf) (pgs_cons (pg_name hN hk hy hfy) pgs_nil))) ⟨fun pins s σ H E I ⟨⟨i, A, C, z⟩, ⟨hw, hz⟩, q, l⟩ => (hb i A C z hw hz).run pins s σ H E I ⟨q, l⟩⟩ hs) fun E σ H ⟨s, l⟩ => ⟨s, fun v H1 e1 hv => ?_⟩
  obtain ⟨t, us, rfl, h1, h2⟩ := DR.tup hv
  refine ⟨t, rfl, ⟨us, h1⟩, for_tup (K := X.K) (a := t) (xs := us) (g := gTup X.K 2 (gCons (gName j) (gCons (gName k) gNil))) (tb := tBody (Z := Nat × D × D × α) B (fun z => ((r z.1 z.2.2.2).set j (some (dat X.K z.2.1))).set k (some (dat X.K z.2.2.1))) (fun z => ds[z.1]? = some (.t [z.2.1, z.2.2.1]) ∧ P z.1 z.2.2.2) (fun z => Lp Po (IS B (P (z.1 + 1)) (r (z.1 + 1))) (IS B (P ds.length) (r ds.length)))) (fun i σ H => Tk H1 H ∧ IS B (P i) (r i) σ H) ⟨Tk.refl _, h0 _ _ (s.mono e1)⟩ (fun i σ H _ q => q.1.sqT h1) (fun i x σ H hx ⟨k', z, hz, q⟩ => ?_) (fun σ H ⟨k', q⟩ => l.nx σ H (e1.tk.trans k') (by rw [h2.1]; exact q))⟩
  obtain ⟨w, hw, hr⟩ := h2.getV hx
  obtain ⟨A, C, rfl⟩ := hd i w hw
  obtain ⟨t2, ws, rfl, g1, g2⟩ := DR.tup (hr.tk k')
  match ws, g2 with
  | [w1, w2], g2 =>
    refine ⟨t2, [w1, w2], rfl, g1, rfl, w1, [w2], rfl, w2, [], rfl, rfl, (i, A, C, z), ⟨hw, hz⟩, ⟨q.ext, q.dr, (q.good.set j (R := dat X.K A) (g2.2 0 A w1 rfl rfl)).set k (R := dat X.K C) (g2.2 1 C w2 rfl rfl)⟩, ?_⟩
    exact ⟨fun σ' H' k2 q' => ⟨k'.trans k2, q'⟩, fun v H' k2 q' => l.rt v H' ((e1.tk.trans k').trans k2) q', fun σ' H' k2 q' => l.nx σ' H' ((e1.tk.trans k').trans k2) q', fun σ' H' k2 q' => ⟨k'.trans k2, q'⟩⟩
  | [], g2 => exact absurd g2.1 (by simp)
  | [_], g2 => exact absurd g2.1 (by simp)
  | _ :: _ :: _ :: _, g2 => exact absurd g2.1 (by simp)

/-! ### dicts -/
def valD {κ : Type} [DecidableEq κ] (kvs : List (κ × D)) (k : κ) : Option D := (kvs.find? fun kv => decide (kv.1 = k)).map (·.2)
/-- the pairs of a dict: keys alike, values told -/
def KD {κ : Type} (K : PySem.W.Frag) (H : Hp) (kvs : List (κ × D)) (us : List (κ × V)) : Prop := us.map (·.1) = kvs.map (·.1) ∧ DRl K H (kvs.map (·.2)) (us.map (·.2))
theorem KD.tk {κ : Type} {K : PySem.W.Frag} {H H' : Hp} {kvs : List (κ × D)} {us : List (κ × V)} (k : Tk H H') (h : KD K H kvs us) : KD K H' kvs us := ⟨h.1, h.2.tk k⟩
theorem KD.len {κ : Type} {K : PySem.W.Frag} {H : Hp} {kvs : List (κ × D)} {us : List (κ × V)} (h : KD K H kvs us) : us.length = kvs.length := by have := congrArg List.length h.1; simpa using this
theorem DRl.cons_ {K : PySem.W.Frag} {H : Hp} {e : D} {ds : List D} {v : V} {vs : List V} (h : DRl K H (e :: ds) (v :: vs)) : DR K H e v ∧ DRl K H ds vs := ⟨h.2 0 e v rfl rfl, by have := h.1; simpa using this, fun i e' v' a b => h.2 (i + 1) e' v' a b⟩
theorem KD.val {κ : Type} [DecidableEq κ] {K : PySem.W.Frag} {H : Hp} : ∀ {kvs : List (κ × D)} {us : List (κ × V)} (k : κ), KD K H kvs us → (valV us k = none ∧ valD kvs k = none) ∨ ∃ v w, valV us k = some v ∧ valD kvs k = some w ∧ DR K H w v
  | [], [], k, _ => .inl ⟨rfl, rfl⟩
  | [], _ :: _, k, h => by have := h.len; simp at this
  | _ :: _, [], k, h => by have := h.len; simp at this
  | (k1, w) :: kvs, (k2, v) :: us, k, h => by
    have e : k2 = k1 := (List.cons.inj h.1).1
    subst e
    have hd := DRl.cons_ h.2
    by_cases hk : k2 = k
    · exact .inr ⟨v, w, by simp [valV, hk], by simp [valD, hk], hd.1⟩
    · have ih := KD.val (kvs := kvs) (us := us) k ⟨(List.cons.inj h.1).2, hd.2⟩
      have e1 : valV ((k2, v) :: us) k = valV us k := by simp [valV, hk]
      have e2 : valD ((k2, w) :: kvs) k = valD kvs k := by simp [valD, hk]
      rw [e1, e2]
      exact ih
theorem KD.isSome {κ : Type} [DecidableEq κ] {K : PySem.W.Frag} {H : Hp} {kvs : List (κ × D)} {us : List (κ × V)} (k : κ) (h : KD K H kvs us) : (valV us k).isSome = (valD kvs k).isSome := by
  rcases h.val k with ⟨a, b⟩ | ⟨v, w, a, b, _⟩
  · rw [a, b]; rfl
  · rw [a, b]; rfl
theorem KD.snoc {κ : Type} {K : PySem.W.Frag} {H : Hp} {kvs : List (κ × D)} {us : List (κ × V)} {k : κ} {w : D} {v : V} (h : KD K H kvs us) (hv : DR K H w v) : KD K H (kvs ++ [(k, w)]) (us ++ [(k, v)]) := by
  refine ⟨by simp [h.1], ?_⟩
  rw [List.map_append, List.map_append]
  exact h.2.snoc hv
/-- a dict of keys that are ints and texts, at a -/
def dct (K : PySem.W.Frag) (a : Addr) (kvs : List (Key × D)) : Rp d := ⟨fun v H => v = .ref a ∧ ∃ us, H a = some (.dK us) ∧ KD K H kvs us, fun e ⟨h1, us, h2, h3⟩ => ⟨h1, us, e.keep _ _ h2 fun _ _ q => (by cases q), h3.tk e.tk⟩⟩
/-- a dict whose keys are tuples of ints, at a -/
def dcT (K : PySem.W.Frag) (a : Addr) (kvs : List (List Key × D)) : Rp d := ⟨fun v H => v = .ref a ∧ ∃ us, H a = some (.dT us) ∧ KD K H kvs us, fun e ⟨h1, us, h2, h3⟩ => ⟨h1, us, e.keep _ _ h2 fun _ _ q => (by cases q), h3.tk e.tk⟩⟩
/-- x = {}, x in slot i -/
theorem bx_dict (i : Nat) {x : Str} {pos' pos2 : Pos} {K : PySem.W.Frag} (hK : X.K = K) (h : ∀ l, B l = none → BX X rest (St B (ρ.set i (some (dct K l [])))) Po) (hN : X.N.Nodup) (hi : X.N[i]? = some x := by rfl) (hx : Loc X.env.scope x := by first | exact Or.inl rfl | exact Or.inr rfl) (hs : swapsWith (.Dict [] [] pos2) (some (.Name x pos')) pos.line X.env = pure false := by rfl) (hf : X.fn x = true ∨ X.env.scope.names.lookup x = some .local := by first | exact .inl rfl | exact .inr rfl | assumption) :
    BX X (.Assign [.Name x pos'] (.Dict [] [] pos2) pos :: rest) (St B ρ) Po := by
  subst hK
  refine bx_cons (Mid := fun σ H => ∃ l, B l = none ∧ St B (ρ.set i (some (dct X.K l []))) σ H) ?_ (bx_ex fun l hl => h l hl)
  refine PS_wk (ps_set hN hi hx pe_dnewK hs hf) fun E σ H ⟨s, q⟩ => fun l hl => ?_
  obtain ⟨hB, hd⟩ := s.fresh hl
  have e1 : Ext d H (upd H l (.dK [])) := Ext.new hl
  exact q.nx _ _ e1.tk ⟨l, hB, (s.mono e1).ext, (s.mono e1).dr, (s.mono e1).good.set i (R := dct X.K l []) ⟨rfl, [], upd_same, rfl, DRl.nil⟩⟩
theorem bx_dictT (i : Nat) {x : Str} {pos' pos2 : Pos} {K : PySem.W.Frag} (hK : X.K = K) (h : ∀ l, B l = none → BX X rest (St B (ρ.set i (some (dcT K l [])))) Po) (hN : X.N.Nodup) (hi : X.N[i]? = some x := by rfl) (hx : Loc X.env.scope x := by first | exact Or.inl rfl | exact Or.inr rfl) (hs : swapsWith (.Dict [] [] pos2) (some (.Name x pos')) pos.line X.env = pure false := by rfl) (hf : X.fn x = true ∨ X.env.scope.names.lookup x = some .local := by first | exact .inl rfl | exact .inr rfl | assumption) :
    BX X (.Assign [.Name x pos'] (.Dict [] [] pos2) pos :: rest) (St B ρ) Po := by
  subst hK
  refine bx_cons (Mid := fun σ H => ∃ l, B l = none ∧ St B (ρ.set i (some (dcT X.K l []))) σ H) ?_ (bx_ex fun l hl => h l hl)
  refine PS_wk (ps_set hN hi hx pe_dnewT hs hf) fun E σ H ⟨s, q⟩ => fun l hl => ?_
  obtain ⟨hB, hd⟩ := s.fresh hl
  have e1 : Ext d H (upd H l (.dT [])) := Ext.new hl
  exact q.nx _ _ e1.tk ⟨l, hB, (s.mono e1).ext, (s.mono e1).dr, (s.mono e1).good.set i (R := dcT X.K l []) ⟨rfl, [], upd_same, rfl, DRl.nil⟩⟩
/-- a value that is a key -/
def keyD : Key → D
  | .inl i => .i i
  | .inr x => .s x
theorem key_of_dr {K : PySem.W.Frag} {H : Hp} {k : Key} {v : V} (h : DR K H (keyD k) v) : v = kV k := by
  cases k with
  | inl i => cases h; rfl
  | inr x => cases h; rfl
/-- k in x, k not in x -/
theorem t_din {l : Addr} {kvs : List (Key × D)} {k : Key} (hu : X.A.units + 1 < cLine) (ha : EX X B ρ a (dat X.K (keyD k))) (hb : EX X B ρ b (dct X.K l kvs)) (hm : behindInMarks CmpOp.In b = false := by rfl) : TX X B ρ (.Compare a [.In] [b] pos) (is (valD kvs k).isSome) :=
  PT_wk (pt_cmp (pc_din hu ha hb) hm) fun σ H Q ⟨s, q⟩ => ⟨s, fun x H1 e1 hx => ⟨s.mono e1, fun y H2 e2 hy => by
    obtain ⟨rfl, us, h1, h2⟩ := hy
    obtain rfl := key_of_dr hx
    exact ⟨l, _, rfl, DGet.k h1, _, rfl, q _ H2 (e1.trans e2) (h2.isSome k)⟩⟩⟩
theorem t_dnotin {l : Addr} {kvs : List (Key × D)} {k : Key} (hu : X.A.units + 1 < cLine) (ha : EX X B ρ a (dat X.K (keyD k))) (hb : EX X B ρ b (dct X.K l kvs)) (hm : behindInMarks CmpOp.NotIn b = false := by rfl) : TX X B ρ (.Compare a [.NotIn] [b] pos) (is (!(valD kvs k).isSome)) :=
  PT_wk (pt_cmp (pc_dnotin hu ha hb) hm) fun σ H Q ⟨s, q⟩ => ⟨s, fun x H1 e1 hx => ⟨s.mono e1, fun y H2 e2 hy => by
    obtain ⟨rfl, us, h1, h2⟩ := hy
    obtain rfl := key_of_dr hx
    exact ⟨l, _, rfl, DGet.k h1, _, rfl, q _ H2 (e1.trans e2) (by show (!(valV us k).isSome) = _; rw [h2.isSome k])⟩⟩⟩
/-- x[k], there -/
theorem x_dget {l : Addr} {kvs : List (Key × D)} {k : Key} {w : D} (hu : X.A.units + 1 < cLine) (ha : EX X B ρ a (dct X.K l kvs)) (hb : EX X B ρ b (dat X.K (keyD k))) (hw : valD kvs k = some w) (hs : NoSl b := by exact (fun _ _ => rfl)) : EX X B ρ (.Subscript a b pos) (dat X.K w) :=
  PE_wk (pe_dget hu ha hb hs) fun σ H Q ⟨s, q⟩ => ⟨s, fun x H1 e1 hx => ⟨s.mono e1, fun y H2 e2 hy => by
    obtain ⟨rfl, us, h1, h2⟩ := (dct (d := d) X.K l kvs).st e2 hx
    obtain rfl := key_of_dr hy
    rcases h2.val k with ⟨_, z⟩ | ⟨v, w', z1, z2, z3⟩
    · rw [hw] at z; cases z
    · rw [hw] at z2; cases z2
      exact ⟨l, v, rfl, by rw [← z1]; exact DGet.k h1, q v H2 (e1.trans e2) z3⟩⟩⟩
/-! ### what does not care for dicts -/
/-- a reading that a change of the dict at l leaves -/
def Ink (l : Addr) (R : Rp d) : Prop := ∀ v H o o', H l = some o → ((∃ us, o = .dK us) ∨ ∃ us, o = .dT us) → R.p v H → R.p v (upd H l o')
theorem tk_dk {H : Hp} {l : Addr} {o o' : HO} (h : H l = some o) (ho : (∃ us, o = .dK us) ∨ ∃ us, o = .dT us) : Tk H (upd H l o') := by
  refine ⟨fun a zs e => ?_, fun a o u e => ?_⟩
  · have : a ≠ l := fun q => by rw [q, h] at e; cases e; rcases ho with ⟨_, h⟩ | ⟨_, h⟩ <;> cases h
    rw [upd_ne this]; exact e
  · have : a ≠ l := fun q => by rw [q, h] at e; cases e; rcases ho with ⟨_, h⟩ | ⟨_, h⟩ <;> cases h
    rw [upd_ne this]; exact e
theorem ne_dk {H : Hp} {l a : Addr} {o o2 : HO} (h : H l = some o) (ho : (∃ us, o = .dK us) ∨ ∃ us, o = .dT us) (h2 : H a = some o2) (h3 : ∀ us, o2 ≠ .dK us) (h4 : ∀ us, o2 ≠ .dT us) : a ≠ l := fun q => by
  rw [q, h] at h2; cases h2
  rcases ho with ⟨us, h⟩ | ⟨us, h⟩
  · exact h3 us h
  · exact h4 us h
theorem ink_I {l : Addr} {n : Int} : Ink l (rI (d := d) n) := fun _ _ _ _ _ _ h => h
theorem ink_B {l : Addr} {n : Bool} : Ink l (rB (d := d) n) := fun _ _ _ _ _ _ h => h
theorem ink_any {l : Addr} : Ink l (rAny (d := d)) := fun _ _ _ _ _ _ h => h
theorem ink_drw {l : Addr} : Ink l (drw (d := d)) := fun _ _ _ _ _ _ h => h
theorem ink_dat {l : Addr} {K : PySem.W.Frag} {w : D} : Ink l (dat (d := d) K w) := fun _ _ _ _ hl ho h => h.tk (tk_dk hl ho)
theorem ink_ex {l : Addr} {α : Type} {P : α → Prop} {Rz : α → Rp d} (h : ∀ z, Ink l (Rz z)) : Ink l (exR P Rz) := fun v H o o' hl ho ⟨z, hz, q⟩ => ⟨z, hz, h z v H o o' hl ho q⟩
theorem ink_own {l l' : Addr} {K : PySem.W.Frag} {ds : List D} : Ink l (own (d := d) K l' ds) := fun v H o o' hl ho ⟨h1, h2, us, h3, h4⟩ => ⟨h1, h2, us, by rw [upd_ne (ne_dk hl ho h3 (fun _ q => nomatch q) (fun _ q => nomatch q))]; exact h3, h4.tk (tk_dk hl ho)⟩
theorem ink_sqx {l la : Addr} {K : PySem.W.Frag} {H : Hp} {us : List V} {o o' : HO} (hl : H l = some o) (ho : (∃ us, o = .dK us) ∨ ∃ us, o = .dT us) (h : SqX d K H la us) : SqX d K (upd H l o') la us := by
  rcases h with ⟨h1, h⟩ | ⟨q, h⟩ | h
  · exact .inl ⟨h1, by rw [upd_ne (ne_dk hl ho h (fun _ q => nomatch q) (fun _ q => nomatch q))]; exact h⟩
  · exact .inr (.inl ⟨q, (tk_dk hl ho).frz _ _ _ h⟩)
  · exact .inr (.inr h)
theorem ink_lstA {l la : Addr} {K : PySem.W.Frag} {ds : List D} : Ink l (lstA (d := d) K la ds) := fun v H o o' hl ho ⟨h1, h2, us, h3, h4⟩ => ⟨h1, h2, us, ink_sqx hl ho h3, h4.tk (tk_dk hl ho)⟩
theorem ink_lstB {B' : Hp} {l la : Addr} {K : PySem.W.Frag} {ds : List D} : Ink l (lstB (d := d) B' K la ds) := fun v H o o' hl ho ⟨h1, us, h2, h3⟩ => ⟨h1, us, by
    rcases h2 with ⟨h2, h⟩ | h
    · exact .inl ⟨h2, ink_sqx hl ho h⟩
    · exact .inr h, h3.tk (tk_dk hl ho)⟩
theorem ink_insA {l C y : Addr} {F : List (Str × Rp d)} (h : ∀ p ∈ F, Ink l p.2) : Ink l (insA C y F) := fun v H o o' hl ho ⟨h0, dy, gs, h1, h2, h3⟩ => ⟨h0, dy, gs, by rw [upd_ne (ne_dk hl ho h1 (fun _ q => nomatch q) (fun _ q => nomatch q))]; exact h1, h2, fun i f R k => let ⟨u, p, q⟩ := h3 i f R k; ⟨u, p, h _ (List.mem_of_getElem? k) u H o o' hl ho q⟩⟩
theorem ink_dct {l l' : Addr} {K : PySem.W.Frag} {kvs : List (Key × D)} (hne : l' ≠ l) : Ink l (dct (d := d) K l' kvs) := fun v H o o' hl ho ⟨h1, us, h2, h3⟩ => ⟨h1, us, by rw [upd_ne hne]; exact h2, h3.tk (tk_dk hl ho)⟩
theorem ind_dct {l l' : Addr} {K : PySem.W.Frag} {kvs : List (Key × D)} : Ind l (dct (d := d) K l' kvs) := fun v H xs ys hl ⟨h1, us, h2, h3⟩ => ⟨h1, us, by rw [upd_ne (show l' ≠ l from fun z => by rw [z, hl] at h2; cases h2)]; exact h2, h3.tk (Tk.lst hl)⟩
theorem ind_dcT {l l' : Addr} {K : PySem.W.Frag} {kvs : List (List Key × D)} : Ind l (dcT (d := d) K l' kvs) := fun v H xs ys hl ⟨h1, us, h2, h3⟩ => ⟨h1, us, by rw [upd_ne (show l' ≠ l from fun z => by rw [z, hl] at h2; cases h2)]; exact h2, h3.tk (Tk.lst hl)⟩
def InkBut (l : Addr) (i : Nat) (r : Ro d) : Prop := ∀ (j : Nat) (R : Rp d), j ≠ i → r[j]? = some (some R) → Ink l R
def InkA (l : Addr) (r : Ro d) : Prop := ∀ (j : Nat) (R : Rp d), r[j]? = some (some R) → Ink l R
theorem ka_nil {l : Addr} : InkA l ([] : Ro d) := fun j R h => by cases h
theorem ka_none {l : Addr} {r : Ro d} (h : InkA l r) : InkA l (none :: r) := fun j R e => by
  cases j with
  | zero => cases e
  | succ j => exact h j R e
theorem ka_some {l : Addr} {r : Ro d} {R : Rp d} (w : Ink l R) (h : InkA l r) : InkA l (some R :: r) := fun j R' e => by
  cases j with
  | zero => cases e; exact w
  | succ j => exact h j R' e
theorem kb_here {l : Addr} {o : Option (Rp d)} {r : Ro d} (h : InkA l r) : InkBut l 0 (o :: r) := fun j R hj e => by
  cases j with
  | zero => exact absurd rfl hj
  | succ j => exact h j R e
theorem kb_none {l : Addr} {i : Nat} {r : Ro d} (h : InkBut l i r) : InkBut l (i + 1) (none :: r) := fun j R hj e => by
  cases j with
  | zero => cases e
  | succ j => exact h j R (fun z => hj (by rw [z])) e
theorem kb_some {l : Addr} {i : Nat} {r : Ro d} {R : Rp d} (w : Ink l R) (h : InkBut l i r) : InkBut l (i + 1) (some R :: r) := fun j R' hj e => by
  cases j with
  | zero => cases e; exact w
  | succ j => exact h j R' (fun z => hj (by rw [z])) e
theorem st_dk {l : Addr} {o o' : HO} {R' : Rp d} {i : Nat} {σ : L2.St} {H : Hp} {v : V} (s : St B ρ σ H) (hl : H l = some o) (ho : (∃ us, o = .dK us) ∨ ∃ us, o = .dT us) (hi : i < ρ.length) (hv : σ[i]? = some (some v)) (hB : B l = none) (hb : InkBut l i ρ) (hR : R'.p v (upd H l o')) : St B (ρ.set i (some R')) σ (upd H l o') := by
  refine ⟨s.ext.mut hB (fun z => ?_), fun a ha => ?_, by simp [s.good.1], fun j R e => ?_⟩
  · obtain ⟨ns, _, q⟩ := s.dr l z.symm
    rw [hl] at q; cases q
    rcases ho with ⟨us, h⟩ | ⟨us, h⟩ <;> cases h
  · obtain ⟨ns, h1, q⟩ := s.dr a ha
    exact ⟨ns, h1, by rw [upd_ne (ne_dk hl ho q (fun _ q => nomatch q) (fun _ q => nomatch q))]; exact q⟩
  · by_cases hj : i = j
    · subst hj
      rw [List.getElem?_set_self hi] at e
      cases e
      exact ⟨v, hv, hR⟩
    · rw [List.getElem?_set_ne hj] at e
      obtain ⟨u, h1, h2⟩ := s.good.get e
      exact ⟨u, h1, hb j R (fun z => hj z.symm) e u H o o' hl ho h2⟩
/-- x[k] = e, k a new key, x in slot i -/
theorem bx_dput (i : Nat) {x : Str} {p1 p2 : Pos} {K : PySem.W.Frag} {l : Addr} {kvs : List (Key × D)} {k : Key} {w : D} (hi : ρ[i]? = some (some (dct K l kvs))) (hK : X.K = K) (hu : X.A.units + 1 < cLine) (he : EX X B ρ e (dat K w)) (hk : EX X B ρ b (dat K (keyD k))) (hnew : valD kvs k = none) (hz : kvs.length ≤ 1000) (hB : B l = none) (hb : InkBut l i ρ) (h : BX X rest (St B (ρ.set i (some (dct K l (kvs ++ [(k, w)]))))) Po)
    (hN : X.N[i]? = some x := by rfl) (hv : Vis X.env.scope x := by first | exact Or.inl rfl | exact Or.inr (Or.inl rfl) | exact Or.inr (Or.inr rfl)) (hd : (x == ("__debug__" : Str)) = false := by decide) (hcd : (x == ("__classdict__" : Str)) = false := by decide)
    (hs : swapsWith e (some (.Subscript (.Name x p1) b p2)) pos.line X.env = pure false := by rfl) :
    BX X (.Assign [.Subscript (.Name x p1) b p2] e pos :: rest) (St B ρ) Po := by
  subst hK
  refine bx_cons (Mid := St B (ρ.set i (some (dct X.K l (kvs ++ [(k, w)]))))) ?_ h
  refine PS_wk (ps_dput hu (pe_var hN hv hd hcd) hk he hs) fun E σ H ⟨s, q⟩ => ⟨s, fun v H1 e1 hw => ?_⟩
  have s1 := s.mono e1
  obtain ⟨u, h1, rfl, _⟩ := s1.good.get hi
  refine ⟨_, h1, s1, fun y H2 e2 hy => ?_⟩
  have s2 := s1.mono e2
  obtain ⟨u, h1', hu2, us, h2, h3⟩ := s2.good.get hi
  obtain rfl := key_of_dr hy
  have hn : valV us k = none := by
    rcases h3.val k with ⟨z, _⟩ | ⟨_, _, _, z, _⟩
    · exact z
    · rw [hnew] at z; cases z
  refine ⟨l, _, rfl, DPut.k h2 (by rw [h3.len]; exact small1000 hz), ?_⟩
  rw [putK_new v hn]
  have kk : Tk H2 (upd H2 l (.dK (us ++ [(k, v)]))) := tk_dk h2 (.inl ⟨us, rfl⟩)
  refine q.nx σ _ ((e1.tk.trans e2.tk).trans kk) (st_dk s2 h2 (.inl ⟨us, rfl⟩) (List.getElem?_eq_some_iff.mp hi).1 h1' hB hb ⟨hu2, _, upd_same, ?_⟩)
  exact (h3.tk kk).snoc ((hw.tk e2.tk).tk kk)
end
end Cv

namespace Cv
open PySem PySem.Spec PyProof.Rows L2 RZ
theorem valD_none {κ : Type} [DecidableEq κ] {kvs : List (κ × D)} {k : κ} (h : ∀ q ∈ kvs, ¬ q.1 = k) : valD kvs k = none := by
  unfold valD
  rw [List.find?_eq_none.mpr fun q hq => by simpa using h q hq]
  rfl
section
variable {d : Option Addr} {X : Cx} {B : Hp} {ρ ρ' : Ro d} {a b c e iter elt : Expr} {es : List Expr} {R R' Ra Rb : Rp d} {Rs : List (Rp d)} {pos : Pos} {m n : Int} {st : Stmt} {rest body orelse : List Stmt} {Pre Mid : L2.St → Hp → Prop} {Po : Ends}
/-- y = [elt for x in xs], y a plain local -/
theorem as_lcL {src : List D} {l : Addr} (i0 j : Nat) {x y : Str} {py spos : Pos} {scope : Scope} {tpos : Pos} (P : Nat → D → Prop) (hi : EX X B ρ iter (lstA X.K l src)) (hn : src.length < 2000) (hN : X.N.Nodup) (hok : BlkOk X.N X.env.scope scope [(x, j)])
    (hgn : ∀ (s : Shared) (H : Hp) (C : Addr) (cl : List (Str × Addr)) (fp : List Addr), PG (X.blk s H scope (compEnvC scope cl C X.env) fp) (.Name x tpos) (gName j))
    (hb : ∀ (s : Shared) (H : Hp) (C : Addr) (cl : List (Str × Addr)) (fp : List Addr) (i : Nat) (w : D), src[i]? = some w → EX (X.blk s H scope (compEnvC scope cl C X.env) fp) B (ρ.set j (some (dat X.K w))) elt (dE X.K (P i)))
    (hc : X.calm = true := by rfl) (hs : ∀ x, foldedSetIterable iter X.env x = pure x := by intro _; rfl)
    (hy : X.N[i0]? = some y := by rfl) (hyl : X.env.scope.names.lookup y = some .local := by rfl) (hsw : swapsWith (.ListComp elt [⟨.Name x tpos, iter, [], 0⟩] scope pos) (some (.Name y py)) spos.line X.env = pure true := by rfl) :
    AsgX X B ρ i0 (.Assign [.Name y py] (.ListComp elt [⟨.Name x tpos, iter, [], 0⟩] scope pos) spos) (newE B X.K fun ds => ds.length = src.length ∧ ∀ k w, ds[k]? = some w → P k w) := by
  refine PS_wk (ps_setLc (own := [(x, j)]) (g := gName j) (tt := tYes) (te := tElt (Z := Nat × D) B X.K (fun z => ρ.set j (some (dat X.K z.2))) (fun z => src[z.1]? = some z.2) (fun z => P z.1)) hc hN hy hyl hsw (pi_list hi) hok hgn (fun _ _ _ _ _ => pts_nil) (fun s H C cl fp => elt_of fun z hz => hb s H C cl fp z.1 z.2 hz) hs) fun E σ H ⟨s, q⟩ => ⟨s, fun v H1 e1 hv => ?_⟩
  obtain ⟨rfl, hld, us, g1, g2⟩ := hv
  have s1 := s.mono e1
  refine ⟨l, rfl, ⟨us, g1.sq⟩, fun Dl hD => ?_⟩
  obtain ⟨hB, hDd⟩ := s1.fresh hD
  refine lc_list (K := X.K) (a := l) (xs := us) (Lc H1 X.K Dl d P) ⟨Ext.new hD, [], [], upd_same, DRl.nil, rfl, fun k w h => by cases h⟩ (fun i H' _ L => (g1.ext L.1).sq) (fun i y H' hy L => ?_) (fun H' L => ?_)
  · obtain ⟨w, hw, hr⟩ := g2.getV hy
    refine ⟨wipe1 _ _ _, ?_⟩
    exact ⟨(i, w), hw, st_wipe (s1.mono L.1) (R := dat X.K w) (hr.tk L.1.tk), fun y H2 e2 hy => lc_step hD hDd L e2 hy (Nat.lt_trans (List.getElem?_eq_some_iff.mp hw).1 hn)⟩
  · obtain ⟨h0, vs, ds, h1, h2, h3, h4⟩ := L
    exact q _ H' (e1.trans h0) ⟨ds, ⟨by rw [h3, g2.1], h4⟩, Dl, hB, rfl, hDd, vs, h1, h2⟩
/-- (a, b, ..), each told by its own P -/
def All2 : List (D → Prop) → List D → Prop
  | [], [] => True
  | P :: Ps, w :: ws => P w ∧ All2 Ps ws
  | _, _ => False
theorem all2_of {K : PySem.W.Frag} : ∀ {Ps : List (D → Prop)} {vs : List V} {H : Hp}, RsH (Ps.map fun P => dE (d := d) K P) vs H → ∃ ds, All2 Ps ds ∧ DRl K H ds vs
  | [], [], _, _ => ⟨[], trivial, DRl.nil⟩
  | [], _ :: _, _, h => h.elim
  | _ :: _, [], _, h => h.elim
  | P :: Ps, v :: vs, H, h => by
    obtain ⟨⟨w, hw, hv⟩, h2⟩ := h
    obtain ⟨ds, h3, h4⟩ := all2_of (Ps := Ps) h2
    refine ⟨w :: ds, ⟨hw, h3⟩, by simp [h4.1], fun i e' v' a b => ?_⟩
    cases i with
    | zero => cases a; cases b; exact hv
    | succ i => exact h4.2 i e' v' a b
theorem all2_len : ∀ {Ps : List (D → Prop)} {ds : List D}, All2 Ps ds → ds.length = Ps.length
  | [], [], _ => rfl
  | [], _ :: _, h => h.elim
  | _ :: _, [], h => h.elim
  | _ :: Ps, _ :: ds, h => by simp [all2_len (Ps := Ps) h.2]
theorem x_tupE {Ps : List (D → Prop)} {x1} (h : AX X B ρ es (Ps.map fun P => dE X.K P)) (hl : Ps.length ≤ 1000 := by first | decide | simp) : EX X B ρ (.Tuple es x1 pos) (dE X.K fun w => ∃ ds, All2 Ps ds ∧ w = .t ds) :=
  PE_wk (pe_tup h) fun σ H Q ⟨s, q⟩ => ⟨s, fun vs H1 e1 hv => by
    obtain ⟨ds, h1, h2⟩ := all2_of hv
    refine ⟨by rw [← h2.1, all2_len h1]; exact Nat.le_of_lt (small1000 hl), fun p hp => q _ _ (e1.trans (Ext.new hp)) ⟨_, ⟨ds, h1, rfl⟩, ?_⟩⟩
    exact DR.of_tup (SqT.of upd_same) (h2.tk (Ext.new (d := d) hp).tk)⟩
/-- xs[i] of a new list of tuples .. told by P -/
theorem x_ixtE {ds : List D} {P : Int → Prop} (ha : EX X B ρ a (dat X.K (.t ds))) (hb : EX X B ρ b (iE P)) (hw : ∀ j, P j → 0 ≤ j ∧ j < ds.length) (hs : PlainIx b := by exact (fun _ _ => rfl)) : EX X B ρ (.Subscript a b pos) (dE X.K fun w => ∃ k : Nat, P k ∧ ds[k]? = some w) :=
  PE_wk (pe_ix ix_tup ha hb hs) fun σ H Q ⟨s, q⟩ => ⟨s, fun x H1 e1 hx => ⟨s.mono e1, fun y H2 e2 hy => by
    obtain ⟨p, us, rfl, h1, h2⟩ := DR.tup hx
    obtain ⟨j, hj, hy⟩ := hy
    obtain ⟨h0, hl⟩ := hw j hj
    obtain ⟨k, rfl⟩ : ∃ k : Nat, j = (k : Int) := ⟨j.toNat, by omega⟩
    have hk : k < ds.length := by omega
    obtain ⟨v, hv, hr⟩ := h2.get (List.getElem?_eq_getElem hk)
    exact ⟨p, us, _, v, rfl, hy, e2.tk.sqT h1, atI_nat hv, q v H2 (e1.trans e2) ⟨_, ⟨k, hj, List.getElem?_eq_getElem hk⟩, hr.tk e2.tk⟩⟩⟩⟩
/-- a or .., where a is surely true -/
theorem t_w_or_true {P : Bool → Prop} (h : TX X B ρ a P) (hp : ∀ q, P q → q = true) : WX X B ρ (.BoolOp .Or (a :: b :: es) pos) (fun k => k = true) := by
  refine ⟨fun wh pins s σ H Q I ⟨st, q⟩ => ?_⟩
  refine isTrue_or (thn (h.run pins s σ H (fun k H' => k = true ∧ Q k H') I ⟨st, fun k H' e1 hk => ?_⟩) fun k s1 ⟨H1, I1, q1⟩ => ?_)
  · obtain rfl := hp k hk
    exact ⟨rfl, q true H' e1 rfl⟩
  · obtain ⟨rfl, q1⟩ := q1
    exact ⟨H1, I1, q1⟩
/-- an own object that stood at the start -/
def insB (B' : Hp) (C : Addr) (F : List (Str × Rp d)) : Rp d := exR (fun y => B' y ≠ none) fun y => insA C y F
theorem x_insB {B' : Hp} {C : Addr} {F : List (Str × Rp d)} (h : EX X B ρ e (insB B' C F)) : EX X B ρ e (insR C F) := x_sub h fun v H ⟨y, _, hv⟩ => ⟨y, trivial, hv⟩
theorem io_insB {B' : Hp} {x C : Addr} {F : List (Str × Rp d)} (hx : B' x = none) (h : ∀ p ∈ F, IndO x p.2) : IndO x (insB B' C F) := fun v H C' dx fs fs' hH ⟨y, hy, q⟩ => ⟨y, hy, io_insA (fun z => hy (by rw [z]; exact hx)) h v H C' dx fs fs' hH q⟩
theorem insB_of {C : Addr} {F : List (Str × Rp d)} {v : V} {H : Hp} (h : (insR C F).p v H) : (insB H C F).p v H := by
  obtain ⟨y, _, h0, dx, fs, h1, h2⟩ := h
  have hn : H y ≠ none := fun z => by rw [h1] at z; cases z
  exact ⟨y, hn, h0, dx, fs, h1, h2⟩
theorem insR_of {C B' : _} {F : List (Str × Rp d)} {v : V} {H : Hp} (h : (insB B' C F).p v H) : (insR C F).p v H := by
  obtain ⟨y, _, h0⟩ := h
  exact ⟨y, trivial, h0⟩
def lstY (B : Hp) (K : PySem.W.Frag) (ds : List D) : Rp d := exR (fun _ => True) fun a => lstB B K a ds
theorem st_toY {K : PySem.W.Frag} {ds : List D} {σ : L2.St} {H : Hp} (i : Nat) (hi : ρ[i]? = some (some (lst K ds))) (s : St H ρ σ H) : St H (ρ.set i (some (lstY H K ds))) σ H := by
  refine ⟨s.ext, s.dr, by simp [s.good.1], fun j R e => ?_⟩
  by_cases hj : i = j
  · subst hj
    have hlt : i < ρ.length := (List.getElem?_eq_some_iff.mp hi).1
    rw [List.getElem?_set_self hlt] at e
    cases e
    obtain ⟨v, h1, l, _, rfl, _, us, h3, h4⟩ := s.good.get hi
    refine ⟨_, h1, l, trivial, rfl, us, ?_, h4⟩
    rcases h3 with ⟨k, h⟩ | ⟨o, h⟩ | h
    · exact .inl ⟨by rw [h]; exact fun z => (by cases z), .inl ⟨k, h⟩⟩
    · exact .inl ⟨by rw [h]; exact fun z => (by cases z), .inr (.inl ⟨o, h⟩)⟩
    · exact .inr h
  · rw [List.getElem?_set_ne hj] at e
    exact s.good.get e
end
end Cv

namespace Cv
open PySem PySem.Spec PyProof.Rows L2 RZ
section
variable {d : Option Addr} {X : Cx} {B : Hp} {ρ ρ' : Ro d} {a b c e iter elt : Expr} {es : List Expr} {R R' Ra Rb : Rp d} {Rs : List (Rp d)} {pos : Pos} {m n : Int} {st : Stmt} {rest body orelse : List Stmt} {Pre Mid : L2.St → Hp → Prop} {Po : Ends}
/-- while c: body, by an invariant and a measure -/
theorem bx_while {α : Type} (P : α → Prop) (μ : α → Nat) (r : α → Ro d) {T : α → Bool → Prop} (h0 : ∀ σ H, St B ρ σ H → IS B P r σ H) (hc : ∀ z, P z → TX X B (r z) c (T z))
    (hb : ∀ z, P z → T z true → BX X body (St B (r z)) (Lp Po (IS B (fun z' => P z' ∧ μ z' < μ z) r) (IS B (fun z' => P z' ∧ T z' false) r))) (h : BX X rest (IS B (fun z' => P z' ∧ T z' false) r) Po)
    (hp : PassesOwn (model X.prog X.w) X.A X.env X.xe) : BX X (.While c body [] pos :: rest) (St B ρ) Po := by
  refine bx_cons (Mid := IS B (fun z' => P z' ∧ T z' false) r) ?_ h
  have hc' : PT X c (fun σ H Q => ∃ z, P z ∧ St B (r z) σ H ∧ ∀ k H', Ext d H H' → T z k → Q k H') := ⟨fun pins s σ H Q I ⟨z, hz, st, q⟩ => (hc z hz).run pins s σ H Q I ⟨st, q⟩⟩
  have hb' : PSs X body (tBody (Z := α) B r (fun z => P z ∧ T z true) (fun z => Lp Po (IS B (fun z' => P z' ∧ μ z' < μ z) r) (IS B (fun z' => P z' ∧ T z' false) r))) := ⟨fun pins s σ H E I ⟨z, ⟨hz, hT⟩, q, l⟩ => (hb z hz hT).run pins s σ H E I ⟨q, l⟩⟩
  refine PS_wk (ps_while hp hc' hb') fun E σ H ⟨s, l⟩ => ?_
  refine ⟨fun m σ' H' => Tk H H' ∧ ∃ z, m = μ z ∧ P z ∧ St B (r z) σ' H', ?_, ?_⟩
  · obtain ⟨z, hz, q⟩ := h0 σ H s
    exact ⟨μ z, Tk.refl _, z, rfl, hz, q⟩
  · rintro m σ' H' ⟨k, z, rfl, hz, q⟩
    refine ⟨z, hz, q, fun b H2 e2 hT => ?_⟩
    cases b with
    | true =>
      rw [if_pos rfl]
      refine ⟨fun σ3 H3 => Tk H H3 ∧ IS B (fun z' => P z' ∧ μ z' < μ z) r σ3 H3, fun σ3 H3 ⟨k3, z3, ⟨p3, m3⟩, q3⟩ => ⟨μ z3, m3, k3, z3, rfl, p3, q3⟩, z, ⟨hz, hT⟩, q.mono e2, ?_⟩
      have k2 := k.trans e2.tk
      exact ⟨fun σ3 H3 k3 q3 => ⟨k2.trans k3, q3⟩, fun v H3 k3 q3 => l.rt v H3 (k2.trans k3) q3, fun σ3 H3 k3 q3 => l.nx σ3 H3 (k2.trans k3) q3, fun σ3 H3 k3 q3 => ⟨k2.trans k3, q3⟩⟩
    | false =>
      rw [if_neg Bool.false_ne_true]
      exact l.nx σ' H2 (k.trans e2.tk) ⟨z, ⟨hz, hT⟩, q.mono e2⟩
/-- x += e, ints -/
theorem bx_augI (i : Nat) {x : Str} {pos' : Pos} (hi' : ρ[i]? = some (some (rI m))) (he : EX X B ρ e (rI n)) (h : BX X rest (St B (ρ.set i (some (rI (m + n))))) Po) (hN : X.N.Nodup) (hi : X.N[i]? = some x := by rfl) (hx : Loc X.env.scope x := by first | exact Or.inl rfl | exact Or.inr rfl)
    (hf : X.fn x = true ∨ X.env.scope.names.lookup x = some .local := by first | exact .inl rfl | exact .inr rfl | assumption) : BX X (.AugAssign (.Name x pos') .Add e pos :: rest) (St B ρ) Po := by
  refine bx_cons (Mid := St B (ρ.set i (some (rI (m + n))))) ?_ h
  refine PS_wk (ps_aug hN hi hx he ip_add hf) fun E σ H ⟨s, l⟩ => ?_
  obtain ⟨v, h1, hv⟩ := s.good.get hi'
  obtain rfl : v = .int m := hv
  refine ⟨_, h1, s, fun y H1 e1 hy => ?_⟩
  obtain rfl : y = .int n := hy
  exact ⟨m, n, rfl, rfl, l.nx _ H1 e1.tk ⟨(s.mono e1).ext, (s.mono e1).dr, (s.mono e1).good.set i rfl⟩⟩
/-- x = {k: v} -/
theorem bx_disp1 (i : Nat) {x : Str} {pos' pos2 : Pos} {K : PySem.W.Frag} {k : Key} {w : D} (hK : X.K = K) (ha : EX X B ρ a (dat K (keyD k))) (hb : EX X B ρ b (dat K w)) (h : ∀ l, B l = none → BX X rest (St B (ρ.set i (some (dct K l [(k, w)])))) Po) (hN : X.N.Nodup) (hi : X.N[i]? = some x := by rfl) (hx : Loc X.env.scope x := by first | exact Or.inl rfl | exact Or.inr rfl) (hs : swapsWith (.Dict [some a] [b] pos2) (some (.Name x pos')) pos.line X.env = pure false := by rfl)
    (hf : X.fn x = true ∨ X.env.scope.names.lookup x = some .local := by first | exact .inl rfl | exact .inr rfl | assumption) : BX X (.Assign [.Name x pos'] (.Dict [some a] [b] pos2) pos :: rest) (St B ρ) Po := by
  subst hK
  refine bx_cons (Mid := fun σ H => ∃ l, B l = none ∧ St B (ρ.set i (some (dct X.K l [(k, w)]))) σ H) ?_ (bx_ex fun l hl => h l hl)
  refine PS_wk (ps_set hN hi hx (pe_disp (pps_cons ha hb pps_nil) rfl rfl (by simp) (by simp)) hs hf) fun E σ H ⟨s, q⟩ => fun l hl => ?_
  obtain ⟨hB, hd⟩ := s.fresh hl
  have e0 : Ext d H (upd H l (.dK [])) := Ext.new hl
  refine ⟨s.mono e0, fun u H1 e1 hu => ⟨(s.mono e0).mono e1, fun v H2 e2 hv => ?_⟩⟩
  have hl2 : H2 l = some (.dK []) := e2.keep _ _ (e1.keep _ _ upd_same fun _ _ q => by cases q) fun _ _ q => by cases q
  obtain rfl := key_of_dr hu
  refine ⟨hl2, [(k, v)], rfl, by simp, ?_⟩
  have kk : Tk H2 (upd H2 l (.dK (mergeK [] [(k, v)]))) := tk_dk hl2 (.inl ⟨[], rfl⟩)
  have s2 := ((s.mono e0).mono e1).mono e2
  have s3 : St B (ρ.set i (some (dct X.K l [(k, w)]))) (σ.set i (some (.ref l))) (upd H2 l (.dK (mergeK [] [(k, v)]))) := by
    refine ⟨?_, fun a ha => ?_, by simp [s2.good.1], fun j R e => ?_⟩
    · exact s2.ext.mut hB hd
    · obtain ⟨ns, h1, q⟩ := s2.dr a ha
      exact ⟨ns, h1, by rw [upd_ne (ne_dk hl2 (.inl ⟨[], rfl⟩) q (fun _ q => nomatch q) (fun _ q => nomatch q))]; exact q⟩
    · by_cases hj : i = j
      · subst hj
        have hlt : i < ρ.length := by have := (List.getElem?_eq_some_iff.mp e).1; simpa using this
        rw [List.getElem?_set_self hlt] at e
        cases e
        refine ⟨_, List.getElem?_set_self (by rw [s2.good.1]; exact hlt), rfl, [(k, v)], ?_, rfl, ?_⟩
        · rw [upd_same]
          rfl
        · exact DRl.snoc DRl.nil (hv.tk kk)
      · rw [List.getElem?_set_ne hj] at e
        obtain ⟨u, h1, h2⟩ := s.good.get e
        refine ⟨u, by rw [List.getElem?_set_ne hj]; exact h1, ?_⟩
        -- told over H: nothing that stood in H has changed
        have x1 : Ext d H (upd H2 l (.dK (mergeK [] [(k, v)]))) := (e0.trans (e1.trans e2)).mut hl hd
        exact R.st x1 h2
  exact q.nx _ _ ((e0.tk.trans (e1.tk.trans e2.tk)).trans kk) ⟨l, hB, s3⟩
/-- xs[::-1] -/
theorem x_revL {l : Addr} {ds : List D} {k : Nat} {p1 p2 p3 : Pos} (h : EX X B ρ e (lstA X.K l ds)) : EX X B ρ (.Subscript e (.Slice none none (some (.UnaryOp .USub (.Constant (.int 1) k p1) p2)) p3) pos) (newL B X.K ds.reverse) :=
  PE_wk (pe_revL h) fun σ H Q ⟨s, q⟩ => ⟨s, fun v H1 e1 hv => by
    obtain ⟨rfl, _, us, h1, h2⟩ := hv
    refine ⟨l, us, rfl, h1.sq, fun p hp => q _ _ (e1.trans (Ext.new hp)) ?_⟩
    obtain ⟨hB, hpd⟩ := (s.mono e1).fresh hp
    refine ⟨p, hB, rfl, hpd, us.reverse, upd_same, ?_⟩
    refine ⟨by simp [h2.1], fun i e' v' a b => ?_⟩
    have hi : i < ds.length := by have := (List.getElem?_eq_some_iff.mp a).1; simpa using this
    rw [List.getElem?_reverse hi] at a
    rw [List.getElem?_reverse (by rw [← h2.1]; exact hi)] at b
    rw [← h2.1] at b
    exact (h2.2 _ e' v' a b).tk (Ext.new (d := d) hp).tk⟩
/-- isinstance(a list, list) -/
theorem x_isiL {l : Addr} {ds : List D} {p p2 : Pos} (hg : Gl X "isinstance") (hm : X.mg "isinstance" = none) (hgT : Gl X "list") (hmT : X.mg "list" = none) (h : EX X B ρ e (own X.K l ds))
    (he : starEach [e, .Name "list" p2] X.env = (false, eval e X.env) :: starEach [.Name "list" p2] X.env := by rfl) (he2 : starEach [.Name "list" p2] X.env = (false, eval (.Name "list" p2) X.env) :: starEach [] X.env := by rfl) (hpl : (backTo pos (starEach [.Name "list" p2] X.env)).any (·.1) = false := by rfl) : EX X B ρ (.Call (.Name "isinstance" p) [e, .Name "list" p2] [] pos) (rB true) :=
  x_callB (Rs := [own X.K l ds, ⟨fun v _ => v = .ty "list", fun _ h => h⟩]) call_isi hg hm (by decide +kernel) (a_cons h (a_cons (PE_wk (pe_bltn (v := .ty "list") hgT hmT (by decide +kernel) rfl (by decide) (by decide)) fun σ H Q ⟨s, q⟩ => q _ H (Ext.refl H) rfl) a_nil he2) he) (fun vs H σ Q s hv q => by
    obtain ⟨u, w, rfl, h1, h2⟩ := hv.two
    obtain ⟨rfl, _, us, h3, _⟩ := h1
    exact ⟨_, w, .type "list", .type "list", true, rfl, by rw [show w = .ty "list" from h2]; exact .ty "list", .base (.lst h3), kit_ty (by decide +kernel), q _ H (Ext.refl H) rfl⟩) (he := he) (hpl := hpl)
theorem eqV_int (a b : Int) : eqV (.int a) (.int b) = decide (a = b) := by
  show (a == b) = _
  exact Bool.beq_eq_decide_eq _ _
theorem inV_ints {ns : List Int} {z : Int} : inV (.int z) (ns.map V.int) = decide (z ∈ ns) := by
  unfold inV
  induction ns with
  | nil => rfl
  | cons n r ih =>
    rw [List.map_cons, List.any_cons, ih, eqV_int]
    by_cases h : n = z
    · simp [h]
    · have h' : ¬ z = n := fun q => h q.symm
      simp [h, h']
/-- x not in xs, ints -/
theorem t_notInI {l : Addr} {ns : List Int} {z : Int} (ha : EX X B ρ a (rI z)) (hb : EX X B ρ b (lstA X.K l (ns.map D.i))) (hm : behindInMarks CmpOp.NotIn b = false := by rfl) : TX X B ρ (.Compare a [.NotIn] [b] pos) (is (!decide (z ∈ ns))) :=
  t_cmp op_notIn_seq hm ha hb fun x y H σ Q _ hx hy q => by
    obtain rfl : x = .int z := hx
    obtain ⟨rfl, _, us, h1, h2⟩ := hy
    obtain rfl := h2.ints
    refine ⟨l, _, rfl, .inl h1.sq, rfl, ?_, q _ H (Ext.refl H) ?_⟩
    · rw [List.all_eq_true]
      intro v hv
      obtain ⟨n, _, rfl⟩ := List.mem_map.mp hv
      rfl
    · show (if true = true then !inV (.int z) (ns.map V.int) else inV (.int z) (ns.map V.int)) = _
      rw [if_pos rfl, inV_ints]
end
end Cv

namespace Cv
open PySem PySem.Spec PyProof.Rows L2 RZ
section
variable {d : Option Addr} {X : Cx} {B : Hp} {ρ ρ' : Ro d} {a b c e iter elt : Expr} {es : List Expr} {R R' Ra Rb : Rp d} {Rs : List (Rp d)} {pos : Pos} {m n : Int} {st : Stmt} {rest body orelse : List Stmt} {Pre Mid : L2.St → Hp → Prop} {Po : Ends}
/-- xs + ys, xs any list, ys new -/
theorem x_catA {l : Addr} {ds es' : List D} (ha : EX X B ρ a (own X.K l ds)) (hb : EX X B ρ b (newL B X.K es')) (hl : ds.length + es'.length ≤ 1000) : EX X B ρ (.BinOp a .Add b pos) (newL B X.K (ds ++ es')) :=
  x_op2 op_cat ha hb fun x y H σ Q s hx hy q => by
    obtain ⟨rfl, _, us, h1, h2⟩ := hx
    obtain ⟨l2, hl2, rfl, _, us2, h3, h4⟩ := hy
    refine ⟨_, _, us, us2, rfl, rfl, h1, h3, by rw [← h2.1, ← h4.1]; exact Nat.le_of_lt (small1000 hl), fun p hp => q _ _ (Ext.new hp) ?_⟩
    obtain ⟨hB, hpd⟩ := s.fresh hp
    exact ⟨p, hB, rfl, hpd, us ++ us2, upd_same, (h2.app h4).tk (Ext.new (d := d) hp).tk⟩
/-- a list is not None -/
theorem t_isNown {K : PySem.W.Frag} {l : Addr} {ds : List D} {j : Nat} {p2 : Pos} (ha : EX X B ρ a (own K l ds)) : TX X B ρ (.Compare a [.Is] [.Constant .none j p2] pos) (is false) :=
  PT_wk (pt_cmpR op_isN ha pe_non (nomark _)) fun σ H Q ⟨s, q⟩ => ⟨s, fun x H1 e1 hx => by
    obtain ⟨rfl, _⟩ := hx
    exact ⟨rfl, _, rfl, q _ H1 e1 rfl⟩⟩
theorem x_isNown {K : PySem.W.Frag} {l : Addr} {ds : List D} {j : Nat} {p2 : Pos} (ha : EX X B ρ a (own K l ds)) : EX X B ρ (.Compare a [.Is] [.Constant .none j p2] pos) (rB false) :=
  PE_wk (pe_cmpR op_isN ha pe_non (nomark _)) fun σ H Q ⟨s, q⟩ => ⟨s, fun x H1 e1 hx => by
    obtain ⟨rfl, _⟩ := hx
    exact ⟨rfl, q _ H1 e1 rfl⟩⟩
/-! ### lists of (int, list of ints) -/
abbrev LyT := List (Nat × Addr × List Nat)
abbrev natD (run : List Nat) : List D := run.map fun (i : Nat) => D.i (i : Int)
def lyP (K : PySem.W.Frag) (d : Option Addr) (H : Hp) (t : Nat × Addr × List Nat) (u : V) : Prop := ∃ b, u = .ref b ∧ SqT K H b [.int (t.1 : Int), .ref t.2.1] ∧ some t.2.1 ≠ d ∧ ∃ ws, H t.2.1 = some (.lst ws) ∧ DRl K H (natD t.2.2) ws
theorem lyP.ext {K : PySem.W.Frag} {H H' : Hp} {t : Nat × Addr × List Nat} {u : V} (e : Ext d H H') (h : lyP K d H t u) : lyP K d H' t u := by
  obtain ⟨b, h1, h2, h3, ws, h4, h5⟩ := h
  exact ⟨b, h1, e.tk.sqT h2, h3, ws, e.at h4 h3, h5.tk e.tk⟩
theorem lyP.upd {K : PySem.W.Frag} {H : Hp} {t : Nat × Addr × List Nat} {u : V} {l : Addr} {xs ys : List V} (hl : H l = some (.lst xs)) (hne : t.2.1 ≠ l) (h : lyP K d H t u) : lyP K d (upd H l (.lst ys)) t u := by
  obtain ⟨b, h1, h2, h3, ws, h4, h5⟩ := h
  exact ⟨b, h1, (Tk.lst hl).sqT h2, h3, ws, by rw [upd_ne hne]; exact h4, h5.tk (Tk.lst hl)⟩
def lyrR (K : PySem.W.Frag) (a : Addr) (T : LyT) : Rp d := ⟨fun v H => v = .ref a ∧ some a ≠ d ∧ ∃ vs, H a = some (.lst vs) ∧ vs.length = T.length ∧ ∀ (j : Nat) t u, T[j]? = some t → vs[j]? = some u → lyP K d H t u,
  fun e ⟨h1, h2, vs, h3, h4, h5⟩ => ⟨h1, h2, vs, e.at h3 h2, h4, fun j t u ht hu => (h5 j t u ht hu).ext e⟩⟩
theorem ind_lyr {K : PySem.W.Frag} {l a : Addr} {T : LyT} (hne : a ≠ l) (hT : ∀ t ∈ T, t.2.1 ≠ l) : Ind l (lyrR (d := d) K a T) := fun v H xs ys hl ⟨h1, h2, vs, h3, h4, h5⟩ => ⟨h1, h2, vs, by rw [upd_ne hne]; exact h3, h4, fun j t u ht hu => (h5 j t u ht hu).upd hl (hT t (List.mem_of_getElem? ht))⟩
theorem ind_natown {K : PySem.W.Frag} {l a : Addr} {ds : List D} (hne : a ≠ l) : Ind l (own (d := d) K a ds) := ind_own hne
theorem known_lyr {K : PySem.W.Frag} {a : Addr} {T : LyT} (k : Nat) (h : ρ[k]? = some (some (lyrR K a T))) : Known a ρ := ⟨k, _, h, fun v H ⟨_, _, vs, q, _⟩ => by rw [q]; exact fun z => by cases z⟩
theorem known_lyrT {K : PySem.W.Frag} {a : Addr} {T : LyT} {t : Nat × Addr × List Nat} (k : Nat) (h : ρ[k]? = some (some (lyrR K a T))) (ht : t ∈ T) : Known t.2.1 ρ := ⟨k, _, h, fun v H ⟨_, _, vs, q, hl, h5⟩ => by
  obtain ⟨j, hj⟩ := List.getElem?_of_mem ht
  have hjl : j < vs.length := by rw [hl]; exact (List.getElem?_eq_some_iff.mp hj).1
  obtain ⟨b, _, _, _, ws, h4, _⟩ := h5 j t _ hj (List.getElem?_eq_getElem hjl)
  rw [h4]; exact fun z => by cases z⟩
theorem known_dct {K : PySem.W.Frag} {a : Addr} {kvs : List (Key × D)} (k : Nat) (h : ρ[k]? = some (some (dct K a kvs))) : Known a ρ := ⟨k, _, h, fun v H ⟨_, us, q, _⟩ => by rw [q]; exact fun z => by cases z⟩
/-- x = [(e1, [])] -/
theorem bx_ly1 (i : Nat) {x : Str} {pos' p1 p2 p3 : Pos} {kk : Nat} {K : PySem.W.Frag} {n : Nat} (ls : List Addr) (hK : X.K = K) (hls : ∀ l ∈ ls, Known l ρ) (he : EX X B ρ e (rI (n : Int))) (h : ∀ a r, B a = none → B r = none → a ≠ r → (∀ l' ∈ ls, a ≠ l' ∧ r ≠ l') → BX X rest (St B (ρ.set i (some (lyrR K a [(n, r, [])])))) Po) (hN : X.N.Nodup) (hi : X.N[i]? = some x := by rfl) (hx : Loc X.env.scope x := by first | exact Or.inl rfl | exact Or.inr rfl) (hs : swapsWith (.List [.Tuple [e, .List [] p1] kk p2] p3) (some (.Name x pos')) pos.line X.env = pure false := by rfl)
    (hf : X.fn x = true ∨ X.env.scope.names.lookup x = some .local := by first | exact .inl rfl | exact .inr rfl | assumption) (h1 : starEach [e, .List [] p1] X.env = (false, eval e X.env) :: starEach [.List [] p1] X.env := by rfl) (h2 : starEach [.List [] p1] X.env = (false, eval (.List [] p1) X.env) :: starEach [] X.env := by rfl) (h3 : starEach [.Tuple [e, .List [] p1] kk p2] X.env = (false, eval (.Tuple [e, .List [] p1] kk p2) X.env) :: starEach [] X.env := by rfl) :
    BX X (.Assign [.Name x pos'] (.List [.Tuple [e, .List [] p1] kk p2] p3) pos :: rest) (St B ρ) Po := by
  subst hK
  refine bx_cons (Mid := fun σ H => ∃ z : Addr × Addr, (B z.1 = none ∧ B z.2 = none ∧ z.1 ≠ z.2 ∧ ∀ l' ∈ ls, z.1 ≠ l' ∧ z.2 ≠ l') ∧ St B (ρ.set i (some (lyrR X.K z.1 [(n, z.2, [])]))) σ H) ?_ (bx_ex fun z hz => h z.1 z.2 hz.1 hz.2.1 hz.2.2.1 hz.2.2.2)
  refine PS_wk (ps_set hN hi hx (pe_lst (pa_cons (pe_tup (pa_cons he (pa_cons (pe_lst pa_nil) pa_nil h2) h1)) pa_nil h3)) hs hf) fun E σ H ⟨s, q⟩ => ⟨s, fun v H1 e1 hv => ?_⟩
  have s1 := s.mono e1
  obtain rfl : v = .int (n : Int) := hv
  refine ⟨by simp, fun r hr => ⟨Nat.le_of_lt (small1000 (by simp)), fun b hb => ⟨Nat.le_of_lt (small1000 (by simp)), fun a ha => ?_⟩⟩⟩
  obtain ⟨rB, rd⟩ := s1.fresh hr
  have e2 : Ext d H1 (upd H1 r (.lst [])) := Ext.new hr
  have s2 := s1.mono e2
  have e3 : Ext d (upd H1 r (.lst [])) (upd (upd H1 r (.lst [])) b (.tup [.int (n : Int), .ref r])) := Ext.new hb
  have s3 := s2.mono e3
  obtain ⟨aB, ad⟩ := s3.fresh ha
  have e4 : Ext d (upd (upd H1 r (.lst [])) b (.tup [.int (n : Int), .ref r])) (upd (upd (upd H1 r (.lst [])) b (.tup [.int (n : Int), .ref r])) a (.lst [.ref b])) := Ext.new ha
  have s4 := s3.mono e4
  have hbr : b ≠ r := fun z => by rw [z, upd_same] at hb; cases hb
  have har : a ≠ r := fun z => by rw [z, upd_ne (Ne.symm hbr), upd_same] at ha; cases ha
  refine q.nx _ _ (e1.tk.trans (e2.tk.trans (e3.tk.trans e4.tk))) ⟨(a, r), ⟨aB, rB, har, fun l' hl' => ?_⟩, s4.ext, s4.dr, s4.good.set i (R := lyrR X.K a [(n, r, [])]) ⟨rfl, ad, [.ref b], upd_same, rfl, fun j t u ht hu => ?_⟩⟩
  · obtain ⟨k, R, g1, g2⟩ := hls l' hl'
    obtain ⟨w, _, g3⟩ := s1.good.get g1
    have hl1 := g2 w H1 g3
    refine ⟨fun z => ?_, fun z => hl1 (by rw [← z]; exact hr)⟩
    subst z
    rw [upd_ne (fun z => ?_), upd_ne har] at ha
    · exact hl1 ha
    · subst z
      rw [upd_same] at ha
      cases ha
  · match j, ht, hu with
    | 0, ht, hu =>
      cases ht; cases hu
      refine ⟨b, rfl, e4.tk.sqT (SqT.of upd_same), rd, [], ?_, DRl.nil⟩
      exact e4.at (e3.at upd_same rd) rd
/-- x.append((e1, e2)), e2 a new list, x in slot i -/
theorem bx_appLy (i : Nat) {x : Str} {p1 p2 p3 p4 p5 : Pos} {kk : Nat} {K : PySem.W.Frag} {la : Addr} {T : LyT} {n : Nat} {run : List Nat} (ls : List Addr) (hls : ∀ l ∈ ls, Known l ρ) (hi : ρ[i]? = some (some (lyrR K la T))) (hK : X.K = K) (he : ∀ B' : Hp, EX X B' ρ a (rI (n : Int))) (he2 : ∀ B' : Hp, EX X B' ρ b (newL B' K (natD run))) (hB : B la = none) (hb : IndBut la i ρ) (hz : T.length ≤ 1000)
    (h : ∀ r, B r = none → r ≠ la → (∀ l' ∈ ls, r ≠ l') → BX X rest (St B (ρ.set i (some (lyrR K la (T ++ [(n, r, run)]))))) Po)
    (hN : X.N[i]? = some x := by rfl) (hv : Vis X.env.scope x := by first | exact Or.inl rfl | exact Or.inr (Or.inl rfl) | exact Or.inr (Or.inr rfl)) (hd : (x == ("__debug__" : Str)) = false := by decide) (hcd : (x == ("__classdict__" : Str)) = false := by decide)
    (hbase : attributeBase (.Name x p1) "append" X.env (eval (.Name x p1) X.env) = eval (.Name x p1) X.env := by rfl)
    (hfew : ((backTo p3 (starEach (.Tuple [a, b] kk p5 :: []) X.env)).all (fun x => !x.1) && (backToKw p3 (keywordEach [] X.env)).all (fun x => x.1.isSome)
      && decide ((Expr.Tuple [a, b] kk p5 :: []).length + ([] : List Keyword).length + (if ([] : List Keyword).isEmpty then 0 else 1) < 30)) = true := by rfl)
    (hline : (p2.endLine == p3.line) = true := by rfl) (hs : starEach (.Tuple [a, b] kk p5 :: []) X.env = (false, eval (.Tuple [a, b] kk p5) X.env) :: starEach [] X.env := by rfl) (hplain : (backTo p3 (starEach [] X.env)).any (·.1) = false := by rfl)
    (h1 : starEach [a, b] X.env = (false, eval a X.env) :: starEach [b] X.env := by rfl) (h2 : starEach [b] X.env = (false, eval b X.env) :: starEach [] X.env := by rfl)
    (hsw : swapsWith (.Call (.Attribute (.Name x p1) "append" p2) [.Tuple [a, b] kk p5] [] p3) none p4.line X.env = pure false := by rfl) :
    BX X (.Expr (.Call (.Attribute (.Name x p1) "append" p2) [.Tuple [a, b] kk p5] [] p3) p4 :: rest) (St B ρ) Po := by
  subst hK
  refine bx_cons (Mid := fun σ H => ∃ r, (B r = none ∧ r ≠ la ∧ ∀ l' ∈ ls, r ≠ l') ∧ St B (ρ.set i (some (lyrR X.K la (T ++ [(n, r, run)])))) σ H) ?_ (bx_ex fun r hr => h r hr.1 hr.2.1 hr.2.2)
  refine ⟨fun pins s σ H E I ⟨st, q⟩ => ?_⟩
  refine (ps_expr (pe_bm PySem.F.plainAttrs_list PySem.F.slot_list_append PySem.F.type_list_append mt_append (pe_var hN hv hd hcd) (pa_cons (pe_tup (pa_cons (he H) (pa_cons (he2 H) pa_nil h2) h1)) pa_nil hs) hbase hfew hline hs hplain) hsw).run pins s σ H E I ?_
  obtain ⟨v, g1, rfl, hld, vs, g2, g3, g4⟩ := st.good.get hi
  have stH : St H ρ σ H := ⟨Ext.refl H, st.dr, st.good⟩
  refine ⟨_, g1, Or.inl ⟨rfl, _, SqL.of g2⟩, stH, fun u H1 e1 hu => ⟨stH.mono e1, fun w H2 e2 hw => ?_⟩⟩
  obtain rfl : u = .int (n : Int) := hu
  obtain ⟨r, hrH, rfl, hrd, ws, hr2, hws⟩ := hw
  refine ⟨Nat.le_of_lt (small1000 (by simp)), fun t ht => ?_⟩
  have e3 : Ext d H2 (upd H2 t (.tup [.int (n : Int), .ref r])) := Ext.new ht
  have ee := e1.trans (e2.trans e3)
  have s3 := st.mono ee
  have g2' := ee.at g2 hld
  have hrla : r ≠ la := fun z => by rw [z, g2] at hrH; cases hrH
  have hBr : B r = none := (st.fresh hrH).1
  refine ⟨la, vs, _, rfl, rfl, g2', by rw [g3]; exact small1000 hz, ?_⟩
  have kk := Tk.lst (ys := vs ++ [V.ref t]) g2'
  have hnew : ∀ (j : Nat) t' u', (T ++ [(n, r, run)])[j]? = some t' → (vs ++ [V.ref t])[j]? = some u' → lyP X.K d (upd (upd H2 t (.tup [.int (n : Int), .ref r])) la (.lst (vs ++ [V.ref t]))) t' u' := fun j t' u' h1 h2 => by
    by_cases hj : j < T.length
    · rw [List.getElem?_append_left hj] at h1
      rw [List.getElem?_append_left (by rw [g3]; exact hj)] at h2
      have hp := g4 j t' u' h1 h2
      have hne : t'.2.1 ≠ la ∨ t'.2.1 = la := by
        by_cases z : t'.2.1 = la
        · exact .inr z
        · exact .inl z
      rcases hne with hne | hne
      · exact (hp.ext ee).upd g2' hne
      · exfalso
        obtain ⟨b', z1, z2, z3, ws', z4, z5⟩ := hp
        rw [hne, g2] at z4
        cases z4
        -- the list itself holds references, not ints
        have hjl : j < (natD t'.2.2).length := by rw [z5.1, g3]; exact hj
        have := z5.2 j _ u' (List.getElem?_eq_getElem hjl) h2
        rw [z1] at this
        rw [List.getElem_map] at this
        cases this
    · rw [List.getElem?_append_right (by omega)] at h1
      rw [List.getElem?_append_right (by rw [g3]; omega)] at h2
      rw [g3] at h2
      have h0 : j - T.length = 0 := by
        cases q' : j - T.length with
        | zero => rfl
        | succ m => rw [q'] at h1; simp at h1
      rw [h0] at h1 h2
      cases h1; cases h2
      refine ⟨t, rfl, kk.sqT (SqT.of upd_same), hrd, ws, ?_, (hws.tk e3.tk).tk kk⟩
      rw [upd_ne hrla]
      exact e3.at hr2 hrd
  refine q.nx σ _ (ee.tk.trans kk) ⟨r, ⟨hBr, hrla, fun l' hl' z => ?_⟩, ?_⟩
  · obtain ⟨k, R, a1, a2⟩ := hls l' hl'
    obtain ⟨w', _, a3⟩ := st.good.get a1
    exact a2 w' H a3 (by rw [← z]; exact hrH)
  · refine ⟨s3.ext.mut hB hld, fun a' ha' => ?_, by simp [s3.good.1], fun j R e => ?_⟩
    · obtain ⟨ns, b1, b2⟩ := s3.dr a' ha'
      have : a' ≠ la := fun z => hld (by rw [← z]; exact ha'.symm)
      exact ⟨ns, b1, by rw [upd_ne this]; exact b2⟩
    · by_cases hj : i = j
      · subst hj
        have hlt : i < ρ.length := (List.getElem?_eq_some_iff.mp hi).1
        rw [List.getElem?_set_self hlt] at e
        cases e
        exact ⟨_, g1, rfl, hld, _, upd_same, by simp [g3], hnew⟩
      · rw [List.getElem?_set_ne hj] at e
        obtain ⟨u', b1, b2⟩ := s3.good.get e
        exact ⟨u', b1, hb j R (fun z => hj z.symm) e u' _ vs _ g2' b2⟩
/-- for x, y in such a list -/
theorem bx_forLy {α : Type} {T : LyT} {la : Addr} (j k : Nat) {x y : Str} {kk : Nat} {tpos p1 p2 : Pos} (P : Nat → α → Prop) (r : Nat → α → Ro d) (hi : EX X B ρ iter (lyrR X.K la T)) (h0 : ∀ σ H, St B ρ σ H → IS B (P 0) (r 0) σ H)
    (hl : ∀ i z, P i z → ∃ (k : Nat) (R : Rp d), (r i z)[k]? = some (some R) ∧ ∀ v H, R.p v H → (lyrR (d := d) X.K la T).p v H)
    (hb : ∀ (i : Nat) t z, T[i]? = some t → P i z → BX X body (St B (((r i z).set j (some (rI (t.1 : Int)))).set k (some (own X.K t.2.1 (natD t.2.2))))) (Lp Po (IS B (P (i + 1)) (r (i + 1))) (IS B (P T.length) (r T.length)))) (h : BX X rest (IS B (P T.length) (r T.length)) Po)
    (hN : X.N.Nodup) (hp : PassesOwn (model X.prog X.w) X.A X.env X.xe) (hj : X.N[j]? = some x := by rfl) (hk : X.N[k]? = some y := by rfl) (hc : X.calm = true := by rfl) (hx : Loc X.env.scope x := by first | exact Or.inl rfl | exact Or.inr rfl) (hy : Loc X.env.scope y := by first | exact Or.inl rfl | exact Or.inr rfl)
    (hf : X.fn x = true ∨ X.env.scope.names.lookup x = some .local := by first | exact .inl rfl | exact .inr rfl | assumption) (hfy : X.fn y = true ∨ X.env.scope.names.lookup y = some .local := by first | exact .inl rfl | exact .inr rfl | assumption) (hs : ∀ x, foldedSetIterable iter X.env x = pure x := by intro _; rfl) :
    BX X (.For (.Tuple [.Name x p1, .Name y p2] kk tpos) iter body [] pos :: rest) (St B ρ) Po := by
  refine bx_cons (Mid := IS B (P T.length) (r T.length)) ?_ h
  refine PS_wk (t := tFor (iList X.K fun σ H Q => St B ρ σ H ∧ ∀ v H', Ext d H H' → (lyrR X.K la T).p v H' → Q v H') (gTup X.K 2 (gCons (gName j) (gCons (gName k) gNil))) (tBody (Z := Nat × (Nat × Addr × List Nat) × α) B (fun z => ((r z.1 z.2.2).set j (some (rI (z.2.1.1 : Int)))).set k (some (own X.K z.2.1.2.1 (natD z.2.1.2.2)))) (fun z => T[z.1]? = some z.2.1 ∧ P z.1 z.2.2) (fun z => Lp Po (IS B (P (z.1 + 1)) (r (z.1 + 1))) (IS B (P T.length) (r T.length)))))
    (ps_for hp hc (pi_list hi) (pg_tup hc (pgs_cons (pg_name hN hj hx hf) (pgs_cons (pg_name hN hk hy hfy) pgs_nil))) ⟨fun pins s σ H E I ⟨⟨i, t, z⟩, ⟨hw, hz⟩, q, l⟩ => (hb i t z hw hz).run pins s σ H E I ⟨q, l⟩⟩ hs) fun E σ H ⟨s, l⟩ => ⟨s, fun v H1 e1 hv => ?_⟩
  obtain ⟨rfl, hld, us, h1, _⟩ := hv
  refine ⟨la, rfl, ⟨us, SqL.of h1⟩, ?_⟩
  have key : ∀ i σ H, IS B (P i) (r i) σ H → ∃ vs, SqL X.K H la vs ∧ vs.length = T.length ∧ ∀ (j : Nat) t u, T[j]? = some t → vs[j]? = some u → lyP X.K d H t u := fun i σ H ⟨z, hz, q⟩ => by
    obtain ⟨k, R, hk, hR⟩ := hl i z hz
    obtain ⟨v, _, g⟩ := q.good.get hk
    obtain ⟨_, _, vs, a1, a2, a3⟩ := hR v H g
    exact ⟨vs, SqL.of a1, a2, a3⟩
  refine ⟨fun i m σ H => m = T.length - i ∧ i ≤ T.length ∧ Tk H1 H ∧ IS B (P i) (r i) σ H, ⟨T.length, rfl, Nat.zero_le _, Tk.refl _, h0 _ _ (s.mono e1)⟩, ?_⟩
  rintro i m σ H ⟨rfl, hi', k', q⟩
  obtain ⟨vs, a1, a2, a3⟩ := key i σ H q
  by_cases hlt : i < T.length
  · have hv : i < vs.length := by rw [a2]; exact hlt
    refine .inr ⟨⟨vs, vs[i], a1, List.getElem?_eq_getElem hv⟩, fun σ' H' => Tk H1 H' ∧ IS B (P (i + 1)) (r (i + 1)) σ' H', fun σ' H' p' => ⟨T.length - (i + 1), by omega, rfl, hlt, p'.1, p'.2⟩, fun x H' y => ?_⟩
    obtain ⟨rfl, y⟩ := y
    obtain ⟨t, ht⟩ : ∃ t, T[i]? = some t := ⟨T[i], List.getElem?_eq_getElem hlt⟩
    obtain ⟨b, rfl, g1, g2, ws, g3, g4⟩ := a3 i t x ht (y vs a1)
    obtain ⟨z, hz, q⟩ := q
    refine ⟨b, _, rfl, g1, rfl, _, [_], rfl, _, [], rfl, rfl, (i, t, z), ⟨ht, hz⟩, ⟨q.ext, q.dr, (q.good.set j (R := rI (t.1 : Int)) rfl).set k (R := own X.K t.2.1 (natD t.2.2)) ⟨rfl, g2, ws, g3, g4⟩⟩, ?_⟩
    exact ⟨fun σ' H' k2 q' => ⟨k'.trans k2, q'⟩, fun v H' k2 q' => l.rt v H' ((e1.tk.trans k').trans k2) q', fun σ' H' k2 q' => l.nx σ' H' ((e1.tk.trans k').trans k2) q', fun σ' H' k2 q' => ⟨k'.trans k2, q'⟩⟩
  · have e : i = T.length := by omega
    subst e
    exact .inl ⟨⟨vs, a1, by rw [a2]; exact Nat.le_refl _⟩, l.nx σ H (e1.tk.trans k') q⟩
end
end Cv

namespace Cv
open PySem PySem.Spec PyProof.Rows L2 RZ
open Classical in
noncomputable instance decD (x : D) (xs : List D) : Decidable (x ∈ xs) := Classical.propDecidable _
section
variable {d : Option Addr} {X : Cx} {B : Hp} {ρ ρ' : Ro d} {a b c e iter elt : Expr} {es : List Expr} {R R' Ra Rb : Rp d} {Rs : List (Rp d)} {pos : Pos} {m n : Int} {st : Stmt} {rest body orelse : List Stmt} {Pre Mid : L2.St → Hp → Prop} {Po : Ends}
/-! ### tuples of ints that are tracked -/
def tpl (ns : List Int) : Rp d := ⟨fun v H => ∃ b, v = .ref b ∧ H b = some (.tup (ns.map V.int)), fun e ⟨b, h1, h2⟩ => ⟨b, h1, e.tk.tup _ _ h2⟩⟩
theorem tpl_dat {K : PySem.W.Frag} {ns : List Int} {v : V} {H : Hp} (h : (tpl (d := d) ns).p v H) : (dat (d := d) K (tI ns)).p v H := by
  obtain ⟨b, rfl, h⟩ := h
  exact DR.of_tup (SqT.of h) (DRl.of_ints ns)
theorem x_tpl {K : PySem.W.Frag} {ns : List Int} (h : EX X B ρ e (tpl ns)) : EX X B ρ e (dat K (tI ns)) := x_sub h fun v H hv => tpl_dat hv
/-- tuple(xs), xs a list of ints -/
theorem x_tplL {l : Addr} {ns : List Int} {p : Pos} (hg : Gl X "tuple") (hm : X.mg "tuple" = none) (h : EX X B ρ e (lstA X.K l (ns.map D.i))) (he : starEach [e] X.env = (false, eval e X.env) :: starEach [] X.env := by rfl) (hpl : (backTo pos (starEach [] X.env)).any (·.1) = false := by rfl) : EX X B ρ (.Call (.Name "tuple" p) [e] [] pos) (tpl ns) :=
  x_callT call_tuple_of hg hm (by decide +kernel) (a_cons h a_nil he) (fun vs H σ Q s hv q => by
    obtain ⟨x, rfl, hx⟩ := hv.one
    obtain ⟨rfl, _, us, h1, h2⟩ := hx
    obtain rfl := h2.ints
    exact ⟨l, _, rfl, .inl ⟨h1.sq, fun r hr => q _ _ (Ext.new hr) ⟨r, rfl, upd_same⟩⟩⟩) (he := he) (hpl := hpl)
/-- tuple(t) -/
theorem x_tplT {ns : List Int} {p : Pos} (hg : Gl X "tuple") (hm : X.mg "tuple" = none) (h : EX X B ρ e (tpl ns)) (he : starEach [e] X.env = (false, eval e X.env) :: starEach [] X.env := by rfl) (hpl : (backTo pos (starEach [] X.env)).any (·.1) = false := by rfl) : EX X B ρ (.Call (.Name "tuple" p) [e] [] pos) (tpl ns) :=
  x_callT call_tuple_of hg hm (by decide +kernel) (a_cons h a_nil he) (fun vs H σ Q s hv q => by
    obtain ⟨x, rfl, b, rfl, hx⟩ := hv.one
    exact ⟨b, _, rfl, .inr ⟨SqT.of hx, q _ H (Ext.refl H) ⟨b, rfl, hx⟩⟩⟩) (he := he) (hpl := hpl)
/-- tuple([..]) of ints -/
theorem x_tplE {S : List D → Prop} {p : Pos} (hg : Gl X "tuple") (hm : X.mg "tuple" = none) (h : EX X B ρ e (newE B X.K S)) (hS : ∀ ds, S ds → ∃ ns : List Int, ds = ns.map D.i) (he : starEach [e] X.env = (false, eval e X.env) :: starEach [] X.env := by rfl) (hpl : (backTo pos (starEach [] X.env)).any (·.1) = false := by rfl) : EX X B ρ (.Call (.Name "tuple" p) [e] [] pos) (exR (fun ns : List Int => S (ns.map D.i)) tpl) :=
  x_callT call_tuple_of hg hm (by decide +kernel) (a_cons h a_nil he) (fun vs H σ Q s hv q => by
    obtain ⟨x, rfl, hx⟩ := hv.one
    obtain ⟨ds, hd, l, _, rfl, _, us, h1, h2⟩ := hx
    obtain ⟨ns, rfl⟩ := hS ds hd
    obtain rfl := h2.ints
    exact ⟨l, _, rfl, .inl ⟨SqL.of h1, fun r hr => q _ _ (Ext.new hr) ⟨ns, hd, r, rfl, upd_same⟩⟩⟩) (he := he) (hpl := hpl)
/-! ### lists of such tuples -/
abbrev tIs (ms : List (List Int)) : List D := ms.map tI
def tpP (H : Hp) (m : List Int) (u : V) : Prop := ∃ b, u = .ref b ∧ H b = some (.tup (m.map V.int))
theorem tpP.tk {H H' : Hp} {m : List Int} {u : V} (k : Tk H H') (h : tpP H m u) : tpP H' m u := let ⟨b, h1, h2⟩ := h; ⟨b, h1, k.tup _ _ h2⟩
def ownT (a : Addr) (ms : List (List Int)) : Rp d := ⟨fun v H => v = .ref a ∧ some a ≠ d ∧ ∃ vs, H a = some (.lst vs) ∧ vs.length = ms.length ∧ ∀ (j : Nat) m u, ms[j]? = some m → vs[j]? = some u → tpP H m u,
  fun e ⟨h1, h2, vs, h3, h4, h5⟩ => ⟨h1, h2, vs, e.at h3 h2, h4, fun j m u a b => (h5 j m u a b).tk e.tk⟩⟩
theorem ownT_own {K : PySem.W.Frag} {a : Addr} {ms : List (List Int)} {v : V} {H : Hp} (h : (ownT (d := d) a ms).p v H) : (own (d := d) K a (tIs ms)).p v H := by
  obtain ⟨h1, h2, vs, h3, h4, h5⟩ := h
  refine ⟨h1, h2, vs, h3, by rw [List.length_map, h4], fun i e v' x y => ?_⟩
  rw [List.getElem?_map] at x
  cases q : ms[i]? with
  | none => rw [q] at x; cases x
  | some m =>
    rw [q] at x; cases x
    obtain ⟨b, rfl, hb⟩ := h5 i m v' q y
    exact DR.of_tup (SqT.of hb) (DRl.of_ints m)
theorem x_ownT {K : PySem.W.Frag} {l : Addr} {ms : List (List Int)} (h : EX X B ρ e (ownT l ms)) : EX X B ρ e (own K l (tIs ms)) := x_sub h fun v H hv => ownT_own hv
theorem ind_tpl {l : Addr} {ns : List Int} : Ind l (tpl (d := d) ns) := fun v H xs ys hl ⟨b, h1, h2⟩ => ⟨b, h1, (Tk.lst hl).tup _ _ h2⟩
theorem ink_tpl {l : Addr} {ns : List Int} : Ink l (tpl (d := d) ns) := fun v H o o' hl ho ⟨b, h1, h2⟩ => ⟨b, h1, (tk_dk hl ho).tup _ _ h2⟩
theorem ind_ownT {l a : Addr} {ms : List (List Int)} (hne : a ≠ l) : Ind l (ownT (d := d) a ms) := fun v H xs ys hl ⟨h1, h2, vs, h3, h4, h5⟩ => ⟨h1, h2, vs, by rw [upd_ne hne]; exact h3, h4, fun j m u x y => (h5 j m u x y).tk (Tk.lst hl)⟩
theorem ink_ownT {l a : Addr} {ms : List (List Int)} : Ink l (ownT (d := d) a ms) := fun v H o o' hl ho ⟨h1, h2, vs, h3, h4, h5⟩ => ⟨h1, h2, vs, by rw [upd_ne (ne_dk hl ho h3 (fun _ q => nomatch q) (fun _ q => nomatch q))]; exact h3, h4, fun j m u x y => (h5 j m u x y).tk (tk_dk hl ho)⟩
theorem ink_dcT {l l' : Addr} {K : PySem.W.Frag} {kvs : List (List Key × D)} (hne : l' ≠ l) : Ink l (dcT (d := d) K l' kvs) := fun v H o o' hl ho ⟨h1, us, h2, h3⟩ => ⟨h1, us, by rw [upd_ne hne]; exact h2, h3.tk (tk_dk hl ho)⟩
theorem known_ownT {a : Addr} {ms : List (List Int)} (k : Nat) (h : ρ[k]? = some (some (ownT a ms))) : Known a ρ := ⟨k, _, h, fun v H ⟨_, _, vs, q, _⟩ => by rw [q]; exact fun z => by cases z⟩
theorem known_dcT {K : PySem.W.Frag} {a : Addr} {kvs : List (List Key × D)} (k : Nat) (h : ρ[k]? = some (some (dcT K a kvs))) : Known a ρ := ⟨k, _, h, fun v H ⟨_, us, q, _⟩ => by rw [q]; exact fun z => by cases z⟩
/-- xs[i], a tracked tuple -/
theorem x_ixlT {l : Addr} {ms : List (List Int)} {m : List Int} {k : Nat} (ha : EX X B ρ a (ownT l ms)) (hb : EX X B ρ b (rI (k : Int))) (hw : ms[k]? = some m) (hs : PlainIx b := by exact (fun _ _ => rfl)) : EX X B ρ (.Subscript a b pos) (tpl m) :=
  PE_wk (pe_ix ix_list ha hb hs) fun σ H Q ⟨s, q⟩ => ⟨s, fun x H1 e1 hx => ⟨s.mono e1, fun y H2 e2 hy => by
    obtain ⟨rfl, hd, us, h1, h2, h3⟩ := (ownT (d := d) l ms).st e2 hx
    have hk : k < us.length := by rw [h2]; exact (List.getElem?_eq_some_iff.mp hw).1
    obtain ⟨v, hv⟩ : ∃ v, us[k]? = some v := ⟨us[k], List.getElem?_eq_getElem hk⟩
    obtain ⟨bb, rfl, hb⟩ := h3 k m v hw hv
    exact ⟨l, us, _, _, rfl, hy, SqL.of h1, atI_nat hv, q _ H2 (e1.trans e2) ⟨bb, rfl, hb⟩⟩⟩⟩
/-- x = [e], e such a tuple -/
theorem bx_newT1 (i : Nat) {x : Str} {pos' p2 : Pos} {m : List Int} (ls : List Addr) (hls : ∀ l ∈ ls, Known l ρ) (he : EX X B ρ e (tpl m)) (h : ∀ l, B l = none → (∀ l' ∈ ls, l ≠ l') → BX X rest (St B (ρ.set i (some (ownT l [m])))) Po) (hN : X.N.Nodup) (hi : X.N[i]? = some x := by rfl) (hx : Loc X.env.scope x := by first | exact Or.inl rfl | exact Or.inr rfl) (hs : swapsWith (.List [e] p2) (some (.Name x pos')) pos.line X.env = pure false := by rfl)
    (hf : X.fn x = true ∨ X.env.scope.names.lookup x = some .local := by first | exact .inl rfl | exact .inr rfl | assumption) (h1 : starEach [e] X.env = (false, eval e X.env) :: starEach [] X.env := by rfl) :
    BX X (.Assign [.Name x pos'] (.List [e] p2) pos :: rest) (St B ρ) Po := by
  refine bx_cons (Mid := fun σ H => ∃ l, (B l = none ∧ ∀ l' ∈ ls, l ≠ l') ∧ St B (ρ.set i (some (ownT l [m]))) σ H) ?_ (bx_ex fun l hl => h l hl.1 hl.2)
  refine PS_wk (ps_set hN hi hx (pe_lst (pa_cons he pa_nil h1)) hs hf) fun E σ H ⟨s, q⟩ => ⟨s, fun v H1 e1 hv => ⟨Nat.le_of_lt (small1000 (by simp)), fun l hl => ?_⟩⟩
  have s1 := s.mono e1
  obtain ⟨hB, hd⟩ := s1.fresh hl
  have e2 : Ext d H1 (upd H1 l (.lst [v])) := Ext.new hl
  obtain ⟨b, rfl, hb⟩ := hv
  refine q.nx _ _ (e1.tk.trans e2.tk) ⟨l, ⟨hB, fun l' hl' z => ?_⟩, (s1.mono e2).ext, (s1.mono e2).dr, (s1.mono e2).good.set i (R := ownT l [m]) ⟨rfl, hd, [.ref b], upd_same, rfl, fun j m' u x y => ?_⟩⟩
  · obtain ⟨k, R, a1, a2⟩ := hls l' hl'
    obtain ⟨w', _, a3⟩ := s1.good.get a1
    exact a2 w' H1 a3 (by rw [← z]; exact hl)
  · match j, x, y with
    | 0, x, y => cases x; cases y; exact ⟨b, rfl, e2.tk.tup _ _ hb⟩
/-- x.append(e), e such a tuple, x in slot i -/
theorem bx_appT (i : Nat) {x : Str} {p1 p2 p3 p4 : Pos} {l : Addr} {ms : List (List Int)} {m : List Int} (hi : ρ[i]? = some (some (ownT l ms))) (he : EX X B ρ e (tpl m)) (hB : B l = none) (hb : IndBut l i ρ) (hz : ms.length ≤ 1000) (h : BX X rest (St B (ρ.set i (some (ownT l (ms ++ [m]))))) Po)
    (hN : X.N[i]? = some x := by rfl) (hv : Vis X.env.scope x := by first | exact Or.inl rfl | exact Or.inr (Or.inl rfl) | exact Or.inr (Or.inr rfl)) (hd : (x == ("__debug__" : Str)) = false := by decide) (hcd : (x == ("__classdict__" : Str)) = false := by decide)
    (hbase : attributeBase (.Name x p1) "append" X.env (eval (.Name x p1) X.env) = eval (.Name x p1) X.env := by rfl)
    (hfew : ((backTo p3 (starEach (e :: []) X.env)).all (fun x => !x.1) && (backToKw p3 (keywordEach [] X.env)).all (fun x => x.1.isSome)
      && decide ((e :: []).length + ([] : List Keyword).length + (if ([] : List Keyword).isEmpty then 0 else 1) < 30)) = true := by rfl)
    (hline : (p2.endLine == p3.line) = true := by rfl) (hs : starEach (e :: []) X.env = (false, eval e X.env) :: starEach [] X.env := by rfl) (hplain : (backTo p3 (starEach [] X.env)).any (·.1) = false := by rfl)
    (hsw : swapsWith (.Call (.Attribute (.Name x p1) "append" p2) [e] [] p3) none p4.line X.env = pure false := by rfl) :
    BX X (.Expr (.Call (.Attribute (.Name x p1) "append" p2) [e] [] p3) p4 :: rest) (St B ρ) Po := by
  refine bx_cons (Mid := St B (ρ.set i (some (ownT l (ms ++ [m]))))) ?_ h
  refine PS_wk (ps_expr (pe_bm PySem.F.plainAttrs_list PySem.F.slot_list_append PySem.F.type_list_append mt_append (pe_var hN hv hd hcd) (a_cons he a_nil hs) hbase hfew hline hs hplain) hsw) fun E σ H ⟨s, q⟩ => ?_
  obtain ⟨v, g1, rfl, hld, vs, g2, g3, g4⟩ := s.good.get hi
  refine ⟨_, g1, Or.inl ⟨rfl, _, SqL.of g2⟩, s, fun us H1 e1 hus => ?_⟩
  obtain ⟨y, rfl, hy⟩ := hus.one
  have s1 := s.mono e1
  have g2' := e1.at g2 hld
  obtain ⟨b, rfl, hyb⟩ := hy
  refine ⟨l, vs, _, rfl, rfl, g2', by rw [g3]; exact small1000 hz, ?_⟩
  have kk := Tk.lst (ys := vs ++ [V.ref b]) g2'
  refine q.nx σ _ (e1.tk.trans kk) ⟨s1.ext.mut hB hld, fun a' ha' => ?_, by simp [s1.good.1], fun j R e => ?_⟩
  · obtain ⟨ns, b1, b2⟩ := s1.dr a' ha'
    have : a' ≠ l := fun z => hld (by rw [← z]; exact ha'.symm)
    exact ⟨ns, b1, by rw [upd_ne this]; exact b2⟩
  · by_cases hj : i = j
    · subst hj
      have hlt : i < ρ.length := (List.getElem?_eq_some_iff.mp hi).1
      rw [List.getElem?_set_self hlt] at e
      cases e
      refine ⟨_, g1, rfl, hld, _, upd_same, by simp [g3], fun j m' u x y => ?_⟩
      by_cases hjl : j < ms.length
      · rw [List.getElem?_append_left hjl] at x
        rw [List.getElem?_append_left (by rw [g3]; exact hjl)] at y
        exact ((g4 j m' u x y).tk e1.tk).tk kk
      · rw [List.getElem?_append_right (by omega)] at x
        rw [List.getElem?_append_right (by rw [g3]; omega)] at y
        rw [g3] at y
        have h0 : j - ms.length = 0 := by
          cases q' : j - ms.length with
          | zero => rfl
          | succ m => rw [q'] at x; simp at x
        rw [h0] at x y
        cases x; cases y
        exact ⟨b, rfl, kk.tup _ _ hyb⟩
    · rw [List.getElem?_set_ne hj] at e
      obtain ⟨u', b1, b2⟩ := s1.good.get e
      exact ⟨u', b1, hb j R (fun z => hj z.symm) e u' _ vs _ g2' b2⟩
/-! ### dicts keyed by tuples of ints -/
abbrev keyT (ns : List Int) : List Key := ns.map Sum.inl
theorem keyT_kV (ns : List Int) : (keyT ns).map kV = ns.map V.int := by rw [List.map_map]; rfl
theorem keyT_inj {ns ms : List Int} (h : keyT ns = keyT ms) : ns = ms := by
  induction ns generalizing ms with
  | nil => cases ms with
    | nil => rfl
    | cons _ _ => cases h
  | cons n r ih => cases ms with
    | nil => cases h
    | cons m s =>
      have h1 : (Sum.inl n : Key) = Sum.inl m := (List.cons.inj h).1
      rw [Sum.inl.inj h1, ih (List.cons.inj h).2]
theorem t_dnotinT {l : Addr} {kvs : List (List Key × D)} {ns : List Int} (hu : X.A.units + 1 < cLine) (ha : EX X B ρ a (tpl ns)) (hb : EX X B ρ b (dcT X.K l kvs)) (hm : behindInMarks CmpOp.NotIn b = false := by rfl) : TX X B ρ (.Compare a [.NotIn] [b] pos) (is (!(valD kvs (keyT ns)).isSome)) :=
  PT_wk (pt_cmp (pc_dnotin hu ha hb) hm) fun σ H Q ⟨s, q⟩ => ⟨s, fun x H1 e1 hx => ⟨s.mono e1, fun y H2 e2 hy => by
    obtain ⟨rfl, us, h1, h2⟩ := hy
    obtain ⟨bb, rfl, hb⟩ := (tpl (d := d) ns).st e2 hx
    exact ⟨l, _, rfl, DGet.t (k := keyT ns) h1 (by rw [keyT_kV]; exact hb), _, rfl, q _ H2 (e1.trans e2) (by show (!(valV us (keyT ns)).isSome) = _; rw [h2.isSome (keyT ns)])⟩⟩⟩
theorem x_dgetT {l : Addr} {kvs : List (List Key × D)} {ns : List Int} {w : D} (hu : X.A.units + 1 < cLine) (ha : EX X B ρ a (dcT X.K l kvs)) (hb : EX X B ρ b (tpl ns)) (hw : valD kvs (keyT ns) = some w) (hs : NoSl b := by exact (fun _ _ => rfl)) : EX X B ρ (.Subscript a b pos) (dat X.K w) :=
  PE_wk (pe_dget hu ha hb hs) fun σ H Q ⟨s, q⟩ => ⟨s, fun x H1 e1 hx => ⟨s.mono e1, fun y H2 e2 hy => by
    obtain ⟨rfl, us, h1, h2⟩ := (dcT (d := d) X.K l kvs).st e2 hx
    obtain ⟨bb, rfl, hb⟩ := hy
    rcases h2.val (keyT ns) with ⟨_, z⟩ | ⟨v, w', z1, z2, z3⟩
    · rw [hw] at z; cases z
    · rw [hw] at z2; cases z2
      exact ⟨l, v, rfl, by rw [← z1]; exact DGet.t (k := keyT ns) h1 (by rw [keyT_kV]; exact hb), q v H2 (e1.trans e2) z3⟩⟩⟩
theorem bx_dputT (i : Nat) {x : Str} {p1 p2 : Pos} {K : PySem.W.Frag} {l : Addr} {kvs : List (List Key × D)} {ns : List Int} {w : D} (hi : ρ[i]? = some (some (dcT K l kvs))) (hK : X.K = K) (hu : X.A.units + 1 < cLine) (he : EX X B ρ e (dat K w)) (hk : EX X B ρ b (tpl ns)) (hnew : valD kvs (keyT ns) = none) (hz : kvs.length ≤ 1000) (hB : B l = none) (hb : InkBut l i ρ) (h : BX X rest (St B (ρ.set i (some (dcT K l (kvs ++ [(keyT ns, w)]))))) Po)
    (hN : X.N[i]? = some x := by rfl) (hv : Vis X.env.scope x := by first | exact Or.inl rfl | exact Or.inr (Or.inl rfl) | exact Or.inr (Or.inr rfl)) (hd : (x == ("__debug__" : Str)) = false := by decide) (hcd : (x == ("__classdict__" : Str)) = false := by decide)
    (hs : swapsWith e (some (.Subscript (.Name x p1) b p2)) pos.line X.env = pure false := by rfl) :
    BX X (.Assign [.Subscript (.Name x p1) b p2] e pos :: rest) (St B ρ) Po := by
  subst hK
  refine bx_cons (Mid := St B (ρ.set i (some (dcT X.K l (kvs ++ [(keyT ns, w)]))))) ?_ h
  refine PS_wk (ps_dput hu (pe_var hN hv hd hcd) hk he hs) fun E σ H ⟨s, q⟩ => ⟨s, fun v H1 e1 hw => ?_⟩
  have s1 := s.mono e1
  obtain ⟨u, h1, rfl, _⟩ := s1.good.get hi
  refine ⟨_, h1, s1, fun y H2 e2 hy => ?_⟩
  have s2 := s1.mono e2
  obtain ⟨u, h1', hu2, us, h2, h3⟩ := s2.good.get hi
  obtain ⟨bb, rfl, hbb⟩ := hy
  have hn : valV us (keyT ns) = none := by
    rcases h3.val (keyT ns) with ⟨z, _⟩ | ⟨_, _, _, z, _⟩
    · exact z
    · rw [hnew] at z; cases z
  refine ⟨l, _, rfl, DPut.t (k := keyT ns) h2 (by rw [keyT_kV]; exact hbb) (by rw [h3.len]; exact small1000 hz), ?_⟩
  rw [putK_new v hn]
  have kk : Tk H2 (upd H2 l (.dT (us ++ [(keyT ns, v)]))) := tk_dk h2 (.inr ⟨us, rfl⟩)
  refine q.nx σ _ ((e1.tk.trans e2.tk).trans kk) (st_dk s2 h2 (.inr ⟨us, rfl⟩) (List.getElem?_eq_some_iff.mp hi).1 h1' hB hb ⟨hu2, _, upd_same, ?_⟩)
  exact (h3.tk kk).snoc ((hw.tk e2.tk).tk kk)
/-- {k: v}, k a tuple of ints and texts -/
def tDispT (ta tb : TE) : TE := fun σ H Q => ∀ p, H p = none → tPairs [(ta, tb)] σ (upd H p (.dT [])) fun ps H2 => ∃ x y, ps = [(x, y)] ∧ H2 p = some (.dT []) ∧ ∃ (k : List Key) (q : Addr), x = .ref q ∧ H2 q = some (.tup (k.map kV)) ∧ Q (.ref p) (upd H2 p (.dT [(k, y)]))
theorem pe_disp1T {ta tb : TE} (hu : X.A.units + 1 < cLine) (ha : PE X a ta) (hb : PE X b tb) : PE X (.Dict [some a] [b] pos) (tDispT ta tb) := by
  refine ⟨fun pins s σ H Q I q => ?_⟩
  have hn := I.hok.fresh (Nat.le_refl s.heap.objs.size)
  have I1 := I.laid (a := s.heap.objs.size) (o := .dT []) (h' := s.heap.push { cls := .type "dict", data := .dict #[] }) (t' := s.toks) (fun _ _ q => Heap.get?_push_of_some _ q) (Nat.le_refl _) (dt_empty s.heap I.big)
  refine wpAny_Dict_any rfl rfl (by simp) (by simp) (thn ((pps_cons ha hb pps_nil).run pins _ σ _ _ I1 (q _ hn)) fun ws s2 ⟨ps, H2, I2, rel, x, y, ep, lk, k, q', ex, ek, q2⟩ => ?_)
  subst ep ex
  cases rel with
  | @cons p1 p2 r1 r2 h t =>
    cases t
    obtain ⟨u, w⟩ := p2
    have hu1 : u = Value.ref q' := h.1
    subst hu1
    unfold storeAll
    rw [List.forIn_cons]
    obtain ⟨z, hd, xs, rel', dd⟩ := dt_of I2.hok lk
    cases rel'
    refine wpAny_bind (wpAny_bind (wpAny_dictSet_heap (knd := tupleKind (mixKind X.prog X.w)) (hsz := by simp) (show (tupleKind (mixKind X.prog X.w)).room X.A from Nat.lt_of_succ_lt hu) (key_of I2.hok ek) dd fun h' dd' hs => wpAny_pure ?_))
    refine wpAny_pure (a := PUnit.unit) ⟨.ref s.heap.objs.size, _, ?_, rfl, q2⟩
    obtain ⟨qq, es, ep, hqq, h2, h3, h4, _, h5⟩ := dd'
    refine d_write I2 (by rw [lk]; exact True.intro) hs ⟨qq, hqq⟩ ⟨Nat.le_of_lt (small1000 (by simp)), hd, _, ?_, qq, es, ep, hqq, h2, h3, h4, h5⟩
    exact .cons ⟨rfl, by rw [upd_ne (ne_of ek lk (fun z => nomatch z))]; exact ek, h.2⟩ .nil
/-- x = {k: v}, k such a tuple -/
theorem bx_disp1T (i : Nat) {x : Str} {pos' pos2 : Pos} {K : PySem.W.Frag} {ns : List Int} {w : D} (hu : X.A.units + 1 < cLine) (hK : X.K = K) (ha : EX X B ρ a (tpl ns)) (hb : EX X B ρ b (dat K w)) (h : ∀ l, B l = none → BX X rest (St B (ρ.set i (some (dcT K l [(keyT ns, w)])))) Po) (hN : X.N.Nodup) (hi : X.N[i]? = some x := by rfl) (hx : Loc X.env.scope x := by first | exact Or.inl rfl | exact Or.inr rfl) (hs : swapsWith (.Dict [some a] [b] pos2) (some (.Name x pos')) pos.line X.env = pure false := by rfl)
    (hf : X.fn x = true ∨ X.env.scope.names.lookup x = some .local := by first | exact .inl rfl | exact .inr rfl | assumption) : BX X (.Assign [.Name x pos'] (.Dict [some a] [b] pos2) pos :: rest) (St B ρ) Po := by
  subst hK
  refine bx_cons (Mid := fun σ H => ∃ l, B l = none ∧ St B (ρ.set i (some (dcT X.K l [(keyT ns, w)]))) σ H) ?_ (bx_ex fun l hl => h l hl)
  refine PS_wk (ps_set hN hi hx (pe_disp1T hu ha hb) hs hf) fun E σ H ⟨s, q⟩ => fun l hl => ?_
  obtain ⟨hB, hd⟩ := s.fresh hl
  have e0 : Ext d H (upd H l (.dT [])) := Ext.new hl
  refine ⟨s.mono e0, fun u H1 e1 hu => ⟨(s.mono e0).mono e1, fun v H2 e2 hv => ?_⟩⟩
  have hl2 : H2 l = some (.dT []) := e2.keep _ _ (e1.keep _ _ upd_same fun _ _ q => by cases q) fun _ _ q => by cases q
  obtain ⟨bb, rfl, hbb⟩ := (tpl (d := d) ns).st e2 hu
  refine ⟨_, _, rfl, hl2, keyT ns, bb, rfl, by rw [keyT_kV]; exact hbb, ?_⟩
  have kk : Tk H2 (upd H2 l (.dT [(keyT ns, v)])) := tk_dk hl2 (.inr ⟨[], rfl⟩)
  have s2 := ((s.mono e0).mono e1).mono e2
  have s3 : St B (ρ.set i (some (dcT X.K l [(keyT ns, w)]))) (σ.set i (some (.ref l))) (upd H2 l (.dT [(keyT ns, v)])) := by
    refine ⟨s2.ext.mut hB hd, fun a ha => ?_, by simp [s2.good.1], fun j R e => ?_⟩
    · obtain ⟨ns, h1, q⟩ := s2.dr a ha
      exact ⟨ns, h1, by rw [upd_ne (ne_dk hl2 (.inr ⟨[], rfl⟩) q (fun _ q => nomatch q) (fun _ q => nomatch q))]; exact q⟩
    · by_cases hj : i = j
      · subst hj
        have hlt : i < ρ.length := by have := (List.getElem?_eq_some_iff.mp e).1; simpa using this
        rw [List.getElem?_set_self hlt] at e
        cases e
        refine ⟨_, List.getElem?_set_self (by rw [s2.good.1]; exact hlt), rfl, _, upd_same, rfl, ?_⟩
        exact DRl.snoc DRl.nil (hv.tk kk)
      · rw [List.getElem?_set_ne hj] at e
        obtain ⟨u, h1, h2⟩ := s.good.get e
        refine ⟨u, by rw [List.getElem?_set_ne hj]; exact h1, ?_⟩
        have x1 : Ext d H (upd H2 l (.dT [(keyT ns, v)])) := (e0.trans (e1.trans e2)).mut hl hd
        exact R.st x1 h2
  exact q.nx _ _ ((e0.tk.trans (e1.tk.trans e2.tk)).trans kk) ⟨l, hB, s3⟩
/-- continue -/
theorem bx_continue (h : ∀ σ H, St B ρ σ H → Po.ct σ H) : BX X (.Continue pos :: rest) (St B ρ) Po :=
  bx_cons (Mid := fun _ _ => False) (PS_wk ps_continue fun E σ H ⟨s, l⟩ => l.ct σ H (Tk.refl H) (h σ H s)) bx_false
/-- x not in xs, data -/
theorem any_eqvL {k j : Nat} {x : D} (hx : Shp k x) : ∀ {xs : List D}, (∀ e ∈ xs, Shp j e) → ((pyL xs).any fun z => PyData.eqv z x.py) = decide (x ∈ xs) := by
  intro xs
  induction xs with
  | nil => intro _; simp [pyL]
  | cons e r ih =>
    intro h
    have h1 := ih fun e he => h e (List.mem_cons_of_mem _ he)
    have h2 := (h e List.mem_cons_self).eqv ⟨k, hx⟩
    show ((PyData.eqv e.py x.py) || (pyL r).any fun z => PyData.eqv z x.py) = _
    rw [h1]
    by_cases q : e = x
    · rw [h2.mpr q]; simp [q]
    · have : PyData.eqv e.py x.py = false := by
        cases z : PyData.eqv e.py x.py with
        | false => rfl
        | true => exact absurd (h2.mp z) q
      have q' : ¬ x = e := fun z => q z.symm
      rw [this]; simp [q']
theorem t_notInD {l : Addr} {xs : List D} {x : D} {k j : Nat} (hu : X.A.units + 65 < cLine) (ha : EX X B ρ a (dat X.K x)) (hb : EX X B ρ b (lstA X.K l xs)) (hx : Shp k x) (hxs : ∀ e ∈ xs, Shp j e) (hk : k < 64 := by decide) (hj : j < 64 := by decide) (hm : behindInMarks CmpOp.NotIn b = false := by rfl) : TX X B ρ (.Compare a [.NotIn] [b] pos) (is (!decide (x ∈ xs))) :=
  t_cmp (op_notInD hu) hm ha hb fun u v H σ Q _ hu' hv' q => ⟨_, _, dp_of hu', dpLs hv', hx.shaped (Nat.le_of_lt hk), shpLs hxs hj, q _ H (Ext.refl H) (by rw [any_eqvL hx hxs])⟩
/-- x.index(e), the item there, a first one -/
theorem x_index {l : Addr} {xs : List D} {x : D} {i k j : Nat} {p2 p3 : Pos} (hu : X.A.units + 65 < cLine) (ha : EX X B ρ a (lstA X.K l xs)) (hb : EX X B ρ b (dat X.K x)) (hx : Shp k x) (hxs : ∀ e ∈ xs, Shp j e) (hi : xs[i]? = some x) (hno : ∀ (m : Nat) e, m < i → xs[m]? = some e → e ≠ x) (hk : k < 64 := by decide) (hj : j < 64 := by decide)
    (hbase : attributeBase a "index" X.env (eval a X.env) = eval a X.env := by rfl)
    (hfew : ((backTo p3 (starEach (b :: []) X.env)).all (fun x => !x.1) && (backToKw p3 (keywordEach [] X.env)).all (fun x => x.1.isSome)
      && decide ((b :: []).length + ([] : List Keyword).length + (if ([] : List Keyword).isEmpty then 0 else 1) < 30)) = true := by rfl)
    (hline : (p2.endLine == p3.line) = true := by rfl) (hs : starEach (b :: []) X.env = (false, eval b X.env) :: starEach [] X.env := by rfl) (hplain : (backTo p3 (starEach [] X.env)).any (·.1) = false := by rfl) :
    EX X B ρ (.Call (.Attribute a "index" p2) [b] [] p3) (rI (i : Int)) :=
  PE_wk (pe_bm PySem.F.plainAttrs_list PySem.F.slot_list_index PySem.F.type_list_index (mt_indexD hu) ha (a_cons hb a_nil hs) hbase hfew hline hs hplain) fun σ H Q ⟨s, q⟩ => ⟨s, fun v H1 e1 hv => by
    obtain ⟨rfl, hld, us, h1, h2⟩ := hv
    refine ⟨.inl ⟨rfl, _, h1.sq⟩, s.mono e1, fun ws H2 e2 hw => ?_⟩
    obtain ⟨y, rfl, hy⟩ := hw.one
    have hl2 : (lstA (d := d) X.K l xs).p (.ref l) H2 := (lstA (d := d) X.K l xs).st e2 ⟨rfl, hld, us, h1, h2⟩
    have hpy : ∀ {xs : List D} {m : Nat}, (pyL xs)[m]? = (xs[m]?).map D.py := fun {xs m} => by
      induction xs generalizing m with
      | nil => rfl
      | cons e r ih => cases m with
        | zero => rfl
        | succ m => exact ih
    refine ⟨l, y, x.py, pyL xs, i, x.py, rfl, rfl, dpLs hl2, dp_of hy, shpLs hxs hj, hx.shaped (Nat.le_of_lt hk), by rw [hpy, hi]; rfl, (hx.eqv ⟨k, hx⟩).mpr rfl, fun m z' hm hz => ?_, q _ H2 (e1.trans e2) rfl⟩
    rw [hpy] at hz
    cases e : xs[m]? with
    | none => rw [e] at hz; cases hz
    | some e' =>
      rw [e] at hz; cases hz
      cases z : PyData.eqv e'.py x.py with
      | false => rfl
      | true => exact absurd (((hxs e' (List.mem_of_getElem? e)).eqv ⟨k, hx⟩).mp z) (hno m e' hm e)⟩
/-- x, y = a tuple of two new lists -/
theorem bx_unpN2 {K : PySem.W.Frag} {xs ys : List D} (i1 i2 : Nat) {x1 x2 : Str} {q1 q2 q4 : Pos} {kk : Nat} (hK : X.K = K) (hne : i1 ≠ i2) (he : EX X B ρ e (tupR X.K [newL B K xs, newL B K ys])) (h : ∀ a1 a2, B a1 = none → B a2 = none → BX X rest (St B ((ρ.set i1 (some (own K a1 xs))).set i2 (some (own K a2 ys)))) Po)
    (hN : X.N.Nodup) (h1 : X.N[i1]? = some x1 := by rfl) (h2 : X.N[i2]? = some x2 := by rfl) (hc : X.calm = true := by rfl) (l1 : Loc X.env.scope x1 := by first | exact Or.inl rfl | exact Or.inr rfl) (l2 : Loc X.env.scope x2 := by first | exact Or.inl rfl | exact Or.inr rfl)
    (f1 : X.fn x1 = true ∨ X.env.scope.names.lookup x1 = some .local := by first | exact .inl rfl | exact .inr rfl | assumption) (f2 : X.fn x2 = true ∨ X.env.scope.names.lookup x2 = some .local := by first | exact .inl rfl | exact .inr rfl | assumption)
    (hs : swapsWithSole [.Tuple [.Name x1 q1, .Name x2 q2] kk q4] e pos.line X.env = pure false := by rfl) (hw : swappedStores [.Tuple [.Name x1 q1, .Name x2 q2] kk q4] e X.env = pure none := by rfl) :
    BX X (.Assign [.Tuple [.Name x1 q1, .Name x2 q2] kk q4] e pos :: rest) (St B ρ) Po := by
  subst hK
  refine bx_cons (Mid := fun σ H => ∃ z : Addr × Addr, (B z.1 = none ∧ B z.2 = none) ∧ St B ((ρ.set i1 (some (own X.K z.1 xs))).set i2 (some (own X.K z.2 ys))) σ H) ?_ (bx_ex fun z hz => h z.1 z.2 hz.1 hz.2)
  refine PS_wk (ps_asg he (pg_tup hc (pgs_cons (pg_name hN h1 l1 f1) (pgs_cons (pg_name hN h2 l2 f2) pgs_nil))) hs hw) fun E σ H ⟨s, l⟩ => ⟨s, fun v H' e1 hv => ?_⟩
  obtain ⟨t, us, rfl, g1, g2⟩ := hv
  obtain ⟨v1, v2, rfl, ⟨a1, b1, c1⟩, a2, b2, c2⟩ := g2.two
  have r1 := c1.1
  have r2 := c2.1
  subst r1 r2
  refine ⟨t, [_, _], rfl, g1, rfl, _, [_], rfl, _, [], rfl, rfl, ?_⟩
  exact l.nx _ H' e1.tk ⟨(a1, a2), ⟨b1, b2⟩, (s.mono e1).ext, (s.mono e1).dr, ((s.mono e1).good.set i1 (R := own X.K a1 xs) c1).set i2 (R := own X.K a2 ys) c2⟩
/-- an own object is not None -/
theorem t_isNins {C : Addr} {F : List (Str × Rp d)} {j : Nat} {p2 : Pos} (ha : EX X B ρ a (insR C F)) : TX X B ρ (.Compare a [.Is] [.Constant .none j p2] pos) (is false) :=
  PT_wk (pt_cmpR op_isN ha pe_non (nomark _)) fun σ H Q ⟨s, q⟩ => ⟨s, fun x H1 e1 hx => by
    obtain ⟨y, _, rfl, _⟩ := hx
    exact ⟨rfl, _, rfl, q _ H1 e1 rfl⟩⟩
end
end Cv

namespace Cv
open PySem PySem.Spec PyProof.Rows L2 RZ
section
variable {d : Option Addr} {X : Cx} {B : Hp} {ρ ρ' : Ro d} {a b c e iter elt : Expr} {es : List Expr} {R R' Ra Rb : Rp d} {Rs : List (Rp d)} {pos : Pos} {m n : Int} {st : Stmt} {rest body orelse : List Stmt} {Pre Mid : L2.St → Hp → Prop} {Po : Ends}
/-! ### lists of lists of ints -/
abbrev LlT := List (Addr × List Int)
def llP (K : PySem.W.Frag) (d : Option Addr) (H : Hp) (t : Addr × List Int) (u : V) : Prop := u = .ref t.1 ∧ some t.1 ≠ d ∧ ∃ ws, H t.1 = some (.lst ws) ∧ DRl K H (t.2.map D.i) ws
theorem llP.ext {K : PySem.W.Frag} {H H' : Hp} {t : Addr × List Int} {u : V} (e : Ext d H H') (h : llP K d H t u) : llP K d H' t u := by
  obtain ⟨h1, h2, ws, h4, h5⟩ := h
  exact ⟨h1, h2, ws, e.at h4 h2, h5.tk e.tk⟩
theorem llP.upd {K : PySem.W.Frag} {H : Hp} {t : Addr × List Int} {u : V} {l : Addr} {xs ys : List V} (hl : H l = some (.lst xs)) (hne : t.1 ≠ l) (h : llP K d H t u) : llP K d (upd H l (.lst ys)) t u := by
  obtain ⟨h1, h2, ws, h4, h5⟩ := h
  exact ⟨h1, h2, ws, by rw [upd_ne hne]; exact h4, h5.tk (Tk.lst hl)⟩
def llR (K : PySem.W.Frag) (a : Addr) (T : LlT) : Rp d := ⟨fun v H => v = .ref a ∧ some a ≠ d ∧ ∃ vs, H a = some (.lst vs) ∧ vs.length = T.length ∧ ∀ (j : Nat) t u, T[j]? = some t → vs[j]? = some u → llP K d H t u,
  fun e ⟨h1, h2, vs, h3, h4, h5⟩ => ⟨h1, h2, vs, e.at h3 h2, h4, fun j t u ht hu => (h5 j t u ht hu).ext e⟩⟩
theorem ll_nil {K : PySem.W.Frag} {a : Addr} {v : V} {H : Hp} (h : (own (d := d) K a []).p v H) : (llR (d := d) K a []).p v H := by
  obtain ⟨h1, h2, vs, h3, h4⟩ := h
  exact ⟨h1, h2, vs, h3, h4.1.symm, fun j t u ht hu => by cases ht⟩
theorem ind_ll {K : PySem.W.Frag} {l a : Addr} {T : LlT} (hne : a ≠ l) (hT : ∀ t ∈ T, t.1 ≠ l) : Ind l (llR (d := d) K a T) := fun v H xs ys hl ⟨h1, h2, vs, h3, h4, h5⟩ => ⟨h1, h2, vs, by rw [upd_ne hne]; exact h3, h4, fun j t u ht hu => (h5 j t u ht hu).upd hl (hT t (List.mem_of_getElem? ht))⟩
theorem ink_ll {K : PySem.W.Frag} {l a : Addr} {T : LlT} : Ink l (llR (d := d) K a T) := fun v H o o' hl ho ⟨h1, h2, vs, h3, h4, h5⟩ => ⟨h1, h2, vs, by rw [upd_ne (ne_dk hl ho h3 (fun _ q => nomatch q) (fun _ q => nomatch q))]; exact h3, h4, fun j t u ht hu => by
  obtain ⟨g1, g2, ws, g3, g4⟩ := h5 j t u ht hu
  exact ⟨g1, g2, ws, by rw [upd_ne (ne_dk hl ho g3 (fun _ q => nomatch q) (fun _ q => nomatch q))]; exact g3, g4.tk (tk_dk hl ho)⟩⟩
theorem io_ll {K : PySem.W.Frag} {x a : Addr} {T : LlT} : IndO x (llR (d := d) K a T) := fun v H C dx fs fs' hx ⟨h1, h2, vs, h3, h4, h5⟩ => ⟨h1, h2, vs, by rw [upd_ne (show a ≠ x from fun z => by rw [z, hx] at h3; cases h3)]; exact h3, h4, fun j t u ht hu => by
  obtain ⟨g1, g2, ws, g3, g4⟩ := h5 j t u ht hu
  exact ⟨g1, g2, ws, by rw [upd_ne (show t.1 ≠ x from fun z => by rw [z, hx] at g3; cases g3)]; exact g3, g4.tk (tk_ins hx)⟩⟩
theorem known_ll {K : PySem.W.Frag} {a : Addr} {T : LlT} (k : Nat) (h : ρ[k]? = some (some (llR K a T))) : Known a ρ := ⟨k, _, h, fun v H ⟨_, _, vs, q, _⟩ => by rw [q]; exact fun z => by cases z⟩
theorem known_llT {K : PySem.W.Frag} {a : Addr} {T : LlT} {t : Addr × List Int} (k : Nat) (h : ρ[k]? = some (some (llR K a T))) (ht : t ∈ T) : Known t.1 ρ := ⟨k, _, h, fun v H ⟨_, _, vs, q, hl, h5⟩ => by
  obtain ⟨j, hj⟩ := List.getElem?_of_mem ht
  have hjl : j < vs.length := by rw [hl]; exact (List.getElem?_eq_some_iff.mp hj).1
  obtain ⟨_, _, ws, h4, _⟩ := h5 j t _ hj (List.getElem?_eq_getElem hjl)
  rw [h4]; exact fun z => by cases z⟩
/-- len(xs) of these -/
theorem x_lenLL {K : PySem.W.Frag} {l : Addr} {T : LlT} {p : Pos} (hg : Gl X "len") (hm : X.mg "len" = none) (h : EX X B ρ e (llR K l T)) (he : starEach [e] X.env = (false, eval e X.env) :: starEach [] X.env := by rfl) (hpl : (backTo pos (starEach [] X.env)).any (·.1) = false := by rfl) : EX X B ρ (.Call (.Name "len" p) [e] [] pos) (rI (T.length : Int)) :=
  x_callB call_len_seq hg hm PySem.boot_len (a_cons h a_nil he) (fun vs H σ Q s hv q => by
    obtain ⟨x, rfl, hx⟩ := hv.one
    obtain ⟨rfl, _, us, h1, h2, _⟩ := hx
    exact ⟨l, us, rfl, .inl (SqL.of h1), q _ H (Ext.refl H) (by show V.int (us.length : Int) = V.int (T.length : Int); rw [h2])⟩) (he := he) (hpl := hpl)
theorem x_lenT {l : Addr} {T : List (List Int)} {p : Pos} (hg : Gl X "len") (hm : X.mg "len" = none) (h : EX X B ρ e (ownT l T)) (he : starEach [e] X.env = (false, eval e X.env) :: starEach [] X.env := by rfl) (hpl : (backTo pos (starEach [] X.env)).any (·.1) = false := by rfl) : EX X B ρ (.Call (.Name "len" p) [e] [] pos) (rI (T.length : Int)) :=
  x_sub (x_len_l hg hm (x_lstA (x_ownT h)) he hpl) fun v H hv => by rw [List.length_map] at hv; exact hv
/-- x.append(y), y a list, x in slot i -/
theorem bx_appLL (i : Nat) {x : Str} {p1 p2 p3 p4 : Pos} {K : PySem.W.Frag} {la r : Addr} {T : LlT} {ns : List Int} (hi : ρ[i]? = some (some (llR K la T))) (hK : X.K = K) (he : EX X B ρ e (own K r (ns.map D.i))) (hB : B la = none) (hra : r ≠ la) (hT : ∀ t ∈ T, t.1 ≠ la) (hb : IndBut la i ρ) (hz : T.length ≤ 1000) (h : BX X rest (St B (ρ.set i (some (llR K la (T ++ [(r, ns)]))))) Po)
    (hN : X.N[i]? = some x := by rfl) (hv : Vis X.env.scope x := by first | exact Or.inl rfl | exact Or.inr (Or.inl rfl) | exact Or.inr (Or.inr rfl)) (hd : (x == ("__debug__" : Str)) = false := by decide) (hcd : (x == ("__classdict__" : Str)) = false := by decide)
    (hbase : attributeBase (.Name x p1) "append" X.env (eval (.Name x p1) X.env) = eval (.Name x p1) X.env := by rfl)
    (hfew : ((backTo p3 (starEach (e :: []) X.env)).all (fun x => !x.1) && (backToKw p3 (keywordEach [] X.env)).all (fun x => x.1.isSome)
      && decide ((e :: []).length + ([] : List Keyword).length + (if ([] : List Keyword).isEmpty then 0 else 1) < 30)) = true := by rfl)
    (hline : (p2.endLine == p3.line) = true := by rfl) (hs : starEach (e :: []) X.env = (false, eval e X.env) :: starEach [] X.env := by rfl) (hplain : (backTo p3 (starEach [] X.env)).any (·.1) = false := by rfl)
    (hsw : swapsWith (.Call (.Attribute (.Name x p1) "append" p2) [e] [] p3) none p4.line X.env = pure false := by rfl) :
    BX X (.Expr (.Call (.Attribute (.Name x p1) "append" p2) [e] [] p3) p4 :: rest) (St B ρ) Po := by
  subst hK
  refine bx_cons (Mid := St B (ρ.set i (some (llR X.K la (T ++ [(r, ns)]))))) ?_ h
  refine PS_wk (ps_expr (pe_bm PySem.F.plainAttrs_list PySem.F.slot_list_append PySem.F.type_list_append mt_append (pe_var hN hv hd hcd) (a_cons he a_nil hs) hbase hfew hline hs hplain) hsw) fun E σ H ⟨s, q⟩ => ?_
  obtain ⟨v, g1, rfl, hld, vs, g2, g3, g4⟩ := s.good.get hi
  refine ⟨_, g1, Or.inl ⟨rfl, _, SqL.of g2⟩, s, fun us H1 e1 hus => ?_⟩
  obtain ⟨y, rfl, hy⟩ := hus.one
  have s1 := s.mono e1
  have g2' := e1.at g2 hld
  obtain ⟨rfl, hrd, ws, hr1, hr2⟩ := hy
  refine ⟨la, vs, _, rfl, rfl, g2', by rw [g3]; exact small1000 hz, ?_⟩
  have kk := Tk.lst (ys := vs ++ [V.ref r]) g2'
  refine q.nx σ _ (e1.tk.trans kk) ⟨s1.ext.mut hB hld, fun a' ha' => ?_, by simp [s1.good.1], fun j R e => ?_⟩
  · obtain ⟨ns, b1, b2⟩ := s1.dr a' ha'
    have : a' ≠ la := fun z => hld (by rw [← z]; exact ha'.symm)
    exact ⟨ns, b1, by rw [upd_ne this]; exact b2⟩
  · by_cases hj : i = j
    · subst hj
      have hlt : i < ρ.length := (List.getElem?_eq_some_iff.mp hi).1
      rw [List.getElem?_set_self hlt] at e
      cases e
      refine ⟨_, g1, rfl, hld, _, upd_same, by simp [g3], fun j t u x y => ?_⟩
      by_cases hjl : j < T.length
      · rw [List.getElem?_append_left hjl] at x
        rw [List.getElem?_append_left (by rw [g3]; exact hjl)] at y
        exact ((g4 j t u x y).ext e1).upd g2' (hT t (List.mem_of_getElem? x))
      · rw [List.getElem?_append_right (by omega)] at x
        rw [List.getElem?_append_right (by rw [g3]; omega)] at y
        rw [g3] at y
        have h0 : j - T.length = 0 := by
          cases q' : j - T.length with
          | zero => rfl
          | succ m => rw [q'] at x; simp at x
        rw [h0] at x y
        cases x; cases y
        exact ⟨rfl, hrd, ws, by rw [upd_ne hra]; exact hr1, hr2.tk kk⟩
    · rw [List.getElem?_set_ne hj] at e
      obtain ⟨u', b1, b2⟩ := s1.good.get e
      exact ⟨u', b1, hb j R (fun z => hj z.symm) e u' _ vs _ g2' b2⟩
/-- [elt for x in xs], xs such a list -/
theorem x_lcLL {T : LlT} {l : Addr} (j : Nat) {x : Str} {scope : Scope} {tpos : Pos} (P : Nat → D → Prop) (hi : EX X B ρ iter (llR X.K l T)) (hn : T.length < 2000) (hN : X.N.Nodup) (hok : BlkOk X.N X.env.scope scope [(x, j)])
    (hgn : ∀ (s : Shared) (H : Hp) (C : Addr) (cl : List (Str × Addr)) (fp : List Addr), PG (X.blk s H scope (compEnvC scope cl C X.env) fp) (.Name x tpos) (gName j))
    (hb : ∀ (s : Shared) (H : Hp) (C : Addr) (cl : List (Str × Addr)) (fp : List Addr) (i : Nat) (t : Addr × List Int), T[i]? = some t → EX (X.blk s H scope (compEnvC scope cl C X.env) fp) B (ρ.set j (some (own X.K t.1 (t.2.map D.i)))) elt (dE X.K (P i)))
    (hc : X.calm = true := by rfl) (hs : ∀ x, foldedSetIterable iter X.env x = pure x := by intro _; rfl) :
    EX X B ρ (.ListComp elt [⟨.Name x tpos, iter, [], 0⟩] scope pos) (newE B X.K fun ds => ds.length = T.length ∧ ∀ k w, ds[k]? = some w → P k w) := by
  refine PE_wk (pe_lc (own := [(x, j)]) (g := gName j) (tt := tYes) (te := tElt (Z := Nat × (Addr × List Int)) B X.K (fun z => ρ.set j (some (own X.K z.2.1 (z.2.2.map D.i)))) (fun z => T[z.1]? = some z.2) (fun z => P z.1)) hc hN (pi_list hi) hok hgn (fun _ _ _ _ _ => pts_nil) (fun s H C cl fp => elt_of fun z hz => hb s H C cl fp z.1 z.2 hz) hs) fun σ H Q ⟨s, q⟩ => ⟨s, fun v H1 e1 hv => ?_⟩
  obtain ⟨rfl, hld, us, g1, g2, g3⟩ := hv
  have s1 := s.mono e1
  refine ⟨l, rfl, ⟨us, SqL.of g1⟩, fun Dl hD => ?_⟩
  obtain ⟨hB, hDd⟩ := s1.fresh hD
  refine lc_list (K := X.K) (a := l) (xs := us) (Lc H1 X.K Dl d P) ⟨Ext.new hD, [], [], upd_same, DRl.nil, rfl, fun k w h => by cases h⟩ (fun i H' _ L => SqL.of (L.1.at g1 hld)) (fun i y H' hy L => ?_) (fun H' L => ?_)
  · have hiT : i < T.length := by rw [← g2]; exact (List.getElem?_eq_some_iff.mp hy).1
    have ht : T[i]? = some T[i] := List.getElem?_eq_getElem hiT
    obtain ⟨rfl, p2, ws, p3, p4⟩ := (g3 i _ y ht hy).ext L.1
    refine ⟨wipe1 _ _ _, ?_⟩
    exact ⟨(i, T[i]), ht, st_wipe (s1.mono L.1) (R := own X.K T[i].1 (T[i].2.map D.i)) ⟨rfl, p2, ws, p3, p4⟩, fun y H2 e2 hy => lc_step hD hDd L e2 hy (Nat.lt_trans hiT hn)⟩
  · obtain ⟨h0, vs, ds, h1, h2, h3, h4⟩ := L
    exact q _ H' (e1.trans h0) ⟨ds, ⟨by rw [h3, g2], h4⟩, Dl, hB, rfl, hDd, vs, h1, h2⟩
/-- isinstance of a tuple -/
theorem x_eqX {P1 P2 : Int → Prop} (ha : EX X B ρ a (iE P1)) (hb : EX X B ρ b (iE P2)) : EX X B ρ (.Compare a [.Eq] [b] pos) (exR (fun _ => True) rB) :=
  x_cmp op_eq (nomark _) ha hb fun x y H σ Q _ ⟨i, _, hx⟩ ⟨j, _, hy⟩ q => by
    obtain rfl : x = .int i := hx
    obtain rfl : y = .int j := hy
    exact ⟨rfl, q _ H (Ext.refl H) ⟨_, trivial, rfl⟩⟩
end
end Cv

namespace Cv
open PySem PySem.Spec PyProof.Rows L2 RZ
section
variable {d : Option Addr} {X : Cx} {B : Hp} {ρ ρ' : Ro d} {a b c e iter elt : Expr} {es : List Expr} {R R' Ra Rb : Rp d} {Rs : List (Rp d)} {pos : Pos} {m n : Int} {st : Stmt} {rest body orelse : List Stmt} {Pre Mid : L2.St → Hp → Prop} {Po : Ends}
/-! ### list comprehensions with a test -/
/-- what has been gathered of the first i items -/
def LcF {α : Type} (H1 : Hp) (K : PySem.W.Frag) (Dl : Addr) (d : Option Addr) (src : List α) (p : α → Bool) (f : α → D) (i : Nat) (H : Hp) : Prop :=
  Ext d H1 H ∧ ∃ vs, H Dl = some (.lst vs) ∧ DRl K H (((src.take i).filter p).map f) vs
theorem take_snoc {α : Type} {src : List α} {i : Nat} {x : α} (h : src[i]? = some x) : src.take (i + 1) = src.take i ++ [x] := by
  rw [List.take_succ, h]; rfl
theorem lcF_yes {α : Type} {H1 H H2 : Hp} {K : PySem.W.Frag} {Dl : Addr} {src : List α} {p : α → Bool} {f : α → D} {i : Nat} {x : α} {y : V} (hn : H1 Dl = none) (hd : some Dl ≠ d) (h : LcF H1 K Dl d src p f i H) (e : Ext d H H2) (hx : src[i]? = some x) (hp : p x = true) (hy : DR K H2 (f x) y) (hz : src.length < 2000) :
    ∃ acc, H2 Dl = some (.lst acc) ∧ acc.length < sizeLine ∧ LcF H1 K Dl d src p f (i + 1) (upd H2 Dl (.lst (acc ++ [y]))) := by
  obtain ⟨h0, vs, h1, h2⟩ := h
  have g := e.at h1 hd
  have hl : vs.length < 2000 := by
    rw [← h2.1, List.length_map]
    have q1 := List.length_filter_le p (src.take i)
    have q2 : (src.take i).length ≤ src.length := by rw [List.length_take]; omega
    omega
  refine ⟨vs, g, Nat.lt_of_lt_of_le hl (by decide), (h0.trans e).mut hn hd, _, upd_same, ?_⟩
  rw [take_snoc hx, List.filter_append, List.map_append]
  have e1 : ([x].filter p).map f = [f x] := by simp [hp]
  rw [e1]
  exact ((h2.tk e.tk).snoc hy).tk (Tk.lst g)
theorem lcF_no {α : Type} {H1 H H2 : Hp} {K : PySem.W.Frag} {Dl : Addr} {src : List α} {p : α → Bool} {f : α → D} {i : Nat} {x : α} (hd : some Dl ≠ d) (h : LcF H1 K Dl d src p f i H) (e : Ext d H H2) (hx : src[i]? = some x) (hp : p x = false) : LcF H1 K Dl d src p f (i + 1) H2 := by
  obtain ⟨h0, vs, h1, h2⟩ := h
  refine ⟨h0.trans e, vs, e.at h1 hd, ?_⟩
  rw [take_snoc hx, List.filter_append, List.map_append]
  have e1 : ([x].filter p).map f = [] := by simp [hp]
  rw [e1, List.append_nil]
  exact h2.tk e.tk
def tTst {Z : Type} (B : Hp) (pr : Z → Ro d) (S : Z → Prop) (P : Z → Bool → Prop) : TT := fun σ H Q => ∃ z, S z ∧ St B (pr z) σ H ∧ ∀ k H', Ext d H H' → P z k → Q k H'
theorem tst_of {Z : Type} {pr : Z → Ro d} {S : Z → Prop} {P : Z → Bool → Prop} {Y : Cx} (h : ∀ z, S z → TX Y B (pr z) c (P z)) : PT Y c (tTst B pr S P) := ⟨fun pins s σ H Q I ⟨z, hz, st, q⟩ => (h z hz).run pins s σ H Q I ⟨st, fun k H' e1 hk => q k H' e1 hk⟩⟩
/-- [elt for x in xs if c], xs a list at l -/
theorem x_lcLF {src : List D} {l : Addr} (j : Nat) {x : Str} {scope : Scope} {tpos : Pos} (p : D → Bool) (f : D → D) (hi : EX X B ρ iter (lstA X.K l src)) (hn : src.length < 2000) (hN : X.N.Nodup) (hok : BlkOk X.N X.env.scope scope [(x, j)])
    (hgn : ∀ (s : Shared) (H : Hp) (C : Addr) (cl : List (Str × Addr)) (fp : List Addr), PG (X.blk s H scope (compEnvC scope cl C X.env) fp) (.Name x tpos) (gName j))
    (hb : ∀ (s : Shared) (H : Hp) (C : Addr) (cl : List (Str × Addr)) (fp : List Addr) (i : Nat) (w : D), src[i]? = some w → TX (X.blk s H scope (compEnvC scope cl C X.env) fp) B (ρ.set j (some (dat X.K w))) c (is (p w)) ∧ (p w = true → EX (X.blk s H scope (compEnvC scope cl C X.env) fp) B (ρ.set j (some (dat X.K w))) elt (dat X.K (f w))))
    (hc : X.calm = true := by rfl) (hs : ∀ x, foldedSetIterable iter X.env x = pure x := by intro _; rfl) :
    EX X B ρ (.ListComp elt [⟨.Name x tpos, iter, [c], 0⟩] scope pos) (newL B X.K ((src.filter p).map f)) := by
  refine PE_wk (pe_lc (own := [(x, j)]) (g := gName j) (tt := tTst (Z := Nat × D) B (fun z => ρ.set j (some (dat X.K z.2))) (fun z => src[z.1]? = some z.2) (fun z => is (p z.2))) (te := tElt (Z := Nat × D) B X.K (fun z => ρ.set j (some (dat X.K z.2))) (fun z => src[z.1]? = some z.2 ∧ p z.2 = true) (fun z w => w = f z.2)) hc hN (pi_list hi) hok hgn (fun s H C cl fp => pts_one (tst_of fun z hz => (hb s H C cl fp z.1 z.2 hz).1)) (fun s H C cl fp => elt_of fun z hz => x_sub ((hb s H C cl fp z.1 z.2 hz.1).2 hz.2) fun v H hv => ⟨_, rfl, hv⟩) hs) fun σ H Q ⟨s, q⟩ => ⟨s, fun v H1 e1 hv => ?_⟩
  obtain ⟨rfl, hld, us, g1, g2⟩ := hv
  have s1 := s.mono e1
  refine ⟨l, rfl, ⟨us, g1.sq⟩, fun Dl hD => ?_⟩
  obtain ⟨hB, hDd⟩ := s1.fresh hD
  refine lc_list (K := X.K) (a := l) (xs := us) (LcF H1 X.K Dl d src p f) ⟨Ext.new hD, [], upd_same, DRl.nil⟩ (fun i H' _ L => (g1.ext L.1).sq) (fun i y H' hy L => ?_) (fun H' L => ?_)
  · obtain ⟨w, hw, hr⟩ := g2.getV hy
    refine ⟨wipe1 _ _ _, ?_⟩
    have hst := st_wipe (j := j) (s1.mono L.1) (R := dat X.K w) (hr.tk L.1.tk)
    refine ⟨(i, w), hw, hst, fun k H2 e2 hk => ?_⟩
    cases k with
    | true =>
      have hp : p w = true := hk.symm
      exact ⟨(i, w), ⟨hw, hp⟩, hst.mono e2, fun y H3 e3 ⟨w', hw', hy⟩ => lcF_yes hD hDd L (e2.trans e3) hw hp (by rw [← hw']; exact hy) hn⟩
    | false => exact lcF_no hDd L e2 hw hk.symm
  · obtain ⟨h0, vs, h1, h2⟩ := L
    rw [← g2.1, List.take_length] at h2
    exact q _ H' (e1.trans h0) ⟨Dl, hB, rfl, hDd, vs, h1, h2⟩
/-- [elt for x in t if c], t a tuple -/
theorem x_lcTF {src : List D} (j : Nat) {x : Str} {scope : Scope} {tpos : Pos} (p : D → Bool) (f : D → D) (hi : EX X B ρ iter (dat X.K (.t src))) (hn : src.length < 2000) (hN : X.N.Nodup) (hok : BlkOk X.N X.env.scope scope [(x, j)])
    (hgn : ∀ (s : Shared) (H : Hp) (C : Addr) (cl : List (Str × Addr)) (fp : List Addr), PG (X.blk s H scope (compEnvC scope cl C X.env) fp) (.Name x tpos) (gName j))
    (hb : ∀ (s : Shared) (H : Hp) (C : Addr) (cl : List (Str × Addr)) (fp : List Addr) (i : Nat) (w : D), src[i]? = some w → TX (X.blk s H scope (compEnvC scope cl C X.env) fp) B (ρ.set j (some (dat X.K w))) c (is (p w)) ∧ (p w = true → EX (X.blk s H scope (compEnvC scope cl C X.env) fp) B (ρ.set j (some (dat X.K w))) elt (dat X.K (f w))))
    (hc : X.calm = true := by rfl) (hs : ∀ x, foldedSetIterable iter X.env x = pure x := by intro _; rfl) :
    EX X B ρ (.ListComp elt [⟨.Name x tpos, iter, [c], 0⟩] scope pos) (newL B X.K ((src.filter p).map f)) := by
  refine PE_wk (pe_lc (own := [(x, j)]) (g := gName j) (tt := tTst (Z := Nat × D) B (fun z => ρ.set j (some (dat X.K z.2))) (fun z => src[z.1]? = some z.2) (fun z => is (p z.2))) (te := tElt (Z := Nat × D) B X.K (fun z => ρ.set j (some (dat X.K z.2))) (fun z => src[z.1]? = some z.2 ∧ p z.2 = true) (fun z w => w = f z.2)) hc hN (pi_tup hi) hok hgn (fun s H C cl fp => pts_one (tst_of fun z hz => (hb s H C cl fp z.1 z.2 hz).1)) (fun s H C cl fp => elt_of fun z hz => x_sub ((hb s H C cl fp z.1 z.2 hz.1).2 hz.2) fun v H hv => ⟨_, rfl, hv⟩) hs) fun σ H Q ⟨s, q⟩ => ⟨s, fun v H1 e1 hv => ?_⟩
  obtain ⟨t, us, rfl, g1, g2⟩ := DR.tup hv
  have s1 := s.mono e1
  refine ⟨t, rfl, ⟨us, g1⟩, fun Dl hD => ?_⟩
  obtain ⟨hB, hDd⟩ := s1.fresh hD
  refine lc_tup (K := X.K) (a := t) (xs := us) (LcF H1 X.K Dl d src p f) ⟨Ext.new hD, [], upd_same, DRl.nil⟩ (fun i H' _ L => L.1.tk.sqT g1) (fun i y H' hy L => ?_) (fun H' L => ?_)
  · obtain ⟨w, hw, hr⟩ := g2.getV hy
    refine ⟨wipe1 _ _ _, ?_⟩
    have hst := st_wipe (j := j) (s1.mono L.1) (R := dat X.K w) (hr.tk L.1.tk)
    refine ⟨(i, w), hw, hst, fun k H2 e2 hk => ?_⟩
    cases k with
    | true =>
      have hp : p w = true := hk.symm
      exact ⟨(i, w), ⟨hw, hp⟩, hst.mono e2, fun y H3 e3 ⟨w', hw', hy⟩ => lcF_yes hD hDd L (e2.trans e3) hw hp (by rw [← hw']; exact hy) hn⟩
    | false => exact lcF_no hDd L e2 hw hk.symm
  · obtain ⟨h0, vs, h1, h2⟩ := L
    rw [← g2.1, List.take_length] at h2
    exact q _ H' (e1.trans h0) ⟨Dl, hB, rfl, hDd, vs, h1, h2⟩
/-- [elt for x in range(n) if c], told by which are kept -/
def LcS (H1 : Hp) (K : PySem.W.Frag) (Dl : Addr) (d : Option Addr) (P : Nat → Bool → Prop) (f : Nat → D) (i : Nat) (H : Hp) : Prop :=
  Ext d H1 H ∧ ∃ vs, ∃ p : Nat → Bool, H Dl = some (.lst vs) ∧ (∀ j, j < i → P j (p j)) ∧ DRl K H (((List.range i).filter p).map f) vs
theorem range_snoc (i : Nat) : List.range (i + 1) = List.range i ++ [i] := List.range_succ
theorem filt_same {p q : Nat → Bool} {i : Nat} (h : ∀ j, j < i → p j = q j) : (List.range i).filter p = (List.range i).filter q := by
  apply List.filter_congr
  intro j hj
  exact h j (List.mem_range.mp hj)
theorem x_lcRF {nn : Int} (j : Nat) {x : Str} {scope : Scope} {tpos p2 p3 : Pos} (P : Nat → Bool → Prop) (f : Nat → D) (hg : Gl X "range") (hm : X.mg "range" = none) (hi : EX X B ρ e (rI nn)) (hn : nn < 2000 ∧ -(2 ^ 62) ≤ nn) (hN : X.N.Nodup) (hok : BlkOk X.N X.env.scope scope [(x, j)])
    (hgn : ∀ (s : Shared) (H : Hp) (C : Addr) (cl : List (Str × Addr)) (fp : List Addr), PG (X.blk s H scope (compEnvC scope cl C X.env) fp) (.Name x tpos) (gName j))
    (hb : ∀ (s : Shared) (H : Hp) (C : Addr) (cl : List (Str × Addr)) (fp : List Addr) (i : Nat), (i : Int) < nn → TX (X.blk s H scope (compEnvC scope cl C X.env) fp) B (ρ.set j (some (rI (i : Int)))) c (P i) ∧ EX (X.blk s H scope (compEnvC scope cl C X.env) fp) B (ρ.set j (some (rI (i : Int)))) elt (dat X.K (f i)))
    (hc : X.calm = true := by rfl) (he : starEach [e] X.env = [(false, eval e X.env)] := by rfl) (hs : ∀ x, foldedSetIterable (.Call (.Name "range" p2) [e] [] p3) X.env x = pure x := by intro _; rfl) :
    EX X B ρ (.ListComp elt [⟨.Name x tpos, .Call (.Name "range" p2) [e] [] p3, [c], 0⟩] scope pos) (newE B X.K fun ds => ∃ p : Nat → Bool, (∀ j, j < nn.toNat → P j (p j)) ∧ ds = ((List.range nn.toNat).filter p).map f) := by
  refine PE_wk (pe_lc (own := [(x, j)]) (g := gName j) (tt := tTst (Z := Nat) B (fun i => ρ.set j (some (rI (i : Int)))) (fun i => (i : Int) < nn) P) (te := tElt (Z := Nat) B X.K (fun i => ρ.set j (some (rI (i : Int)))) (fun i => (i : Int) < nn) (fun i w => w = f i)) hc hN (pi_range1 hg hm (a_cons hi a_nil he) he) hok hgn (fun s H C cl fp => pts_one (tst_of fun i hi' => (hb s H C cl fp i hi').1)) (fun s H C cl fp => elt_of fun i hi' => x_sub (hb s H C cl fp i hi').2 fun v H hv => ⟨_, rfl, hv⟩) hs) fun σ H Q ⟨s, q⟩ => ⟨s, fun vs H1 e1 hv => ?_⟩
  obtain ⟨v, rfl, hv'⟩ := hv.one
  obtain rfl : v = .int nn := hv'
  have s1 := s.mono e1
  refine ⟨nn, rfl, hn.2, by have := hn.1; omega, fun Dl hD => ?_⟩
  obtain ⟨hB, hDd⟩ := s1.fresh hD
  refine lc_range (lo := 0) (n := nn.toNat) (LcS H1 X.K Dl d P f) ⟨Ext.new hD, [], fun _ => false, upd_same, fun j hj => absurd hj (Nat.not_lt_zero _), DRl.nil⟩ (fun i H' hlt L => ?_) (fun H' L => ?_)
  · refine ⟨wipe1 _ _ _, ?_⟩
    rw [Int.zero_add]
    have hin : (i : Int) < nn := by omega
    have hst := st_wipe (j := j) (s1.mono L.1) (R := rI (i : Int)) (v := V.int (i : Int)) rfl
    refine ⟨i, hin, hst, fun k H2 e2 hk => ?_⟩
    obtain ⟨h0, us, p, h1, h2, h3⟩ := L
    have hpi : ∀ j, j < i → (fun j => if j = i then k else p j) j = p j := fun j hj => if_neg (by omega)
    have hP : ∀ j, j < i + 1 → P j ((fun j => if j = i then k else p j) j) := fun j hj => by
      by_cases e : j = i
      · subst e; simpa using hk
      · rw [show (fun j => if j = i then k else p j) j = p j from if_neg e]; exact h2 j (by omega)
    have hpk : (fun j => if j = i then k else p j) i = k := if_pos rfl
    have g := e2.at h1 hDd
    have hfl : (List.range (i + 1)).filter (fun j => if j = i then k else p j) = (List.range i).filter p ++ [i].filter (fun j => if j = i then k else p j) := by
      rw [range_snoc, List.filter_append, filt_same hpi]
    cases k with
    | true =>
      refine ⟨i, hin, hst.mono e2, fun y H3 e3 ⟨w', hw', hy⟩ => ?_⟩
      have g3 := e3.at g hDd
      have hl : us.length < 2000 := by
        rw [← h3.1, List.length_map]
        have q1 := List.length_filter_le p (List.range i)
        rw [List.length_range] at q1
        have := hn.1
        omega
      refine ⟨us, g3, Nat.lt_of_lt_of_le hl (by decide), (h0.trans (e2.trans e3)).mut hD hDd, _, _, upd_same, hP, ?_⟩
      rw [hfl, List.map_append]
      have e1' : ([i].filter (fun j => if j = i then true else p j)).map f = [f i] := by simp
      rw [e1']
      exact ((h3.tk (e2.trans e3).tk).snoc (by rw [← hw']; exact hy)).tk (Tk.lst g3)
    | false =>
      refine ⟨h0.trans e2, us, _, g, hP, ?_⟩
      rw [hfl, List.map_append]
      have e1' : ([i].filter (fun j => if j = i then false else p j)).map f = [] := by simp
      rw [e1', List.append_nil]
      exact h3.tk e2.tk
  · obtain ⟨h0, us, p, h1, h2, h3⟩ := L
    exact q _ H' (e1.trans h0) ⟨_, ⟨p, h2, rfl⟩, Dl, hB, rfl, hDd, us, h1, h3⟩
end
end Cv

namespace Cv
open PySem PySem.Spec PyProof.Rows L2 RZ
/-! ### max(xs, default=k) of ints -/
theorem maxOf_int : ∀ {xs : List Int} {x : Int}, PySem.W.maxOf x xs ∈ x :: xs ∧ ∀ y, y ∈ x :: xs → y ≤ PySem.W.maxOf x xs
  | [], x => ⟨List.mem_cons_self, fun y hy => by rw [List.mem_singleton.mp hy]; exact Int.le_refl _⟩
  | z :: xs, x => by
    have e : PySem.W.maxOf x (z :: xs) = PySem.W.maxOf (if x < z then z else x) xs := by
      unfold PySem.W.maxOf
      rw [List.foldl_cons]
      have e1 : (if PySem.W.DatumOrd.lt x z = true then z else x) = (if x < z then z else x) := by
        have : (PySem.W.DatumOrd.lt x z = true) ↔ x < z := by
          show (decide (x < z) = true) ↔ _
          exact decide_eq_true_iff
        by_cases h : x < z
        · rw [if_pos h, if_pos (this.mpr h)]
        · rw [if_neg h, if_neg fun q => h (this.mp q)]
      rw [e1]
    obtain ⟨h1, h2⟩ := maxOf_int (xs := xs) (x := if x < z then z else x)
    rw [e]
    generalize PySem.W.maxOf (if x < z then z else x) xs = M at h1 h2 ⊢
    refine ⟨?_, fun y hy => ?_⟩
    · rcases List.mem_cons.mp h1 with h | h
      · by_cases q : x < z
        · rw [if_pos q] at h; rw [h]; simp
        · rw [if_neg q] at h; rw [h]; simp
      · exact List.mem_cons_of_mem _ (List.mem_cons_of_mem _ h)
    · have h3 := h2 _ List.mem_cons_self
      rcases List.mem_cons.mp hy with rfl | hy
      · split at h3 <;> omega
      · rcases List.mem_cons.mp hy with rfl | hy
        · split at h3 <;> omega
        · exact h2 y (List.mem_cons_of_mem _ hy)
theorem holdAll_ints {h : Heap} : ∀ {us : List Value} {ns : List Int}, IntsAre us ns → PySem.W.HoldAll h us ns
  | _, _, .nil => PySem.W.HoldAll.nil
  | _, _, .cons n t r => PySem.W.HoldAll.cons (PySem.W.holds_int n t) (holdAll_ints r)
def MaxD (ns : List Int) (k M : Int) : Prop := (ns = [] ∧ M = k) ∨ (M ∈ ns ∧ ∀ y, y ∈ ns → y ≤ M)
theorem cr_maxDL {X : Cx} (hc : X.calm = true) (hu : X.A.units + 1 < cLine) : CallRK X (.builtin "max") [Str.ofString "default"] (fun vs zs H Q => ∃ (a : Addr) (ns : List Int) (k : Int), vs = [V.ref a] ∧ zs = [V.int k] ∧ SqL X.K H a (ns.map V.int) ∧ ∀ M, MaxD ns k M → Q (.int M) H) := by
  rintro pins s σ H vs zs us ws Q I r rz ⟨a, ns, k, rfl, rfl, hs, q⟩
  obtain ⟨its, rv, hl, hz⟩ := I.list hs
  obtain rfl := Vals.ref1 r
  obtain ⟨w1, rfl, t1, e1⟩ := vals1 rz
  have hI := Vals.ints rv
  refine PySem.W.max_list_datum_default (xs := ns) (I.ok.hd hc) hl.isList (holdAll_ints hI) (show X.A.units + 1 + 0 < cLine from hu) (fun e h' tk hk => ?_) (fun y ys i v h' tk e hi hv hk => ?_)
  · exact ⟨V.int k, H, Inv.kept I hk, ⟨t1, e1⟩, q k (.inl ⟨e, rfl⟩)⟩
  · rw [List.getElem?_toArray] at hi
    have hi' := hi
    obtain ⟨n, hn, hv2⟩ := (holdAll_ints (h := h') hI).at hi
    obtain ⟨t, rfl⟩ : ∃ t, v = Value.int n t := by
      have := ints_at hI i v hi
      obtain ⟨t, ht⟩ := this
      rw [List.getD_eq_getElem?_getD, hn] at ht
      exact ⟨t, ht⟩
    have hm := maxOf_int (xs := ys) (x := y)
    obtain ⟨as, rd⟩ := hv
    have en : PySem.W.maxOf y ys = n := by
      cases rd
      rfl
    rw [en] at hm
    subst e
    exact ⟨V.int n, H, Inv.kept I hk, ⟨t, rfl⟩, q n (.inr hm)⟩
section
variable {d : Option Addr} {X : Cx} {B : Hp} {ρ ρ' : Ro d} {a b c e iter elt : Expr} {es : List Expr} {R R' Ra Rb : Rp d} {Rs : List (Rp d)} {pos : Pos} {m n : Int} {st : Stmt} {rest body orelse : List Stmt} {Pre Mid : L2.St → Hp → Prop} {Po : Ends}
theorem x_maxDL {ns : List Int} {l : Addr} {k : Int} {p kp : Pos} (hg : Gl X "max") (hm : X.mg "max" = none) (hu : X.A.units + 1 < cLine) (h : EX X B ρ e (newL B X.K (ns.map D.i))) (hb : EX X B ρ b (rI k)) (hc : X.calm = true := by rfl)
    (he : backTo pos (starEach [e] X.env) = (false, eval e X.env) :: backTo pos (starEach [] X.env) := by rfl) (hpl : (backTo pos (starEach [e] X.env)).any (·.1) = false := by rfl)
    (hall : (backToKw pos (keywordEach [⟨some "default", b, kp⟩] X.env)).all (·.1.isSome) = true := by rfl) (hnone : (backToKw pos (keywordEach [⟨some "default", b, kp⟩] X.env)).any (·.1.isNone) = false := by rfl) (hks : (backToKw pos (keywordEach [⟨some "default", b, kp⟩] X.env)).filterMap (·.1) = [Str.ofString "default"] := by rfl)
    (hs : starEach [e] X.env = (false, eval e X.env) :: starEach [] X.env := by rfl) :
    EX X B ρ (.Call (.Name "max" p) [e] [⟨some "default", b, kp⟩] pos) (iE (MaxD ns k)) :=
  PE_wk (pe_callBK (cr_maxDL hc hu) hg hm (by decide +kernel) (pa_cons h pa_nil hs) (pk_cons hb pk_nil) (by decide) (by decide) he hpl hall hnone hks) fun σ H Q ⟨s, q⟩ => ⟨s, fun v H1 e1 hv => ⟨s.mono e1, fun w H2 e2 hw => by
    obtain ⟨a, _, rfl, hd, us, h1, h2⟩ := (newL (d := d) B X.K (ns.map D.i)).st e2 hv
    obtain rfl := h2.ints
    obtain rfl : w = .int k := hw
    exact ⟨a, ns, k, rfl, rfl, SqL.of h1, fun M hM => q _ H2 (e1.trans e2) ⟨M, hM, rfl⟩⟩⟩⟩
end
end Cv

namespace Cv
open PySem PySem.Spec PyProof.Rows L2 RZ
/-- set(xs) of a list of ints, with what sorted wants to know of it -/
theorem call_set_lst {P : Program} {w : World} {A : Around} {E : Value → Shared → Prop} {s : Shared} {l : Addr} {items : Array Value} (ns : List Int) {Q : Value → Shared → Prop}
    (hh : A.handled = none) (hl : s.heap.IsList l items) (hit : IntsAre items.toList ns) (hb : ns.length + 1 < scanBound)
    (h : ∀ (h' : Heap) (tk c : Nat), SetR w h' s.heap.objs.size (fun j => decide (j ∈ ns)) c → c ≤ ns.length → (∀ (b : Addr) (o : Obj), s.heap.get? b = some o → h'.get? b = some o) → Q (.ref s.heap.objs.size) { s with heap := h', toks := tk }) :
    wpAny (model P w) A (call (.type "set") [.ref l]) Q E s := by
  have hisz : items.size = ns.length := by have q := hit.length; rwa [Array.length_toList] at q
  obtain ⟨c, tl, hmro⟩ := F.called_set.mro
  have hmade := F.called_set.made
  have hsub := F.called_set.sub
  refine wpAny_call (codeAny_of_tree ?_)
  show wpAny _ _ (pure _) _ _ _
  refine wpAny_pure ⟨Code.quiet_builtin _ (by decide +kernel), codeAny_builtin F.entry_type_call ?_⟩
  rw [Around.under_plain (weight_type_call_type "set" [.ref l] []) rfl]
  have h1 := F.called_set.notType
  have h2 := F.called_set.canCreate
  have hct := F.typeCall_set_1 (.ref l)
  delta Builtin.«type.__call__»
  dsimp only
  refine wpAny_ite_false rfl ?_
  refine wpAny_ite_false rfl ?_
  refine wpAny_bind (wpAny_of_eq hct ?_)
  refine wpAny_bind (wpAny_of_eq hmro ?_)
  refine wpAny_ite_false rfl ?_
  refine wpAny_bind (wpAny_of_eq hmade ?_)
  refine wpAny_bind (wpAny_pure ?_)
  refine wpAny_bind (wpAny_holding (wpAny_call ?_))
  refine codeAny_mono (L2.code_set_led1 (P := P) (w := w) (A := A.in1) (s := s) (E := E) (Q₁ := fun obj s₁ => obj = .ref s.heap.objs.size ∧ s₁ = { s with heap := s.heap.push { cls := .type "set", data := .set #[] 0 (SetTable.fresh 0 0 !w.params.followText "set-order") } }) (.ref l) ⟨rfl, rfl⟩) fun r s₁ hr => ?_
  rcases r with e | f
  · exact hr
  cases f with
  | ret v =>
    obtain ⟨rfl, rfl⟩ := hr
    dsimp only
    have hS : (s.heap.push { cls := .type "set", data := .set #[] 0 (SetTable.fresh 0 0 !w.params.followText "set-order") }).get? s.heap.objs.size = some { cls := .type "set", data := .set #[] 0 (SetTable.fresh 0 0 !w.params.followText "set-order") } := Heap.get?_push_size _ rfl
    generalize hNW : s.heap.push { cls := .type "set", data := .set #[] 0 (SetTable.fresh 0 0 !w.params.followText "set-order") } = hN at hS ⊢
    have hT : Shared.TypeIs { s with heap := hN } (.ref s.heap.objs.size) "set" := ⟨_, hS, rfl⟩
    have hli := F.called_set.init.lookup
    have hbi := F.called_set.init.bind
    refine wpAny_bind (wpAny_isInstance hT hsub ?_)
    refine wpAny_ite_false rfl ?_
    refine wpAny_bind (wpAny_holding ?_)
    delta callSpecial?
    refine wpAny_bind (wpAny_specialOf hT hli ?_)
    dsimp only
    refine wpAny_holding ?_
    refine wpAny_bind (wpAny_of_eq (hbi _) ?_)
    dsimp only
    refine wpAny_bind (wpAny_call ?_)
    refine codeAny_mono (R := fun r s₂ => r = .ok (.ret .none) ∧ ∃ (h' : Heap) (tk c : Nat), s₂ = { s with heap := h', toks := tk } ∧ SetR w h' s.heap.objs.size (fun j => decide (j ∈ ns)) c ∧ c ≤ ns.length ∧ ∀ (b : Addr) (o : Obj), s.heap.get? b = some o → h'.get? b = some o) (codeAny_call_builtin F.called_set.init.plain F.entry_set_init (check_set_init_1 hT ?_)) fun r₂ s₂ hr₂ => ?_
    · obtain ⟨o, hol, hcl, n, hdl⟩ := hl
      have hol' : hN.get? l = some o := by rw [← hNW]; exact Heap.get?_push_of_some _ hol
      have hsls := F.sub_list_set
      have hslf := F.sub_list_frozenset
      have hl1 : hN.IsList l items := ⟨o, hol', hcl, n, hdl⟩
      obtain ⟨ocl, odt, oda, osl⟩ := o
      dsimp only at hcl hdl
      subst hcl
      subst hdl
      delta Builtin.«set.__init__»
      dsimp only [List.cons_append, List.nil_append]
      refine wpAny_bind ?_
      refine wpAny_ite_true rfl ?_
      refine wpAny_pure ?_
      refine wpAny_bind ?_
      delta typeNameOfCut
      refine wpAny_bind ?_
      delta shownTypeOf
      refine wpAny_bind ?_
      refine wpAny_typeOf hT ?_
      refine wpAny_ite_false rfl ?_
      refine wpAny_pure ?_
      delta typeNameCut
      refine wpAny_pure ?_
      refine wpAny_bind ?_
      delta checkCount
      refine wpAny_ite_false rfl ?_
      refine wpAny_ite_false rfl ?_
      refine wpAny_ite_false rfl ?_
      refine wpAny_pure ?_
      refine wpAny_bind ?_
      delta Builtin.Frozenset.addrOf
      refine wpAny_pure ?_
      refine wpAny_bind ?_
      delta setUsed
      refine wpAny_bind ?_
      delta setState
      refine wpAny_bind ?_
      refine wpAny_load' hS ?_
      first
        | refine wpAny_ite_false rfl ?_
          refine wpAny_pure ?_
        | refine wpAny_pure ?_
      refine wpAny_pure ?_
      refine wpAny_ite_false rfl ?_
      delta Builtin.Frozenset.updateFrom
      refine wpAny_bind ?_
      refine wpAny_bind ?_
      delta Builtin.Frozenset.isAnySet
      refine wpAny_bind ?_
      delta isInstance
      refine wpAny_bind ?_
      have hT2 : Shared.TypeIs { s with heap := hN } (.ref l) "list" := ⟨_, hol', rfl⟩
      refine wpAny_typeOf hT2 ?_
      refine wpAny_of_eq hsls ?_
      refine wpAny_bind ?_
      refine wpAny_typeOf hT2 ?_
      refine wpAny_of_eq hslf ?_
      refine wpAny_ite_false rfl ?_
      refine wpAny_bind ?_
      refine wpAny_typeOf hT2 ?_
      refine wpAny_ite_false rfl ?_
      refine wpAny_bind ?_
      refine wpAny_pyIter_list hl1 ?_
      refine wpAny_bind ?_
      refine wpAny_runValue ?_
      have hlS : l < s.heap.objs.size := Heap.lt_size hol
      have hsz : hN.objs.size = s.heap.objs.size + 1 := by rw [← hNW]; exact Heap.size_push _ _
      refine set_update_ints (A := A.in1.in1) (Walks.toS (Walks.list (by show A.in1.in1.in1.handled = none; exact hh) hN.objs.size l (fun z => by rw [hsz] at z; exact absurd hlS (by rw [z]; exact Nat.not_lt.mpr (Nat.le_succ _))) items)) s.heap.objs.size ?_ ns hisz hb (fun i v hv => ?_) ns.length 0 _ (by omega) (Nat.zero_le _) ?_ ?_ ?_
      · intro hm
        rcases List.mem_cons.mp hm with z | z
        · rw [hsz] at z
          exact absurd z (Nat.ne_of_lt (Nat.lt_succ_self _))
        · have z := List.mem_singleton.mp z
          rw [← z] at hlS
          exact absurd hlS (Nat.lt_irrefl _)
      · obtain ⟨t, e⟩ := ints_at hit i v (by rw [Array.getElem?_toList]; exact hv)
        have hi : i < ns.length := by
          have := (Array.getElem?_eq_some_iff.mp hv).1
          omega
        refine ⟨ns[i], t, List.getElem?_eq_getElem hi, ?_⟩
        rw [e, List.getD_eq_getElem?_getD, List.getElem?_eq_getElem hi]
        rfl
      · refine ⟨⟨_, Heap.get?_push_size _ rfl, rfl, rfl⟩, hl1.push _⟩
      · exact ⟨0, Nat.le_refl _, L2.setR_new_at (Heap.get?_push_of_some _ hS)⟩
      · intro s' c' hm hc' hS'
        dsimp only
        refine wpAny_pure ?_
        refine wpAny_pure ?_
        obtain ⟨h', g', d', t', o'⟩ := s'
        have eg := hm.gens
        have ed := hm.drawn
        have eo := hm.os
        dsimp only at eg ed eo
        subst eg
        subst ed
        subst eo
        refine ⟨rfl, h', t', c', rfl, hS', by rw [← hisz]; exact hc', fun b o e => ?_⟩
        have hb0 : b < s.heap.objs.size := Heap.lt_size e
        refine hm.heap b o ?_ (Heap.get?_push_of_some _ (by rw [← hNW]; exact Heap.get?_push_of_some _ e))
        intro hmm
        rcases List.mem_cons.mp hmm with z | z
        · rw [z] at hb0
          exact absurd hb0 (Nat.lt_irrefl _)
        · have z := List.mem_singleton.mp z
          rw [z, hsz] at hb0
          exact absurd hb0 (Nat.not_lt.mpr (Nat.le_succ _))
    · obtain ⟨rfl, h', tk, c', rfl, g1, g2, g3⟩ := hr₂
      dsimp only
      refine wpAny_pure ?_
      refine wpAny_ite_false rfl ?_
      refine wpAny_pure ?_
      exact h h' tk c' g1 g2 g3
  | _ => exact hr.elim
end Cv

namespace Cv
open PySem PySem.Spec PyProof.Rows L2 RZ
theorem cr_setL {X : Cx} (hc : X.calm = true) : CallR X (.type "set") (fun xs H Q => ∃ (l : Addr) (ns : List Int), xs = [V.ref l] ∧ SqL X.K H l (ns.map V.int) ∧ ns.length < 1000 ∧ ∀ p c, H p = none → c ≤ ns.length → Q (.ref p) (upd H p (SetO X.w p (fun j => decide (j ∈ ns)) c))) := by
  rintro pins s σ H xs us Q I r ⟨l, ns, rfl, hl, hn, q⟩
  obtain ⟨its, rv, hs, hz⟩ := I.list hl
  obtain rfl := Vals.ref1 r
  refine call_set_lst ns (I.ok.hd hc) hs.isList (by rw [List.toList_toArray]; exact Vals.ints rv) (Nat.lt_of_lt_of_le (Nat.succ_lt_succ hn) (by decide)) fun h' tk c hR hcn hk => ?_
  exact ⟨.ref s.heap.objs.size, _, I.laid hk (Nat.le_refl _) (setO_new hR), rfl, q _ _ (HOk.fresh I.hok (Nat.le_refl _)) hcn⟩
section
variable {d : Option Addr} {X : Cx} {B : Hp} {ρ ρ' : Ro d} {a b c e iter elt : Expr} {es : List Expr} {R R' Ra Rb : Rp d} {Rs : List (Rp d)} {pos : Pos} {m n : Int} {st : Stmt} {rest body orelse : List Stmt} {Pre Mid : L2.St → Hp → Prop} {Po : Ends}
/-- a set of these ints -/
def stR (w : World) (ns : List Int) : Rp d := ⟨fun v H => ∃ p c, v = .ref p ∧ H p = some (SetO w p (fun j => decide (j ∈ ns)) c) ∧ c ≤ ns.length, fun e ⟨p, c, h1, h2, h3⟩ => ⟨p, c, h1, e.keep _ _ h2 fun _ _ q => (by unfold SetO at q; cases q), h3⟩⟩
theorem x_setL {ns : List Int} {l : Addr} {p : Pos} (hg : Gl X "set") (hm : X.mg "set" = none) (h : EX X B ρ e (lstA X.K l (ns.map D.i))) (hn : ns.length < 1000) (hc : X.calm = true := by rfl) (he : starEach [e] X.env = (false, eval e X.env) :: starEach [] X.env := by rfl) (hpl : (backTo pos (starEach [] X.env)).any (·.1) = false := by rfl) : EX X B ρ (.Call (.Name "set" p) [e] [] pos) (stR X.w ns) :=
  PE_wk (pe_callTy (cr_setL hc) hg hm (by decide +kernel) (a_cons h a_nil he) (by decide) (by decide) he hpl) fun σ H Q ⟨s, q⟩ => ⟨s, fun vs H1 e1 hv => by
    obtain ⟨v, rfl, hv'⟩ := hv.one
    obtain ⟨rfl, _, us, h1, h2⟩ := hv'
    obtain rfl := h2.ints
    exact ⟨l, ns, rfl, h1.sq, hn, fun p c hp hc => q _ _ (e1.trans (Ext.new hp)) ⟨p, c, rfl, upd_same, hc⟩⟩⟩
/-- a new list of ints that P tells -/
abbrev newI (B : Hp) (K : PySem.W.Frag) (P : List Int → Prop) : Rp d := newE B K fun ds => ∃ ms, P ms ∧ ds = ms.map D.i
theorem x_sortedS {ns : List Int} {p : Pos} (hg : Gl X "sorted") (hm : X.mg "sorted" = none) (h : EX X B ρ e (stR X.w ns)) (hn : ns.length < 64) (hc : X.calm = true := by rfl) (he : starEach [e] X.env = (false, eval e X.env) :: starEach [] X.env := by rfl) (hpl : (backTo pos (starEach [] X.env)).any (·.1) = false := by rfl) :
    EX X B ρ (.Call (.Name "sorted" p) [e] [] pos) (newI B X.K fun ms => ms.Pairwise (· < ·) ∧ ∀ k, k ∈ ms ↔ k ∈ ns) :=
  PE_wk (pe_callB (cr_sortedSet hc) hg hm (by decide +kernel) (a_cons h a_nil he) (by decide) (by decide) he hpl) fun σ H Q ⟨s, q⟩ => ⟨s, fun vs H1 e1 hv => by
    obtain ⟨v, rfl, hv'⟩ := hv.one
    obtain ⟨p, c, rfl, h1, h2⟩ := hv'
    refine ⟨p, _, c, rfl, h1, by omega, fun ms D hs hk hl hD => ?_⟩
    obtain ⟨hB, hDd⟩ := (s.mono e1).fresh hD
    exact q _ _ (e1.trans (Ext.new hD)) ⟨_, ⟨ms, ⟨hs, fun k => by rw [hk k]; exact decide_eq_true_iff⟩, rfl⟩, D, hB, rfl, hDd, _, upd_same, DRl.of_ints ms⟩⟩
theorem x_sortedI {ns : List Int} {l : Addr} {p : Pos} (hg : Gl X "sorted") (hm : X.mg "sorted" = none) (h : EX X B ρ e (lstA X.K l (ns.map D.i))) (he : starEach [e] X.env = (false, eval e X.env) :: starEach [] X.env := by rfl) (hpl : (backTo pos (starEach [] X.env)).any (·.1) = false := by rfl) :
    EX X B ρ (.Call (.Name "sorted" p) [e] [] pos) (newI B X.K fun ms => ms.Perm ns ∧ ms.Pairwise (· ≤ ·)) :=
  PE_wk (pe_callB cr_sortedI hg hm (by decide +kernel) (a_cons h a_nil he) (by decide) (by decide) he hpl) fun σ H Q ⟨s, q⟩ => ⟨s, fun vs H1 e1 hv => by
    obtain ⟨v, rfl, hv'⟩ := hv.one
    obtain ⟨rfl, _, us, h1, h2⟩ := hv'
    obtain rfl := h2.ints
    refine ⟨l, ns, rfl, h1.sq, fun ms D hp hs hD => ?_⟩
    obtain ⟨hB, hDd⟩ := (s.mono e1).fresh hD
    exact q _ _ (e1.trans (Ext.new hD)) ⟨_, ⟨ms, ⟨hp, hs⟩, rfl⟩, D, hB, rfl, hDd, _, upd_same, DRl.of_ints ms⟩⟩
/-- while xs: -/
theorem t_truthL {ds : List D} {l : Addr} (h : EX X B ρ e (lstA X.K l ds)) (he : ∀ whole, isTrue e X.env whole = (do let v ← whole; standAt e.pos; holding [v] (truthy v)) := by intro _; rfl) : TX X B ρ e (is (!ds.isEmpty)) :=
  PT_wk (pt_truth h he) fun σ H Q ⟨s, q⟩ => ⟨s, fun v H' e1 hv => by
    obtain ⟨rfl, _, us, h1, h2⟩ := hv
    refine ⟨_, .inl ⟨us, h1.sq, rfl⟩, q _ H' e1 ?_⟩
    show (!us.isEmpty) = !ds.isEmpty
    have := h2.1
    cases us <;> cases ds <;> simp_all⟩
theorem x_sumL {ns : List Int} {p : Pos} (hg : Gl X "sum") (hm : X.mg "sum" = none) (h : EX X B ρ e (newL B X.K (ns.map D.i))) (hc : X.calm = true := by rfl) (he : starEach [e] X.env = (false, eval e X.env) :: starEach [] X.env := by rfl) (hpl : (backTo pos (starEach [] X.env)).any (·.1) = false := by rfl) : EX X B ρ (.Call (.Name "sum" p) [e] [] pos) (rI ns.sum) :=
  PE_wk (pe_callB (cr_sum hc) hg hm (by decide +kernel) (a_cons h a_nil he) (by decide) (by decide) he hpl) fun σ H Q ⟨s, q⟩ => ⟨s, fun vs H1 e1 hv => by
    obtain ⟨v, rfl, hv'⟩ := hv.one
    obtain ⟨a, _, rfl, _, us, h1, h2⟩ := hv'
    obtain rfl := h2.ints
    exact ⟨a, ns, rfl, SqL.of h1, q _ H1 e1 rfl⟩⟩
/-! ### bits -/
theorem bitAnd_nat (i j : Nat) : Builtin.bitAnd (i : Int) (j : Int) = ((i &&& j : Nat) : Int) := by
  unfold Builtin.bitAnd
  have h1 : decide ((0 : Int) ≤ i) = true := decide_eq_true (by omega)
  have h2 : decide ((0 : Int) ≤ j) = true := decide_eq_true (by omega)
  rw [h1, h2]
  rfl
theorem x_band {i j : Nat} (ha : EX X B ρ a (rI (i : Int))) (hb : EX X B ρ b (rI (j : Int))) : EX X B ρ (.BinOp a .BitAnd b pos) (rI ((i &&& j : Nat) : Int)) := x_op2 op_and ha hb fun x y H σ Q _ hx hy q => ⟨_, _, hx, hy, q _ H (Ext.refl H) (by show V.int _ = V.int _; rw [bitAnd_nat])⟩
theorem x_shl {i j : Nat} (hi : i < 2 ^ 60) (hj : j ≤ 1000) (ha : EX X B ρ a (rI (i : Int))) (hb : EX X B ρ b (rI (j : Int))) : EX X B ρ (.BinOp a .LShift b pos) (rI ((i * 2 ^ j : Nat) : Int)) := x_op2 op_shl ha hb fun x y H σ Q _ hx hy q => ⟨_, _, hx, hy, ⟨by omega, by omega, by rw [Int.natAbs_natCast]; omega⟩, q _ H (Ext.refl H) (by show V.int _ = V.int _; simp)⟩
theorem x_shr {i j : Nat} (ha : EX X B ρ a (rI (i : Int))) (hb : EX X B ρ b (rI (j : Int))) : EX X B ρ (.BinOp a .RShift b pos) (rI ((i / 2 ^ j : Nat) : Int)) := x_op2 op_shr ha hb fun x y H σ Q _ hx hy q => ⟨_, _, hx, hy, by omega, q _ H (Ext.refl H) (by show V.int _ = V.int _; simp)⟩
theorem t_isNotB {p q : Bool} (ha : EX X B ρ a (rB p)) (hb : EX X B ρ b (rB q)) : TX X B ρ (.Compare a [.IsNot] [b] pos) (is (!decide (p = q))) := t_cmp op_isnot_bl (nomark _) ha hb fun x y H σ Q _ hx hy k => ⟨p, q, hx, hy, k _ H (Ext.refl H) rfl⟩
/-- a whole number as a test -/
theorem t_truthI {i : Int} (h : EX X B ρ e (rI i)) (he : ∀ whole, isTrue e X.env whole = (do let v ← whole; standAt e.pos; holding [v] (truthy v)) := by intro _; rfl) : TX X B ρ e (is (i != 0)) :=
  PT_wk (pt_truth h he) fun σ H Q ⟨s, q⟩ => ⟨s, fun v H' e1 hv => by
    obtain rfl : v = .int i := hv
    exact ⟨_, rfl, q _ H' e1 rfl⟩⟩
end
end Cv

namespace Cv
open PySem PySem.Spec PyProof.Rows L2 RZ
theorem set9 {α : Type} {σ : List α} {j k l : Nat} {a b c x y z : α} : ((((((σ.set l c).set k b).set j a).set j x).set k y).set l z) = ((σ.set j x).set k y).set l z := by
  apply List.ext_getElem?
  intro i
  simp only [List.getElem?_set, List.length_set]
  by_cases h1 : l = i
  · simp [h1]
  · by_cases h2 : k = i
    · simp [h1, h2]
    · by_cases h3 : j = i
      · simp [h1, h2, h3]
      · simp [h1, h2, h3]
theorem set9w {α : Type} {σ : List α} {j k l : Nat} {a b c x y z : α} : (((((((((σ.set l c).set k b).set j a).set j x).set k y).set l z).set l c).set k b).set j a) = ((σ.set l c).set k b).set j a := by
  apply List.ext_getElem?
  intro i
  simp only [List.getElem?_set, List.length_set]
  by_cases h1 : l = i
  · simp [h1]
  · by_cases h2 : k = i
    · simp [h1, h2]
    · by_cases h3 : j = i
      · simp [h1, h2, h3]
      · simp [h1, h2, h3]
theorem wipe3 (σ : L2.St) (j k l : Nat) (x y z : V) : wipe ((((wipe σ [j, k, l]).set j (some x)).set k (some y)).set l (some z)) [j, k, l] = wipe σ [j, k, l] := by
  show (((((((((σ.set l none).set k none).set j none).set j (some x)).set k (some y)).set l (some z)).set l none).set k none).set j none) = ((σ.set l none).set k none).set j none
  exact set9w
section
variable {d : Option Addr} {X : Cx} {B : Hp} {ρ ρ' : Ro d} {a b c e iter elt : Expr} {es : List Expr} {R R' Ra Rb : Rp d} {Rs : List (Rp d)} {pos : Pos} {m n : Int} {st : Stmt} {rest body orelse : List Stmt} {Pre Mid : L2.St → Hp → Prop} {Po : Ends}
theorem filt_true {α : Type} (l : List α) : l.filter (fun _ => true) = l := by
  induction l with
  | nil => rfl
  | cons x xs ih => simp [ih]
/-- [elt for x, y, z in t], t a tuple of triples -/
theorem x_lcT3 {src : List D} (j k l : Nat) {x y z : Str} {kk : Nat} {scope : Scope} {tpos p1 p2 p3 : Pos} (f : D → D) (hi : EX X B ρ iter (dat X.K (.t src))) (hn : src.length < 2000) (hN : X.N.Nodup) (hok : BlkOk X.N X.env.scope scope [(x, j), (y, k), (z, l)])
    (h3 : ∀ w ∈ src, ∃ A1 A2 A3, w = .t [A1, A2, A3])
    (hgn : ∀ (s : Shared) (H : Hp) (C : Addr) (cl : List (Str × Addr)) (fp : List Addr), PG (X.blk s H scope (compEnvC scope cl C X.env) fp) (.Tuple [.Name x p1, .Name y p2, .Name z p3] kk tpos) (gTup X.K 3 (gCons (gName j) (gCons (gName k) (gCons (gName l) gNil)))))
    (hb : ∀ (s : Shared) (H : Hp) (C : Addr) (cl : List (Str × Addr)) (fp : List Addr) (i : Nat) (A1 A2 A3 : D), src[i]? = some (.t [A1, A2, A3]) → EX (X.blk s H scope (compEnvC scope cl C X.env) fp) B (((ρ.set j (some (dat X.K A1))).set k (some (dat X.K A2))).set l (some (dat X.K A3))) elt (dat X.K (f (.t [A1, A2, A3]))))
    (hc : X.calm = true := by rfl) (hs : ∀ x, foldedSetIterable iter X.env x = pure x := by intro _; rfl) :
    EX X B ρ (.ListComp elt [⟨.Tuple [.Name x p1, .Name y p2, .Name z p3] kk tpos, iter, [], 0⟩] scope pos) (newL B X.K (src.map f)) := by
  refine PE_wk (pe_lc (own := [(x, j), (y, k), (z, l)]) (g := gTup X.K 3 (gCons (gName j) (gCons (gName k) (gCons (gName l) gNil)))) (tt := tYes) (te := tElt (Z := Nat × D × D × D) B X.K (fun z => ((ρ.set j (some (dat X.K z.2.1))).set k (some (dat X.K z.2.2.1))).set l (some (dat X.K z.2.2.2))) (fun z => src[z.1]? = some (.t [z.2.1, z.2.2.1, z.2.2.2])) (fun z w => w = f (.t [z.2.1, z.2.2.1, z.2.2.2]))) hc hN (pi_tup hi) hok hgn (fun _ _ _ _ _ => pts_nil) (fun s H C cl fp => elt_of fun z hz => x_sub (hb s H C cl fp z.1 z.2.1 z.2.2.1 z.2.2.2 hz) fun v H hv => ⟨_, rfl, hv⟩) hs) fun σ H Q ⟨s, q⟩ => ⟨s, fun v H1 e1 hv => ?_⟩
  obtain ⟨t, us, rfl, g1, g2⟩ := DR.tup hv
  have s1 := s.mono e1
  refine ⟨t, rfl, ⟨us, g1⟩, fun Dl hD => ?_⟩
  obtain ⟨hB, hDd⟩ := s1.fresh hD
  refine lc_tup (K := X.K) (a := t) (xs := us) (LcF H1 X.K Dl d src (fun _ => true) f) ⟨Ext.new hD, [], upd_same, DRl.nil⟩ (fun i H' _ L => L.1.tk.sqT g1) (fun i y H' hy L => ?_) (fun H' L => ?_)
  · obtain ⟨w, hw, hr⟩ := g2.getV hy
    obtain ⟨A1, A2, A3, rfl⟩ := h3 w (List.mem_of_getElem? hw)
    obtain ⟨t', vs', rfl, q1, q2⟩ := (hr.tk L.1.tk).tup
    obtain ⟨v1, v2, v3, rfl⟩ : ∃ v1 v2 v3, vs' = [v1, v2, v3] := by
      have := q2.1
      match vs', this with
      | [v1, v2, v3], _ => exact ⟨v1, v2, v3, rfl⟩
    have r1 := q2.2 0 A1 v1 rfl rfl
    have r2 := q2.2 1 A2 v2 rfl rfl
    have r3 := q2.2 2 A3 v3 rfl rfl
    refine ⟨t', [v1, v2, v3], rfl, q1, rfl, v1, [v2, v3], rfl, v2, [v3], rfl, v3, [], rfl, rfl, wipe3 _ _ _ _ _ _ _, ?_⟩
    refine ⟨(i, A1, A2, A3), hw, ?_, fun y H2 e2 ⟨w', hw', hy⟩ => lcF_yes hD hDd L e2 hw rfl (by rw [← hw']; exact hy) hn⟩
    have e : (((wipe σ [j, k, l]).set j (some v1)).set k (some v2)).set l (some v3) = ((σ.set j (some v1)).set k (some v2)).set l (some v3) := by
      show ((((((σ.set l none).set k none).set j none).set j (some v1)).set k (some v2)).set l (some v3)) = _
      exact set9
    show St B _ ((((wipe σ [j, k, l]).set j (some v1)).set k (some v2)).set l (some v3)) H'
    rw [e]
    have s2 := s1.mono L.1
    exact ⟨s2.ext, s2.dr, ((s2.good.set j (R := dat X.K A1) r1).set k (R := dat X.K A2) r2).set l (R := dat X.K A3) r3⟩
  · obtain ⟨h0, vs, h1, h2⟩ := L
    rw [← g2.1, List.take_length, filt_true] at h2
    exact q _ H' (e1.trans h0) ⟨Dl, hB, rfl, hDd, vs, h1, h2⟩
/-- [elt for i, x in enumerate(t) if c], t a tuple -/
theorem x_lcEF {src : List D} (j k : Nat) {x y : Str} {kk : Nat} {scope : Scope} {tpos p1 p2 p p3 : Pos} (pr : D × Nat → Bool) (f : D × Nat → D) (hg : Gl X "enumerate") (hm : X.mg "enumerate" = none) (ha : EX X B ρ a (dat X.K (.t src))) (hn : src.length < 2000) (hN : X.N.Nodup) (hok : BlkOk X.N X.env.scope scope [(x, j), (y, k)])
    (hgn : ∀ (s : Shared) (H : Hp) (C : Addr) (cl : List (Str × Addr)) (fp : List Addr), PG (X.blk s H scope (compEnvC scope cl C X.env) fp) (.Tuple [.Name x p1, .Name y p2] kk tpos) (gTup X.K 2 (gCons (gName j) (gCons (gName k) gNil))))
    (hb : ∀ (s : Shared) (H : Hp) (C : Addr) (cl : List (Str × Addr)) (fp : List Addr) (i : Nat) (w : D), src[i]? = some w → TX (X.blk s H scope (compEnvC scope cl C X.env) fp) B ((ρ.set j (some (rI (i : Int)))).set k (some (dat X.K w))) c (is (pr (w, i))) ∧ EX (X.blk s H scope (compEnvC scope cl C X.env) fp) B ((ρ.set j (some (rI (i : Int)))).set k (some (dat X.K w))) elt (dat X.K (f (w, i))))
    (hc : X.calm = true := by rfl) (he : starEach [a] X.env = [(false, eval a X.env)] := by rfl) (hs : ∀ x, foldedSetIterable (.Call (.Name "enumerate" p) [a] [] p3) X.env x = pure x := by intro _; rfl) :
    EX X B ρ (.ListComp elt [⟨.Tuple [.Name x p1, .Name y p2] kk tpos, .Call (.Name "enumerate" p) [a] [] p3, [c], 0⟩] scope pos) (newL B X.K ((src.zipIdx.filter pr).map f)) := by
  refine PE_wk (pe_lc (own := [(x, j), (y, k)]) (g := gTup X.K 2 (gCons (gName j) (gCons (gName k) gNil))) (tt := tTst (Z := Nat × D) B (fun z => (ρ.set j (some (rI (z.1 : Int)))).set k (some (dat X.K z.2))) (fun z => src[z.1]? = some z.2) (fun z => is (pr (z.2, z.1)))) (te := tElt (Z := Nat × D) B X.K (fun z => (ρ.set j (some (rI (z.1 : Int)))).set k (some (dat X.K z.2))) (fun z => src[z.1]? = some z.2) (fun z w => w = f (z.2, z.1))) hc hN (pi_enumT hg hm (a_cons ha a_nil he) he) hok hgn (fun s H C cl fp => pts_one (tst_of fun z hz => (hb s H C cl fp z.1 z.2 hz).1)) (fun s H C cl fp => elt_of fun z hz => x_sub (hb s H C cl fp z.1 z.2 hz).2 fun v H hv => ⟨_, rfl, hv⟩) hs) fun σ H Q ⟨s, q⟩ => ⟨s, fun vs H1 e1 hv => ?_⟩
  obtain ⟨v, rfl, hv'⟩ := hv.one
  obtain ⟨t, us, rfl, h1, h2⟩ := DR.tup hv'
  have s1 := s.mono e1
  refine ⟨t, us, rfl, h1, fun Dl hD => ?_⟩
  obtain ⟨hB, hDd⟩ := s1.fresh hD
  have hzl : src.zipIdx.length < 2000 := by rw [List.length_zipIdx]; exact hn
  refine ⟨fun i m H => m = us.length - i ∧ i ≤ us.length ∧ LcF H1 X.K Dl d src.zipIdx pr f i H, ⟨us.length, rfl, Nat.zero_le _, Ext.new hD, [], upd_same, DRl.nil⟩, ?_⟩
  rintro i m H' ⟨rfl, hi, L⟩
  have a1 := L.1.tk.sqT h1
  by_cases hlt : i < us.length
  · refine .inr ⟨⟨us, us[i], a1, List.getElem?_eq_getElem hlt⟩, fun H'' => LcF H1 X.K Dl d src.zipIdx pr f (i + 1) H'', fun H'' p => ⟨us.length - (i + 1), by omega, rfl, hlt, p⟩, fun v H'' yl => ?_⟩
    obtain ⟨T, x', rfl, hT, rfl, f1⟩ := yl
    obtain ⟨w, hw, hr⟩ := h2.getV (f1 us a1)
    have eT : Ext d H' (upd H' T (.tup [.int (i : Nat), x'])) := Ext.new hT
    have kT := L.1.tk.trans eT.tk
    have s2 := (s1.mono L.1).mono eT
    have hz : src.zipIdx[i]? = some (w, i) := by rw [List.getElem?_zipIdx, hw]; simp
    have e : ((wipe σ [j, k]).set j (some (.int (i : Nat)))).set k (some x') = (σ.set j (some (.int (i : Nat)))).set k (some x') := by
      show ((((σ.set k none).set j none).set j (some (.int (i : Nat)))).set k (some x')) = _
      exact set4
    have hst : St B ((ρ.set j (some (rI (i : Int)))).set k (some (dat X.K w))) (((wipe σ [j, k]).set j (some (.int (i : Nat)))).set k (some x')) (upd H' T (.tup [.int (i : Nat), x'])) := by
      rw [e]
      exact ⟨s2.ext, s2.dr, (s2.good.set j (R := rI (i : Int)) rfl).set k (R := dat X.K w) (hr.tk kT)⟩
    refine ⟨T, [.int (i : Nat), x'], rfl, SqT.of upd_same, rfl, .int (i : Nat), [x'], rfl, x', [], rfl, rfl, wipe2 _ _ _ _ _, (i, w), hw, hst, fun q2 H2 e2 hk => ?_⟩
    cases q2 with
    | true => exact ⟨(i, w), hw, hst.mono e2, fun y H3 e3 ⟨w', hw', hy⟩ => lcF_yes hD hDd L (eT.trans (e2.trans e3)) hz hk.symm (by rw [← hw']; exact hy) hzl⟩
    | false => exact lcF_no hDd L (eT.trans e2) hz hk.symm
  · obtain ⟨h0, vs, g1, g2⟩ := L
    refine .inl ⟨⟨us, h0.tk.sqT h1, by omega⟩, q _ H' (e1.trans h0) ⟨Dl, hB, rfl, hDd, vs, g1, ?_⟩⟩
    have : src.zipIdx.take i = src.zipIdx := List.take_of_length_le (by rw [List.length_zipIdx, h2.1]; omega)
    rw [this] at g2
    exact g2
end
end Cv

namespace Cv
open PySem PySem.Spec PyProof.Rows L2 RZ
/-! ### lists of lists of ints, sorted -/
abbrev leL (p q : Addr × List Int) : Bool := decide (p.2 ≤ q.2)
theorem each_of : ∀ {T : LlT} {us : List Value}, Vals (T.map fun t => V.ref t.1) us → PySem.W.EachIs (fun (v : Value) (t : Addr × List Int) => v = .ref t.1) us T
  | [], _, r => by cases r; exact .nil
  | t :: T, _, r => by
    cases r with
    | cons h r => exact .cons (by cases h; rfl) (each_of r)
theorem of_each : ∀ {T : LlT} {us : List Value}, PySem.W.EachIs (fun (v : Value) (t : Addr × List Int) => v = .ref t.1) us T → Vals (T.map fun t => V.ref t.1) us
  | [], _, r => by cases r; exact .nil
  | t :: T, _, r => by
    cases r with
    | cons h r => subst h; exact .cons rfl (of_each r)
theorem each_len {α β : Type} {R : α → β → Prop} : ∀ {as : List α} {bs : List β}, PySem.W.EachIs R as bs → as.length = bs.length
  | [], _, r => by cases r; rfl
  | a :: as, _, r => by
    cases r with
    | cons h r => rw [List.length_cons, List.length_cons, each_len r]
theorem each_reads {X : Cx} {pins : List (Addr × Obj)} {σ : L2.St} {H : Hp} {s : Shared} (I : L2.Inv X pins σ H s) : ∀ {T : LlT} {us : List Value}, Vals (T.map fun t => V.ref t.1) us → (∀ t ∈ T, SqL X.K H t.1 (t.2.map V.int)) → PySem.W.EachIs (fun v b => ∃ as, Reads s.heap v ((fun t : Addr × List Int => PyData.list (t.2.map PyData.int)) b) as) us T
  | [], _, r, _ => by cases r; exact .nil
  | t :: T, _, r, h => by
    cases r with
    | cons hv r =>
      refine .cons ?_ (each_reads I r fun q hq => h q (List.mem_cons_of_mem _ hq))
      have h1 := h t List.mem_cons_self
      have h2 : DpAll X.K H (t.2.map V.int) (t.2.map PyData.int) := by
        have : ∀ ns : List Int, DpAll X.K H (ns.map V.int) (ns.map PyData.int) := fun ns => by
          induction ns with
          | nil => exact .nil
          | cons n ns ih => exact .cons (.int n) ih
        exact this t.2
      exact Dp.reads I _ _ _ (Dp.lst h1 h2) hv
theorem cr_sortedLL {X : Cx} (hu : X.A.units + 64 < cLine) : CallR X (.builtin "sorted") (fun vs H Q => ∃ (l : Addr) (T : LlT), vs = [V.ref l] ∧ SqL X.K H l (T.map fun t => V.ref t.1) ∧ (∀ t ∈ T, SqL X.K H t.1 (t.2.map V.int)) ∧ T.length ≤ 1000 ∧ ∀ p, H p = none → Q (.ref p) (upd H p (.lst ((T.mergeSort leL).map fun t => V.ref t.1)))) := by
  rintro pins s σ H vs us Q I r ⟨l, T, rfl, hl, ht, hn, q⟩
  obtain ⟨its, rv, hs, hz⟩ := I.list hl
  obtain rfl := Vals.ref1 r
  refine PySem.W.sorted_data (enc := fun t : Addr × List Int => PyData.list (t.2.map PyData.int)) (bs := T) hs.isList (each_of rv) (each_reads I rv ht) (PySem.W.AllAlike.of fun b b' => ?_) (PySem.W.Sortable.others fun b => ⟨nofun, nofun⟩) (Nat.le_trans hn (by decide)) (fun b _ => ?_) (fun out ho hE => ?_)
  · show PySem.W.alikeAll _ _ = true
    exact PySem.W.alike_ints _ _
  · have : (PyData.list (b.2.map PyData.int)).depth ≤ 2 := by
      show PyData.depthAll (b.2.map PyData.int) + 1 ≤ 2
      rw [PySem.W.depth_ints]; decide
    show X.A.units + 2 + (PyData.list (b.2.map PyData.int)).depth < cLine
    omega
  · rw [PySem.W.dataLe_rows (fun t : Addr × List Int => t.2)] at hE
    obtain ⟨e, he⟩ := sortedAll_at s.heap its out.toArray
    refine ⟨.ref (s.heap.objs.size + 1), _, I.laid (o := .lst ((T.mergeSort leL).map fun t => V.ref t.1)) (fun b u h => sortedAll_old h) (Nat.le_succ _) ⟨?_, out, e, of_each hE, he⟩, rfl, q _ (HOk.fresh I.hok (Nat.le_succ _))⟩
    rw [List.length_map, List.length_mergeSort]
    exact Nat.le_trans hn (by decide)
section
variable {d : Option Addr} {X : Cx} {B : Hp} {ρ ρ' : Ro d} {a b c e iter elt : Expr} {es : List Expr} {R R' Ra Rb : Rp d} {Rs : List (Rp d)} {pos : Pos} {m n : Int} {st : Stmt} {rest body orelse : List Stmt} {Pre Mid : L2.St → Hp → Prop} {Po : Ends}
/-- a new list of new lists of ints, told by P -/
def newLL (B : Hp) (K : PySem.W.Frag) (P : LlT → Prop) : Rp d := exR (fun z : Addr × LlT => B z.1 = none ∧ P z.2 ∧ ∀ t ∈ z.2, B t.1 = none) fun z => llR K z.1 z.2
/-- a new list of lists of ints that stood before -/
def shLL (B : Hp) (K : PySem.W.Frag) (T : LlT) : Rp d := exR (fun a : Addr => B a = none) fun a => llR K a T
theorem ll_vals {K : PySem.W.Frag} {H : Hp} {T : LlT} {vs : List V} (hl : vs.length = T.length) (h : ∀ (j : Nat) t u, T[j]? = some t → vs[j]? = some u → llP K d H t u) : vs = T.map fun t => V.ref t.1 := by
  apply List.ext_getElem?
  intro i
  rw [List.getElem?_map]
  by_cases hi : i < T.length
  · rw [List.getElem?_eq_getElem hi, List.getElem?_eq_getElem (show i < vs.length by omega)]
    exact congrArg some (h i _ _ (List.getElem?_eq_getElem hi) (List.getElem?_eq_getElem (show i < vs.length by omega))).1
  · rw [List.getElem?_eq_none (by omega), List.getElem?_eq_none (by omega)]; rfl
theorem x_sortedLL {P : LlT → Prop} {p : Pos} (hg : Gl X "sorted") (hm : X.mg "sorted" = none) (hu : X.A.units + 64 < cLine) (h : EX X B ρ e (newLL B X.K P)) (hn : ∀ T, P T → T.length ≤ 1000) (he : starEach [e] X.env = (false, eval e X.env) :: starEach [] X.env := by rfl) (hpl : (backTo pos (starEach [] X.env)).any (·.1) = false := by rfl) :
    EX X B ρ (.Call (.Name "sorted" p) [e] [] pos) (newLL B X.K fun T' => ∃ T, P T ∧ T' = T.mergeSort leL) :=
  PE_wk (pe_callB (cr_sortedLL hu) hg hm (by decide +kernel) (a_cons h a_nil he) (by decide) (by decide) he hpl) fun σ H Q ⟨s, q⟩ => ⟨s, fun vs H1 e1 hv => by
    obtain ⟨v, rfl, hv'⟩ := hv.one
    obtain ⟨⟨l, T⟩, ⟨hB, hP, hT⟩, rfl, hd, us, h1, h2, h3⟩ := hv'
    dsimp only at hB hP hT h1 h2 h3
    obtain rfl := ll_vals h2 h3
    have h4 : ∀ t ∈ T, llP X.K d H1 t (.ref t.1) := fun t ht => by
      obtain ⟨j, hj⟩ := List.getElem?_of_mem ht
      exact h3 j t _ hj (by rw [List.getElem?_map, hj]; rfl)
    refine ⟨l, T, rfl, SqL.of h1, fun t ht => ?_, hn T hP, fun D hD => ?_⟩
    · obtain ⟨_, _, ws, g1, g2⟩ := h4 t ht
      obtain rfl := g2.ints
      exact SqL.of g1
    · obtain ⟨hB2, hDd⟩ := (s.mono e1).fresh hD
      refine q _ _ (e1.trans (Ext.new hD)) ⟨(D, T.mergeSort leL), ⟨hB2, ⟨T, hP, rfl⟩, fun t ht => hT t (List.mem_mergeSort.mp ht)⟩, rfl, hDd, _, upd_same, by rw [List.length_map], fun j t u ht hu => ?_⟩
      rw [List.getElem?_map, ht] at hu
      cases hu
      have := h4 t (List.mem_mergeSort.mp (List.mem_of_getElem? ht))
      exact this.ext (Ext.new hD)⟩
/-- one more list at the end of a list of lists that is being made -/
def LcL (H1 : Hp) (K : PySem.W.Frag) (Dl : Addr) (d : Option Addr) (B : Hp) (g : Nat → List Int) (i : Nat) (H : Hp) : Prop :=
  Ext d H1 H ∧ ∃ (vs : List V) (T : LlT), H Dl = some (.lst vs) ∧ vs.length = T.length ∧ T.length = i ∧ (∀ (j : Nat) t u, T[j]? = some t → vs[j]? = some u → llP K d H t u ∧ t.2 = g j ∧ B t.1 = none ∧ t.1 ≠ Dl)
def tEltN {Z : Type} (B : Hp) (K : PySem.W.Frag) (pr : Z → Ro d) (S : Z → Prop) (g : Z → List Int) : TE := fun σ H Q => ∃ z, S z ∧ St B (pr z) σ H ∧ ∀ v H', Ext d H H' → (newL (d := d) H K ((g z).map D.i)).p v H' → Q v H'
theorem eltN_of {Z : Type} {K : PySem.W.Frag} {pr : Z → Ro d} {S : Z → Prop} {g : Z → List Int} {Y : Cx} (h : ∀ z, S z → ∀ B' : Hp, EX Y B' (pr z) elt (newL B' K ((g z).map D.i))) : PE Y elt (tEltN B K pr S g) := ⟨fun pins s σ H Q I ⟨z, hz, st, q⟩ => (h z hz H).run pins s σ H Q I ⟨⟨Ext.refl H, st.dr, st.good⟩, fun v H' e1 hv => q v H' e1 hv⟩⟩
/-- [[..] for x in xs], xs a list of data; each time a new list of ints -/
theorem x_lcLN {src : List D} {l : Addr} (j : Nat) {x : Str} {scope : Scope} {tpos : Pos} (g : D → List Int) (hi : EX X B ρ iter (lstA X.K l src)) (hn : src.length < 2000) (hN : X.N.Nodup) (hok : BlkOk X.N X.env.scope scope [(x, j)])
    (hgn : ∀ (s : Shared) (H : Hp) (C : Addr) (cl : List (Str × Addr)) (fp : List Addr), PG (X.blk s H scope (compEnvC scope cl C X.env) fp) (.Name x tpos) (gName j))
    (hb : ∀ (s : Shared) (H : Hp) (C : Addr) (cl : List (Str × Addr)) (fp : List Addr) (i : Nat) (w : D) (B' : Hp), src[i]? = some w → EX (X.blk s H scope (compEnvC scope cl C X.env) fp) B' (ρ.set j (some (dat X.K w))) elt (newL B' X.K ((g w).map D.i)))
    (hc : X.calm = true := by rfl) (hs : ∀ x, foldedSetIterable iter X.env x = pure x := by intro _; rfl) :
    EX X B ρ (.ListComp elt [⟨.Name x tpos, iter, [], 0⟩] scope pos) (newLL B X.K fun T => T.map (·.2) = src.map g) := by
  refine PE_wk (pe_lc (own := [(x, j)]) (g := gName j) (tt := tYes) (te := tEltN (Z := Nat × D) B X.K (fun z => ρ.set j (some (dat X.K z.2))) (fun z => src[z.1]? = some z.2) (fun z => g z.2)) hc hN (pi_list hi) hok hgn (fun _ _ _ _ _ => pts_nil) (fun s H C cl fp => eltN_of fun z hz B' => hb s H C cl fp z.1 z.2 B' hz) hs) fun σ H Q ⟨s, q⟩ => ⟨s, fun v H1 e1 hv => ?_⟩
  obtain ⟨rfl, hld, us, g1, g2⟩ := hv
  have s1 := s.mono e1
  refine ⟨l, rfl, ⟨us, g1.sq⟩, fun Dl hD => ?_⟩
  obtain ⟨hB, hDd⟩ := s1.fresh hD
  refine lc_list (K := X.K) (a := l) (xs := us) (LcL H1 X.K Dl d B fun k => ((src[k]?).map g).getD []) ⟨Ext.new hD, [], [], upd_same, rfl, rfl, fun j t u h => by cases h⟩ (fun i H' _ L => (g1.ext L.1).sq) (fun i y H' hy L => ?_) (fun H' L => ?_)
  · obtain ⟨w, hw, hr⟩ := g2.getV hy
    refine ⟨wipe1 _ _ _, ?_⟩
    refine ⟨(i, w), hw, st_wipe (s1.mono L.1) (R := dat X.K w) (hr.tk L.1.tk), fun v H2 e2 hv => ?_⟩
    obtain ⟨a, ha, rfl, had, ws, q1, q2⟩ := hv
    obtain ⟨h0, vs, T, p1, p2, p3, p4⟩ := L
    have p1' := e2.at p1 hDd
    have haD : a ≠ Dl := fun z => by rw [z, p1] at ha; cases ha
    have hBa : B a = none := by
      cases eb : B a with
      | none => rfl
      | some o =>
        have := (s1.mono h0).ext.at eb had
        rw [ha] at this; cases this
    have hlen : vs.length < 2000 := by
      have := (List.getElem?_eq_some_iff.mp hw).1
      omega
    refine ⟨vs, p1', Nat.lt_of_lt_of_le hlen (by decide), (h0.trans e2).mut hD hDd, vs ++ [.ref a], T ++ [(a, g w)], upd_same, by simp [p2], by simp [p3], fun k t u ht hu => ?_⟩
    by_cases hk : k < T.length
    · rw [List.getElem?_append_left hk] at ht
      rw [List.getElem?_append_left (by omega)] at hu
      obtain ⟨r1, r2, r3, r4⟩ := p4 k t u ht hu
      exact ⟨(r1.ext e2).upd p1' r4, r2, r3, r4⟩
    · have hk' : k = T.length := by
        have := (List.getElem?_eq_some_iff.mp ht).1
        simp at this; omega
      subst hk'
      rw [List.getElem?_append_right (Nat.le_refl _), Nat.sub_self] at ht
      rw [List.getElem?_append_right (by omega), p2, Nat.sub_self] at hu
      cases ht; cases hu
      refine ⟨⟨rfl, had, ws, by rw [upd_ne haD]; exact q1, q2.tk (Tk.lst p1')⟩, ?_, hBa, haD⟩
      show g w = ((src[T.length]?).map g).getD []
      rw [p3, hw]; rfl
  · obtain ⟨h0, vs, T, p1, p2, p3, p4⟩ := L
    have hul : us.length = src.length := g2.1.symm
    refine q _ H' (e1.trans h0) ⟨(Dl, T), ⟨hB, ?_, fun t ht => ?_⟩, rfl, hDd, vs, p1, p2, fun k t u ht hu => (p4 k t u ht hu).1⟩
    · apply List.ext_getElem?
      intro k
      rw [List.getElem?_map, List.getElem?_map]
      by_cases hk : k < T.length
      · have ht : T[k]? = some T[k] := List.getElem?_eq_getElem hk
        have hu : vs[k]? = some (vs[k]'(by omega)) := List.getElem?_eq_getElem _
        have : T[k].2 = ((src[k]?).map g).getD [] := (p4 k _ _ ht hu).2.1
        have hks : k < src.length := by omega
        rw [ht, List.getElem?_eq_getElem hks]
        rw [List.getElem?_eq_getElem hks] at this
        exact congrArg some this
      · have hk2 : src.length ≤ k := by omega
        rw [List.getElem?_eq_none (show List.length T ≤ k by omega), List.getElem?_eq_none hk2]; rfl
    · obtain ⟨k, hk⟩ := List.getElem?_of_mem ht
      have hkl : k < List.length T := (List.getElem?_eq_some_iff.mp hk).1
      exact (p4 k t _ hk (List.getElem?_eq_getElem (show k < vs.length by omega))).2.2.1
end
end Cv

namespace Cv
open PySem PySem.Spec PyProof.Rows L2 RZ
section
variable {d : Option Addr} {X : Cx} {B : Hp} {ρ ρ' : Ro d} {a b c e iter elt : Expr} {es : List Expr} {R R' Ra Rb : Rp d} {Rs : List (Rp d)} {pos : Pos} {m n : Int} {st : Stmt} {rest body orelse : List Stmt} {Pre Mid : L2.St → Hp → Prop} {Po : Ends}
/-- [x for x in xs if c], xs a list of lists of ints -/
def LcH (H1 : Hp) (K : PySem.W.Frag) (Dl : Addr) (d : Option Addr) (T : LlT) (p : Addr × List Int → Bool) (i : Nat) (H : Hp) : Prop :=
  Ext d H1 H ∧ ∃ vs, H Dl = some (.lst vs) ∧ vs = ((T.take i).filter p).map fun t => V.ref t.1
def tEltH (B : Hp) (K : PySem.W.Frag) (ρ : Ro d) (j : Nat) (T : LlT) : TE := fun σ H Q => ∃ z : Nat × (Addr × List Int), T[z.1]? = some z.2 ∧ St B (ρ.set j (some (own K z.2.1 (z.2.2.map D.i)))) σ H ∧ ∀ v H', Ext d H H' → v = V.ref z.2.1 → Q v H'
theorem x_lcHF {T : LlT} {l : Addr} (j : Nat) {x : Str} {scope : Scope} {tpos : Pos} (p : Addr × List Int → Bool) (hi : EX X B ρ iter (llR X.K l T)) (hn : T.length < 2000) (hN : X.N.Nodup) (hok : BlkOk X.N X.env.scope scope [(x, j)])
    (hgn : ∀ (s : Shared) (H : Hp) (C : Addr) (cl : List (Str × Addr)) (fp : List Addr), PG (X.blk s H scope (compEnvC scope cl C X.env) fp) (.Name x tpos) (gName j))
    (hb : ∀ (s : Shared) (H : Hp) (C : Addr) (cl : List (Str × Addr)) (fp : List Addr) (i : Nat) (t : Addr × List Int), T[i]? = some t → TX (X.blk s H scope (compEnvC scope cl C X.env) fp) B (ρ.set j (some (own X.K t.1 (t.2.map D.i)))) c (is (p t)) ∧ EX (X.blk s H scope (compEnvC scope cl C X.env) fp) B (ρ.set j (some (own X.K t.1 (t.2.map D.i)))) elt (own X.K t.1 (t.2.map D.i)))
    (hc : X.calm = true := by rfl) (hs : ∀ x, foldedSetIterable iter X.env x = pure x := by intro _; rfl) :
    EX X B ρ (.ListComp elt [⟨.Name x tpos, iter, [c], 0⟩] scope pos) (shLL B X.K (T.filter p)) := by
  refine PE_wk (pe_lc (own := [(x, j)]) (g := gName j) (tt := tTst (Z := Nat × (Addr × List Int)) B (fun z => ρ.set j (some (own X.K z.2.1 (z.2.2.map D.i)))) (fun z => T[z.1]? = some z.2) (fun z => is (p z.2))) (te := tEltH B X.K ρ j T) hc hN (pi_list hi) hok hgn (fun s H C cl fp => pts_one (tst_of fun z hz => (hb s H C cl fp z.1 z.2 hz).1)) (fun s H C cl fp => ⟨fun pins s' σ H' Q I ⟨z, hz, st, q⟩ => (hb s H C cl fp z.1 z.2 hz).2.run pins s' σ H' Q I ⟨st, fun v H2 e2 hv => q v H2 e2 hv.1⟩⟩) hs) fun σ H Q ⟨s, q⟩ => ⟨s, fun v H1 e1 hv => ?_⟩
  obtain ⟨rfl, hld, us, g1, g2, g3⟩ := hv
  have s1 := s.mono e1
  refine ⟨l, rfl, ⟨us, SqL.of g1⟩, fun Dl hD => ?_⟩
  obtain ⟨hB, hDd⟩ := s1.fresh hD
  refine lc_list (K := X.K) (a := l) (xs := us) (LcH H1 X.K Dl d T p) ⟨Ext.new hD, [], upd_same, rfl⟩ (fun i H' _ L => SqL.of (L.1.at g1 hld)) (fun i y H' hy L => ?_) (fun H' L => ?_)
  · have hiT : i < T.length := by rw [← g2]; exact (List.getElem?_eq_some_iff.mp hy).1
    have ht : T[i]? = some T[i] := List.getElem?_eq_getElem hiT
    have hlp := (g3 i _ y ht hy).ext L.1
    obtain ⟨rfl, p2, ws, p3, p4⟩ := hlp
    refine ⟨wipe1 _ _ _, ?_⟩
    have hst := st_wipe (j := j) (s1.mono L.1) (R := own X.K T[i].1 (T[i].2.map D.i)) (v := V.ref T[i].1) ⟨rfl, p2, ws, p3, p4⟩
    refine ⟨(i, T[i]), ht, hst, fun k H2 e2 hk => ?_⟩
    obtain ⟨h0, vs, h1, h2⟩ := L
    have h1' := e2.at h1 hDd
    cases k with
    | true =>
      refine ⟨(i, T[i]), ht, hst.mono e2, fun y H3 e3 hy => ?_⟩
      subst hy
      have h1'' := e3.at h1' hDd
      have hlen : vs.length < 2000 := by
        rw [h2, List.length_map]
        have q1 := List.length_filter_le p (T.take i)
        have q2 : (T.take i).length ≤ T.length := by rw [List.length_take]; omega
        omega
      refine ⟨vs, h1'', Nat.lt_of_lt_of_le hlen (by decide), (h0.trans (e2.trans e3)).mut hD hDd, _, upd_same, ?_⟩
      rw [take_snoc ht, List.filter_append, List.map_append, ← h2]
      have hk' : p T[i] = true := hk.symm
      simp [hk']
    | false =>
      refine ⟨h0.trans e2, vs, h1', ?_⟩
      rw [take_snoc ht, List.filter_append, List.map_append, ← h2]
      have hk' : p T[i] = false := hk.symm
      simp [hk']
  · obtain ⟨h0, vs, h1, h2⟩ := L
    rw [g2, List.take_length] at h2
    refine q _ H' (e1.trans h0) ⟨Dl, hB, rfl, hDd, vs, h1, by rw [h2, List.length_map], fun k t u ht hu => ?_⟩
    rw [h2, List.getElem?_map, ht] at hu
    cases hu
    have hm : t ∈ T := (List.mem_filter.mp (List.mem_of_getElem? ht)).1
    obtain ⟨k', hk'⟩ := List.getElem?_of_mem hm
    have hkl := (List.getElem?_eq_some_iff.mp hk').1
    have hu' : us[k']? = some (us[k']'(by omega)) := List.getElem?_eq_getElem _
    have := g3 k' t _ hk' hu'
    have h5 := this.ext h0
    obtain ⟨_, p2, ws, p3, p4⟩ := h5
    exact ⟨rfl, p2, ws, p3, p4⟩
theorem x_lenSh {T : LlT} {p : Pos} (hg : Gl X "len") (hm : X.mg "len" = none) (h : EX X B ρ e (shLL B X.K T)) (he : starEach [e] X.env = (false, eval e X.env) :: starEach [] X.env := by rfl) (hpl : (backTo pos (starEach [] X.env)).any (·.1) = false := by rfl) : EX X B ρ (.Call (.Name "len" p) [e] [] pos) (rI (T.length : Int)) :=
  x_callB call_len_seq hg hm PySem.boot_len (a_cons h a_nil he) (fun vs H σ Q s hv q => by
    obtain ⟨x, rfl, hx⟩ := hv.one
    obtain ⟨l, _, rfl, _, us, h1, h2, _⟩ := hx
    exact ⟨l, us, rfl, .inl (SqL.of h1), q _ H (Ext.refl H) (by show V.int (us.length : Int) = V.int (T.length : Int); rw [h2])⟩) (he := he) (hpl := hpl)
/-- for x in xs, xs a list of lists of ints -/
theorem bx_forLL {α : Type} {T : LlT} {la : Addr} (j : Nat) {x : Str} {tpos : Pos} (P : Nat → α → Prop) (r : Nat → α → Ro d) (hi : EX X B ρ iter (llR X.K la T)) (h0 : ∀ σ H, St B ρ σ H → IS B (P 0) (r 0) σ H)
    (hl : ∀ i z, P i z → ∃ (k : Nat) (R : Rp d), (r i z)[k]? = some (some R) ∧ ∀ v H, R.p v H → (llR (d := d) X.K la T).p v H)
    (hb : ∀ i t z, T[i]? = some t → P i z → BX X body (St B ((r i z).set j (some (own X.K t.1 (t.2.map D.i))))) (Lp Po (IS B (P (i + 1)) (r (i + 1))) (IS B (P T.length) (r T.length)))) (h : BX X rest (IS B (P T.length) (r T.length)) Po)
    (hN : X.N.Nodup) (hp : PassesOwn (model X.prog X.w) X.A X.env X.xe) (hj : X.N[j]? = some x := by rfl) (hc : X.calm = true := by rfl) (hx : Loc X.env.scope x := by first | exact Or.inl rfl | exact Or.inr rfl)
    (hf : X.fn x = true ∨ X.env.scope.names.lookup x = some .local := by first | exact .inl rfl | exact .inr rfl | assumption) (hs : ∀ x, foldedSetIterable iter X.env x = pure x := by intro _; rfl) : BX X (.For (.Name x tpos) iter body [] pos :: rest) (St B ρ) Po := by
  refine bx_cons (Mid := IS B (P T.length) (r T.length)) ?_ h
  refine PS_wk (t := tFor (iList X.K fun σ H Q => St B ρ σ H ∧ ∀ v H', Ext d H H' → (llR X.K la T).p v H' → Q v H') (gName j) (tBody (Z := Nat × (Addr × List Int) × α) B (fun z => (r z.1 z.2.2).set j (some (own X.K z.2.1.1 (z.2.1.2.map D.i)))) (fun z => T[z.1]? = some z.2.1 ∧ P z.1 z.2.2) (fun z => Lp Po (IS B (P (z.1 + 1)) (r (z.1 + 1))) (IS B (P T.length) (r T.length)))))
    (ps_for hp hc (pi_list hi) (pg_name hN hj hx hf) ⟨fun pins s σ H E I ⟨⟨i, w, z⟩, ⟨hw, hz⟩, q, l⟩ => (hb i w z hw hz).run pins s σ H E I ⟨q, l⟩⟩ hs) fun E σ H ⟨s, l⟩ => ⟨s, fun v H1 e1 hv => ?_⟩
  obtain ⟨rfl, hld, us, h1, h2, h3⟩ := hv
  refine ⟨la, rfl, ⟨us, SqL.of h1⟩, ?_⟩
  have key : ∀ i σ H, IS B (P i) (r i) σ H → ∃ vs, SqL X.K H la vs ∧ vs.length = T.length ∧ ∀ (j : Nat) t u, T[j]? = some t → vs[j]? = some u → llP X.K d H t u := fun i σ H ⟨z, hz, q⟩ => by
    obtain ⟨k, R, hk, hR⟩ := hl i z hz
    obtain ⟨v, _, g⟩ := q.good.get hk
    obtain ⟨_, _, vs, a1, a2, a3⟩ := hR v H g
    exact ⟨vs, SqL.of a1, a2, a3⟩
  refine ⟨fun i m σ H => m = T.length - i ∧ i ≤ T.length ∧ Tk H1 H ∧ IS B (P i) (r i) σ H, ⟨T.length, rfl, Nat.zero_le _, Tk.refl _, h0 _ _ (s.mono e1)⟩, ?_⟩
  rintro i m σ H ⟨rfl, hi', k, q⟩
  obtain ⟨vs, a1, a2, a3⟩ := key i σ H q
  by_cases hlt : i < T.length
  · have hv : i < vs.length := by rw [a2]; exact hlt
    refine .inr ⟨⟨vs, vs[i], a1, List.getElem?_eq_getElem hv⟩, fun σ' H' => Tk H1 H' ∧ IS B (P (i + 1)) (r (i + 1)) σ' H', fun σ' H' p' => ⟨T.length - (i + 1), by omega, rfl, hlt, p'.1, p'.2⟩, fun x H' y => ?_⟩
    obtain ⟨rfl, y⟩ := y
    have ht : T[i]? = some T[i] := List.getElem?_eq_getElem hlt
    obtain ⟨rfl, p2, ws, p3, p4⟩ := a3 i _ x ht (y vs a1)
    obtain ⟨z, hz, q⟩ := q
    refine ⟨(i, T[i], z), ⟨ht, hz⟩, ⟨q.ext, q.dr, q.good.set j (R := own X.K T[i].1 (T[i].2.map D.i)) ⟨rfl, p2, ws, p3, p4⟩⟩, ?_⟩
    exact ⟨fun σ' H' k' q' => ⟨k.trans k', q'⟩, fun v H' k' q' => l.rt v H' ((e1.tk.trans k).trans k') q', fun σ' H' k' q' => l.nx σ' H' ((e1.tk.trans k).trans k') q', fun σ' H' k' q' => ⟨k.trans k', q'⟩⟩
  · have e : i = T.length := by omega
    subst e
    exact .inl ⟨⟨vs, a1, by rw [a2]; exact Nat.le_refl _⟩, l.nx σ H (e1.tk.trans k) q⟩
theorem IS.to {α : Type} {P : α → Prop} {r : α → Ro d} {B' : Hp} {σ : L2.St} {H : Hp} (e : Ext d B B') (h : IS B' P r σ H) : IS B P r σ H := let ⟨z, hz, s⟩ := h; ⟨z, hz, ⟨e.trans s.ext, s.dr, s.good⟩⟩
/-- for x in a new list that has no name -/
theorem bx_forLn {α : Type} {ds : List D} (j : Nat) {x : Str} {tpos : Pos} (P : Nat → α → Prop) (r : Nat → α → Ro d) (hi : EX X B ρ iter (newL B X.K ds)) (h0 : ∀ B' σ H, St B' ρ σ H → IS B' (P 0) (r 0) σ H)
    (hb : ∀ (B' : Hp) i w z, Ext d B B' → ds[i]? = some w → P i z → BX X body (St B' ((r i z).set j (some (dat X.K w)))) (Lp Po (IS B' (P (i + 1)) (r (i + 1))) (IS B' (P ds.length) (r ds.length)))) (h : BX X rest (IS B (P ds.length) (r ds.length)) Po)
    (hN : X.N.Nodup) (hp : PassesOwn (model X.prog X.w) X.A X.env X.xe) (hj : X.N[j]? = some x := by rfl) (hc : X.calm = true := by rfl) (hx : Loc X.env.scope x := by first | exact Or.inl rfl | exact Or.inr rfl)
    (hf : X.fn x = true ∨ X.env.scope.names.lookup x = some .local := by first | exact .inl rfl | exact .inr rfl | assumption) (hs : ∀ x, foldedSetIterable iter X.env x = pure x := by intro _; rfl) : BX X (.For (.Name x tpos) iter body [] pos :: rest) (St B ρ) Po := by
  refine bx_cons (Mid := IS B (P ds.length) (r ds.length)) ?_ h
  refine PS_wk (t := tFor (iList X.K fun σ H Q => St B ρ σ H ∧ ∀ v H', Ext d H H' → (newL B X.K ds).p v H' → Q v H') (gName j) (fun E σ H => ∃ (z : Hp × Nat × D × α), Ext d B z.1 ∧ ds[z.2.1]? = some z.2.2.1 ∧ P z.2.1 z.2.2.2 ∧ St z.1 ((r z.2.1 z.2.2.2).set j (some (dat X.K z.2.2.1))) σ H ∧ Le H (Lp Po (IS z.1 (P (z.2.1 + 1)) (r (z.2.1 + 1))) (IS z.1 (P ds.length) (r ds.length))) E))
    (ps_for hp hc (pi_list hi) (pg_name hN hj hx hf) ⟨fun pins s σ H E I ⟨⟨B', i, w, z⟩, hB, hw, hz, q, l⟩ => (hb B' i w z hB hw hz).run pins s σ H E I ⟨q, l⟩⟩ hs) fun E σ H ⟨s, l⟩ => ⟨s, fun v H1 e1 hv => ?_⟩
  obtain ⟨la, hBa, rfl, hld, us, h1, h2⟩ := hv
  have s1 := s.mono e1
  refine ⟨la, rfl, ⟨us, SqL.of h1⟩, ?_⟩
  refine ⟨fun i m σ H => m = ds.length - i ∧ i ≤ ds.length ∧ Tk H1 H ∧ IS H1 (P i) (r i) σ H, ⟨ds.length, rfl, Nat.zero_le _, Tk.refl _, h0 H1 _ _ ⟨Ext.refl _, s1.dr, s1.good⟩⟩, ?_⟩
  rintro i m σ H ⟨rfl, hi', k, q⟩
  obtain ⟨z, hz, q⟩ := q
  have a1 := q.ext.at h1 hld
  have a2 := h2.tk q.ext.tk
  by_cases hlt : i < ds.length
  · have hv : i < us.length := by rw [← a2.1]; exact hlt
    refine .inr ⟨⟨us, us[i], SqL.of a1, List.getElem?_eq_getElem hv⟩, fun σ' H' => Tk H1 H' ∧ IS H1 (P (i + 1)) (r (i + 1)) σ' H', fun σ' H' p' => ⟨ds.length - (i + 1), by omega, rfl, hlt, p'.1, p'.2⟩, fun x H' y => ?_⟩
    obtain ⟨rfl, y⟩ := y
    obtain ⟨w, hw, hr⟩ := a2.getV (y us (SqL.of a1))
    refine ⟨(H1, i, w, z), s1.ext, hw, hz, ⟨q.ext, q.dr, q.good.set j hr⟩, ?_⟩
    exact ⟨fun σ' H' k' q' => ⟨k.trans k', q'⟩, fun v H' k' q' => l.rt v H' ((e1.tk.trans k).trans k') q', fun σ' H' k' q' => l.nx σ' H' ((e1.tk.trans k).trans k') (IS.to s1.ext q'), fun σ' H' k' q' => ⟨k.trans k', q'⟩⟩
  · have e : i = ds.length := by omega
    subst e
    exact .inl ⟨⟨us, SqL.of a1, by rw [← a2.1]; exact Nat.le_refl _⟩, l.nx σ H (e1.tk.trans k) (IS.to s1.ext ⟨z, hz, q⟩)⟩
/-- y = [x for x in xs if c], xs a list of data -/
theorem as_lcLF {src : List D} {l : Addr} (i0 j : Nat) {x y : Str} {py spos : Pos} {scope : Scope} {tpos : Pos} (p : D → Bool) (f : D → D) (hi : EX X B ρ iter (lstA X.K l src)) (hn : src.length < 2000) (hN : X.N.Nodup) (hok : BlkOk X.N X.env.scope scope [(x, j)])
    (hgn : ∀ (s : Shared) (H : Hp) (C : Addr) (cl : List (Str × Addr)) (fp : List Addr), PG (X.blk s H scope (compEnvC scope cl C X.env) fp) (.Name x tpos) (gName j))
    (hb : ∀ (s : Shared) (H : Hp) (C : Addr) (cl : List (Str × Addr)) (fp : List Addr) (i : Nat) (w : D), src[i]? = some w → TX (X.blk s H scope (compEnvC scope cl C X.env) fp) B (ρ.set j (some (dat X.K w))) c (is (p w)) ∧ (p w = true → EX (X.blk s H scope (compEnvC scope cl C X.env) fp) B (ρ.set j (some (dat X.K w))) elt (dat X.K (f w))))
    (hc : X.calm = true := by rfl) (hs : ∀ x, foldedSetIterable iter X.env x = pure x := by intro _; rfl)
    (hy : X.N[i0]? = some y := by rfl) (hyl : X.env.scope.names.lookup y = some .local := by rfl) (hsw : swapsWith (.ListComp elt [⟨.Name x tpos, iter, [c], 0⟩] scope pos) (some (.Name y py)) spos.line X.env = pure true := by rfl) :
    AsgX X B ρ i0 (.Assign [.Name y py] (.ListComp elt [⟨.Name x tpos, iter, [c], 0⟩] scope pos) spos) (newL B X.K ((src.filter p).map f)) := by
  refine PS_wk (ps_setLc (own := [(x, j)]) (g := gName j) (tt := tTst (Z := Nat × D) B (fun z => ρ.set j (some (dat X.K z.2))) (fun z => src[z.1]? = some z.2) (fun z => is (p z.2))) (te := tElt (Z := Nat × D) B X.K (fun z => ρ.set j (some (dat X.K z.2))) (fun z => src[z.1]? = some z.2 ∧ p z.2 = true) (fun z w => w = f z.2)) hc hN hy hyl hsw (pi_list hi) hok hgn (fun s H C cl fp => pts_one (tst_of fun z hz => (hb s H C cl fp z.1 z.2 hz).1)) (fun s H C cl fp => elt_of fun z hz => x_sub ((hb s H C cl fp z.1 z.2 hz.1).2 hz.2) fun v H hv => ⟨_, rfl, hv⟩) hs) fun E σ H ⟨s, q⟩ => ⟨s, fun v H1 e1 hv => ?_⟩
  obtain ⟨rfl, hld, us, g1, g2⟩ := hv
  have s1 := s.mono e1
  refine ⟨l, rfl, ⟨us, g1.sq⟩, fun Dl hD => ?_⟩
  obtain ⟨hB, hDd⟩ := s1.fresh hD
  refine lc_list (K := X.K) (a := l) (xs := us) (LcF H1 X.K Dl d src p f) ⟨Ext.new hD, [], upd_same, DRl.nil⟩ (fun i H' _ L => (g1.ext L.1).sq) (fun i y H' hy L => ?_) (fun H' L => ?_)
  · obtain ⟨w, hw, hr⟩ := g2.getV hy
    refine ⟨wipe1 _ _ _, ?_⟩
    have hst := st_wipe (j := j) (s1.mono L.1) (R := dat X.K w) (hr.tk L.1.tk)
    refine ⟨(i, w), hw, hst, fun k H2 e2 hk => ?_⟩
    cases k with
    | true =>
      have hp : p w = true := hk.symm
      exact ⟨(i, w), ⟨hw, hp⟩, hst.mono e2, fun y H3 e3 ⟨w', hw', hy⟩ => lcF_yes hD hDd L (e2.trans e3) hw hp (by rw [← hw']; exact hy) hn⟩
    | false => exact lcF_no hDd L e2 hw hk.symm
  · obtain ⟨h0, vs, h1, h2⟩ := L
    rw [← g2.1, List.take_length] at h2
    exact q _ H' (e1.trans h0) ⟨Dl, hB, rfl, hDd, vs, h1, h2⟩
/-- y = [x for x in range(a, b) if c] -/
theorem as_lcR2F {lo : Nat} {hi' : Int} (i0 j : Nat) {x y : Str} {py spos : Pos} {scope : Scope} {tpos p2 p3 : Pos} (p : Nat → Bool) (hg : Gl X "range") (hm : X.mg "range" = none) (ha : EX X B ρ a (rI (lo : Int))) (hb' : EX X B ρ b (rI hi')) (hlo : (lo : Int) ≤ 2000) (hn : hi' < 2000 ∧ -(2 ^ 62) ≤ hi') (hN : X.N.Nodup) (hok : BlkOk X.N X.env.scope scope [(x, j)])
    (hgn : ∀ (s : Shared) (H : Hp) (C : Addr) (cl : List (Str × Addr)) (fp : List Addr), PG (X.blk s H scope (compEnvC scope cl C X.env) fp) (.Name x tpos) (gName j))
    (hb : ∀ (s : Shared) (H : Hp) (C : Addr) (cl : List (Str × Addr)) (fp : List Addr) (i : Nat), lo ≤ i → (i : Int) < hi' → TX (X.blk s H scope (compEnvC scope cl C X.env) fp) B (ρ.set j (some (rI (i : Int)))) c (is (p i)) ∧ EX (X.blk s H scope (compEnvC scope cl C X.env) fp) B (ρ.set j (some (rI (i : Int)))) elt (dat X.K (.i (i : Int))))
    (hc : X.calm = true := by rfl) (he : starEach [a, b] X.env = (false, eval a X.env) :: starEach [b] X.env := by rfl) (he2 : starEach [b] X.env = (false, eval b X.env) :: starEach [] X.env := by rfl) (hs : ∀ x, foldedSetIterable (.Call (.Name "range" p2) [a, b] [] p3) X.env x = pure x := by intro _; rfl)
    (hy : X.N[i0]? = some y := by rfl) (hyl : X.env.scope.names.lookup y = some .local := by rfl) (hsw : swapsWith (.ListComp elt [⟨.Name x tpos, .Call (.Name "range" p2) [a, b] [] p3, [c], 0⟩] scope pos) (some (.Name y py)) spos.line X.env = pure true := by rfl) :
    AsgX X B ρ i0 (.Assign [.Name y py] (.ListComp elt [⟨.Name x tpos, .Call (.Name "range" p2) [a, b] [] p3, [c], 0⟩] scope pos) spos) (newL B X.K (((List.range (hi' - lo).toNat).filter fun i => p (lo + i)).map fun i => D.i ((lo + i : Nat) : Int))) := by
  refine PS_wk (ps_setLc (own := [(x, j)]) (g := gName j) (tt := tTst (Z := Nat) B (fun i => ρ.set j (some (rI (i : Int)))) (fun i => lo ≤ i ∧ (i : Int) < hi') (fun i => is (p i))) (te := tElt (Z := Nat) B X.K (fun i => ρ.set j (some (rI (i : Int)))) (fun i => lo ≤ i ∧ (i : Int) < hi') (fun i w => w = .i (i : Int))) hc hN hy hyl hsw (pi_range2 hg hm (a_cons ha (a_cons hb' a_nil he2) he) (he.trans (by rw [he2]; rfl)) he2) hok hgn (fun s H C cl fp => pts_one (tst_of fun i h => (hb s H C cl fp i h.1 h.2).1)) (fun s H C cl fp => elt_of fun i h => x_sub (hb s H C cl fp i h.1 h.2).2 fun v H hv => ⟨_, rfl, hv⟩) hs) fun E σ H ⟨s, q⟩ => ⟨s, fun vs H1 e1 hv => ?_⟩
  obtain ⟨v, v2, rfl, hv1, hv2⟩ := hv.two
  obtain rfl : v = .int (lo : Int) := hv1
  obtain rfl : v2 = .int hi' := hv2
  have s1 := s.mono e1
  refine ⟨_, _, rfl, ⟨by omega, by omega, hn.2, by have := hn.1; omega⟩, fun Dl hD => ?_⟩
  obtain ⟨hB, hDd⟩ := s1.fresh hD
  have hrl : ∀ i, i < (hi' - lo).toNat → (List.range (hi' - lo).toNat)[i]? = some i := fun i h => by rw [List.getElem?_range h]
  have hrn : (List.range (hi' - lo).toNat).length < 2000 := by rw [List.length_range]; have := hn.1; omega
  refine lc_range (lo := (lo : Int)) (n := (hi' - lo).toNat) (LcF H1 X.K Dl d (List.range (hi' - lo).toNat) (fun i => p (lo + i)) (fun i => D.i ((lo + i : Nat) : Int))) ⟨Ext.new hD, [], upd_same, DRl.nil⟩ (fun i H' hlt L => ?_) (fun H' L => ?_)
  · refine ⟨wipe1 _ _ _, ?_⟩
    have hst := st_wipe (j := j) (s1.mono L.1) (R := rI ((lo + i : Nat) : Int)) (v := V.int ((lo + i : Nat) : Int)) rfl
    have ei : (lo : Int) + (i : Int) = ((lo + i : Nat) : Int) := by omega
    rw [ei]
    refine ⟨lo + i, ⟨by omega, by omega⟩, hst, fun k H2 e2 hk => ?_⟩
    cases k with
    | true =>
      exact ⟨lo + i, ⟨by omega, by omega⟩, hst.mono e2, fun y H3 e3 ⟨w', hw', hy⟩ => lcF_yes hD hDd L (e2.trans e3) (hrl i hlt) hk.symm (by rw [← hw']; exact hy) hrn⟩
    | false => exact lcF_no hDd L e2 (hrl i hlt) hk.symm
  · obtain ⟨h0, vs, h1, h2⟩ := L
    rw [List.take_of_length_le (by rw [List.length_range]; exact Nat.le_refl _)] at h2
    exact q _ H' (e1.trans h0) ⟨Dl, hB, rfl, hDd, vs, h1, h2⟩
end
end Cv

namespace Cv
open PySem PySem.Spec PyProof.Rows L2 RZ
section
variable {d : Option Addr} {X : Cx} {B : Hp} {ρ ρ' : Ro d} {a b c e iter elt : Expr} {es : List Expr} {R R' Ra Rb : Rp d} {Rs : List (Rp d)} {pos : Pos} {m n : Int} {st : Stmt} {rest body orelse : List Stmt} {Pre Mid : L2.St → Hp → Prop} {Po : Ends}
theorem eq_map {src ds : List D} {f : D → D} (h1 : ds.length = src.length) (h2 : ∀ (k : Nat) w, ds[k]? = some w → ∃ u, src[k]? = some u ∧ w = f u) : ds = src.map f := by
  apply List.ext_getElem?
  intro i
  rw [List.getElem?_map]
  by_cases hi : i < ds.length
  · obtain ⟨u, hu, e⟩ := h2 i _ (List.getElem?_eq_getElem hi)
    rw [List.getElem?_eq_getElem hi, hu, e]; rfl
  · rw [List.getElem?_eq_none (by omega), List.getElem?_eq_none (by omega)]; rfl
/-- [f(x) for x in xs], xs a list at l -/
theorem x_lcLM {src : List D} {l : Addr} (j : Nat) {x : Str} {scope : Scope} {tpos : Pos} (f : D → D) (hi : EX X B ρ iter (lstA X.K l src)) (hn : src.length < 2000) (hN : X.N.Nodup) (hok : BlkOk X.N X.env.scope scope [(x, j)])
    (hgn : ∀ (s : Shared) (H : Hp) (C : Addr) (cl : List (Str × Addr)) (fp : List Addr), PG (X.blk s H scope (compEnvC scope cl C X.env) fp) (.Name x tpos) (gName j))
    (hb : ∀ (s : Shared) (H : Hp) (C : Addr) (cl : List (Str × Addr)) (fp : List Addr) (i : Nat) (w : D), src[i]? = some w → EX (X.blk s H scope (compEnvC scope cl C X.env) fp) B (ρ.set j (some (dat X.K w))) elt (dat X.K (f w)))
    (hc : X.calm = true := by rfl) (hs : ∀ x, foldedSetIterable iter X.env x = pure x := by intro _; rfl) :
    EX X B ρ (.ListComp elt [⟨.Name x tpos, iter, [], 0⟩] scope pos) (newL B X.K (src.map f)) :=
  x_sub (x_lcL (P := fun i u => ∃ w, src[i]? = some w ∧ u = f w) j hi hn hN hok hgn (fun s H C cl fp i w hw => x_sub (hb s H C cl fp i w hw) fun v H hv => ⟨_, ⟨w, hw, rfl⟩, hv⟩) hc hs) fun v H ⟨ds, ⟨h1, h2⟩, hv⟩ => by
    rw [← eq_map h1 h2]; exact hv
/-- a new list is at least a list -/
theorem x_newLst {B' : Hp} {K : PySem.W.Frag} {ds : List D} (h : EX X B ρ e (newL B' K ds)) : EX X B ρ e (lst K ds) := x_sub h fun v H hv => newL_lst hv
/-- == of two lists of ints that are told -/
theorem x_eqI {P1 P2 : List Int → Prop} (hu : X.A.units + 64 < cLine) (ha : EX X B ρ a (newI B X.K P1)) (hb : EX X B ρ b (newI B X.K P2)) : EX X B ρ (.Compare a [.Eq] [b] pos) (exR (fun q => ∃ x y, P1 x ∧ P2 y ∧ q = decide (x = y)) rB) :=
  x_cmp (op_eqD hu) (nomark _) ha hb fun u v H σ Q _ hx' hy' q => by
    obtain ⟨_, ⟨xs, h1, rfl⟩, hx⟩ := hx'
    obtain ⟨_, ⟨ys, h2, rfl⟩, hy⟩ := hy'
    obtain ⟨l1, _, hx⟩ := newL_lst hx
    obtain ⟨l2, _, hy⟩ := newL_lst hy
    have sx : ∀ e ∈ xs.map D.i, Shp 0 e := fun e he => by obtain ⟨z, _, rfl⟩ := List.mem_map.mp he; exact .i _
    have sy : ∀ e ∈ ys.map D.i, Shp 0 e := fun e he => by obtain ⟨z, _, rfl⟩ := List.mem_map.mp he; exact .i _
    refine ⟨_, _, dpLs hx, dpLs hy, shpLs sx (by decide), shpLs sy (by decide), q _ H (Ext.refl H) ⟨_, ⟨xs, ys, h1, h2, ?_⟩, rfl⟩⟩
    have h3 := eqvLs sx sy
    have inj : xs.map D.i = ys.map D.i ↔ xs = ys := by
      constructor
      · intro e
        have := congrArg (List.map fun z => match z with | D.i n => n | _ => 0) e
        simpa [List.map_map, Function.comp_def] using this
      · intro e; rw [e]
    rw [inj] at h3
    cases hq : PyData.eqv (.list (pyL (xs.map D.i))) (.list (pyL (ys.map D.i))) with
    | true => exact (decide_eq_true (h3.mp hq)).symm
    | false => exact (decide_eq_false fun z => by rw [h3.mpr z] at hq; cases hq).symm
end
end Cv
namespace Cv
open PySem PySem.Spec PyProof.Rows L2 RZ
section
/-- a promise of results, that may know the heap at the start, and of errors -/
def spEH {α : Type} (d : Option Addr) (As : α → List (Rp d)) (Ok : α → Prop) (Rz : α → Hp → Rp d) (Bad : α → Prop) (c : Value) : Sp := fun vs H Q E => ∃ z : α, RsH (As z) vs H ∧ (∀ a, d = some a → Drw H a) ∧ (Ok z → ∀ v H', Ext d H H' → (Rz z H).p v H' → Q v H') ∧ (Bad z → ∀ H', Ext d H H' → E c none H') ∧ (Ok z ∨ Bad z)
variable {d : Option Addr} {Pg : Program} {w : World} {K : PySem.W.Frag} {mg : Str → Option Value} {base : Heap}
theorem fn_okEH {α : Type} {As : α → List (Rp d)} {Ok : α → Prop} {Rz : α → Hp → Rp d} {Bad : α → Prop} {c : Value} {x qual : Str} {sd : Stmt} {f : Addr} {fd : FuncData} {N ps : List Str} {k : Nat} (F : Fun K x qual sd f fd) (S : FnScope N ps (defScope sd)) (hl : ∀ z, (As z).length = ps.length) (hN : ps.length ≤ N.length)
    (body : ∀ (z : α) (H : Hp) (cdv : Value) (A : Around) (outer : List Env) (s : Shared) (E : XK), Room k (A.deeper (envOfC qual (defScope sd) s.heap.objs.size f cdv)) → (Bad z → ∀ H', Ext d H H' → E c none H') → (Ok z ∨ Bad z) →
      BX (cxOf (L2.CX Pg w) Pg w K mg base N qual (defScope sd) f cdv A outer s H E) (defBody sd) (St H (ro (As z) (N.length - (As z).length))) { nx := fun _ H' => Ok z ∧ Ext d H H' ∧ (Rz z H).p .non H', rt := fun v H' => Ok z ∧ Ext d H H' ∧ (Rz z H).p v H' }) : FnOk Pg w K mg base (L2.CX Pg w) (k + 1) f fd ps (spEH d As Ok Rz Bad c) := by
  refine fn_okX F S (fun vs H Q E ⟨z, h, _⟩ => by rw [h.len, hl]) fun vs H Q E h cdv A outer s hr => ?_
  obtain ⟨z, hz, dr, q, qe, ob⟩ := h
  refine ⟨_, _, st_start hz (by rw [hl]; exact hN) dr, body z H cdv A outer s E hr qe ob, ?_⟩
  exact ⟨fun σ' H' _ ⟨o, e1, h1⟩ => q o _ H' e1 h1, fun v H' _ ⟨o, e1, h1⟩ => q o v H' e1 h1, fun _ _ _ h => h.elim, fun _ _ _ h => h.elim⟩
end
end Cv

namespace Cv
open PySem PySem.Spec PyProof.Rows L2 RZ
section
variable {d : Option Addr} {X : Cx} {B : Hp} {ρ ρ' : Ro d} {a b c e iter elt : Expr} {es : List Expr} {R R' Ra Rb : Rp d} {Rs : List (Rp d)} {pos : Pos} {m n : Int} {st : Stmt} {rest body orelse : List Stmt} {Pre Mid : L2.St → Hp → Prop} {Po : Ends}
/-- what a slot holds, and beside it a list that has no name -/
def gh (R : Rp d) (K : PySem.W.Frag) (la : Addr) (ds : List D) : Rp d := ⟨fun v H => R.p v H ∧ (own (d := d) K la ds).p (.ref la) H, fun e ⟨h1, h2⟩ => ⟨R.st e h1, (own K la ds).st e h2⟩⟩
theorem ind_gh {R : Rp d} {K : PySem.W.Frag} {la l : Addr} {ds : List D} (h : Ind l R) (hne : la ≠ l) : Ind l (gh R K la ds) := fun v H xs ys hl ⟨h1, h2⟩ => ⟨h v H xs ys hl h1, ind_own hne _ H xs ys hl h2⟩
theorem gh_own {R : Rp d} {K : PySem.W.Frag} {la : Addr} {ds : List D} {v : V} {H : Hp} (h : (gh R K la ds).p v H) : (lstA (d := d) K la ds).p (.ref la) H := own_lstA h.2
/-- for x in a new list that has no name; the body may change lists of the def's own -/
theorem bx_forLg {α : Type} {ds : List D} (g j : Nat) {x : Str} {tpos : Pos} (ls : List Addr) (src : α → Addr) (P : Nat → α → Prop) (r : Nat → α → Ro d) (hg : ρ[g]? = some (some R)) (hls : ∀ l ∈ ls, Known l ρ) (hi : ∀ B' : Hp, EX X B' ρ iter (newL B' X.K ds))
    (h0 : ∀ la, B la = none → (∀ l' ∈ ls, la ≠ l') → ∀ σ H, St B (ρ.set g (some (gh R X.K la ds))) σ H → IS B (fun z => P 0 z ∧ src z = la) (r 0) σ H)
    (hl : ∀ i z, P i z → ∃ (k : Nat) (R : Rp d), (r i z)[k]? = some (some R) ∧ ∀ v H, R.p v H → (lstA (d := d) X.K (src z) ds).p (.ref (src z)) H)
    (hb : ∀ i w z, ds[i]? = some w → P i z → BX X body (St B ((r i z).set j (some (dat X.K w)))) (Lp Po (IS B (fun z' => P (i + 1) z' ∧ src z' = src z) (r (i + 1))) (IS B (P ds.length) (r ds.length)))) (h : BX X rest (IS B (P ds.length) (r ds.length)) Po)
    (hN : X.N.Nodup) (hp : PassesOwn (model X.prog X.w) X.A X.env X.xe) (hj : X.N[j]? = some x := by rfl) (hc : X.calm = true := by rfl) (hx : Loc X.env.scope x := by first | exact Or.inl rfl | exact Or.inr rfl)
    (hf : X.fn x = true ∨ X.env.scope.names.lookup x = some .local := by first | exact .inl rfl | exact .inr rfl | assumption) (hs : ∀ x, foldedSetIterable iter X.env x = pure x := by intro _; rfl) : BX X (.For (.Name x tpos) iter body [] pos :: rest) (St B ρ) Po := by
  refine bx_cons (Mid := IS B (P ds.length) (r ds.length)) ?_ h
  have hi' : PE X iter (fun σ H Q => St B ρ σ H ∧ ∀ v H', Ext d H H' → (newL (d := d) H X.K ds).p v H' → Q v H') := ⟨fun pins s σ H Q I ⟨st, q⟩ => (hi H).run pins s σ H Q I ⟨⟨Ext.refl H, st.dr, st.good⟩, q⟩⟩
  refine PS_wk (t := tFor (iList X.K fun σ H Q => St B ρ σ H ∧ ∀ v H', Ext d H H' → (newL (d := d) H X.K ds).p v H' → Q v H') (gName j) (fun E σ H => ∃ (z : Nat × D × α), ds[z.1]? = some z.2.1 ∧ P z.1 z.2.2 ∧ St B ((r z.1 z.2.2).set j (some (dat X.K z.2.1))) σ H ∧ Le H (Lp Po (IS B (fun z' => P (z.1 + 1) z' ∧ src z' = src z.2.2) (r (z.1 + 1))) (IS B (P ds.length) (r ds.length))) E))
    (ps_for hp hc (pi_list hi') (pg_name hN hj hx hf) ⟨fun pins s σ H E I ⟨⟨i, w, z⟩, hw, hz, q, l⟩ => (hb i w z hw hz).run pins s σ H E I ⟨q, l⟩⟩ hs) fun E σ H ⟨s, l⟩ => ⟨s, fun v H1 e1 hv => ?_⟩
  obtain ⟨la, hHa, rfl, hld, us, h1, h2⟩ := hv
  have s1 := s.mono e1
  have hBa : B la = none := by
    cases e : B la with
    | none => rfl
    | some o => have := s.ext.at e hld; rw [hHa] at this; cases this
  have hne : ∀ l' ∈ ls, la ≠ l' := fun l' hl' z => by
    obtain ⟨k, R0, hk, hR⟩ := hls l' hl'
    obtain ⟨v, _, hv⟩ := s.good.get hk
    exact hR v H hv (z ▸ hHa)
  have s2 : St B (ρ.set g (some (gh R X.K la ds))) σ H1 := by
    refine ⟨s1.ext, s1.dr, by simp [s1.good.1], fun k R0 e => ?_⟩
    by_cases hk : g = k
    · subst hk
      have hlt : g < ρ.length := (List.getElem?_eq_some_iff.mp hg).1
      rw [List.getElem?_set_self hlt] at e
      cases e
      obtain ⟨v, a, b⟩ := s1.good.get hg
      exact ⟨v, a, b, rfl, hld, us, h1, h2⟩
    · rw [List.getElem?_set_ne hk] at e
      exact s1.good.2 k R0 e
  refine ⟨la, rfl, ⟨us, SqL.of h1⟩, ?_⟩
  have key : ∀ i σ H, IS B (fun z => P i z ∧ src z = la) (r i) σ H → ∃ vs, SqL X.K H la vs ∧ DRl X.K H ds vs := fun i σ H ⟨z, ⟨hz, hsz⟩, q⟩ => by
    obtain ⟨k, R0, hk, hR⟩ := hl i z hz
    obtain ⟨v, _, g0⟩ := q.good.get hk
    obtain ⟨_, _, vs, a1, a2⟩ := hR v H g0
    rw [hsz] at a1
    exact ⟨vs, a1.sq, a2⟩
  refine ⟨fun i m σ H => m = ds.length - i ∧ i ≤ ds.length ∧ Tk H1 H ∧ IS B (fun z => P i z ∧ src z = la) (r i) σ H, ⟨ds.length, rfl, Nat.zero_le _, Tk.refl _, h0 la hBa hne _ _ s2⟩, ?_⟩
  rintro i m σ H ⟨rfl, hi', k, q⟩
  obtain ⟨vs, a1, a2⟩ := key i σ H q
  by_cases hlt : i < ds.length
  · have hv : i < vs.length := by rw [← a2.1]; exact hlt
    refine .inr ⟨⟨vs, vs[i], a1, List.getElem?_eq_getElem hv⟩, fun σ' H' => Tk H1 H' ∧ IS B (fun z => P (i + 1) z ∧ src z = la) (r (i + 1)) σ' H', fun σ' H' p' => ⟨ds.length - (i + 1), by omega, rfl, hlt, p'.1, p'.2⟩, fun x H' y => ?_⟩
    obtain ⟨rfl, y⟩ := y
    obtain ⟨w, hw, hr⟩ := a2.getV (y vs a1)
    obtain ⟨z, ⟨hz, hsz⟩, q⟩ := q
    refine ⟨(i, w, z), hw, hz, ⟨q.ext, q.dr, q.good.set j hr⟩, ?_⟩
    refine ⟨fun σ' H' k' ⟨z', ⟨p', e'⟩, q'⟩ => ⟨k.trans k', z', ⟨p', e'.trans hsz⟩, q'⟩, fun v H' k' q' => l.rt v H' ((e1.tk.trans k).trans k') q', fun σ' H' k' q' => l.nx σ' H' ((e1.tk.trans k).trans k') q', fun σ' H' k' ⟨z', ⟨p', e'⟩, q'⟩ => ⟨k.trans k', z', ⟨p', e'.trans hsz⟩, q'⟩⟩
  · have e : i = ds.length := by omega
    subst e
    obtain ⟨z, ⟨hz, _⟩, q⟩ := q
    exact .inl ⟨⟨vs, a1, by rw [← a2.1]; exact Nat.le_refl _⟩, l.nx σ H (e1.tk.trans k) ⟨z, hz, q⟩⟩
/-- [f(x) for x in range(n) if c], the test told outright -/
theorem x_lcRX {k : Nat} (j : Nat) {x : Str} {scope : Scope} {tpos p2 p3 : Pos} (p : Nat → Bool) (f : Nat → D) (hg : Gl X "range") (hm : X.mg "range" = none) (hi : EX X B ρ e (rI (k : Int))) (hn : k < 2000) (hN : X.N.Nodup) (hok : BlkOk X.N X.env.scope scope [(x, j)])
    (hgn : ∀ (s : Shared) (H : Hp) (C : Addr) (cl : List (Str × Addr)) (fp : List Addr), PG (X.blk s H scope (compEnvC scope cl C X.env) fp) (.Name x tpos) (gName j))
    (hb : ∀ (s : Shared) (H : Hp) (C : Addr) (cl : List (Str × Addr)) (fp : List Addr) (i : Nat), i < k → TX (X.blk s H scope (compEnvC scope cl C X.env) fp) B (ρ.set j (some (rI (i : Int)))) c (is (p i)) ∧ EX (X.blk s H scope (compEnvC scope cl C X.env) fp) B (ρ.set j (some (rI (i : Int)))) elt (dat X.K (f i)))
    (hc : X.calm = true := by rfl) (he : starEach [e] X.env = [(false, eval e X.env)] := by rfl) (hs : ∀ x, foldedSetIterable (.Call (.Name "range" p2) [e] [] p3) X.env x = pure x := by intro _; rfl) :
    EX X B ρ (.ListComp elt [⟨.Name x tpos, .Call (.Name "range" p2) [e] [] p3, [c], 0⟩] scope pos) (newL B X.K (((List.range k).filter p).map f)) :=
  x_sub (x_lcRF (P := fun i q => q = p i) (f := f) j hg hm hi ⟨by omega, by omega⟩ hN hok hgn (fun s H C cl fp i h => hb s H C cl fp i (by omega)) hc he hs) fun v H ⟨ds, ⟨p', h1, h2⟩, hv⟩ => by
    have ek : ((k : Int)).toNat = k := by omega
    rw [ek] at h1 h2
    rw [h2, filt_same h1] at hv
    exact hv
end
end Cv

namespace Cv
open PySem PySem.Spec PyProof.Rows L2 RZ
theorem look_relabel (x : Str) (env : Env) : ∀ (l : List (Str × NameKind)), (l.lookup x = some .cell ∨ l.lookup x = some .free) → ((l.map fun y => match y with | (n, k) => if (k == NameKind.free && env.scope.kind == ScopeKind.function && env.kindOf n == some NameKind.cell) = true then (n, NameKind.cell) else (n, k)).lookup x = some .cell ∨ (l.map fun y => match y with | (n, k) => if (k == NameKind.free && env.scope.kind == ScopeKind.function && env.kindOf n == some NameKind.cell) = true then (n, NameKind.cell) else (n, k)).lookup x = some .free)
  | [], h => by rcases h with h | h <;> cases h
  | (n, k) :: l, h => by
    rw [List.map_cons]
    by_cases e : x = n
    · subst e
      have e1 : List.lookup x ((x, k) :: l) = some k := by simp [List.lookup]
      rw [e1] at h
      dsimp only
      split
      · left; simp [List.lookup]
      · rcases h with h | h
        · left; cases h; simp [List.lookup]
        · right; cases h; simp [List.lookup]
    · have hb : (x == n) = false := by simpa using e
      have e1 : List.lookup x ((n, k) :: l) = List.lookup x l := by simp [List.lookup, hb]
      rw [e1] at h
      have ih := look_relabel x env l h
      dsimp only
      split
      · rw [List.lookup_cons, hb]; exact ih
      · rw [List.lookup_cons, hb]; exact ih
/-- a comprehension within a comprehension -/
theorem blkOk_in {N : List Str} {sc scope : Scope} {own : List (Str × Nat)} {env : Env} (h : BlkOk N sc scope own) : BlkOk N (relabel sc env) scope own :=
  ⟨h.kind, h.uniq, h.ix, fun y hy hf => look_relabel y.1 env sc.names (h.free y hy hf), h.own⟩
section
variable {d : Option Addr} {X : Cx} {B : Hp} {ρ ρ' : Ro d} {a b c e iter elt : Expr} {es : List Expr} {R R' Ra Rb : Rp d} {Rs : List (Rp d)} {pos : Pos} {m n : Int} {st : Stmt} {rest body orelse : List Stmt} {Pre Mid : L2.St → Hp → Prop} {Po : Ends}
/-- [[..] for x in xs], xs a list of data; each time a new list of ints -/
theorem x_lcLNE {S : List D → Prop} (j : Nat) {x : Str} {scope : Scope} {tpos : Pos} (g : D → List Int) (hi : EX X B ρ iter (newE B X.K S)) (hn : ∀ src, S src → src.length < 2000) (hN : X.N.Nodup) (hok : BlkOk X.N X.env.scope scope [(x, j)])
    (hgn : ∀ (s : Shared) (H : Hp) (C : Addr) (cl : List (Str × Addr)) (fp : List Addr), PG (X.blk s H scope (compEnvC scope cl C X.env) fp) (.Name x tpos) (gName j))
    (hb : ∀ (s : Shared) (H : Hp) (C : Addr) (cl : List (Str × Addr)) (fp : List Addr) (i : Nat) (w : D) (src : List D) (B' : Hp), S src → src[i]? = some w → EX (X.blk s H scope (compEnvC scope cl C X.env) fp) B' (ρ.set j (some (dat X.K w))) elt (newL B' X.K ((g w).map D.i)))
    (hc : X.calm = true := by rfl) (hs : ∀ x, foldedSetIterable iter X.env x = pure x := by intro _; rfl) :
    EX X B ρ (.ListComp elt [⟨.Name x tpos, iter, [], 0⟩] scope pos) (newLL B X.K fun T => ∃ src, S src ∧ T.map (·.2) = src.map g) := by
  refine PE_wk (pe_lc (own := [(x, j)]) (g := gName j) (tt := tYes) (te := tEltN (Z := List D × Nat × D) B X.K (fun z => ρ.set j (some (dat X.K z.2.2))) (fun z => S z.1 ∧ z.1[z.2.1]? = some z.2.2) (fun z => g z.2.2)) hc hN (pi_list hi) hok hgn (fun _ _ _ _ _ => pts_nil) (fun s H C cl fp => eltN_of fun z hz B' => hb s H C cl fp z.2.1 z.2.2 z.1 B' hz.1 hz.2) hs) fun σ H Q ⟨s, q⟩ => ⟨s, fun v H1 e1 hv => ?_⟩
  obtain ⟨src, hS, l, _, rfl, hld, us, g1, g2⟩ := hv
  have hn := hn src hS
  have s1 := s.mono e1
  refine ⟨l, rfl, ⟨us, SqL.of g1⟩, fun Dl hD => ?_⟩
  obtain ⟨hB, hDd⟩ := s1.fresh hD
  refine lc_list (K := X.K) (a := l) (xs := us) (LcL H1 X.K Dl d B fun k => ((src[k]?).map g).getD []) ⟨Ext.new hD, [], [], upd_same, rfl, rfl, fun j t u h => by cases h⟩ (fun i H' _ L => SqL.of (L.1.at g1 hld)) (fun i y H' hy L => ?_) (fun H' L => ?_)
  · obtain ⟨w, hw, hr⟩ := g2.getV hy
    refine ⟨wipe1 _ _ _, ?_⟩
    refine ⟨(src, i, w), ⟨hS, hw⟩, st_wipe (s1.mono L.1) (R := dat X.K w) (hr.tk L.1.tk), fun v H2 e2 hv => ?_⟩
    obtain ⟨a, ha, rfl, had, ws, q1, q2⟩ := hv
    obtain ⟨h0, vs, T, p1, p2, p3, p4⟩ := L
    have p1' := e2.at p1 hDd
    have haD : a ≠ Dl := fun z => by rw [z, p1] at ha; cases ha
    have hBa : B a = none := by
      cases eb : B a with
      | none => rfl
      | some o =>
        have := (s1.mono h0).ext.at eb had
        rw [ha] at this; cases this
    have hlen : vs.length < 2000 := by
      have := (List.getElem?_eq_some_iff.mp hw).1
      omega
    refine ⟨vs, p1', Nat.lt_of_lt_of_le hlen (by decide), (h0.trans e2).mut hD hDd, vs ++ [.ref a], T ++ [(a, g w)], upd_same, by simp [p2], by simp [p3], fun k t u ht hu => ?_⟩
    by_cases hk : k < T.length
    · rw [List.getElem?_append_left hk] at ht
      rw [List.getElem?_append_left (by omega)] at hu
      obtain ⟨r1, r2, r3, r4⟩ := p4 k t u ht hu
      exact ⟨(r1.ext e2).upd p1' r4, r2, r3, r4⟩
    · have hk' : k = T.length := by
        have := (List.getElem?_eq_some_iff.mp ht).1
        simp at this; omega
      subst hk'
      rw [List.getElem?_append_right (Nat.le_refl _), Nat.sub_self] at ht
      rw [List.getElem?_append_right (by omega), p2, Nat.sub_self] at hu
      cases ht; cases hu
      refine ⟨⟨rfl, had, ws, by rw [upd_ne haD]; exact q1, q2.tk (Tk.lst p1')⟩, ?_, hBa, haD⟩
      show g w = ((src[T.length]?).map g).getD []
      rw [p3, hw]; rfl
  · obtain ⟨h0, vs, T, p1, p2, p3, p4⟩ := L
    have hul : us.length = src.length := g2.1.symm
    refine q _ H' (e1.trans h0) ⟨(Dl, T), ⟨hB, ⟨src, hS, ?_⟩, fun t ht => ?_⟩, rfl, hDd, vs, p1, p2, fun k t u ht hu => (p4 k t u ht hu).1⟩
    · apply List.ext_getElem?
      intro k
      rw [List.getElem?_map, List.getElem?_map]
      by_cases hk : k < T.length
      · have ht : T[k]? = some T[k] := List.getElem?_eq_getElem hk
        have hu : vs[k]? = some (vs[k]'(by omega)) := List.getElem?_eq_getElem _
        have : T[k].2 = ((src[k]?).map g).getD [] := (p4 k _ _ ht hu).2.1
        have hks : k < src.length := by omega
        rw [ht, List.getElem?_eq_getElem hks]
        rw [List.getElem?_eq_getElem hks] at this
        exact congrArg some this
      · have hk2 : src.length ≤ k := by omega
        rw [List.getElem?_eq_none (show List.length T ≤ k by omega), List.getElem?_eq_none hk2]; rfl
    · obtain ⟨k, hk⟩ := List.getElem?_of_mem ht
      have hkl : k < List.length T := (List.getElem?_eq_some_iff.mp hk).1
      exact (p4 k t _ hk (List.getElem?_eq_getElem (show k < vs.length by omega))).2.2.1
end
end Cv

namespace Cv
open PySem PySem.Spec PyProof.Rows L2 RZ
section
variable {d : Option Addr} {X : Cx} {B : Hp} {ρ ρ' : Ro d} {a b c e iter elt : Expr} {es : List Expr} {R R' Ra Rb : Rp d} {Rs : List (Rp d)} {pos : Pos} {m n : Int} {st : Stmt} {rest body orelse : List Stmt} {Pre Mid : L2.St → Hp → Prop} {Po : Ends}
/-- [[..] for x in xs], xs a list of lists of ints; each time a new list of ints -/
theorem x_lcHN {T : LlT} {l : Addr} (j : Nat) {x : Str} {scope : Scope} {tpos : Pos} (g : List Int → List Int) (hi : EX X B ρ iter (llR X.K l T)) (hn : T.length < 2000) (hN : X.N.Nodup) (hok : BlkOk X.N X.env.scope scope [(x, j)])
    (hgn : ∀ (s : Shared) (H : Hp) (C : Addr) (cl : List (Str × Addr)) (fp : List Addr), PG (X.blk s H scope (compEnvC scope cl C X.env) fp) (.Name x tpos) (gName j))
    (hb : ∀ (s : Shared) (H : Hp) (C : Addr) (cl : List (Str × Addr)) (fp : List Addr) (i : Nat) (t : Addr × List Int) (B' : Hp), T[i]? = some t → EX (X.blk s H scope (compEnvC scope cl C X.env) fp) B' (ρ.set j (some (own X.K t.1 (t.2.map D.i)))) elt (newL B' X.K ((g t.2).map D.i)))
    (hc : X.calm = true := by rfl) (hs : ∀ x, foldedSetIterable iter X.env x = pure x := by intro _; rfl) :
    EX X B ρ (.ListComp elt [⟨.Name x tpos, iter, [], 0⟩] scope pos) (newLL B X.K fun T' => T'.map (·.2) = T.map fun t => g t.2) := by
  refine PE_wk (pe_lc (own := [(x, j)]) (g := gName j) (tt := tYes) (te := tEltN (Z := Nat × (Addr × List Int)) B X.K (fun z => ρ.set j (some (own X.K z.2.1 (z.2.2.map D.i)))) (fun z => T[z.1]? = some z.2) (fun z => g z.2.2)) hc hN (pi_list hi) hok hgn (fun _ _ _ _ _ => pts_nil) (fun s H C cl fp => eltN_of fun z hz B' => hb s H C cl fp z.1 z.2 B' hz) hs) fun σ H Q ⟨s, q⟩ => ⟨s, fun v H1 e1 hv => ?_⟩
  obtain ⟨rfl, hld, us, g1, g2, g3⟩ := hv
  have s1 := s.mono e1
  refine ⟨l, rfl, ⟨us, SqL.of g1⟩, fun Dl hD => ?_⟩
  obtain ⟨hB, hDd⟩ := s1.fresh hD
  refine lc_list (K := X.K) (a := l) (xs := us) (LcL H1 X.K Dl d B fun k => ((T[k]?).map fun t => g t.2).getD []) ⟨Ext.new hD, [], [], upd_same, rfl, rfl, fun j t u h => by cases h⟩ (fun i H' _ L => SqL.of (L.1.at g1 hld)) (fun i y H' hy L => ?_) (fun H' L => ?_)
  · have hiT : i < T.length := by rw [← g2]; exact (List.getElem?_eq_some_iff.mp hy).1
    have hw : T[i]? = some T[i] := List.getElem?_eq_getElem hiT
    obtain ⟨rfl, p2', ws', p3', p4'⟩ := (g3 i _ y hw hy).ext L.1
    refine ⟨wipe1 _ _ _, ?_⟩
    refine ⟨(i, T[i]), hw, st_wipe (s1.mono L.1) (R := own X.K T[i].1 (T[i].2.map D.i)) ⟨rfl, p2', ws', p3', p4'⟩, fun v H2 e2 hv => ?_⟩
    obtain ⟨a, ha, rfl, had, ws, q1, q2⟩ := hv
    obtain ⟨h0, vs, T', p1, p2, p3, p4⟩ := L
    have p1' := e2.at p1 hDd
    have haD : a ≠ Dl := fun z => by rw [z, p1] at ha; cases ha
    have hBa : B a = none := by
      cases eb : B a with
      | none => rfl
      | some o =>
        have := (s1.mono h0).ext.at eb had
        rw [ha] at this; cases this
    have hlen : vs.length < 2000 := by omega
    refine ⟨vs, p1', Nat.lt_of_lt_of_le hlen (by decide), (h0.trans e2).mut hD hDd, vs ++ [.ref a], T' ++ [(a, g T[i].2)], upd_same, by simp [p2], by simp [p3], fun k t u ht hu => ?_⟩
    by_cases hk : k < T'.length
    · rw [List.getElem?_append_left hk] at ht
      rw [List.getElem?_append_left (by omega)] at hu
      obtain ⟨r1, r2, r3, r4⟩ := p4 k t u ht hu
      exact ⟨(r1.ext e2).upd p1' r4, r2, r3, r4⟩
    · have hk' : k = T'.length := by
        have := (List.getElem?_eq_some_iff.mp ht).1
        simp at this; omega
      subst hk'
      rw [List.getElem?_append_right (Nat.le_refl _), Nat.sub_self] at ht
      rw [List.getElem?_append_right (by omega), p2, Nat.sub_self] at hu
      cases ht; cases hu
      refine ⟨⟨rfl, had, ws, by rw [upd_ne haD]; exact q1, q2.tk (Tk.lst p1')⟩, ?_, hBa, haD⟩
      show g T[i].2 = ((T[T'.length]?).map fun t => g t.2).getD []
      rw [p3, hw]; rfl
  · obtain ⟨h0, vs, T', p1, p2, p3, p4⟩ := L
    refine q _ H' (e1.trans h0) ⟨(Dl, T'), ⟨hB, ?_, fun t ht => ?_⟩, rfl, hDd, vs, p1, p2, fun k t u ht hu => (p4 k t u ht hu).1⟩
    · apply List.ext_getElem?
      intro k
      rw [List.getElem?_map, List.getElem?_map]
      by_cases hk : k < T'.length
      · have ht : T'[k]? = some T'[k] := List.getElem?_eq_getElem hk
        have hu : vs[k]? = some (vs[k]'(by omega)) := List.getElem?_eq_getElem _
        have : T'[k].2 = ((T[k]?).map fun t => g t.2).getD [] := (p4 k _ _ ht hu).2.1
        have hks : k < T.length := by omega
        rw [ht, List.getElem?_eq_getElem hks]
        rw [List.getElem?_eq_getElem hks] at this
        exact congrArg some this
      · have hk2 : T.length ≤ k := by omega
        rw [List.getElem?_eq_none (show List.length T' ≤ k by omega), List.getElem?_eq_none hk2]; rfl
    · obtain ⟨k, hk⟩ := List.getElem?_of_mem ht
      have hkl : k < List.length T' := (List.getElem?_eq_some_iff.mp hk).1
      exact (p4 k t _ hk (List.getElem?_eq_getElem (show k < vs.length by omega))).2.2.1
/-- [[]] -/
theorem x_ll1 {p2 : Pos} : EX X B ρ (.List [.List [] p2] pos) (newLL B X.K fun T => ∃ r, T = [(r, [])]) := by
  refine PE_wk (pe_lst (a_cons (x_lst (ds := []) a_nil) a_nil)) fun σ H Q ⟨s, q⟩ => ⟨s, fun vs H1 e1 hv => ?_⟩
  obtain ⟨v, rfl, hv'⟩ := hv.one
  obtain ⟨r, hBr, rfl, hrd, us, h1, h2⟩ := hv'
  refine ⟨by show 1 ≤ sizeLine; decide, fun p hp => q _ _ (e1.trans (Ext.new hp)) ?_⟩
  obtain ⟨hB, hpd⟩ := (s.mono e1).fresh hp
  have hne : r ≠ p := fun z => by rw [z, hp] at h1; cases h1
  refine ⟨(p, [(r, [])]), ⟨hB, ⟨r, rfl⟩, fun t ht => by rw [List.mem_singleton.mp ht]; exact hBr⟩, rfl, hpd, _, upd_same, rfl, fun j t u ht hu => ?_⟩
  cases j with
  | zero =>
    cases ht; cases hu
    exact ⟨rfl, hrd, us, by rw [upd_ne hne]; exact h1, h2.tk (Ext.new (d := d) hp).tk⟩
  | succ j => simp at ht
/-- xs + ys, lists of lists of ints -/
theorem x_catLL {l : Addr} {T : LlT} {P : LlT → Prop} (ha : EX X B ρ a (llR X.K l T)) (hT : ∀ t ∈ T, B t.1 = none) (hb : EX X B ρ b (newLL B X.K P)) (hl : ∀ T', P T' → T.length + T'.length ≤ 1000) : EX X B ρ (.BinOp a .Add b pos) (newLL B X.K fun T2 => ∃ T', P T' ∧ T2 = T ++ T') :=
  x_op2 op_cat ha hb fun x y H σ Q s hx hy q => by
    obtain ⟨rfl, hd1, us, h1, h2, h3⟩ := hx
    obtain ⟨⟨l2, T'⟩, ⟨hB2, hP, hT'⟩, rfl, hd2, us2, g1, g2, g3⟩ := hy
    dsimp only at hB2 hP hT' g1 g2 g3
    refine ⟨l, l2, us, us2, rfl, rfl, h1, g1, by rw [h2, g2]; exact Nat.le_of_lt (small1000 (hl T' hP)), fun p hp => q _ _ (Ext.new hp) ?_⟩
    obtain ⟨hB, hd⟩ := s.fresh hp
    refine ⟨(p, T ++ T'), ⟨hB, ⟨T', hP, rfl⟩, fun t ht => ?_⟩, rfl, hd, us ++ us2, upd_same, by rw [List.length_append, List.length_append, h2, g2], fun j t u ht hu => ?_⟩
    · rcases List.mem_append.mp ht with ht | ht
      · exact hT t ht
      · exact hT' t ht
    · by_cases hj : j < T.length
      · rw [List.getElem?_append_left hj] at ht
        rw [List.getElem?_append_left (by omega)] at hu
        exact (h3 j t u ht hu).ext (Ext.new hp)
      · rw [List.getElem?_append_right (by omega)] at ht
        rw [List.getElem?_append_right (by omega)] at hu
        rw [h2] at hu
        exact (g3 _ t u ht hu).ext (Ext.new hp)
/-- what is only read: a list of lists of ints -/
def anyLL (K : PySem.W.Frag) (P : LlT → Prop) : Rp d := exR (fun z : Addr × LlT => P z.2) fun z => llR K z.1 z.2
theorem newLL_any {B' : Hp} {K : PySem.W.Frag} {P : LlT → Prop} {v : V} {H : Hp} (h : (newLL (d := d) B' K P).p v H) : (anyLL (d := d) K P).p v H := by
  obtain ⟨z, ⟨_, h1, _⟩, h2⟩ := h
  exact ⟨z, h1, h2⟩
theorem x_sortedAL {l : Addr} {T : LlT} {p : Pos} (hg : Gl X "sorted") (hm : X.mg "sorted" = none) (hu : X.A.units + 64 < cLine) (h : EX X B ρ e (llR X.K l T)) (hn : T.length ≤ 1000) (he : starEach [e] X.env = (false, eval e X.env) :: starEach [] X.env := by rfl) (hpl : (backTo pos (starEach [] X.env)).any (·.1) = false := by rfl) :
    EX X B ρ (.Call (.Name "sorted" p) [e] [] pos) (anyLL X.K fun T' => T' = T.mergeSort leL) :=
  PE_wk (pe_callB (cr_sortedLL hu) hg hm (by decide +kernel) (a_cons h a_nil he) (by decide) (by decide) he hpl) fun σ H Q ⟨s, q⟩ => ⟨s, fun vs H1 e1 hv => by
    obtain ⟨v, rfl, hv'⟩ := hv.one
    obtain ⟨rfl, hd, us, h1, h2, h3⟩ := hv'
    obtain rfl := ll_vals h2 h3
    have h4 : ∀ t ∈ T, llP X.K d H1 t (.ref t.1) := fun t ht => by
      obtain ⟨j, hj⟩ := List.getElem?_of_mem ht
      exact h3 j t _ hj (by rw [List.getElem?_map, hj]; rfl)
    refine ⟨l, T, rfl, SqL.of h1, fun t ht => ?_, hn, fun D hD => ?_⟩
    · obtain ⟨_, _, ws, g1, g2⟩ := h4 t ht
      obtain rfl := g2.ints
      exact SqL.of g1
    · obtain ⟨hB2, hDd⟩ := (s.mono e1).fresh hD
      refine q _ _ (e1.trans (Ext.new hD)) ⟨(D, T.mergeSort leL), rfl, rfl, hDd, _, upd_same, by rw [List.length_map], fun j t u ht hu => ?_⟩
      rw [List.getElem?_map, ht] at hu
      cases hu
      have := h4 t (List.mem_mergeSort.mp (List.mem_of_getElem? ht))
      exact this.ext (Ext.new hD)⟩
def iLs (ns : List Int) : PyData := .list (pyL (ns.map D.i))
def llPy (S : List (List Int)) : PyData := .list (S.map iLs)
theorem iLs_lay (ns : List Int) : (iLs ns).canLay0 = true ∧ (iLs ns).depth ≤ 1 := by
  obtain ⟨h1, h2⟩ := shpL (k := 0) (xs := ns.map D.i) fun e he => by
    obtain ⟨z, _, rfl⟩ := List.mem_map.mp he
    exact (Shp.i z).lay
  exact ⟨by simpa [iLs, PyData.canLay0] using h1, by simpa [iLs, PyData.depth] using h2⟩
theorem llPy_lay : ∀ S : List (List Int), PyData.canLayAll0 (S.map iLs) = true ∧ PyData.depthAll (S.map iLs) ≤ 1
  | [] => ⟨by simp [PyData.canLayAll0], by simp [PyData.depthAll]⟩
  | x :: S => by
    obtain ⟨h1, h2⟩ := llPy_lay S
    obtain ⟨h3, h4⟩ := iLs_lay x
    exact ⟨by simp only [List.map_cons, PyData.canLayAll0, h1, h3, Bool.and_self], by simp only [List.map_cons, PyData.depthAll]; exact Nat.max_le.mpr ⟨h4, h2⟩⟩
theorem llPy_shaped (S : List (List Int)) : SeqAt.shaped (llPy S) = true := by
  obtain ⟨h1, h2⟩ := llPy_lay S
  unfold SeqAt.shaped llPy
  have e1 : (PyData.list (S.map iLs)).canLay0 = true := by simpa [PyData.canLay0] using h1
  have e2 : (PyData.list (S.map iLs)).depth ≤ 64 := by
    have : (PyData.list (S.map iLs)).depth ≤ 1 + 1 := by simpa [PyData.depth] using h2
    omega
  rw [e1, Bool.true_and]
  exact decide_eq_true e2
theorem map_i_inj {xs ys : List Int} (e : xs.map D.i = ys.map D.i) : xs = ys := by
  have := congrArg (List.map fun z => match z with | D.i n => n | _ => 0) e
  simpa [List.map_map, Function.comp_def] using this
theorem iLs_eqv (xs ys : List Int) : PyData.eqv (iLs xs) (iLs ys) = true ↔ xs = ys := by
  have sx : ∀ zs : List Int, ∀ e ∈ zs.map D.i, Shp 0 e := fun zs e he => by obtain ⟨z, _, rfl⟩ := List.mem_map.mp he; exact .i _
  unfold iLs
  rw [eqvLs (sx xs) (sx ys)]
  exact ⟨map_i_inj, fun e => by rw [e]⟩
theorem llPy_eqv : ∀ S U : List (List Int), PyData.eqvAll (S.map iLs) (U.map iLs) = true ↔ S = U
  | [], [] => by simp [PyData.eqvAll]
  | [], _ :: _ => by simp [PyData.eqvAll]
  | _ :: _, [] => by simp [PyData.eqvAll]
  | x :: S, y :: U => by
    simp only [List.map_cons, PyData.eqvAll, Bool.and_eq_true, iLs_eqv, llPy_eqv S U, List.cons.injEq]
theorem dpLL {K : PySem.W.Frag} {l : Addr} {T : LlT} {v : V} {H : Hp} (h : (llR (d := d) K l T).p v H) : Dp K H v (llPy (T.map (·.2))) := by
  obtain ⟨rfl, hd, us, h1, h2, h3⟩ := h
  refine .lst (SqL.of h1) ?_
  have : ∀ {T : LlT} {us : List V}, us.length = T.length → (∀ (j : Nat) t u, T[j]? = some t → us[j]? = some u → llP K d H t u) → DpAll K H us ((T.map (·.2)).map iLs) := fun {T} => by
    induction T with
    | nil =>
      intro us hl _
      cases us with
      | nil => exact .nil
      | cons u us => simp at hl
    | cons t T ih =>
      intro us hl hg
      cases us with
      | nil => simp at hl
      | cons u us =>
        obtain ⟨rfl, _, ws, g1, g2⟩ := hg 0 t u rfl rfl
        refine .cons (.lst (SqL.of g1) (dpAll_of g2.1 fun i e v a b => dp_of (g2.2 i e v a b))) (ih (by simpa using hl) fun j t' u' a b => hg (j + 1) t' u' a b)
  exact this h2 h3
theorem x_eqLL {P1 P2 : LlT → Prop} (hu : X.A.units + 64 < cLine) (ha : EX X B ρ a (anyLL X.K P1)) (hb : EX X B ρ b (anyLL X.K P2)) : EX X B ρ (.Compare a [.Eq] [b] pos) (exR (fun q => ∃ T1 T2, P1 T1 ∧ P2 T2 ∧ (q = true ↔ T1.map (·.2) = T2.map (·.2))) rB) :=
  x_cmp (op_eqD hu) (nomark _) ha hb fun u v H σ Q _ ⟨z1, p1, hx⟩ ⟨z2, p2, hy⟩ q => ⟨_, _, dpLL hx, dpLL hy, llPy_shaped _, llPy_shaped _, q _ H (Ext.refl H) ⟨_, ⟨z1.2, z2.2, p1, p2, by
    have := llPy_eqv (z1.2.map (·.2)) (z2.2.map (·.2))
    simpa [llPy, PyData.eqv] using this⟩, rfl⟩⟩
def tEltHP (B : Hp) (K : PySem.W.Frag) (ρ : Ro d) (j : Nat) (P : LlT → Prop) : TE := fun σ H Q => ∃ z : LlT × Nat × (Addr × List Int), P z.1 ∧ z.1[z.2.1]? = some z.2.2 ∧ St B (ρ.set j (some (own K z.2.2.1 (z.2.2.2.map D.i)))) σ H ∧ ∀ v H', Ext d H H' → v = V.ref z.2.2.1 → Q v H'
/-- y = [x for x in xs if c], xs a list of lists of ints -/
theorem as_lcHF {T : LlT} {l : Addr} (i0 j : Nat) {x y : Str} {py spos : Pos} {scope : Scope} {tpos : Pos} (p : Addr × List Int → Bool) (hi : EX X B ρ iter (llR X.K l T)) (hn : T.length < 2000) (hN : X.N.Nodup) (hok : BlkOk X.N X.env.scope scope [(x, j)])
    (hgn : ∀ (s : Shared) (H : Hp) (C : Addr) (cl : List (Str × Addr)) (fp : List Addr), PG (X.blk s H scope (compEnvC scope cl C X.env) fp) (.Name x tpos) (gName j))
    (hb : ∀ (s : Shared) (H : Hp) (C : Addr) (cl : List (Str × Addr)) (fp : List Addr) (i : Nat) (t : Addr × List Int), T[i]? = some t → TX (X.blk s H scope (compEnvC scope cl C X.env) fp) B (ρ.set j (some (own X.K t.1 (t.2.map D.i)))) c (is (p t)) ∧ EX (X.blk s H scope (compEnvC scope cl C X.env) fp) B (ρ.set j (some (own X.K t.1 (t.2.map D.i)))) elt (own X.K t.1 (t.2.map D.i)))
    (hc : X.calm = true := by rfl) (hs : ∀ x, foldedSetIterable iter X.env x = pure x := by intro _; rfl)
    (hy0 : X.N[i0]? = some y := by rfl) (hyl : X.env.scope.names.lookup y = some .local := by rfl) (hsw : swapsWith (.ListComp elt [⟨.Name x tpos, iter, [c], 0⟩] scope pos) (some (.Name y py)) spos.line X.env = pure true := by rfl) :
    AsgX X B ρ i0 (.Assign [.Name y py] (.ListComp elt [⟨.Name x tpos, iter, [c], 0⟩] scope pos) spos) (shLL B X.K (T.filter p)) := by
  refine PS_wk (ps_setLc (own := [(x, j)]) (g := gName j) (tt := tTst (Z := Nat × (Addr × List Int)) B (fun z => ρ.set j (some (own X.K z.2.1 (z.2.2.map D.i)))) (fun z => T[z.1]? = some z.2) (fun z => is (p z.2))) (te := tEltH B X.K ρ j T) hc hN hy0 hyl hsw (pi_list hi) hok hgn (fun s H C cl fp => pts_one (tst_of fun z hz => (hb s H C cl fp z.1 z.2 hz).1)) (fun s H C cl fp => ⟨fun pins s' σ H' Q I ⟨z, hz, st, q⟩ => (hb s H C cl fp z.1 z.2 hz).2.run pins s' σ H' Q I ⟨st, fun v H2 e2 hv => q v H2 e2 hv.1⟩⟩) hs) fun E σ H ⟨s, q⟩ => ⟨s, fun v H1 e1 hv => ?_⟩
  obtain ⟨rfl, hld, us, g1, g2, g3⟩ := hv
  have s1 := s.mono e1
  refine ⟨l, rfl, ⟨us, SqL.of g1⟩, fun Dl hD => ?_⟩
  obtain ⟨hB, hDd⟩ := s1.fresh hD
  refine lc_list (K := X.K) (a := l) (xs := us) (LcH H1 X.K Dl d T p) ⟨Ext.new hD, [], upd_same, rfl⟩ (fun i H' _ L => SqL.of (L.1.at g1 hld)) (fun i y H' hy L => ?_) (fun H' L => ?_)
  · have hiT : i < T.length := by rw [← g2]; exact (List.getElem?_eq_some_iff.mp hy).1
    have ht : T[i]? = some T[i] := List.getElem?_eq_getElem hiT
    have hlp := (g3 i _ y ht hy).ext L.1
    obtain ⟨rfl, p2, ws, p3, p4⟩ := hlp
    refine ⟨wipe1 _ _ _, ?_⟩
    have hst := st_wipe (j := j) (s1.mono L.1) (R := own X.K T[i].1 (T[i].2.map D.i)) (v := V.ref T[i].1) ⟨rfl, p2, ws, p3, p4⟩
    refine ⟨(i, T[i]), ht, hst, fun k H2 e2 hk => ?_⟩
    obtain ⟨h0, vs, h1, h2⟩ := L
    have h1' := e2.at h1 hDd
    cases k with
    | true =>
      refine ⟨(i, T[i]), ht, hst.mono e2, fun y H3 e3 hy => ?_⟩
      subst hy
      have h1'' := e3.at h1' hDd
      have hlen : vs.length < 2000 := by
        rw [h2, List.length_map]
        have q1 := List.length_filter_le p (T.take i)
        have q2 : (T.take i).length ≤ T.length := by rw [List.length_take]; omega
        omega
      refine ⟨vs, h1'', Nat.lt_of_lt_of_le hlen (by decide), (h0.trans (e2.trans e3)).mut hD hDd, _, upd_same, ?_⟩
      rw [take_snoc ht, List.filter_append, List.map_append, ← h2]
      have hk' : p T[i] = true := hk.symm
      simp [hk']
    | false =>
      refine ⟨h0.trans e2, vs, h1', ?_⟩
      rw [take_snoc ht, List.filter_append, List.map_append, ← h2]
      have hk' : p T[i] = false := hk.symm
      simp [hk']
  · obtain ⟨h0, vs, h1, h2⟩ := L
    rw [g2, List.take_length] at h2
    refine q _ H' (e1.trans h0) ⟨Dl, hB, rfl, hDd, vs, h1, by rw [h2, List.length_map], fun k t u ht hu => ?_⟩
    rw [h2, List.getElem?_map, ht] at hu
    cases hu
    have hm : t ∈ T := (List.mem_filter.mp (List.mem_of_getElem? ht)).1
    obtain ⟨k', hk'⟩ := List.getElem?_of_mem hm
    have hkl := (List.getElem?_eq_some_iff.mp hk').1
    have hu' : us[k']? = some (us[k']'(by omega)) := List.getElem?_eq_getElem _
    have := g3 k' t _ hk' hu'
    have h5 := this.ext h0
    obtain ⟨_, p2, ws, p3, p4⟩ := h5
    exact ⟨rfl, p2, ws, p3, p4⟩
/-- y = [x for x in xs if c], xs a new list of new lists of ints that has no name -/
theorem as_lcHFN {P : LlT → Prop} (i0 j : Nat) {x y : Str} {py spos : Pos} {scope : Scope} {tpos : Pos} (p : Addr × List Int → Bool) (hi : EX X B ρ iter (newLL B X.K P)) (hn : ∀ T, P T → T.length < 2000) (hN : X.N.Nodup) (hok : BlkOk X.N X.env.scope scope [(x, j)])
    (hgn : ∀ (s : Shared) (H : Hp) (C : Addr) (cl : List (Str × Addr)) (fp : List Addr), PG (X.blk s H scope (compEnvC scope cl C X.env) fp) (.Name x tpos) (gName j))
    (hb : ∀ (s : Shared) (H : Hp) (C : Addr) (cl : List (Str × Addr)) (fp : List Addr) (T : LlT) (i : Nat) (t : Addr × List Int), P T → T[i]? = some t → TX (X.blk s H scope (compEnvC scope cl C X.env) fp) B (ρ.set j (some (own X.K t.1 (t.2.map D.i)))) c (is (p t)) ∧ EX (X.blk s H scope (compEnvC scope cl C X.env) fp) B (ρ.set j (some (own X.K t.1 (t.2.map D.i)))) elt (own X.K t.1 (t.2.map D.i)))
    (hc : X.calm = true := by rfl) (hs : ∀ x, foldedSetIterable iter X.env x = pure x := by intro _; rfl)
    (hy0 : X.N[i0]? = some y := by rfl) (hyl : X.env.scope.names.lookup y = some .local := by rfl) (hsw : swapsWith (.ListComp elt [⟨.Name x tpos, iter, [c], 0⟩] scope pos) (some (.Name y py)) spos.line X.env = pure true := by rfl) :
    AsgX X B ρ i0 (.Assign [.Name y py] (.ListComp elt [⟨.Name x tpos, iter, [c], 0⟩] scope pos) spos) (newLL B X.K fun T' => ∃ T, P T ∧ T' = T.filter p) := by
  refine PS_wk (ps_setLc (own := [(x, j)]) (g := gName j) (tt := tTst (Z := LlT × Nat × (Addr × List Int)) B (fun z => ρ.set j (some (own X.K z.2.2.1 (z.2.2.2.map D.i)))) (fun z => P z.1 ∧ z.1[z.2.1]? = some z.2.2) (fun z => is (p z.2.2))) (te := tEltHP B X.K ρ j P) hc hN hy0 hyl hsw (pi_list hi) hok hgn (fun s H C cl fp => pts_one (tst_of fun z hz => (hb s H C cl fp z.1 z.2.1 z.2.2 hz.1 hz.2).1)) (fun s H C cl fp => ⟨fun pins s' σ H' Q I ⟨z, hz0, hz, st, q⟩ => (hb s H C cl fp z.1 z.2.1 z.2.2 hz0 hz).2.run pins s' σ H' Q I ⟨st, fun v H2 e2 hv => q v H2 e2 hv.1⟩⟩) hs) fun E σ H ⟨s, q⟩ => ⟨s, fun v H1 e1 hv => ?_⟩
  obtain ⟨⟨l, T⟩, ⟨hBl, hPT, hBT⟩, rfl, hld, us, g1, g2, g3⟩ := hv
  dsimp only at hBl hPT hBT g1 g2 g3
  have hn := hn T hPT
  have s1 := s.mono e1
  refine ⟨l, rfl, ⟨us, SqL.of g1⟩, fun Dl hD => ?_⟩
  obtain ⟨hB, hDd⟩ := s1.fresh hD
  refine lc_list (K := X.K) (a := l) (xs := us) (LcH H1 X.K Dl d T p) ⟨Ext.new hD, [], upd_same, rfl⟩ (fun i H' _ L => SqL.of (L.1.at g1 hld)) (fun i y H' hy L => ?_) (fun H' L => ?_)
  · have hiT : i < T.length := by rw [← g2]; exact (List.getElem?_eq_some_iff.mp hy).1
    have ht : T[i]? = some T[i] := List.getElem?_eq_getElem hiT
    have hlp := (g3 i _ y ht hy).ext L.1
    obtain ⟨rfl, p2, ws, p3, p4⟩ := hlp
    refine ⟨wipe1 _ _ _, ?_⟩
    have hst := st_wipe (j := j) (s1.mono L.1) (R := own X.K T[i].1 (T[i].2.map D.i)) (v := V.ref T[i].1) ⟨rfl, p2, ws, p3, p4⟩
    refine ⟨(T, i, T[i]), ⟨hPT, ht⟩, hst, fun k H2 e2 hk => ?_⟩
    obtain ⟨h0, vs, h1, h2⟩ := L
    have h1' := e2.at h1 hDd
    cases k with
    | true =>
      refine ⟨(T, i, T[i]), hPT, ht, hst.mono e2, fun y H3 e3 hy => ?_⟩
      subst hy
      have h1'' := e3.at h1' hDd
      have hlen : vs.length < 2000 := by
        rw [h2, List.length_map]
        have q1 := List.length_filter_le p (T.take i)
        have q2 : (T.take i).length ≤ T.length := by rw [List.length_take]; omega
        omega
      refine ⟨vs, h1'', Nat.lt_of_lt_of_le hlen (by decide), (h0.trans (e2.trans e3)).mut hD hDd, _, upd_same, ?_⟩
      rw [take_snoc ht, List.filter_append, List.map_append, ← h2]
      have hk' : p T[i] = true := hk.symm
      simp [hk']
    | false =>
      refine ⟨h0.trans e2, vs, h1', ?_⟩
      rw [take_snoc ht, List.filter_append, List.map_append, ← h2]
      have hk' : p T[i] = false := hk.symm
      simp [hk']
  · obtain ⟨h0, vs, h1, h2⟩ := L
    rw [g2, List.take_length] at h2
    refine q _ H' (e1.trans h0) ⟨(Dl, T.filter p), ⟨hB, ⟨T, hPT, rfl⟩, fun t ht => hBT t (List.mem_filter.mp ht).1⟩, rfl, hDd, vs, h1, by rw [h2, List.length_map], fun k t u ht hu => ?_⟩
    rw [h2, List.getElem?_map, ht] at hu
    cases hu
    have hm : t ∈ T := (List.mem_filter.mp (List.mem_of_getElem? ht)).1
    obtain ⟨k', hk'⟩ := List.getElem?_of_mem hm
    have hkl := (List.getElem?_eq_some_iff.mp hk').1
    have hu' : us[k']? = some (us[k']'(by omega)) := List.getElem?_eq_getElem _
    have := g3 k' t _ hk' hu'
    have h5 := this.ext h0
    obtain ⟨_, p2, ws, p3, p4⟩ := h5
    exact ⟨rfl, p2, ws, p3, p4⟩
theorem bx_asg (i : Nat) (hA : AsgX X B ρ i st R) (h : BX X rest (St B (ρ.set i (some R))) Po) : BX X (st :: rest) (St B ρ) Po :=
  bx_cons (Mid := St B (ρ.set i (some R))) (PS_wk hA fun E σ H ⟨s, l⟩ => ⟨s, fun v H' e1 hv => l.nx _ _ e1.tk ⟨(s.mono e1).ext, (s.mono e1).dr, (s.mono e1).good.set i hv⟩⟩) h
/-- for x in a new list of new lists of ints that has no name -/
theorem bx_forHn {α : Type} {P : LlT → Prop} (j : Nat) {x : Str} {tpos : Pos} (Iv : LlT → Nat → α → Prop) (r : Nat → α → Ro d) (hi : EX X B ρ iter (newLL B X.K P)) (h0 : ∀ T B' σ H, P T → St B' ρ σ H → IS B' (Iv T 0) (r 0) σ H)
    (hb : ∀ (B' : Hp) T i t z, Ext d B B' → P T → T[i]? = some t → Iv T i z → BX X body (St B' ((r i z).set j (some (own X.K t.1 (t.2.map D.i))))) (Lp Po (IS B' (Iv T (i + 1)) (r (i + 1))) (IS B' (Iv T T.length) (r T.length)))) (h : ∀ T, P T → BX X rest (IS B (Iv T T.length) (r T.length)) Po)
    (hN : X.N.Nodup) (hp : PassesOwn (model X.prog X.w) X.A X.env X.xe) (hj : X.N[j]? = some x := by rfl) (hc : X.calm = true := by rfl) (hx : Loc X.env.scope x := by first | exact Or.inl rfl | exact Or.inr rfl)
    (hf : X.fn x = true ∨ X.env.scope.names.lookup x = some .local := by first | exact .inl rfl | exact .inr rfl | assumption) (hs : ∀ x, foldedSetIterable iter X.env x = pure x := by intro _; rfl) : BX X (.For (.Name x tpos) iter body [] pos :: rest) (St B ρ) Po := by
  refine bx_cons (Mid := fun σ H => ∃ T, P T ∧ IS B (Iv T T.length) (r T.length) σ H) ?_ (bx_ex h)
  refine PS_wk (t := tFor (iList X.K fun σ H Q => St B ρ σ H ∧ ∀ v H', Ext d H H' → (newLL B X.K P).p v H' → Q v H') (gName j) (fun E σ H => ∃ (z : Hp × LlT × Nat × (Addr × List Int) × α), Ext d B z.1 ∧ P z.2.1 ∧ z.2.1[z.2.2.1]? = some z.2.2.2.1 ∧ Iv z.2.1 z.2.2.1 z.2.2.2.2 ∧ St z.1 ((r z.2.2.1 z.2.2.2.2).set j (some (own X.K z.2.2.2.1.1 (z.2.2.2.1.2.map D.i)))) σ H ∧ Le H (Lp Po (IS z.1 (Iv z.2.1 (z.2.2.1 + 1)) (r (z.2.2.1 + 1))) (IS z.1 (Iv z.2.1 z.2.1.length) (r z.2.1.length))) E))
    (ps_for hp hc (pi_list hi) (pg_name hN hj hx hf) ⟨fun pins s σ H E I ⟨⟨B', T, i, t, z⟩, hB, hP, hw, hz, q, l⟩ => (hb B' T i t z hB hP hw hz).run pins s σ H E I ⟨q, l⟩⟩ hs) fun E σ H ⟨s, l⟩ => ⟨s, fun v H1 e1 hv => ?_⟩
  obtain ⟨⟨la, T⟩, ⟨hBa, hP, hBT⟩, rfl, hld, us, h1, h2, h3⟩ := hv
  dsimp only at hBa hP hBT h1 h2 h3
  have s1 := s.mono e1
  refine ⟨la, rfl, ⟨us, SqL.of h1⟩, ?_⟩
  refine ⟨fun i m σ H => m = T.length - i ∧ i ≤ T.length ∧ Tk H1 H ∧ IS H1 (Iv T i) (r i) σ H, ⟨T.length, rfl, Nat.zero_le _, Tk.refl _, h0 T H1 _ _ hP ⟨Ext.refl _, s1.dr, s1.good⟩⟩, ?_⟩
  rintro i m σ H ⟨rfl, hi', k, q⟩
  obtain ⟨z, hz, q⟩ := q
  have a1 := q.ext.at h1 hld
  by_cases hlt : i < T.length
  · have hv : i < us.length := by omega
    refine .inr ⟨⟨us, us[i], SqL.of a1, List.getElem?_eq_getElem hv⟩, fun σ' H' => Tk H1 H' ∧ IS H1 (Iv T (i + 1)) (r (i + 1)) σ' H', fun σ' H' p' => ⟨T.length - (i + 1), by omega, rfl, hlt, p'.1, p'.2⟩, fun x H' y => ?_⟩
    obtain ⟨rfl, y⟩ := y
    have ht : T[i]? = some T[i] := List.getElem?_eq_getElem hlt
    obtain ⟨rfl, p2, ws, p3, p4⟩ := (h3 i _ x ht (y us (SqL.of a1))).ext q.ext
    refine ⟨(H1, T, i, T[i], z), s1.ext, hP, ht, hz, ⟨q.ext, q.dr, q.good.set j (R := own X.K T[i].1 (T[i].2.map D.i)) ⟨rfl, p2, ws, p3, p4⟩⟩, ?_⟩
    exact ⟨fun σ' H' k' q' => ⟨k.trans k', q'⟩, fun v H' k' q' => l.rt v H' ((e1.tk.trans k).trans k') q', fun σ' H' k' q' => l.nx σ' H' ((e1.tk.trans k).trans k') ⟨T, hP, IS.to s1.ext q'⟩, fun σ' H' k' q' => ⟨k.trans k', q'⟩⟩
  · have e : i = T.length := by omega
    subst e
    exact .inl ⟨⟨us, SqL.of a1, by omega⟩, l.nx σ H (e1.tk.trans k) ⟨T, hP, IS.to s1.ext ⟨z, hz, q⟩⟩⟩
end
end Cv

namespace Cv
open PySem PySem.Spec PyProof.Rows L2 RZ
section
variable {d : Option Addr} {X : Cx} {B : Hp} {ρ ρ' : Ro d} {a b c e iter elt : Expr} {es : List Expr} {R R' Ra Rb : Rp d} {Rs : List (Rp d)} {pos : Pos} {m n : Int} {st : Stmt} {rest body orelse : List Stmt} {Pre Mid : L2.St → Hp → Prop} {Po : Ends}
theorem new_of {H B' : Hp} {a : Addr} (e : Ext d H B') (h : B' a = none) (hd : some a ≠ d) : H a = none := by
  cases q : H a with
  | none => rfl
  | some o => have := e.at q hd; rw [h] at this; cases this
theorem newLL_up {ρ1 : Ro d} {K : PySem.W.Frag} {P : LlT → Prop} {σ : L2.St} {H H' : Hp} {v : V} (s : St B ρ1 σ H) (h : (newLL (d := d) H K P).p v H') : (newLL (d := d) B K P).p v H' := by
  obtain ⟨z, ⟨h1, h2, h3⟩, h4⟩ := h
  exact ⟨z, ⟨(s.fresh h1).1, h2, fun t ht => (s.fresh (h3 t ht)).1⟩, h4⟩
/-- xs + ys, lists of lists of ints; only the second's items are new -/
def catLL (B : Hp) (K : PySem.W.Frag) (T : LlT) (P : LlT → Prop) : Rp d := exR (fun z : Addr × LlT => B z.1 = none ∧ some z.1 ≠ d ∧ ∃ T', P T' ∧ z.2 = T ++ T' ∧ ∀ t ∈ T', B t.1 = none ∧ some t.1 ≠ d) fun z => llR K z.1 z.2
theorem x_catLL2 {l : Addr} {T : LlT} {P : LlT → Prop} (ha : EX X B ρ a (llR X.K l T)) (hb : EX X B ρ b (newLL B X.K P)) (hl : ∀ T', P T' → T.length + T'.length ≤ 1000) : EX X B ρ (.BinOp a .Add b pos) (catLL B X.K T P) :=
  x_op2 op_cat ha hb fun x y H σ Q s hx hy q => by
    obtain ⟨rfl, hd1, us, h1, h2, h3⟩ := hx
    obtain ⟨⟨l2, T'⟩, ⟨hB2, hP, hT'⟩, rfl, hd2, us2, g1, g2, g3⟩ := hy
    dsimp only at hB2 hP hT' g1 g2 g3
    refine ⟨l, l2, us, us2, rfl, rfl, h1, g1, by rw [h2, g2]; exact Nat.le_of_lt (small1000 (hl T' hP)), fun p hp => q _ _ (Ext.new hp) ?_⟩
    obtain ⟨hB, hd⟩ := s.fresh hp
    refine ⟨(p, T ++ T'), ⟨hB, hd, T', hP, rfl, fun t ht => ⟨hT' t ht, ?_⟩⟩, rfl, hd, us ++ us2, upd_same, by rw [List.length_append, List.length_append, h2, g2], fun j t u ht hu => ?_⟩
    · obtain ⟨j, hj⟩ := List.getElem?_of_mem ht
      have hjl : j < T'.length := (List.getElem?_eq_some_iff.mp hj).1
      exact (g3 j t _ hj (List.getElem?_eq_getElem (show j < us2.length by omega))).2.1
    · by_cases hj : j < T.length
      · rw [List.getElem?_append_left hj] at ht
        rw [List.getElem?_append_left (by omega)] at hu
        exact (h3 j t u ht hu).ext (Ext.new hp)
      · rw [List.getElem?_append_right (by omega)] at ht
        rw [List.getElem?_append_right (by omega)] at hu
        rw [h2] at hu
        exact (g3 _ t u ht hu).ext (Ext.new hp)
theorem x_len_n {B' : Hp} {p : Pos} {ds : List D} (hg : Gl X "len") (hm : X.mg "len" = none) (h : EX X B ρ e (newL B' X.K ds)) (he : starEach [e] X.env = (false, eval e X.env) :: starEach [] X.env := by rfl) (hpl : (backTo pos (starEach [] X.env)).any (·.1) = false := by rfl) : EX X B ρ (.Call (.Name "len" p) [e] [] pos) (rI ds.length) :=
  x_callB call_len_seq hg hm PySem.boot_len (a_cons h a_nil he) (fun vs H σ Q s hv q => by
    obtain ⟨x, rfl, hx⟩ := hv.one
    obtain ⟨l, _, rfl, _, us, h1, h2⟩ := hx
    exact ⟨l, us, rfl, .inl (SqL.of h1), q _ H (Ext.refl H) (by show V.int (us.length : Int) = V.int (ds.length : Int); rw [h2.1])⟩) (he := he) (hpl := hpl)
theorem x_cgt (ha : EX X B ρ a (rI m)) (hb : EX X B ρ b (rI n)) : EX X B ρ (.Compare a [.Gt] [b] pos) (rB (decide (n < m))) := x_cmp op_gt (nomark _) ha hb fun x y H σ Q _ hx hy q => ⟨m, n, hx, hy, q _ H (Ext.refl H) rfl⟩
end
end Cv

namespace Cv
open PySem PySem.Spec PyProof.Rows L2 RZ
section
variable {d : Option Addr} {X : Cx} {B : Hp} {ρ ρ' : Ro d} {a b c e iter elt : Expr} {es : List Expr} {R R' Ra Rb : Rp d} {Rs : List (Rp d)} {pos : Pos} {m n : Int} {st : Stmt} {rest body orelse : List Stmt} {Pre Mid : L2.St → Hp → Prop} {Po : Ends}
theorem as_lcRF {nn : Int} (i0 j : Nat) {x y : Str} {py spos : Pos} {scope : Scope} {tpos p2 p3 : Pos} (P : Nat → Bool → Prop) (f : Nat → D) (hg : Gl X "range") (hm : X.mg "range" = none) (hi : EX X B ρ e (rI nn)) (hn : nn < 2000 ∧ -(2 ^ 62) ≤ nn) (hN : X.N.Nodup) (hok : BlkOk X.N X.env.scope scope [(x, j)])
    (hgn : ∀ (s : Shared) (H : Hp) (C : Addr) (cl : List (Str × Addr)) (fp : List Addr), PG (X.blk s H scope (compEnvC scope cl C X.env) fp) (.Name x tpos) (gName j))
    (hb : ∀ (s : Shared) (H : Hp) (C : Addr) (cl : List (Str × Addr)) (fp : List Addr) (i : Nat), (i : Int) < nn → TX (X.blk s H scope (compEnvC scope cl C X.env) fp) B (ρ.set j (some (rI (i : Int)))) c (P i) ∧ EX (X.blk s H scope (compEnvC scope cl C X.env) fp) B (ρ.set j (some (rI (i : Int)))) elt (dat X.K (f i)))
    (hc : X.calm = true := by rfl) (he : starEach [e] X.env = [(false, eval e X.env)] := by rfl) (hs : ∀ x, foldedSetIterable (.Call (.Name "range" p2) [e] [] p3) X.env x = pure x := by intro _; rfl)
    (hy0 : X.N[i0]? = some y := by rfl) (hyl : X.env.scope.names.lookup y = some .local := by rfl) (hsw : swapsWith (.ListComp elt [⟨.Name x tpos, .Call (.Name "range" p2) [e] [] p3, [c], 0⟩] scope pos) (some (.Name y py)) spos.line X.env = pure true := by rfl) :
    AsgX X B ρ i0 (.Assign [.Name y py] (.ListComp elt [⟨.Name x tpos, .Call (.Name "range" p2) [e] [] p3, [c], 0⟩] scope pos) spos) (newE B X.K fun ds => ∃ p : Nat → Bool, (∀ j, j < nn.toNat → P j (p j)) ∧ ds = ((List.range nn.toNat).filter p).map f) := by
  refine PS_wk (ps_setLc (own := [(x, j)]) (g := gName j) (tt := tTst (Z := Nat) B (fun i => ρ.set j (some (rI (i : Int)))) (fun i => (i : Int) < nn) P) (te := tElt (Z := Nat) B X.K (fun i => ρ.set j (some (rI (i : Int)))) (fun i => (i : Int) < nn) (fun i w => w = f i)) hc hN hy0 hyl hsw (pi_range1 hg hm (a_cons hi a_nil he) he) hok hgn (fun s H C cl fp => pts_one (tst_of fun i hi' => (hb s H C cl fp i hi').1)) (fun s H C cl fp => elt_of fun i hi' => x_sub (hb s H C cl fp i hi').2 fun v H hv => ⟨_, rfl, hv⟩) hs) fun E σ H ⟨s, q⟩ => ⟨s, fun vs H1 e1 hv => ?_⟩
  obtain ⟨v, rfl, hv'⟩ := hv.one
  obtain rfl : v = .int nn := hv'
  have s1 := s.mono e1
  refine ⟨nn, rfl, hn.2, by have := hn.1; omega, fun Dl hD => ?_⟩
  obtain ⟨hB, hDd⟩ := s1.fresh hD
  refine lc_range (lo := 0) (n := nn.toNat) (LcS H1 X.K Dl d P f) ⟨Ext.new hD, [], fun _ => false, upd_same, fun j hj => absurd hj (Nat.not_lt_zero _), DRl.nil⟩ (fun i H' hlt L => ?_) (fun H' L => ?_)
  · refine ⟨wipe1 _ _ _, ?_⟩
    rw [Int.zero_add]
    have hin : (i : Int) < nn := by omega
    have hst := st_wipe (j := j) (s1.mono L.1) (R := rI (i : Int)) (v := V.int (i : Int)) rfl
    refine ⟨i, hin, hst, fun k H2 e2 hk => ?_⟩
    obtain ⟨h0, us, p, h1, h2, h3⟩ := L
    have hpi : ∀ j, j < i → (fun j => if j = i then k else p j) j = p j := fun j hj => if_neg (by omega)
    have hP : ∀ j, j < i + 1 → P j ((fun j => if j = i then k else p j) j) := fun j hj => by
      by_cases e : j = i
      · subst e; simpa using hk
      · rw [show (fun j => if j = i then k else p j) j = p j from if_neg e]; exact h2 j (by omega)
    have hpk : (fun j => if j = i then k else p j) i = k := if_pos rfl
    have g := e2.at h1 hDd
    have hfl : (List.range (i + 1)).filter (fun j => if j = i then k else p j) = (List.range i).filter p ++ [i].filter (fun j => if j = i then k else p j) := by
      rw [range_snoc, List.filter_append, filt_same hpi]
    cases k with
    | true =>
      refine ⟨i, hin, hst.mono e2, fun y H3 e3 ⟨w', hw', hy⟩ => ?_⟩
      have g3 := e3.at g hDd
      have hl : us.length < 2000 := by
        rw [← h3.1, List.length_map]
        have q1 := List.length_filter_le p (List.range i)
        rw [List.length_range] at q1
        have := hn.1
        omega
      refine ⟨us, g3, Nat.lt_of_lt_of_le hl (by decide), (h0.trans (e2.trans e3)).mut hD hDd, _, _, upd_same, hP, ?_⟩
      rw [hfl, List.map_append]
      have e1' : ([i].filter (fun j => if j = i then true else p j)).map f = [f i] := by simp
      rw [e1']
      exact ((h3.tk (e2.trans e3).tk).snoc (by rw [← hw']; exact hy)).tk (Tk.lst g3)
    | false =>
      refine ⟨h0.trans e2, us, _, g, hP, ?_⟩
      rw [hfl, List.map_append]
      have e1' : ([i].filter (fun j => if j = i then false else p j)).map f = [] := by simp
      rw [e1', List.append_nil]
      exact h3.tk e2.tk
  · obtain ⟨h0, us, p, h1, h2, h3⟩ := L
    exact q _ H' (e1.trans h0) ⟨_, ⟨p, h2, rfl⟩, Dl, hB, rfl, hDd, us, h1, h3⟩
/-- != of a new list of ints and one that is read -/
theorem t_neIR {P1 P2 : List Int → Prop} (hu : X.A.units + 64 < cLine) (ha : EX X B ρ a (newI B X.K P1)) (hb : EX X B ρ b (exR P2 fun ms => lst X.K (ms.map D.i))) : TX X B ρ (.Compare a [.NotEq] [b] pos) (fun q => ∃ x y, P1 x ∧ P2 y ∧ (q = false ↔ x = y)) :=
  t_cmp (op_neD hu) (nomark _) ha hb fun u v H σ Q _ hx' hy' q => by
    obtain ⟨_, ⟨xs, h1, rfl⟩, hx⟩ := hx'
    obtain ⟨ys, h2, l2, _, hy⟩ := hy'
    obtain ⟨l1, _, hx⟩ := newL_lst hx
    have sx : ∀ e ∈ xs.map D.i, Shp 0 e := fun e he => by obtain ⟨z, _, rfl⟩ := List.mem_map.mp he; exact .i _
    have sy : ∀ e ∈ ys.map D.i, Shp 0 e := fun e he => by obtain ⟨z, _, rfl⟩ := List.mem_map.mp he; exact .i _
    refine ⟨_, _, dpLs hx, dpLs hy, shpLs sx (by decide), shpLs sy (by decide), q _ H (Ext.refl H) ⟨xs, ys, h1, h2, ?_⟩⟩
    have h3 := eqvLs sx sy
    have inj : xs.map D.i = ys.map D.i ↔ xs = ys := ⟨map_i_inj, fun e => by rw [e]⟩
    rw [inj] at h3
    rw [← h3]
    cases PyData.eqv (.list (pyL (xs.map D.i))) (.list (pyL (ys.map D.i))) <;> simp
end
end Cv

namespace Cv
open PySem PySem.Spec PyProof.Rows L2 RZ
section
variable {d : Option Addr} {X : Cx} {B : Hp} {ρ ρ' : Ro d} {a b c e iter elt : Expr} {es : List Expr} {R R' Ra Rb : Rp d} {Rs : List (Rp d)} {pos : Pos} {m n : Int} {st : Stmt} {rest body orelse : List Stmt} {Pre Mid : L2.St → Hp → Prop} {Po : Ends}
/-! ### rows of ints that are only read: tuples, or lists that stood at entry -/
def SqB (B' : Hp) (d : Option Addr) (K : PySem.W.Frag) (H : Hp) (b : Addr) (xs : List V) : Prop := SqT K H b xs ∨ (B' b ≠ none ∧ some b ≠ d ∧ H b = some (.lst xs))
theorem SqB.ext {B' : Hp} {K : PySem.W.Frag} {H H' : Hp} {b : Addr} {xs : List V} (h : SqB B' d K H b xs) (e : Ext d H H') : SqB B' d K H' b xs := h.imp (fun h => e.tk.sqT h) fun ⟨h1, h2, h3⟩ => ⟨h1, h2, e.at h3 h2⟩
theorem SqB.put {B' : Hp} {K : PySem.W.Frag} {H : Hp} {b l : Addr} {xs zs ys : List V} (h : SqB B' d K H b xs) (hB : B' l = none) (hl : H l = some (.lst zs)) : SqB B' d K (upd H l (.lst ys)) b xs := h.imp (fun h => (Tk.lst hl).sqT h) fun ⟨h1, h2, h3⟩ => ⟨h1, h2, by rw [upd_ne (fun z => h1 (by rw [z]; exact hB))]; exact h3⟩
def rowV (B' : Hp) (K : PySem.W.Frag) (row : List Int) : Rp d := ⟨fun v H => ∃ b, v = .ref b ∧ SqB B' d K H b (row.map V.int), fun e ⟨b, h1, h2⟩ => ⟨b, h1, h2.ext e⟩⟩
def rwsV (B' : Hp) (K : PySem.W.Frag) (rows : List (List Int)) : Rp d := ⟨fun v H => ∃ a xs, v = .ref a ∧ SqB B' d K H a xs ∧ xs.length = rows.length ∧ ∀ (i : Nat) row u, rows[i]? = some row → xs[i]? = some u → (rowV (d := d) B' K row).p u H,
  fun e ⟨a, xs, h1, h2, h3, h4⟩ => ⟨a, xs, h1, h2.ext e, h3, fun i row u hr hu => (rowV B' K row).st e (h4 i row u hr hu)⟩⟩
theorem ind_rowV {B' : Hp} {K : PySem.W.Frag} {row : List Int} {l : Addr} (hB : B' l = none) : Ind l (rowV (d := d) B' K row) := fun v H xs ys hl ⟨b, h1, h2⟩ => ⟨b, h1, h2.put hB hl⟩
theorem ind_rwsV {B' : Hp} {K : PySem.W.Frag} {rows : List (List Int)} {l : Addr} (hB : B' l = none) : Ind l (rwsV (d := d) B' K rows) := fun v H xs ys hl ⟨a, zs, h1, h2, h3, h4⟩ => ⟨a, zs, h1, h2.put hB hl, h3, fun i row u hr hu => ind_rowV hB u H xs ys hl (h4 i row u hr hu)⟩
theorem x_ixRw {B' : Hp} {rows : List (List Int)} {row : List Int} {k : Nat} (ha : EX X B ρ a (rwsV B' X.K rows)) (hb : EX X B ρ b (rI (k : Int))) (hk : rows[k]? = some row) (hs : PlainIx b := by exact (fun _ _ => rfl)) : EX X B ρ (.Subscript a b pos) (rowV B' X.K row) :=
  PE_wk (pe_ix (IxR.or ix_tup ix_list) ha hb hs) fun σ H Q ⟨s, q⟩ => ⟨s, fun x H1 e1 hx => ⟨s.mono e1, fun y H2 e2 hy => by
    obtain ⟨p, xs, rfl, h2, h3, h4⟩ := (rwsV (d := d) B' X.K rows).st e2 hx
    have hlt : k < xs.length := by
      have := (List.getElem?_eq_some_iff.mp hk).1
      omega
    obtain ⟨u, hu⟩ : ∃ u, xs[k]? = some u := ⟨_, List.getElem?_eq_getElem hlt⟩
    have hr := h4 k row u hk hu
    rcases h2 with h2 | ⟨_, _, h2⟩
    · exact .inl ⟨p, xs, _, u, rfl, hy, h2, atI_nat hu, q u H2 (e1.trans e2) hr⟩
    · exact .inr ⟨p, xs, _, u, rfl, hy, SqL.of h2, atI_nat hu, q u H2 (e1.trans e2) hr⟩⟩⟩
theorem x_ixRow {B' : Hp} {row : List Int} {z : Int} {k : Nat} (ha : EX X B ρ a (rowV B' X.K row)) (hb : EX X B ρ b (rI (k : Int))) (hk : row[k]? = some z) (hs : PlainIx b := by exact (fun _ _ => rfl)) : EX X B ρ (.Subscript a b pos) (rI z) :=
  PE_wk (pe_ix (IxR.or ix_tup ix_list) ha hb hs) fun σ H Q ⟨s, q⟩ => ⟨s, fun x H1 e1 hx => ⟨s.mono e1, fun y H2 e2 hy => by
    obtain ⟨p, rfl, h2⟩ := (rowV (d := d) B' X.K row).st e2 hx
    have hu : (row.map V.int)[k]? = some (.int z) := by rw [List.getElem?_map, hk]; rfl
    rcases h2 with h2 | ⟨_, _, h2⟩
    · exact .inl ⟨p, _, _, _, rfl, hy, h2, atI_nat hu, q _ H2 (e1.trans e2) rfl⟩
    · exact .inr ⟨p, _, _, _, rfl, hy, SqL.of h2, atI_nat hu, q _ H2 (e1.trans e2) rfl⟩⟩⟩
theorem x_lenRow {B' : Hp} {row : List Int} {p : Pos} (hg : Gl X "len") (hm : X.mg "len" = none) (h : EX X B ρ e (rowV B' X.K row)) (he : starEach [e] X.env = (false, eval e X.env) :: starEach [] X.env := by rfl) (hpl : (backTo pos (starEach [] X.env)).any (·.1) = false := by rfl) : EX X B ρ (.Call (.Name "len" p) [e] [] pos) (rI row.length) :=
  x_callB call_len_seq hg hm PySem.boot_len (a_cons h a_nil he) (fun vs H σ Q s hv q => by
    obtain ⟨x, rfl, hx⟩ := hv.one
    obtain ⟨b, rfl, h2⟩ := hx
    have hq := q (.int (row.map V.int).length) H (Ext.refl H) (by show V.int _ = V.int _; rw [List.length_map])
    rcases h2 with h2 | ⟨_, _, h2⟩
    · exact ⟨b, _, rfl, .inr h2, hq⟩
    · exact ⟨b, _, rfl, .inl (SqL.of h2), hq⟩) (he := he) (hpl := hpl)
theorem x_lenRws {B' : Hp} {rows : List (List Int)} {p : Pos} (hg : Gl X "len") (hm : X.mg "len" = none) (h : EX X B ρ e (rwsV B' X.K rows)) (he : starEach [e] X.env = (false, eval e X.env) :: starEach [] X.env := by rfl) (hpl : (backTo pos (starEach [] X.env)).any (·.1) = false := by rfl) : EX X B ρ (.Call (.Name "len" p) [e] [] pos) (rI rows.length) :=
  x_callB call_len_seq hg hm PySem.boot_len (a_cons h a_nil he) (fun vs H σ Q s hv q => by
    obtain ⟨x, rfl, hx⟩ := hv.one
    obtain ⟨a, xs, rfl, h2, h3, _⟩ := hx
    have hq := q (.int xs.length) H (Ext.refl H) (by show V.int _ = V.int _; rw [h3])
    rcases h2 with h2 | ⟨_, _, h2⟩
    · exact ⟨a, _, rfl, .inr h2, hq⟩
    · exact ⟨a, _, rfl, .inl (SqL.of h2), hq⟩) (he := he) (hpl := hpl)
/-! ### an object's list that changes -/
theorem st_chg {l : Addr} {vs vs' : List V} {i : Nat} {σ : L2.St} {H : Hp} (s : St B ρ σ H) (hi : ρ[i]? = some (some R)) (hB : B l = none) (hl : some l ≠ d) (hH : H l = some (.lst vs)) (hb : IndBut l i ρ) (hR : ∀ v, R.p v H → R'.p v (upd H l (.lst vs'))) : St B (ρ.set i (some R')) σ (upd H l (.lst vs')) := by
  obtain ⟨v, h1, h2⟩ := s.good.get hi
  refine ⟨s.ext.mut hB hl, fun a e => ?_, by simp [s.good.1], fun j R0 e => ?_⟩
  · obtain ⟨ns, hn, q⟩ := s.dr a e
    have : a ≠ l := fun z => hl (by rw [e, z])
    exact ⟨ns, hn, by rw [upd_ne this]; exact q⟩
  · by_cases hj : j = i
    · subst hj
      have hlt : j < ρ.length := (List.getElem?_eq_some_iff.mp hi).1
      rw [List.getElem?_set_self hlt] at e
      cases e
      exact ⟨_, h1, hR v h2⟩
    · rw [List.getElem?_set_ne (fun z => hj z.symm)] at e
      obtain ⟨v', a1, a2⟩ := s.good.get e
      exact ⟨v', a1, hb j R0 hj e v' H vs vs' hH a2⟩
/-- fields (r, s): s is a list at l -/
abbrev wlk (B' : Hp) (K : PySem.W.Frag) (fr fs : Str) (rows : List (List Int)) (l : Addr) (sn : List Bool) : List (Str × Rp d) := [(fr, rwsV B' K rows), (fs, own K l (sn.map D.b))]
theorem wlk_chg {B' : Hp} {K : PySem.W.Frag} {C y l : Addr} {fr fs : Str} {rows : List (List Int)} {sn sn' : List Bool} {v : V} {H : Hp} (hB : B' l = none) (h : (insA (d := d) C y (wlk B' K fr fs rows l sn)).p v H) : (insA (d := d) C y (wlk B' K fr fs rows l sn')).p v (upd H l (.lst (sn'.map V.bl))) := by
  obtain ⟨h0, dx, gs, h1, h2, h3⟩ := h
  obtain ⟨u, hu, w1, hl, us, w2, w3⟩ := h3 1 fs _ rfl
  refine ⟨h0, dx, gs, ?_, h2, fun i f R hi => ?_⟩
  · rw [upd_ne (fun z => by rw [z, w2] at h1; cases h1)]
    exact h1
  · match i, hi with
    | 0, hi =>
      cases hi
      obtain ⟨u', hu', w4⟩ := h3 0 fr _ rfl
      exact ⟨u', hu', ind_rwsV hB _ _ _ _ w2 w4⟩
    | 1, hi =>
      cases hi
      refine ⟨u, hu, w1, hl, _, upd_same, ?_⟩
      refine ⟨by simp, fun j e' v' b1 b2 => ?_⟩
      rw [List.getElem?_map] at b1 b2
      cases q : sn'[j]? with
      | none => rw [q] at b1; cases b1
      | some k =>
        rw [q] at b1 b2
        cases b1; cases b2
        exact .b k
theorem bools_of {K : PySem.W.Frag} {H : Hp} {sn : List Bool} {us : List V} (h : DRl K H (sn.map D.b) us) : us = sn.map V.bl := by
  refine List.ext_getElem? fun j => ?_
  rw [List.getElem?_map]
  cases q : sn[j]? with
  | none =>
    have h1 := List.getElem?_eq_none_iff.mp q
    refine List.getElem?_eq_none ?_
    have := h.1
    rw [List.length_map] at this
    omega
  | some k =>
    have h1 : (sn.map D.b)[j]? = some (.b k) := by rw [List.getElem?_map, q]; rfl
    obtain ⟨v, hv, hr⟩ := h.get h1
    rw [hv]
    cases hr
    rfl
/-- x.s[k] = True -/
theorem bx_setSeen (i : Nat) {B' : Hp} {x f fr : Str} {p1 p2 p3 p4 : Pos} {C y l : Addr} {rows : List (List Int)} {sn : List Bool} {k : Nat} {t : Bool} (hi : ρ[i]? = some (some (insA C y (wlk B' X.K fr f rows l sn)))) (hB' : B' l = none) (cl : Cls X.K C) (na : NoAttr X.K C f) (he : EX X B ρ e (rB t)) (hk : EX X B ρ b (rI (k : Int))) (hkl : k < sn.length) (hB : B l = none) (hb : IndBut l i ρ)
    (h : BX X rest (St B (ρ.set i (some (insA C y (wlk B' X.K fr f rows l (sn.set k t)))))) Po)
    (hN : X.N[i]? = some x := by rfl) (hv : Vis X.env.scope x := by first | exact Or.inl rfl | exact Or.inr (Or.inl rfl) | exact Or.inr (Or.inr rfl)) (hd : (x == ("__debug__" : Str)) = false := by decide) (hcd : (x == ("__classdict__" : Str)) = false := by decide)
    (hbs : attributeBase (.Name x p1) f X.env (eval (.Name x p1) X.env) = eval (.Name x p1) X.env := by rfl)
    (ha : ∀ v, assign (.Subscript (.Attribute (.Name x p1) f p4) b p2) X.env v = (do
      let ov ← holding [v] (eval (.Attribute (.Name x p1) f p4) X.env)
      let iv ← holding [v, ov] (eval b X.env)
      standAt p2
      holding [v, ov, iv] (setItem ov iv v)
      release [v, ov, iv] []) := by intro _; rfl)
    (hs : swapsWithSole [.Subscript (.Attribute (.Name x p1) f p4) b p2] e p3.line X.env = pure false := by rfl) (hw : swappedStores [.Subscript (.Attribute (.Name x p1) f p4) b p2] e X.env = pure none := by rfl) (h1 : (assignEach [.Subscript (.Attribute (.Name x p1) f p4) b p2] X.env).map (·.2) = [assign (.Subscript (.Attribute (.Name x p1) f p4) b p2) X.env] := by rfl) :
    BX X (.Assign [.Subscript (.Attribute (.Name x p1) f p4) b p2] e p3 :: rest) (St B ρ) Po := by
  refine bx_cons (Mid := St B (ρ.set i (some (insA C y (wlk B' X.K fr f rows l (sn.set k t)))))) ?_ h
  refine PS_wk (ps_asg he (pg_sub (pe_fld (pe_var hN hv hd hcd) hbs) hk set_list ha) hs hw h1) fun E σ H ⟨s, q⟩ => ⟨s, fun w H1 e1 hw => ?_⟩
  obtain rfl : w = .bl t := hw
  have s1 := s.mono e1
  obtain ⟨v, a1, a2⟩ := s1.good.get hi
  have a2' := a2
  obtain ⟨rfl, dx, gs, b1, b2, b3⟩ := a2
  obtain ⟨u, hu, rfl, hl, us, w2, w3⟩ := b3 1 f _ rfl
  refine ⟨_, a1, y, C, dx, gs, _, rfl, b1, cl, na, hu, s1, fun iv H2 e2 hiv => ?_⟩
  have s2 := s1.mono e2
  have g2 := e2.at w2 hl
  obtain rfl := bools_of w3
  refine ⟨l, _, k, k, rfl, hiv, g2, by unfold ixN; rw [List.length_map, if_pos (by omega), if_pos (by omega)]; simp, ?_⟩
  have hset : (sn.map V.bl).set k (.bl t) = (sn.set k t).map V.bl := by rw [List.map_set]
  rw [hset]
  exact q.nx σ _ ((e1.tk.trans e2.tk).trans (Tk.lst g2)) (st_chg s2 hi hB hl g2 hb fun v h => wlk_chg hB' h)
/-- x1, x2 = xs.pop() -/
theorem bx_popUnp2 (i i1 i2 : Nat) {x x1 x2 : Str} {q1 q2 q4 p1 p2 p3 : Pos} {kk : Nat} {K : PySem.W.Frag} {l : Addr} {ds : List D} {A1 A2 : D} (hi : ρ[i]? = some (some (own K l (ds ++ [.t [A1, A2]])))) (hK : X.K = K) (hB : B l = none) (hb : IndBut l i ρ)
    (h : BX X rest (St B (((ρ.set i (some (own K l ds))).set i1 (some (dat K A1))).set i2 (some (dat K A2)))) Po)
    (hN : X.N.Nodup) (h0 : X.N[i]? = some x := by rfl) (h1 : X.N[i1]? = some x1 := by rfl) (h2 : X.N[i2]? = some x2 := by rfl) (hc : X.calm = true := by rfl)
    (hv : Vis X.env.scope x := by first | exact Or.inl rfl | exact Or.inr (Or.inl rfl) | exact Or.inr (Or.inr rfl)) (hd : (x == ("__debug__" : Str)) = false := by decide) (hcd : (x == ("__classdict__" : Str)) = false := by decide)
    (hbase : attributeBase (.Name x p1) "pop" X.env (eval (.Name x p1) X.env) = eval (.Name x p1) X.env := by rfl) (hline : (p2.endLine == p3.line) = true := by rfl)
    (l1 : Loc X.env.scope x1 := by first | exact Or.inl rfl | exact Or.inr rfl) (l2 : Loc X.env.scope x2 := by first | exact Or.inl rfl | exact Or.inr rfl)
    (f1 : X.fn x1 = true ∨ X.env.scope.names.lookup x1 = some .local := by first | exact .inl rfl | exact .inr rfl | assumption) (f2 : X.fn x2 = true ∨ X.env.scope.names.lookup x2 = some .local := by first | exact .inl rfl | exact .inr rfl | assumption)
    (hs : swapsWithSole [.Tuple [.Name x1 q1, .Name x2 q2] kk q4] (.Call (.Attribute (.Name x p1) "pop" p2) [] [] p3) pos.line X.env = pure false := by rfl) (hw : swappedStores [.Tuple [.Name x1 q1, .Name x2 q2] kk q4] (.Call (.Attribute (.Name x p1) "pop" p2) [] [] p3) X.env = pure none := by rfl) :
    BX X (.Assign [.Tuple [.Name x1 q1, .Name x2 q2] kk q4] (.Call (.Attribute (.Name x p1) "pop" p2) [] [] p3) pos :: rest) (St B ρ) Po := by
  subst hK
  refine bx_cons (Mid := St B (((ρ.set i (some (own X.K l ds))).set i1 (some (dat X.K A1))).set i2 (some (dat X.K A2)))) ?_ h
  refine PS_wk (ps_asg (pe_bm0 PySem.F.plainAttrs_list PySem.F.slot_list_pop PySem.F.type_list_pop mt_pop (pe_var h0 hv hd hcd) hbase hline) (pg_tup hc (pgs_cons (pg_name hN h1 l1 f1) (pgs_cons (pg_name hN h2 l2 f2) pgs_nil))) hs hw) fun E σ H ⟨s, q⟩ => ?_
  obtain ⟨v, a1, rfl, hl, vs, a2, a3⟩ := s.good.get hi
  obtain ⟨us, u, rfl, a4, a5⟩ : ∃ us u, vs = us ++ [u] ∧ DRl X.K H ds us ∧ DR X.K H (.t [A1, A2]) u := by
    have hlen := a3.1
    rw [List.length_append, List.length_singleton] at hlen
    have hne : vs ≠ [] := fun z => by rw [z] at hlen; simp at hlen
    refine ⟨vs.dropLast, vs.getLast hne, (List.dropLast_concat_getLast hne).symm, ⟨by rw [List.length_dropLast]; omega, fun j e' v' b1 b2 => ?_⟩, ?_⟩
    · have hj : j < ds.length := (List.getElem?_eq_some_iff.mp b1).1
      refine a3.2 j e' v' (by rw [List.getElem?_append_left hj]; exact b1) ?_
      rw [List.getElem?_dropLast] at b2
      split at b2
      · exact b2
      · cases b2
    · refine a3.2 ds.length _ _ (by rw [List.getElem?_append_right (Nat.le_refl _)]; simp) ?_
      rw [List.getLast_eq_getElem, List.getElem?_eq_getElem (by omega)]
      congr 2
      omega
  refine ⟨_, a1, Or.inl ⟨rfl, _, SqL.of a2⟩, l, _, u, rfl, rfl, a2, by simp, ?_⟩
  rw [List.dropLast_concat]
  have s2 := st_own s hi hB hb (ds' := ds) (vs' := us) a4
  have t2 := Tk.lst (ys := us) a2
  obtain ⟨t, ws, rfl, g1, g2⟩ := DR.tup (a5.tk t2)
  match ws, g2 with
  | [v1, v2], g2 =>
    refine ⟨t, [v1, v2], rfl, g1, rfl, v1, [v2], rfl, v2, [], rfl, rfl, ?_⟩
    exact q.nx _ _ t2 ⟨s2.ext, s2.dr, (s2.good.set i1 (R := dat X.K A1) (g2.2 0 A1 v1 rfl rfl)).set i2 (R := dat X.K A2) (g2.2 1 A2 v2 rfl rfl)⟩
  | [], g2 => exact absurd g2.1 (by simp)
  | [_], g2 => exact absurd g2.1 (by simp)
  | _ :: _ :: _ :: _, g2 => exact absurd g2.1 (by simp)
/-- a if c else b, new lists -/
theorem x_ifL {B' : Hp} {K : PySem.W.Frag} {t : Bool} {d1 d2 : List D} {p2 : Pos} (hc : TX X B ρ c (is t)) (ha : t = true → EX X B ρ a (newL B' K d1)) (hb : t = false → EX X B ρ b (newL B' K d2)) : EX X B ρ (.IfExp c a b p2) (newL B' K (if t = true then d1 else d2)) := by
  have ha' : PE X a (fun σ H Q => t = true ∧ St B ρ σ H ∧ ∀ v H', Ext d H H' → (newL (d := d) B' K d1).p v H' → Q v H') := ⟨fun pins s σ H Q I ⟨ht, q⟩ => (ha ht).run pins s σ H Q I q⟩
  have hb' : PE X b (fun σ H Q => t = false ∧ St B ρ σ H ∧ ∀ v H', Ext d H H' → (newL (d := d) B' K d2).p v H' → Q v H') := ⟨fun pins s σ H Q I ⟨ht, q⟩ => (hb ht).run pins s σ H Q I q⟩
  refine PE_wk (pe_ifExp hc ha' hb') fun σ H Q ⟨s, q⟩ => ⟨s, fun k H1 e1 hk => ?_⟩
  obtain rfl : k = t := hk
  cases k with
  | true =>
    rw [if_pos rfl]
    exact ⟨rfl, s.mono e1, fun v H2 e2 hv => q v H2 (e1.trans e2) (by rw [if_pos rfl]; exact hv)⟩
  | false =>
    rw [if_neg Bool.false_ne_true]
    exact ⟨rfl, s.mono e1, fun v H2 e2 hv => q v H2 (e1.trans e2) (by rw [if_neg Bool.false_ne_true]; exact hv)⟩
theorem SqB.ins {B' : Hp} {K : PySem.W.Frag} {H : Hp} {b x C dx : Addr} {xs : List V} {fs fs' : List (Str × V)} (h : SqB B' d K H b xs) (hx : H x = some (.ins C dx fs)) : SqB B' d K (upd H x (.ins C dx fs')) b xs := h.imp (fun h => (tk_ins hx).sqT h) fun ⟨h1, h2, h3⟩ => ⟨h1, h2, by rw [upd_ne (fun z => by rw [z, hx] at h3; cases h3)]; exact h3⟩
theorem io_rowV {x : Addr} {B' : Hp} {K : PySem.W.Frag} {row : List Int} : IndO x (rowV (d := d) B' K row) := fun v H C dx fs fs' hx ⟨b, h1, h2⟩ => ⟨b, h1, h2.ins hx⟩
theorem io_rwsV {x : Addr} {B' : Hp} {K : PySem.W.Frag} {rows : List (List Int)} : IndO x (rwsV (d := d) B' K rows) := fun v H C dx fs fs' hx ⟨a, xs, h1, h2, h3, h4⟩ => ⟨a, xs, h1, h2.ins hx, h3, fun i row u hr hu => io_rowV u H C dx fs fs' hx (h4 i row u hr hu)⟩
/-- this very value -/
def eqR (w : V) (R : Rp d) : Rp d := ⟨fun v H => v = w ∧ R.p v H, fun e ⟨h1, h2⟩ => ⟨h1, R.st e h2⟩⟩
theorem io_eq {x : Addr} {w : V} (h : IndO x R) : IndO x (eqR w R) := fun v H C dx fs fs' hx ⟨h1, h2⟩ => ⟨h1, h v H C dx fs fs' hx h2⟩
theorem ind_eq {l : Addr} {w : V} (h : Ind l R) : Ind l (eqR w R) := fun v H xs ys hl ⟨h1, h2⟩ => ⟨h1, h v H xs ys hl h2⟩
theorem x_eqR {w : V} (h : EX X B ρ e (eqR w R)) : EX X B ρ e R := x_sub h fun v H hv => hv.2
theorem ind_wlk {l C y : Addr} {B' : Hp} {K : PySem.W.Frag} {fr fs : Str} {rows : List (List Int)} {l' : Addr} {sn : List Bool} (hB : B' l = none) (hne : l' ≠ l) : Ind l (insA (d := d) C y (wlk B' K fr fs rows l' sn)) := fun v H xs ys hl ⟨h0, dx, gs, h1, h2, h3⟩ => ⟨h0, dx, gs, by rw [upd_ne (fun z => by rw [z, hl] at h1; cases h1)]; exact h1, h2, fun i f R hi => by
  match i, hi with
  | 0, hi =>
    cases hi
    obtain ⟨u', hu', w4⟩ := h3 0 fr _ rfl
    exact ⟨u', hu', ind_rwsV hB _ _ _ _ hl w4⟩
  | 1, hi =>
    cases hi
    obtain ⟨u', hu', w4⟩ := h3 1 fs _ rfl
    exact ⟨u', hu', ind_own hne _ _ _ _ hl w4⟩⟩
end
end Cv

namespace Cv
open PySem PySem.Spec PyProof.Rows L2 RZ
/-! ### paths: all vertices but the last are in P -/
inductive Pth (E : Nat → Nat → Prop) (P : Nat → Prop) : Nat → Nat → Prop
  | nil (v : Nat) : Pth E P v v
  | cons {u w v : Nat} (hp : P u) (he : E u w) (h : Pth E P w v) : Pth E P u v
abbrev Rch (E : Nat → Nat → Prop) : Nat → Nat → Prop := Pth E (fun _ => True)
namespace Pth
variable {E : Nat → Nat → Prop} {P Q : Nat → Prop} {u v w x t : Nat}
theorem mono (hq : ∀ z, P z → Q z) (h : Pth E P u v) : Pth E Q u v := by
  induction h with
  | nil v => exact .nil v
  | cons hp he _ ih => exact .cons (hq _ hp) he ih
theorem rch (h : Pth E P u v) : Rch E u v := h.mono fun _ _ => trivial
theorem trans (h : Pth E P u v) (g : Pth E P v w) : Pth E P u w := by
  induction h with
  | nil v => exact g
  | cons hp he _ ih => exact .cons hp he (ih g)
theorem snoc (h : Pth E P u v) (hp : P v) (he : E v w) : Pth E P u w := h.trans (.cons hp he (.nil _))
theorem one (hp : P u) (he : E u v) : Pth E P u v := .cons hp he (.nil _)
theorem last (h : Pth E P u v) : u = v ∨ ∃ z, P z ∧ E z v := by
  induction h with
  | nil v => exact .inl rfl
  | cons hp he _ ih =>
    rcases ih with ih | ih
    · subst ih
      exact .inr ⟨_, hp, he⟩
    · exact .inr ih
theorem split (t : Nat) (h : Pth E (fun z => P z ∨ z = t) u v) : Pth E P u v ∨ Pth E P u t := by
  induction h with
  | nil v => exact .inl (.nil v)
  | cons hp he _ ih =>
    rcases hp with hp | hp
    · rcases ih with ih | ih
      · exact .inl (.cons hp he ih)
      · exact .inr (.cons hp he ih)
    · subst hp
      exact .inr (.nil _)
theorem rev (h : Pth E P u v) : ∀ {Q : Nat → Prop}, (∀ z, P z → Q z) → Q v → Pth (fun a b => E b a) Q v u := by
  induction h with
  | nil v => intro Q _ _; exact .nil v
  | cons hp he h ih =>
    intro Q hq hv
    exact (ih hq hv).snoc (by
      cases h with
      | nil v => exact hv
      | cons hp' _ _ => exact hq _ hp') he
/-- the last time the path is at u is cut off -/
theorem cut (t : Nat) (h : Pth E P u v) : v = t ∨ Pth E (fun z => P z ∧ z ≠ t) u v ∨ ∃ w, E t w ∧ Pth E (fun z => P z ∧ z ≠ t) w v := by
  induction h with
  | nil v => exact .inr (.inl (.nil v))
  | @cons u w v hp he _ ih =>
    rcases ih with ih | ih | ih
    · exact .inl ih
    · by_cases hu : u = t
      · subst hu
        exact .inr (.inr ⟨w, he, ih⟩)
      · exact .inr (.inl (.cons ⟨hp, hu⟩ he ih))
    · exact .inr (.inr ih)
end Pth
/-- those that lead to each other -/
def Mut (E : Nat → Nat → Prop) (u v : Nat) : Prop := Rch E u v ∧ Rch E v u
namespace Mut
variable {E : Nat → Nat → Prop} {u v w : Nat}
theorem refl (u : Nat) : Mut E u u := ⟨.nil u, .nil u⟩
theorem symm (h : Mut E u v) : Mut E v u := ⟨h.2, h.1⟩
theorem trans (h : Mut E u v) (g : Mut E v w) : Mut E u w := ⟨h.1.trans g.1, g.2.trans h.2⟩
end Mut
theorem mut_path {E : Nat → Nat → Prop} {f u v : Nat} (h : Rch E u v) : Rch E f u → Rch E v f → Pth E (fun z => Mut E f z) u v := by
  induction h with
  | nil v => intro _ _; exact .nil v
  | cons _ he h ih =>
    intro a b
    exact .cons ⟨a, (Pth.cons trivial he h).trans b⟩ he (ih (a.snoc trivial he) b)
/-! ### one visit -/
structure Vst (E : Nat → Nat → Prop) (n : Nat) (F0 : List Nat) (un0 : Nat → Prop) (first : Nat) (fin S : List Nat) : Prop where
  nd : (F0 ++ fin ++ S).Nodup
  lt : ∀ x ∈ F0 ++ fin ++ S, x < n
  chain : S.Pairwise (Rch E)
  i2 : ∀ p ∈ S, ∀ x, Pth E (· ∈ F0 ++ fin) x p → Rch E p x
  i3 : ∀ i v, (F0 ++ fin)[i]? = some v → ∀ x, Pth E (· ∈ (F0 ++ fin).take i) x v → Rch E v x
  i4 : ∀ x ∈ F0 ++ fin, ∀ y, E x y → y ∈ F0 ++ fin ∨ y ∈ S
  i5 : ∀ x, x ∈ fin ∨ x ∈ S → un0 x ∧ Pth E un0 first x
  i6 : first ∈ fin ∨ first ∈ S
  un : ∀ x, un0 x ↔ x < n ∧ x ∉ F0
/-- what holds of all that was visited so far -/
structure Vtd (E : Nat → Nat → Prop) (n : Nat) (F : List Nat) : Prop where
  nd : F.Nodup
  lt : ∀ x ∈ F, x < n
  i3 : ∀ i v, F[i]? = some v → ∀ x, Pth E (· ∈ F.take i) x v → Rch E v x
  i4 : ∀ x ∈ F, ∀ y, E x y → y ∈ F
theorem Vtd.nil (E : Nat → Nat → Prop) (n : Nat) : Vtd E n [] := ⟨.nil, fun _ h => by simp at h, fun i v h => by simp at h, fun _ h => by simp at h⟩
theorem vst_start {E : Nat → Nat → Prop} {n : Nat} {F : List Nat} {first : Nat} (h : Vtd E n F) (hl : first < n) (hf : first ∉ F) : Vst E n F (fun x => x < n ∧ x ∉ F) first [] [first] where
  nd := by
    rw [List.append_nil, List.nodup_append]
    refine ⟨h.nd, by simp, ?_⟩
    intro a ha b hb he
    rw [List.mem_singleton] at hb
    exact hf (hb ▸ he ▸ ha)
  lt := by
    intro x hx
    rw [List.append_nil, List.mem_append, List.mem_singleton] at hx
    rcases hx with hx | rfl
    · exact h.lt x hx
    · exact hl
  chain := by simp
  i2 := by
    intro p hp x hx
    rw [List.mem_singleton] at hp
    subst hp
    rw [List.append_nil] at hx
    rcases hx.last with rfl | ⟨z, hz, he⟩
    · exact .nil _
    · exact absurd (h.i4 z hz _ he) hf
  i3 := by
    rw [List.append_nil]
    exact h.i3
  i4 := by
    rw [List.append_nil]
    intro x hx y he
    exact .inl (h.i4 x hx y he)
  i5 := by
    intro x hx
    rcases hx with hx | hx
    · simp at hx
    · rw [List.mem_singleton] at hx
      subst hx
      exact ⟨⟨hl, hf⟩, .nil _⟩
  i6 := .inr (by simp)
  un := fun _ => Iff.rfl
theorem vst_fin {E : Nat → Nat → Prop} {n : Nat} {F0 : List Nat} {un0 : Nat → Prop} {first : Nat} {fin S : List Nat} {t : Nat}
    (h : Vst E n F0 un0 first fin (S ++ [t])) (he : ∀ y, E t y → y ∈ F0 ++ fin ∨ y ∈ S ++ [t]) : Vst E n F0 un0 first (fin ++ [t]) S where
  nd := by
    have := h.nd
    rw [← List.append_assoc]
    refine this.perm ?_
    rw [List.append_assoc (F0 ++ fin), List.append_assoc]
    simp only [List.append_assoc]
    refine List.Perm.append_left _ (List.Perm.append_left _ ?_)
    exact List.perm_append_comm
  lt := by
    intro x hx
    refine h.lt x ?_
    simp only [List.mem_append, List.mem_singleton] at hx ⊢
    rcases hx with (hx | hx | hx) | hx
    · exact .inl (.inl hx)
    · exact .inl (.inr hx)
    · exact .inr (.inr hx)
    · exact .inr (.inl hx)
  chain := (List.pairwise_append.1 h.chain).1
  i2 := by
    intro p hp x hx
    have hx : Pth E (fun z => z ∈ F0 ++ fin ∨ z = t) x p := hx.mono fun z hz => by
      simp only [List.mem_append, List.mem_singleton] at hz ⊢
      rcases hz with hz | hz | hz
      · exact .inl (.inl hz)
      · exact .inl (.inr hz)
      · exact .inr hz
    rcases hx.split with hx | hx
    · exact h.i2 p (List.mem_append_left _ hp) x hx
    · have h1 := h.i2 t (by simp) x hx
      have h2 : Rch E p t := (List.pairwise_append.1 h.chain).2.2 p hp t (by simp)
      exact h2.trans h1
  i3 := by
    intro i v hv x hx
    rw [← List.append_assoc] at hv hx
    by_cases hi : i < (F0 ++ fin).length
    · rw [List.getElem?_append_left hi] at hv
      rw [List.take_append_of_le_length (by omega)] at hx
      exact h.i3 i v hv x hx
    · have hl : i < (F0 ++ fin ++ [t]).length := by
        rcases Nat.lt_or_ge i (F0 ++ fin ++ [t]).length with h | h
        · exact h
        · rw [List.getElem?_eq_none h] at hv
          cases hv
      rw [List.length_append, List.length_singleton] at hl
      have hi : i = (F0 ++ fin).length := by omega
      subst hi
      rw [List.getElem?_append_right (by omega), Nat.sub_self] at hv
      rw [List.take_append_of_le_length (by omega), List.take_length] at hx
      have : t = v := Option.some.inj hv
      subst this
      exact h.i2 t (by simp) x hx
  i4 := by
    intro x hx y hy
    have : y ∈ F0 ++ fin ∨ y ∈ S ++ [t] := by
      rw [← List.append_assoc, List.mem_append, List.mem_singleton] at hx
      rcases hx with hx | rfl
      · exact h.i4 x hx y hy
      · exact he y hy
    simp only [List.mem_append, List.mem_singleton] at this ⊢
    rcases this with (h1 | h1) | h1 | h1
    · exact .inl (.inl h1)
    · exact .inl (.inr (.inl h1))
    · exact .inr h1
    · exact .inl (.inr (.inr h1))
  i5 := by
    intro x hx
    refine h.i5 x ?_
    simp only [List.mem_append, List.mem_singleton] at hx ⊢
    rcases hx with (h1 | h1) | h1
    · exact .inl h1
    · exact .inr (.inr h1)
    · exact .inr (.inl h1)
  i6 := by
    have := h.i6
    simp only [List.mem_append, List.mem_singleton] at this ⊢
    rcases this with h1 | h1 | h1
    · exact .inl (.inl h1)
    · exact .inr h1
    · exact .inl (.inr h1)
  un := h.un
theorem vst_push {E : Nat → Nat → Prop} {n : Nat} {F0 : List Nat} {un0 : Nat → Prop} {first : Nat} {fin S : List Nat} {t y : Nat}
    (h : Vst E n F0 un0 first fin (S ++ [t])) (he : E t y) (hy : y < n) (h0 : y ∉ F0 ++ fin ++ (S ++ [t])) : Vst E n F0 un0 first fin (S ++ [t] ++ [y]) where
  nd := by
    rw [← List.append_assoc, List.nodup_append]
    refine ⟨h.nd, by simp, ?_⟩
    intro a ha b hb hab
    rw [List.mem_singleton] at hb
    exact h0 (hb ▸ hab ▸ ha)
  lt := by
    intro x hx
    rw [← List.append_assoc, List.mem_append, List.mem_singleton] at hx
    rcases hx with hx | rfl
    · exact h.lt x hx
    · exact hy
  chain := by
    rw [List.pairwise_append]
    refine ⟨h.chain, by simp, ?_⟩
    intro a ha b hb
    rw [List.mem_singleton] at hb
    subst hb
    rw [List.mem_append, List.mem_singleton] at ha
    rcases ha with ha | rfl
    · exact ((List.pairwise_append.1 h.chain).2.2 a ha t (by simp)).snoc trivial he
    · exact .one trivial he
  i2 := by
    intro p hp x hx
    rw [List.mem_append, List.mem_singleton] at hp
    rcases hp with hp | rfl
    · exact h.i2 p hp x hx
    · rcases hx.last with rfl | ⟨z, hz, hzy⟩
      · exact .nil _
      · exact absurd (h.i4 z hz _ hzy) (by
          intro hh
          exact h0 (List.mem_append.2 hh))
  i3 := h.i3
  i4 := by
    intro x hx z hz
    rcases h.i4 x hx z hz with h1 | h1
    · exact .inl h1
    · exact .inr (List.mem_append_left _ h1)
  i5 := by
    intro x hx
    rw [List.mem_append (s := S ++ [t]), List.mem_singleton] at hx
    rcases hx with hx | hx | rfl
    · exact h.i5 x (.inl hx)
    · exact h.i5 x (.inr hx)
    · have h1 := h.i5 t (.inr (by simp))
      refine ⟨(h.un _).2 ⟨hy, fun hh => h0 ?_⟩, h1.2.snoc h1.1 he⟩
      simp only [List.mem_append]
      exact .inl (.inl hh)
  i6 := h.i6.imp id (List.mem_append_left _)
  un := h.un
/-- the end of a visit: all that is reached over what was not visited -/
theorem vst_end {E : Nat → Nat → Prop} {n : Nat} {F0 : List Nat} {un0 : Nat → Prop} {first : Nat} {fin : List Nat} (h : Vst E n F0 un0 first fin []) (hE : ∀ x y, E x y → y < n) :
    Vtd E n (F0 ++ fin) ∧ ∀ x, x ∈ fin ↔ un0 x ∧ Pth E un0 first x := by
  have hd := h.nd
  have hl := h.lt
  rw [List.append_nil] at hd hl
  refine ⟨⟨hd, hl, h.i3, ?_⟩, ?_⟩
  · intro x hx y he
    rcases h.i4 x hx y he with h1 | h1
    · exact h1
    · simp at h1
  · intro x
    constructor
    · intro hx
      exact h.i5 x (.inl hx)
    · rintro ⟨hx, hp⟩
      have key : ∀ u v, Pth E un0 u v → u ∈ fin → un0 v → v ∈ fin := by
        intro u v hp
        induction hp with
        | nil v => intro h _; exact h
        | @cons u w v hpu he hq ih =>
          intro hu hv
          refine ih ?_ hv
          have hw : un0 w := by
            cases hq with
            | nil _ => exact hv
            | cons h1 _ _ => exact h1
          rcases h.i4 u (List.mem_append_right _ hu) w he with h1 | h1
          · rcases List.mem_append.1 h1 with h1 | h1
            · exact absurd h1 ((h.un w).1 hw).2
            · exact h1
          · simp at h1
      refine key first x hp ?_ hx
      rcases h.i6 with h1 | h1
      · exact h1
      · simp at h1
/-! ### two walks -/
/-- names so far: F is what was visited on the way back -/
structure Nms (E : Nat → Nat → Prop) (n : Nat) (F : List Nat) (nm : Nat → Nat) : Prop where
  n1 : ∀ x ∈ F, Mut E x (nm x)
  n2 : ∀ x ∈ F, ∀ y, y < n → Mut E x y → y ∈ F ∧ nm y = nm x
theorem nms_step {E : Nat → Nat → Prop} {n : Nat} {O F fin : List Nat} {nm nm' : Nat → Nat} {k first : Nat} (hE : ∀ x y, E x y → x < n ∧ y < n) (o : Vtd E n O) (hO : ∀ x, x < n → x ∈ O)
    (hk : O[k]? = some first) (hF : ∀ j x, O[j]? = some x → k < j → x ∈ F) (h : Nms E n F nm) (hf : first ∉ F)
    (hfin : ∀ x, x ∈ fin ↔ (x < n ∧ x ∉ F) ∧ Pth (fun a b => E b a) (fun z => z < n ∧ z ∉ F) first x)
    (hn : ∀ x ∈ fin, nm' x = first) (ho : ∀ x, x ∉ fin → nm' x = nm x) : Nms E n (F ++ fin) nm' := by
  have hfn : first < n := o.lt first (List.mem_of_getElem? hk)
  have hD : ∀ x, x < n → (x ∈ fin ↔ Mut E first x) := by
    intro x hx
    constructor
    · intro hx
      obtain ⟨⟨hxn, hxF⟩, hp⟩ := (hfin x).1 hx
      have h1 : Pth E (fun z => z < n ∧ z ∉ F) x first := hp.rev (fun _ h => h) ⟨hxn, hxF⟩
      have h2 : Pth E (fun z => z ∈ O.take k ∨ z = first) x first := h1.mono fun z hz => by
        obtain ⟨j, hj⟩ := List.getElem?_of_mem (hO z hz.1)
        rcases Nat.lt_trichotomy j k with hjk | hjk | hjk
        · refine .inl (List.mem_of_getElem? (i := j) ?_)
          rw [List.getElem?_take_of_lt hjk]
          exact hj
        · subst hjk
          rw [hk] at hj
          exact .inr (Option.some.inj hj).symm
        · exact absurd (hF j z hj hjk) hz.2
      have h3 : Pth E (· ∈ O.take k) x first := by
        rcases h2.split with h | h
        · exact h
        · exact h
      exact ⟨o.i3 k first hk x h3, h1.rch⟩
    · intro hm
      have hp : Pth (fun a b => E b a) (fun z => Mut E first z) first x := by
        have := mut_path hm.2 hm.1 (.nil first)
        exact this.rev (fun _ h => h) (Mut.refl first)
      have hun : ∀ z, z < n → Mut E first z → z < n ∧ z ∉ F := fun z hz hm => ⟨hz, fun hz' => hf (h.n2 z hz' first hfn hm.symm).1⟩
      refine (hfin x).2 ⟨hun x hx hm, ?_⟩
      have hlt : ∀ u v, Pth (fun a b => E b a) (fun z => Mut E first z) u v → u < n → Pth (fun a b => E b a) (fun z => z < n ∧ z ∉ F) u v := by
        intro u v hp
        induction hp with
        | nil v => intro _; exact .nil v
        | cons h1 h2 _ ih =>
          intro hu
          exact .cons (hun _ hu h1) h2 (ih (hE _ _ h2).1)
      exact hlt first x hp hfn
  constructor
  · intro x hx
    by_cases hxf : x ∈ fin
    · rw [hn x hxf]
      exact ((hD x ((hfin x).1 hxf).1.1).1 hxf).symm
    · rw [ho x hxf]
      rcases List.mem_append.1 hx with hx | hx
      · exact h.n1 x hx
      · exact absurd hx hxf
  · intro x hx y hy hm
    by_cases hxf : x ∈ fin
    · have h1 := (hD x ((hfin x).1 hxf).1.1).1 hxf
      have h2 := (hD y hy).2 (h1.trans hm)
      exact ⟨List.mem_append_right _ h2, by rw [hn x hxf, hn y h2]⟩
    · rcases List.mem_append.1 hx with hx | hx
      · obtain ⟨h1, h2⟩ := h.n2 x hx y hy hm
        have h3 : y ∉ fin := fun hh => ((hfin y).1 hh).1.2 h1
        exact ⟨List.mem_append_left _ h1, by rw [ho x hxf, ho y h3]; exact h2⟩
      · exact absurd hx hxf
/-- the names are alike of those that lead to each other -/
theorem nms_end {E : Nat → Nat → Prop} {n : Nat} {F : List Nat} {nm : Nat → Nat} (h : Nms E n F nm) (hF : ∀ x, x < n → x ∈ F) {x y : Nat} (hx : x < n) (hy : y < n) : nm x = nm y ↔ Mut E x y := by
  constructor
  · intro hh
    have h1 := h.n1 x (hF x hx)
    have h2 := h.n1 y (hF y hy)
    rw [← hh] at h2
    exact h1.trans h2.symm
  · intro hm
    exact (h.n2 x (hF x hx) y hy hm).2.symm
/-! ### the walk's state -/
def EdR (rows : List (List Int)) (u v : Nat) : Prop := (v : Int) ∈ rows.getD u []
structure RwOk (rows : List (List Int)) : Prop where
  bd : ∀ r ∈ rows, ∀ t ∈ r, -1 ≤ t ∧ t < rows.length
  few : rows.length ≤ 900
theorem RwOk.ed {rows : List (List Int)} (h : RwOk rows) {u v : Nat} (he : EdR rows u v) : u < rows.length ∧ v < rows.length := by
  unfold EdR at he
  rw [List.getD_eq_getElem?_getD] at he
  cases q : rows[u]? with
  | none => rw [q] at he; simp at he
  | some r =>
    rw [q] at he
    have h1 := h.bd r (List.mem_of_getElem? q) v he
    exact ⟨(List.getElem?_eq_some_iff.mp q).1, by omega⟩
def un0 (n : Nat) (F0 : List Nat) : Nat → Prop := fun x => x < n ∧ x ∉ F0
def SnOk (n : Nat) (sn : List Bool) (F : List Nat) : Prop := sn.length = n ∧ ∀ v, v < n → (sn[v]? = some true ↔ v ∈ F)
structure Wst (rows : List (List Int)) (F0 : List Nat) (k : Nat) (fin : List Nat) (stk : List (Nat × Nat)) (sn : List Bool) : Prop where
  v : Vst (EdR rows) rows.length F0 (un0 rows.length F0) k fin (stk.map Prod.fst)
  s : SnOk rows.length sn (F0 ++ fin ++ stk.map Prod.fst)
  e : ∀ p ∈ stk, p.2 ≤ (rows.getD p.1 []).length ∧ ∀ (j y : Nat), j < p.2 → (rows.getD p.1 [])[j]? = some (y : Int) → y ∈ F0 ++ fin ++ stk.map Prod.fst
section
variable {rows : List (List Int)} {F0 fin : List Nat} {k u i y : Nat} {stk : List (Nat × Nat)} {sn : List Bool}
theorem wst_start (R : RwOk rows) (V : Vtd (EdR rows) rows.length F0) (S : SnOk rows.length sn F0) (hk : k < rows.length) (h : sn[k]? = some false) : Wst rows F0 k [] [(k, 0)] (sn.set k true) := by
  have hk0 : k ∉ F0 := fun z => by
    have := (S.2 k hk).2 z
    rw [h] at this
    cases this
  refine ⟨vst_start V hk hk0, ⟨by simp [S.1], fun v hv => ?_⟩, fun p hp => ?_⟩
  · by_cases hvk : v = k
    · subst hvk
      rw [List.getElem?_set_self (by rw [S.1]; exact hv)]
      simp
    · rw [List.getElem?_set_ne (fun z => hvk z.symm), S.2 v hv]
      simp [hvk]
  · rw [List.mem_singleton] at hp
    subst hp
    exact ⟨Nat.zero_le _, fun j y hj => absurd hj (Nat.not_lt_zero _)⟩
theorem wst_lt (W : Wst rows F0 k fin (stk ++ [(u, i)]) sn) : u < rows.length := W.v.lt u (by simp)
theorem wst_fin (W : Wst rows F0 k fin (stk ++ [(u, i)]) sn) (h : i = (rows.getD u []).length) : Wst rows F0 k (fin ++ [u]) stk sn := by
  obtain ⟨v, s, e⟩ := W
  have hperm : ∀ x, x ∈ F0 ++ (fin ++ [u]) ++ stk.map Prod.fst ↔ x ∈ F0 ++ fin ++ (stk ++ [(u, i)]).map Prod.fst := by
    intro x
    simp only [List.map_append, List.map_cons, List.map_nil, List.mem_append, List.mem_singleton]
    constructor
    · rintro ((h | h | h) | h)
      · exact .inl (.inl h)
      · exact .inl (.inr h)
      · exact .inr (.inr h)
      · exact .inr (.inl h)
    · rintro ((h | h) | h | h)
      · exact .inl (.inl h)
      · exact .inl (.inr (.inl h))
      · exact .inr h
      · exact .inl (.inr (.inr h))
  refine ⟨?_, ⟨s.1, fun x hx => (s.2 x hx).trans (hperm x).symm⟩, fun p hp => ?_⟩
  · rw [List.map_append] at v
    refine vst_fin v fun y hy => ?_
    obtain ⟨j, hj⟩ := List.getElem?_of_mem hy
    have hjl := (List.getElem?_eq_some_iff.mp hj).1
    have := (e (u, i) (by simp)).2 j y (by rw [h]; exact hjl) hj
    rw [List.map_append] at this
    rcases List.mem_append.1 this with h1 | h1
    · exact .inl h1
    · exact .inr h1
  · have h1 := e p (List.mem_append_left _ hp)
    exact ⟨h1.1, fun j y hj hy => (hperm y).2 (h1.2 j y hj hy)⟩
theorem wst_skip {t : Int} (W : Wst rows F0 k fin (stk ++ [(u, i)]) sn) (ht : (rows.getD u [])[i]? = some t) (h : ∀ y : Nat, t = y → sn[y]? = some true) (R : RwOk rows) : Wst rows F0 k fin (stk ++ [(u, i + 1)]) sn := by
  obtain ⟨v, s, e⟩ := W
  have hm : (stk ++ [(u, i + 1)]).map Prod.fst = (stk ++ [(u, i)]).map Prod.fst := by simp
  have hil := (List.getElem?_eq_some_iff.mp ht).1
  refine ⟨by rw [hm]; exact v, by rw [hm]; exact s, fun p hp => ?_⟩
  rw [hm]
  rcases List.mem_append.1 hp with hp | hp
  · exact e p (List.mem_append_left _ hp)
  · rw [List.mem_singleton] at hp
    subst hp
    refine ⟨hil, fun j y hj hy => ?_⟩
    rcases Nat.lt_or_ge j i with hji | hji
    · exact (e (u, i) (by simp)).2 j y hji hy
    · have : j = i := by
        have : j < i + 1 := hj
        omega
      subst this
      rw [ht] at hy
      have hty : t = y := Option.some.inj hy
      have hyn : y < rows.length := (R.ed (u := u) (v := y) (by unfold EdR; rw [← hty]; exact List.mem_of_getElem? ht)).2
      exact (s.2 y hyn).1 (h y hty)
theorem wst_push (W : Wst rows F0 k fin (stk ++ [(u, i)]) sn) (ht : (rows.getD u [])[i]? = some (y : Int)) (h : sn[y]? = some false) (R : RwOk rows) : Wst rows F0 k fin (stk ++ [(u, i + 1)] ++ [(y, 0)]) (sn.set y true) := by
  obtain ⟨v, s, e⟩ := W
  have hm : (stk ++ [(u, i + 1)]).map Prod.fst = (stk ++ [(u, i)]).map Prod.fst := by simp
  have hil := (List.getElem?_eq_some_iff.mp ht).1
  have he : EdR rows u y := by unfold EdR; exact List.mem_of_getElem? ht
  have hyn := (R.ed he).2
  have hy0 : y ∉ F0 ++ fin ++ (stk ++ [(u, i)]).map Prod.fst := fun z => by
    have := (s.2 y hyn).2 z
    rw [h] at this
    cases this
  have hmm : (stk ++ [(u, i + 1)] ++ [(y, 0)]).map Prod.fst = stk.map Prod.fst ++ [u] ++ [y] := by simp
  have hm0 : (stk ++ [(u, i)]).map Prod.fst = stk.map Prod.fst ++ [u] := by simp
  rw [hm0] at v s hy0
  refine ⟨by rw [hmm]; exact vst_push v he hyn hy0, ?_, fun p hp => ?_⟩
  · rw [hmm]
    refine ⟨by simp [s.1], fun x hx => ?_⟩
    by_cases hxy : x = y
    · subst hxy
      rw [List.getElem?_set_self (by rw [s.1]; exact hx)]
      simp
    · rw [List.getElem?_set_ne (fun z => hxy z.symm), s.2 x hx, ← List.append_assoc (F0 ++ fin)]
      simp [hxy]
  · rw [hmm, ← List.append_assoc (F0 ++ fin)]
    rcases List.mem_append.1 hp with hp | hp
    · rcases List.mem_append.1 hp with hp | hp
      · have h1 := e p (List.mem_append_left _ hp)
        rw [hm0] at h1
        exact ⟨h1.1, fun j z hj hz => List.mem_append_left _ (h1.2 j z hj hz)⟩
      · rw [List.mem_singleton] at hp
        subst hp
        refine ⟨hil, fun j z hj hz => ?_⟩
        rcases Nat.lt_or_ge j i with hji | hji
        · have h1 := (e (u, i) (by simp)).2 j z hji hz
          rw [hm0] at h1
          exact List.mem_append_left _ h1
        · have : j = i := by
            have : j < i + 1 := hj
            omega
          subst this
          rw [ht] at hz
          have : y = z := by
            have := Option.some.inj hz
            omega
          subst this
          simp
    · rw [List.mem_singleton] at hp
      subst hp
      exact ⟨Nat.zero_le _, fun j z hj => absurd hj (Nat.not_lt_zero _)⟩
/-! the measure -/
def wcost (rows : List (List Int)) (sn : List Bool) : Nat := ((rows.zip sn).map fun p => if p.2 = true then 0 else p.1.length + 2).sum
def scost (rows : List (List Int)) (stk : List (Nat × Nat)) : Nat := (stk.map fun p => (rows.getD p.1 []).length - p.2 + 1).sum
theorem scost_snoc : scost rows (stk ++ [(u, i)]) = scost rows stk + ((rows.getD u []).length - i + 1) := by
  unfold scost
  rw [List.map_append, List.sum_append]
  simp
theorem wcost_set : ∀ {rows : List (List Int)} {sn : List Bool} {y : Nat}, sn[y]? = some false → y < rows.length → wcost rows (sn.set y true) + ((rows.getD y []).length + 2) = wcost rows sn
  | [], _, _, _, h => absurd h (Nat.not_lt_zero _)
  | r :: rows, [], _, h, _ => by simp at h
  | r :: rows, b :: sn, 0, h, _ => by
    have : b = false := by simpa using h
    subst this
    unfold wcost
    simp
    omega
  | r :: rows, b :: sn, y + 1, h, hl => by
    have ih := wcost_set (rows := rows) (sn := sn) (y := y) (by simpa using h) (by simpa using hl)
    unfold wcost at ih ⊢
    simp only [List.set_cons_succ, List.zip_cons_cons, List.map_cons, List.sum_cons, List.getD_cons_succ]
    omega
/-- the whole visit -/
def VRes (rows : List (List Int)) (F0 : List Nat) (sn : List Bool) (k : Nat) (fin : List Nat) (sn' : List Bool) : Prop :=
  Vtd (EdR rows) rows.length (F0 ++ fin) ∧ SnOk rows.length sn' (F0 ++ fin) ∧ (k ∈ F0 → fin = []) ∧ (k ∉ F0 → ∀ x, x ∈ fin ↔ un0 rows.length F0 x ∧ Pth (EdR rows) (un0 rows.length F0) k x)
theorem vres_seen (V : Vtd (EdR rows) rows.length F0) (S : SnOk rows.length sn F0) (hk : k < rows.length) (h : sn[k]? = some true) : VRes rows F0 sn k [] (sn.set k true) := by
  have hs : sn.set k true = sn := by
    refine List.ext_getElem? fun j => ?_
    by_cases hj : k = j
    · subst hj
      rw [List.getElem?_set_self (by rw [S.1]; exact hk), h]
    · rw [List.getElem?_set_ne hj]
  rw [hs]
  have hF := (S.2 k hk).1 h
  exact ⟨by rw [List.append_nil]; exact V, by rw [List.append_nil]; exact S, fun _ => rfl, fun z => absurd hF z⟩
theorem vres_end {sn0 : List Bool} (W : Wst rows F0 k fin [] sn) (R : RwOk rows) : VRes rows F0 sn0 k fin sn := by
  obtain ⟨h1, h2⟩ := vst_end W.v fun x y he => (R.ed he).2
  have hk : k ∉ F0 := by
    have := W.v.i6
    rcases this with h | h
    · exact ((W.v.un k).1 (W.v.i5 k (.inl h)).1).2
    · simp at h
  have hs := W.s
  rw [List.map_nil, List.append_nil] at hs
  exact ⟨h1, hs, fun z => absurd z hk, fun _ => h2⟩
theorem wst_few (W : Wst rows F0 k fin stk sn) (R : RwOk rows) : fin.length + stk.length ≤ 900 := by
  have h1 := W.v.nd
  have h2 : (F0 ++ fin ++ stk.map Prod.fst).length ≤ (List.range rows.length).length := h1.length_le_of_subset fun x hx => List.mem_range.2 (W.v.lt x hx)
  have := R.few
  simp only [List.length_append, List.length_map, List.length_range] at h2
  omega
end
end Cv

namespace Cv
open PySem PySem.Spec PyProof.Rows L2 RZ
section
variable {d : Option Addr} {X : Cx} {B : Hp} {ρ ρ' : Ro d} {a b c e iter elt : Expr} {es : List Expr} {R R' Ra Rb : Rp d} {Rs : List (Rp d)} {pos : Pos} {m n : Int} {st : Stmt} {rest body orelse : List Stmt} {Pre Mid : L2.St → Hp → Prop} {Po : Ends}
/-! ### lists of lists, each at a place of its own -/
structure LlNew (B : Hp) (z : Addr × LlT) : Prop where
  o : B z.1 = none
  i : ∀ t ∈ z.2, B t.1 = none ∧ t.1 ≠ z.1
  nd : (z.2.map (·.1)).Nodup
def newLD (B : Hp) (K : PySem.W.Frag) (P : LlT → Prop) : Rp d := exR (fun z : Addr × LlT => P z.2 ∧ LlNew B z) fun z => llR K z.1 z.2
def LcD (H1 : Hp) (K : PySem.W.Frag) (Dl : Addr) (d : Option Addr) (B : Hp) (g : Nat → List Int) (i : Nat) (H : Hp) : Prop :=
  Ext d H1 H ∧ ∃ (vs : List V) (T : LlT), H Dl = some (.lst vs) ∧ vs.length = T.length ∧ T.length = i ∧ (T.map (·.1)).Nodup ∧ (∀ t ∈ T, H t.1 ≠ none) ∧ (∀ (j : Nat) t u, T[j]? = some t → vs[j]? = some u → llP K d H t u ∧ t.2 = g j ∧ B t.1 = none ∧ t.1 ≠ Dl)
theorem as_lcTN {src : List D} (i0 j : Nat) {x y : Str} {py spos : Pos} {scope : Scope} {tpos : Pos} (g : D → List Int) (hi : EX X B ρ iter (dat X.K (.t src))) (hn : src.length < 2000) (hN : X.N.Nodup) (hok : BlkOk X.N X.env.scope scope [(x, j)])
    (hgn : ∀ (s : Shared) (H : Hp) (C : Addr) (cl : List (Str × Addr)) (fp : List Addr), PG (X.blk s H scope (compEnvC scope cl C X.env) fp) (.Name x tpos) (gName j))
    (hb : ∀ (s : Shared) (H : Hp) (C : Addr) (cl : List (Str × Addr)) (fp : List Addr) (i : Nat) (w : D) (B' : Hp), src[i]? = some w → EX (X.blk s H scope (compEnvC scope cl C X.env) fp) B' (ρ.set j (some (dat X.K w))) elt (newL B' X.K ((g w).map D.i)))
    (hc : X.calm = true := by rfl) (hs : ∀ x, foldedSetIterable iter X.env x = pure x := by intro _; rfl)
    (hy0 : X.N[i0]? = some y := by rfl) (hyl : X.env.scope.names.lookup y = some .local := by rfl) (hsw : swapsWith (.ListComp elt [⟨.Name x tpos, iter, [], 0⟩] scope pos) (some (.Name y py)) spos.line X.env = pure true := by rfl) :
    AsgX X B ρ i0 (.Assign [.Name y py] (.ListComp elt [⟨.Name x tpos, iter, [], 0⟩] scope pos) spos) (newLD B X.K fun T => T.map (·.2) = src.map g) := by
  refine PS_wk (ps_setLc (own := [(x, j)]) (g := gName j) (tt := tYes) (te := tEltN (Z := Nat × D) B X.K (fun z => ρ.set j (some (dat X.K z.2))) (fun z => src[z.1]? = some z.2) (fun z => g z.2)) hc hN hy0 hyl hsw (pi_tup hi) hok hgn (fun _ _ _ _ _ => pts_nil) (fun s H C cl fp => eltN_of fun z hz B' => hb s H C cl fp z.1 z.2 B' hz) hs) fun E σ H ⟨s, q⟩ => ⟨s, fun v H1 e1 hv => ?_⟩
  obtain ⟨tt, us, rfl, g1, g2⟩ := DR.tup hv
  have s1 := s.mono e1
  refine ⟨tt, rfl, ⟨us, g1⟩, fun Dl hD => ?_⟩
  obtain ⟨hB, hDd⟩ := s1.fresh hD
  refine lc_tup (K := X.K) (a := tt) (xs := us) (LcD H1 X.K Dl d B fun k => ((src[k]?).map g).getD []) ⟨Ext.new hD, [], [], upd_same, rfl, rfl, .nil, fun _ h => by simp at h, fun j t u h => by cases h⟩ (fun i H' _ L => L.1.tk.sqT g1) (fun i y H' hy L => ?_) (fun H' L => ?_)
  · obtain ⟨w, hw, hr⟩ := g2.getV hy
    refine ⟨wipe1 _ _ _, ?_⟩
    refine ⟨(i, w), hw, st_wipe (s1.mono L.1) (R := dat X.K w) (hr.tk L.1.tk), fun v H2 e2 hv => ?_⟩
    obtain ⟨a, ha, rfl, had, ws, q1, q2⟩ := hv
    obtain ⟨h0, vs, T, p1, p2, p3, pn, pk, p4⟩ := L
    have p1' := e2.at p1 hDd
    have haD : a ≠ Dl := fun z => by rw [z, p1] at ha; cases ha
    have hBa : B a = none := by
      cases eb : B a with
      | none => rfl
      | some o =>
        have := (s1.mono h0).ext.at eb had
        rw [ha] at this; cases this
    have hlen : vs.length < 2000 := by
      have := (List.getElem?_eq_some_iff.mp hw).1
      omega
    refine ⟨vs, p1', Nat.lt_of_lt_of_le hlen (by decide), (h0.trans e2).mut hD hDd, vs ++ [.ref a], T ++ [(a, g w)], upd_same, by simp [p2], by simp [p3], ?_, ?_, fun k t u ht hu => ?_⟩
    · rw [List.map_append, List.nodup_append]
      refine ⟨pn, by simp, fun x hx y hy hxy => ?_⟩
      obtain ⟨t, ht, rfl⟩ := List.mem_map.mp hx
      rw [List.map_cons, List.map_nil, List.mem_singleton] at hy
      subst hy
      exact pk t ht (by rw [hxy]; exact ha)
    · intro t ht
      rcases List.mem_append.mp ht with ht | ht
      · obtain ⟨k, hk⟩ := List.getElem?_of_mem ht
        have hkl := (List.getElem?_eq_some_iff.mp hk).1
        obtain ⟨r1, _, _, r4⟩ := p4 k t _ hk (List.getElem?_eq_getElem (show k < vs.length by omega))
        obtain ⟨_, r5, ws', r6, _⟩ := r1
        rw [upd_ne r4, e2.at r6 r5]
        exact fun z => by cases z
      · rw [List.mem_singleton.mp ht, upd_ne haD, q1]
        exact fun z => by cases z
    · by_cases hk : k < T.length
      · rw [List.getElem?_append_left hk] at ht
        rw [List.getElem?_append_left (by omega)] at hu
        obtain ⟨r1, r2, r3, r4⟩ := p4 k t u ht hu
        exact ⟨(r1.ext e2).upd p1' r4, r2, r3, r4⟩
      · have hk' : k = T.length := by
          have := (List.getElem?_eq_some_iff.mp ht).1
          simp at this; omega
        subst hk'
        rw [List.getElem?_append_right (Nat.le_refl _), Nat.sub_self] at ht
        rw [List.getElem?_append_right (by omega), p2, Nat.sub_self] at hu
        cases ht; cases hu
        refine ⟨⟨rfl, had, ws, by rw [upd_ne haD]; exact q1, q2.tk (Tk.lst p1')⟩, ?_, hBa, haD⟩
        show g w = ((src[T.length]?).map g).getD []
        rw [p3, hw]; rfl
  · obtain ⟨h0, vs, T, p1, p2, p3, pn, pk, p4⟩ := L
    have hul : us.length = src.length := g2.1.symm
    have each : ∀ t ∈ T, B t.1 = none ∧ t.1 ≠ Dl := fun t ht => by
      obtain ⟨k, hk⟩ := List.getElem?_of_mem ht
      have hkl : k < List.length T := (List.getElem?_eq_some_iff.mp hk).1
      exact (p4 k t _ hk (List.getElem?_eq_getElem (show k < vs.length by omega))).2.2
    refine q _ H' (e1.trans h0) ⟨(Dl, T), ⟨?_, hB, each, pn⟩, rfl, hDd, vs, p1, p2, fun k t u ht hu => (p4 k t u ht hu).1⟩
    apply List.ext_getElem?
    intro k
    rw [List.getElem?_map, List.getElem?_map]
    by_cases hk : k < T.length
    · have ht : T[k]? = some T[k] := List.getElem?_eq_getElem hk
      have hu : vs[k]? = some (vs[k]'(by omega)) := List.getElem?_eq_getElem _
      have : T[k].2 = ((src[k]?).map g).getD [] := (p4 k _ _ ht hu).2.1
      have hks : k < src.length := by omega
      rw [ht, List.getElem?_eq_getElem hks]
      rw [List.getElem?_eq_getElem hks] at this
      exact congrArg some this
    · have hk2 : src.length ≤ k := by omega
      rw [List.getElem?_eq_none (show List.length T ≤ k by omega), List.getElem?_eq_none hk2]; rfl
theorem bx_newLD (i : Nat) {K : PySem.W.Frag} {P : LlT → Prop} (ls : List Addr) (hls : ∀ l ∈ ls, Known l ρ) (he : ∀ B' : Hp, AsgX X B' ρ i st (newLD B' K P))
    (h : ∀ la T, P T → LlNew B (la, T) → (∀ l' ∈ ls, la ≠ l' ∧ ∀ t ∈ T, t.1 ≠ l') → BX X rest (St B (ρ.set i (some (llR K la T)))) Po) : BX X (st :: rest) (St B ρ) Po := by
  refine bx_cons (Mid := fun σ H => ∃ z : Addr × LlT, (P z.2 ∧ LlNew B z ∧ ∀ l' ∈ ls, z.1 ≠ l' ∧ ∀ t ∈ z.2, t.1 ≠ l') ∧ St B (ρ.set i (some (llR K z.1 z.2))) σ H) ?_ (bx_ex fun z hz => h z.1 z.2 hz.1 hz.2.1 hz.2.2)
  refine ⟨fun pins s σ H E I ⟨st, q⟩ => ?_⟩
  refine (he H).run pins s σ H E I ⟨⟨Ext.refl H, st.dr, st.good⟩, fun v H' e1 hv => ?_⟩
  obtain ⟨⟨la, T⟩, ⟨hP, hz⟩, hv⟩ := hv
  obtain ⟨rfl, hld, vs, v1, v2, v3⟩ := hv
  have old : ∀ a, H a = none → some a ≠ d → B a = none := fun a ha had => by
    cases e2 : B a with
    | none => rfl
    | some o =>
      have := st.ext.at e2 had
      rw [ha] at this; cases this
  have htd : ∀ t ∈ T, some t.1 ≠ d := fun t ht => by
    obtain ⟨k, hk⟩ := List.getElem?_of_mem ht
    have hkl := (List.getElem?_eq_some_iff.mp hk).1
    exact (v3 k t _ hk (List.getElem?_eq_getElem (show k < vs.length by have : vs.length = T.length := v2; omega))).2.1
  refine q.nx _ H' e1.tk ⟨(la, T), ⟨hP, ⟨old la hz.o hld, fun t ht => ⟨old _ (hz.i t ht).1 (htd t ht), (hz.i t ht).2⟩, hz.nd⟩, fun l' hl' => ?_⟩, st.ext.trans e1, (st.mono e1).dr, (st.mono e1).good.set i ⟨rfl, hld, vs, v1, v2, v3⟩⟩
  obtain ⟨k, R, h1, h2⟩ := hls l' hl'
  obtain ⟨w, _, h3⟩ := st.good.get h1
  have h4 := h2 w H h3
  exact ⟨fun z => h4 (by rw [← z]; exact hz.o), fun t ht z => h4 (by rw [← z]; exact (hz.i t ht).1)⟩
/-- xs[k].append(e) -/
theorem bx_appIn (i : Nat) {x : Str} {p1 p2 p3 p4 p5 : Pos} {K : PySem.W.Frag} {la : Addr} {T : LlT} {k : Nat} {t : Addr × List Int} {z : Int} (hi : ρ[i]? = some (some (llR K la T))) (hK : X.K = K) (hk : EX X B ρ b (rI (k : Int))) (ht : T[k]? = some t) (he : EX X B ρ e (rI z)) (hL : LlNew B (la, T)) (hb : IndBut t.1 i ρ) (hz : t.2.length ≤ 1000)
    (h : BX X rest (St B (ρ.set i (some (llR K la (T.set k (t.1, t.2 ++ [z])))))) Po)
    (hN : X.N[i]? = some x := by rfl) (hv : Vis X.env.scope x := by first | exact Or.inl rfl | exact Or.inr (Or.inl rfl) | exact Or.inr (Or.inr rfl)) (hd : (x == ("__debug__" : Str)) = false := by decide) (hcd : (x == ("__classdict__" : Str)) = false := by decide) (hs0 : PlainIx b := by exact (fun _ _ => rfl))
    (hbase : attributeBase (.Subscript (.Name x p1) b p5) "append" X.env (eval (.Subscript (.Name x p1) b p5) X.env) = eval (.Subscript (.Name x p1) b p5) X.env := by rfl)
    (hfew : ((backTo p3 (starEach (e :: []) X.env)).all (fun x => !x.1) && (backToKw p3 (keywordEach [] X.env)).all (fun x => x.1.isSome)
      && decide ((e :: []).length + ([] : List Keyword).length + (if ([] : List Keyword).isEmpty then 0 else 1) < 30)) = true := by rfl)
    (hline : (p2.endLine == p3.line) = true := by rfl) (hs : starEach (e :: []) X.env = (false, eval e X.env) :: starEach [] X.env := by rfl) (hplain : (backTo p3 (starEach [] X.env)).any (·.1) = false := by rfl)
    (hsw : swapsWith (.Call (.Attribute (.Subscript (.Name x p1) b p5) "append" p2) [e] [] p3) none p4.line X.env = pure false := by rfl) :
    BX X (.Expr (.Call (.Attribute (.Subscript (.Name x p1) b p5) "append" p2) [e] [] p3) p4 :: rest) (St B ρ) Po := by
  subst hK
  refine bx_cons (Mid := St B (ρ.set i (some (llR X.K la (T.set k (t.1, t.2 ++ [z])))))) ?_ h
  refine PS_wk (ps_expr (pe_bm PySem.F.plainAttrs_list PySem.F.slot_list_append PySem.F.type_list_append mt_append (pe_ix ix_list (pe_var hN hv hd hcd) hk hs0) (a_cons he a_nil hs) hbase hfew hline hs hplain) hsw) fun E σ H ⟨s, q⟩ => ?_
  obtain ⟨v, g1, g2⟩ := s.good.get hi
  have g2' := g2
  obtain ⟨rfl, hld, vs, v1, v2, v3⟩ := g2
  refine ⟨_, g1, s, fun iv H1 e1 hiv => ?_⟩
  have s1 := s.mono e1
  have hkT := (List.getElem?_eq_some_iff.mp ht).1
  have hu : vs[k]? = some (vs[k]'(by omega)) := List.getElem?_eq_getElem _
  obtain ⟨w1, w2, ws, w3, w4⟩ := v3 k t _ ht hu
  rw [w1] at hu
  refine ⟨la, vs, _, _, rfl, hiv, SqL.of (e1.at v1 hld), atI_nat hu, Or.inl ⟨rfl, _, SqL.of (e1.at w3 w2)⟩, s1, fun us H2 e2 hus => ?_⟩
  obtain ⟨y, rfl, hy⟩ := hus.one
  obtain rfl : y = .int z := hy
  have s2 := s1.mono e2
  have w5 := e2.at (e1.at w3 w2) w2
  obtain rfl := w4.ints
  refine ⟨t.1, _, _, rfl, rfl, w5, by rw [List.length_map]; exact small1000 hz, ?_⟩
  have kk := Tk.lst (ys := t.2.map V.int ++ [V.int z]) w5
  have hmem := List.mem_of_getElem? ht
  have hBt := hL.i t hmem
  refine q.nx σ _ ((e1.tk.trans e2.tk).trans kk) (st_chg s2 hi hBt.1 w2 w5 hb fun v hv => ?_)
  obtain ⟨rfl, _, vs', v1', v2', v3'⟩ := hv
  refine ⟨rfl, hld, vs', by rw [upd_ne hBt.2.symm]; exact v1', by rw [v2', List.length_set], fun j t' u ht' hu' => ?_⟩
  by_cases hj : k = j
  · subst hj
    rw [List.getElem?_set_self hkT] at ht'
    cases ht'
    obtain ⟨a1, _⟩ := v3' k t u ht hu'
    refine ⟨a1, w2, _, upd_same, ?_⟩
    have e5 : t.2.map V.int ++ [V.int z] = (t.2 ++ [z]).map V.int := by simp
    rw [e5]
    exact DRl.of_ints _
  · rw [List.getElem?_set_ne hj] at ht'
    have a1 := v3' j t' u ht' hu'
    refine a1.upd w5 (fun z => ?_)
    have n1 : (T.map (·.1))[j]? = some t'.1 := by rw [List.getElem?_map, ht']; rfl
    have n2 : (T.map (·.1))[k]? = some t.1 := by rw [List.getElem?_map, ht]; rfl
    rw [z] at n1
    have hjl := (List.getElem?_eq_some_iff.mp n1).1
    exact hj ((List.getElem?_inj hjl hL.nd).1 (n1.trans n2.symm)).symm
end
end Cv

namespace Cv
open PySem PySem.Spec PyProof.Rows L2 RZ
section
variable {d : Option Addr} {X : Cx} {B : Hp} {ρ ρ' : Ro d} {a b c e iter elt : Expr} {es : List Expr} {R R' Ra Rb : Rp d} {Rs : List (Rp d)} {pos : Pos} {m n : Int} {st : Stmt} {rest body orelse : List Stmt} {Pre Mid : L2.St → Hp → Prop} {Po : Ends}
/-- for x in e, e a list that is made by a call which changes what slots tell -/
theorem bx_forM {α β : Type} (j : Nat) {x : Str} {tpos : Pos} (G : β → Prop) (la : β → Addr) (ds : β → List D) (ρ2 : β → Ro d) (P : β → Nat → α → Prop) (r : β → Nat → α → Ro d)
    (hi : PE X iter (fun σ H Q => St B ρ σ H ∧ ∀ z H', G z → Tk H H' → St B (ρ2 z) σ H' → (lstA (d := d) X.K (la z) (ds z)).p (.ref (la z)) H' → Q (.ref (la z)) H'))
    (h0 : ∀ z σ H, G z → St B (ρ2 z) σ H → (lstA (d := d) X.K (la z) (ds z)).p (.ref (la z)) H → IS B (P z 0) (r z 0) σ H)
    (hl : ∀ z i a, G z → P z i a → ∃ (k : Nat) (R : Rp d), (r z i a)[k]? = some (some R) ∧ ∀ v H, R.p v H → (lstA (d := d) X.K (la z) (ds z)).p (.ref (la z)) H)
    (hb : ∀ z i w a, G z → (ds z)[i]? = some w → P z i a → BX X body (St B ((r z i a).set j (some (dat X.K w)))) (Lp Po (IS B (P z (i + 1)) (r z (i + 1))) (fun σ H => ∃ z, G z ∧ IS B (P z (ds z).length) (r z (ds z).length) σ H)))
    (h : ∀ z, G z → BX X rest (IS B (P z (ds z).length) (r z (ds z).length)) Po)
    (hN : X.N.Nodup) (hp : PassesOwn (model X.prog X.w) X.A X.env X.xe) (hj : X.N[j]? = some x := by rfl) (hc : X.calm = true := by rfl) (hx : Loc X.env.scope x := by first | exact Or.inl rfl | exact Or.inr rfl)
    (hf : X.fn x = true ∨ X.env.scope.names.lookup x = some .local := by first | exact .inl rfl | exact .inr rfl | assumption) (hs : ∀ x, foldedSetIterable iter X.env x = pure x := by intro _; rfl) : BX X (.For (.Name x tpos) iter body [] pos :: rest) (St B ρ) Po := by
  refine bx_cons (Mid := fun σ H => ∃ z, G z ∧ IS B (P z (ds z).length) (r z (ds z).length) σ H) ?_ (bx_ex h)
  refine PS_wk (t := tFor (iList X.K fun σ H Q => St B ρ σ H ∧ ∀ z H', G z → Tk H H' → St B (ρ2 z) σ H' → (lstA (d := d) X.K (la z) (ds z)).p (.ref (la z)) H' → Q (.ref (la z)) H') (gName j) (tBody (Z := β × Nat × D × α) B (fun z => (r z.1 z.2.1 z.2.2.2).set j (some (dat X.K z.2.2.1))) (fun z => G z.1 ∧ (ds z.1)[z.2.1]? = some z.2.2.1 ∧ P z.1 z.2.1 z.2.2.2) (fun z => Lp Po (IS B (P z.1 (z.2.1 + 1)) (r z.1 (z.2.1 + 1))) (fun σ H => ∃ z, G z ∧ IS B (P z (ds z).length) (r z (ds z).length) σ H))))
    (ps_for hp hc (pi_list hi) (pg_name hN hj hx hf) ⟨fun pins s σ H E I ⟨⟨z, i, w, a⟩, ⟨hG, hw, hz⟩, q, l⟩ => (hb z i w a hG hw hz).run pins s σ H E I ⟨q, l⟩⟩ hs) fun E σ H ⟨s, l⟩ => ⟨s, fun z H1 hG t1 s1 hv => ?_⟩
  have hv' := hv
  obtain ⟨_, _, us, h1, h2⟩ := hv
  refine ⟨la z, rfl, ⟨us, h1.sq⟩, ?_⟩
  have key : ∀ i σ H, IS B (P z i) (r z i) σ H → ∃ vs, SqL X.K H (la z) vs ∧ DRl X.K H (ds z) vs := fun i σ H ⟨a, ha, q⟩ => by
    obtain ⟨k, R, hk, hR⟩ := hl z i a hG ha
    obtain ⟨v, _, g⟩ := q.good.get hk
    obtain ⟨_, _, vs, a1, a2⟩ := hR v H g
    exact ⟨vs, a1.sq, a2⟩
  refine ⟨fun i m σ H => m = (ds z).length - i ∧ i ≤ (ds z).length ∧ Tk H1 H ∧ IS B (P z i) (r z i) σ H, ⟨(ds z).length, rfl, Nat.zero_le _, Tk.refl _, h0 z _ _ hG s1 hv'⟩, ?_⟩
  rintro i m σ H ⟨rfl, hi', k, q⟩
  obtain ⟨vs, a1, a2⟩ := key i σ H q
  by_cases hlt : i < (ds z).length
  · have hv : i < vs.length := by rw [← a2.1]; exact hlt
    refine .inr ⟨⟨vs, vs[i], a1, List.getElem?_eq_getElem hv⟩, fun σ' H' => Tk H1 H' ∧ IS B (P z (i + 1)) (r z (i + 1)) σ' H', fun σ' H' p' => ⟨(ds z).length - (i + 1), by omega, rfl, hlt, p'.1, p'.2⟩, fun x H' y => ?_⟩
    obtain ⟨rfl, y⟩ := y
    obtain ⟨w, hw, hr⟩ := a2.getV (y vs a1)
    obtain ⟨a, ha, q⟩ := q
    refine ⟨(z, i, w, a), ⟨hG, hw, ha⟩, ⟨q.ext, q.dr, q.good.set j hr⟩, ?_⟩
    exact ⟨fun σ' H' k' q' => ⟨k.trans k', q'⟩, fun v H' k' q' => l.rt v H' ((t1.trans k).trans k') q', fun σ' H' k' q' => l.nx σ' H' ((t1.trans k).trans k') q', fun σ' H' k' q' => ⟨k.trans k', q'⟩⟩
  · have e : i = (ds z).length := by omega
    subst e
    exact .inl ⟨⟨vs, a1, by rw [← a2.1]; exact Nat.le_refl _⟩, l.nx σ H (t1.trans k) ⟨z, hG, q⟩⟩
/-- for x in reversed(xs), xs a list at la -/
theorem bx_forRev {α : Type} {ds : List D} {la : Addr} (j : Nat) {x : Str} {tpos p p2 : Pos} (P : Nat → α → Prop) (r : Nat → α → Ro d) (hg : Gl X "reversed") (hm : X.mg "reversed" = none) (hi : EX X B ρ e (lstA X.K la ds)) (h0 : ∀ σ H, St B ρ σ H → IS B (P 0) (r 0) σ H)
    (hl : ∀ i z, P i z → ∃ (k : Nat) (R : Rp d), (r i z)[k]? = some (some R) ∧ ∀ v H, R.p v H → (lstA (d := d) X.K la ds).p v H)
    (hb : ∀ i w z, i < ds.length → ds[ds.length - 1 - i]? = some w → P i z → BX X body (St B ((r i z).set j (some (dat X.K w)))) (Lp Po (IS B (P (i + 1)) (r (i + 1))) (IS B (P ds.length) (r ds.length)))) (h : BX X rest (IS B (P ds.length) (r ds.length)) Po)
    (hN : X.N.Nodup) (hp : PassesOwn (model X.prog X.w) X.A X.env X.xe) (hj : X.N[j]? = some x := by rfl) (hc : X.calm = true := by rfl) (hx : Loc X.env.scope x := by first | exact Or.inl rfl | exact Or.inr rfl)
    (hf : X.fn x = true ∨ X.env.scope.names.lookup x = some .local := by first | exact .inl rfl | exact .inr rfl | assumption) (he : starEach [e] X.env = [(false, eval e X.env)] := by rfl) (hs : ∀ x, foldedSetIterable (.Call (.Name "reversed" p) [e] [] p2) X.env x = pure x := by intro _; rfl) : BX X (.For (.Name x tpos) (.Call (.Name "reversed" p) [e] [] p2) body [] pos :: rest) (St B ρ) Po := by
  refine bx_cons (Mid := IS B (P ds.length) (r ds.length)) ?_ h
  refine PS_wk (t := tFor (iRev X.K fun σ H Q => St B ρ σ H ∧ ∀ vs H', Ext d H H' → RsH [lstA X.K la ds] vs H' → Q vs H') (gName j) (tBody (Z := Nat × D × α) B (fun z => (r z.1 z.2.2).set j (some (dat X.K z.2.1))) (fun z => z.1 < ds.length ∧ ds[ds.length - 1 - z.1]? = some z.2.1 ∧ P z.1 z.2.2) (fun z => Lp Po (IS B (P (z.1 + 1)) (r (z.1 + 1))) (IS B (P ds.length) (r ds.length)))))
    (ps_for hp hc (pi_reversed hg hm (a_cons hi a_nil he) he) (pg_name hN hj hx hf) ⟨fun pins s σ H E I ⟨⟨i, w, z⟩, ⟨hlt, hw, hz⟩, q, l⟩ => (hb i w z hlt hw hz).run pins s σ H E I ⟨q, l⟩⟩ hs) fun E σ H ⟨s, l⟩ => ⟨s, fun vv H1 e1 hv => ?_⟩
  obtain ⟨v, rfl, hv2⟩ := hv.one
  obtain ⟨rfl, hld, us, h1, h2⟩ := hv2
  refine ⟨la, us, rfl, h1.sq, ?_⟩
  have key : ∀ i σ H, IS B (P i) (r i) σ H → ∃ vs, SqL X.K H la vs ∧ DRl X.K H ds vs := fun i σ H ⟨z, hz, q⟩ => by
    obtain ⟨k, R, hk, hR⟩ := hl i z hz
    obtain ⟨v, _, g⟩ := q.good.get hk
    obtain ⟨_, _, vs, a1, a2⟩ := hR v H g
    exact ⟨vs, a1.sq, a2⟩
  have hlen : us.length = ds.length := h2.1.symm
  refine ⟨fun i m σ H => m = ds.length - i ∧ i ≤ ds.length ∧ Tk H1 H ∧ IS B (P i) (r i) σ H, ⟨ds.length, rfl, Nat.zero_le _, Tk.refl _, h0 _ _ (s.mono e1)⟩, ?_⟩
  rintro i m σ H ⟨rfl, hi', k, q⟩
  obtain ⟨vs, a1, a2⟩ := key i σ H q
  by_cases hlt : i < ds.length
  · have hv : us.length - 1 - i < vs.length := by rw [← a2.1]; omega
    refine .inr ⟨⟨by omega, vs, _, a1, List.getElem?_eq_getElem hv⟩, fun σ' H' => Tk H1 H' ∧ IS B (P (i + 1)) (r (i + 1)) σ' H', fun σ' H' p' => ⟨ds.length - (i + 1), by omega, rfl, hlt, p'.1, p'.2⟩, fun x H' y => ?_⟩
    obtain ⟨rfl, y⟩ := y
    obtain ⟨w, hw, hr⟩ := a2.getV (y vs a1)
    rw [hlen] at hw
    obtain ⟨z, hz, q⟩ := q
    refine ⟨(i, w, z), ⟨hlt, hw, hz⟩, ⟨q.ext, q.dr, q.good.set j hr⟩, ?_⟩
    exact ⟨fun σ' H' k' q' => ⟨k.trans k', q'⟩, fun v H' k' q' => l.rt v H' ((e1.tk.trans k).trans k') q', fun σ' H' k' q' => l.nx σ' H' ((e1.tk.trans k).trans k') q', fun σ' H' k' q' => ⟨k.trans k', q'⟩⟩
  · have e : i = ds.length := by omega
    subst e
    exact .inl ⟨by show us.length ≤ _; omega, l.nx σ H (e1.tk.trans k) q⟩
/-! ### what a call leaves that changes the list at l -/
theorem ext_upd {l : Addr} {xs ys : List V} {H H' : Hp} (h : Ext d (del H l) H') (hl : H l = some (.lst xs)) (hl' : H' l = some (.lst ys)) (hd : some l ≠ d) : Ext d (upd H l (.lst ys)) H' := ⟨fun a o ha k => by
    by_cases z : a = l
    · subst z
      rw [upd_same] at ha
      cases ha
      exact hl'
    · rw [upd_ne z] at ha
      exact h.keep a o (by rw [del_ne z]; exact ha) k,
  fun a e ⟨ns, hn, hh⟩ => by
    have z : a ≠ l := fun z => hd (by rw [e, z])
    rw [upd_ne z] at hh
    exact h.draw a e ⟨ns, hn, by rw [del_ne z]; exact hh⟩⟩
end
end Cv

namespace Cv
open PySem PySem.Spec PyProof.Rows L2 RZ
/-! ### the rows turned about -/
structure SrcI (rows : List (List Int)) (A : List Addr) (i j : Nat) (T : LlT) : Prop where
  ad : T.map (·.1) = A
  mem : ∀ (v : Nat) t, T[v]? = some t → ∀ x : Int, x ∈ t.2 ↔ ∃ u : Nat, x = u ∧ ((u < i ∧ EdR rows u v) ∨ (u = i ∧ ∃ j', j' < j ∧ (rows.getD i [])[j']? = some (v : Int)))
  len : ∀ t ∈ T, t.2.length ≤ 30 * i + j
section
variable {rows : List (List Int)} {A : List Addr} {i j v n : Nat} {T : LlT}
theorem src_start (h : T.map (·.2) = List.replicate n []) : SrcI rows (T.map (·.1)) 0 0 T := by
  have h0 : ∀ t ∈ T, t.2 = [] := fun t ht => by
    have : t.2 ∈ T.map (·.2) := List.mem_map.mpr ⟨t, ht, rfl⟩
    rw [h] at this
    exact (List.mem_replicate.mp this).2
  refine ⟨rfl, fun v t ht x => ?_, fun t ht => by rw [h0 t ht]; exact Nat.zero_le _⟩
  rw [h0 t (List.mem_of_getElem? ht)]
  constructor
  · intro h; simp at h
  · rintro ⟨u, _, h | ⟨_, j', h, _⟩⟩
    · exact absurd h.1 (Nat.not_lt_zero _)
    · exact absurd h (Nat.not_lt_zero _)
theorem src_skip (h : SrcI rows A i j T) (ht : (rows.getD i [])[j]? = some (-1)) : SrcI rows A i (j + 1) T := by
  refine ⟨h.ad, fun v t hv x => ?_, fun t ht => by have := h.len t ht; omega⟩
  rw [h.mem v t hv x]
  constructor
  · rintro ⟨u, hx, h1 | ⟨h1, j', h2, h3⟩⟩
    · exact ⟨u, hx, .inl h1⟩
    · exact ⟨u, hx, .inr ⟨h1, j', by omega, h3⟩⟩
  · rintro ⟨u, hx, h1 | ⟨h1, j', h2, h3⟩⟩
    · exact ⟨u, hx, .inl h1⟩
    · refine ⟨u, hx, .inr ⟨h1, j', ?_, h3⟩⟩
      rcases Nat.lt_or_ge j' j with h | h
      · exact h
      · have : j' = j := by omega
        subst this
        rw [ht] at h3
        have := Option.some.inj h3
        omega
theorem src_app {t : Addr × List Int} (h : SrcI rows A i j T) (ht : (rows.getD i [])[j]? = some (v : Int)) (hv : T[v]? = some t) : SrcI rows A i (j + 1) (T.set v (t.1, t.2 ++ [(i : Int)])) := by
  have hvl := (List.getElem?_eq_some_iff.mp hv).1
  refine ⟨?_, fun w t' hw x => ?_, fun t' ht' => ?_⟩
  · rw [← h.ad]
    refine List.ext_getElem? fun k => ?_
    rw [List.getElem?_map, List.getElem?_map]
    by_cases hk : v = k
    · subst hk
      rw [List.getElem?_set_self hvl, hv]
      rfl
    · rw [List.getElem?_set_ne hk]
  · by_cases hk : v = w
    · subst hk
      rw [List.getElem?_set_self hvl] at hw
      cases hw
      rw [List.mem_append, h.mem v t hv x, List.mem_singleton]
      constructor
      · rintro (⟨u, hx, h1 | ⟨h1, j', h2, h3⟩⟩ | hx)
        · exact ⟨u, hx, .inl h1⟩
        · exact ⟨u, hx, .inr ⟨h1, j', by omega, h3⟩⟩
        · exact ⟨i, hx, .inr ⟨rfl, j, by omega, ht⟩⟩
      · rintro ⟨u, hx, h1 | ⟨h1, j', h2, h3⟩⟩
        · exact .inl ⟨u, hx, .inl h1⟩
        · exact .inr (by rw [hx, h1])
    · rw [List.getElem?_set_ne hk] at hw
      rw [h.mem w t' hw x]
      constructor
      · rintro ⟨u, hx, h1 | ⟨h1, j', h2, h3⟩⟩
        · exact ⟨u, hx, .inl h1⟩
        · exact ⟨u, hx, .inr ⟨h1, j', by omega, h3⟩⟩
      · rintro ⟨u, hx, h1 | ⟨h1, j', h2, h3⟩⟩
        · exact ⟨u, hx, .inl h1⟩
        · refine ⟨u, hx, .inr ⟨h1, j', ?_, h3⟩⟩
          rcases Nat.lt_or_ge j' j with h | h
          · exact h
          · have : j' = j := by omega
            subst this
            rw [ht] at h3
            have := Option.some.inj h3
            omega
  · rcases List.mem_or_eq_of_mem_set ht' with h1 | h1
    · have := h.len t' h1
      omega
    · subst h1
      have := h.len t (List.mem_of_getElem? hv)
      simp
      omega
theorem src_row (h : SrcI rows A i j T) (hj : j = (rows.getD i []).length) (hs : j ≤ 30) : SrcI rows A (i + 1) 0 T := by
  refine ⟨h.ad, fun v t hv x => ?_, fun t ht => by have := h.len t ht; omega⟩
  rw [h.mem v t hv x]
  constructor
  · rintro ⟨u, hx, h1 | ⟨h1, j', h2, h3⟩⟩
    · exact ⟨u, hx, .inl ⟨by omega, h1.2⟩⟩
    · subst h1
      exact ⟨u, hx, .inl ⟨by omega, List.mem_of_getElem? h3⟩⟩
  · rintro ⟨u, hx, h1 | ⟨h1, j', h2, h3⟩⟩
    · rcases Nat.lt_or_ge u i with h | h
      · exact ⟨u, hx, .inl ⟨h, h1.2⟩⟩
      · have : u = i := by omega
        subst this
        obtain ⟨j', hj'⟩ := List.getElem?_of_mem h1.2
        exact ⟨u, hx, .inr ⟨rfl, j', by rw [hj]; exact (List.getElem?_eq_some_iff.mp hj').1, hj'⟩⟩
    · exact absurd h2 (Nat.not_lt_zero _)
theorem src_end (R : RwOk rows) (h : SrcI rows A rows.length 0 T) (hn : T.length = rows.length) : RwOk (T.map (·.2)) ∧ ∀ u v, EdR (T.map (·.2)) v u ↔ EdR rows u v := by
  have hl : (T.map (·.2)).length = rows.length := by rw [List.length_map, hn]
  refine ⟨⟨fun r hr x hx => ?_, by rw [hl]; exact R.few⟩, fun u v => ?_⟩
  · obtain ⟨t, ht, rfl⟩ := List.mem_map.mp hr
    obtain ⟨v, hv⟩ := List.getElem?_of_mem ht
    obtain ⟨u, rfl, h1 | ⟨_, j', h2, _⟩⟩ := (h.mem v t hv x).1 hx
    · rw [hl]
      omega
    · exact absurd h2 (Nat.not_lt_zero _)
  · unfold EdR
    rw [List.getD_eq_getElem?_getD, List.getElem?_map]
    cases q : T[v]? with
    | none =>
      constructor
      · intro h; simp at h
      · intro he
        have := (R.ed (u := u) (v := v) he).2
        rw [← hn] at this
        rw [List.getElem?_eq_getElem this] at q
        cases q
    | some t =>
      rw [show ((some t).map (fun x => x.2)).getD [] = t.2 from rfl, h.mem v t q]
      constructor
      · rintro ⟨u', hx, h1 | ⟨_, j', h2, _⟩⟩
        · have : u = u' := by omega
          subst this
          exact h1.2
        · exact absurd h2 (Nat.not_lt_zero _)
      · intro he
        exact ⟨u, rfl, .inl ⟨(R.ed (u := u) (v := v) he).1, he⟩⟩
end
/-! ### the names -/
def setAll (nm : List Int) (f : Int) (xs : List Nat) : List Int := xs.foldl (fun a x => a.set x f) nm
theorem setAll_len {f : Int} : ∀ {xs : List Nat} {nm : List Int}, (setAll nm f xs).length = nm.length
  | [], _ => rfl
  | x :: xs, nm => by
    show (setAll (nm.set x f) f xs).length = _
    rw [setAll_len, List.length_set]
theorem setAll_get {f : Int} : ∀ {xs : List Nat} {nm : List Int} {x : Nat}, x < nm.length → (setAll nm f xs)[x]? = if x ∈ xs then some f else nm[x]?
  | [], nm, x, _ => by simp [setAll]
  | y :: xs, nm, x, hx => by
    show (setAll (nm.set y f) f xs)[x]? = _
    rw [setAll_get (by rw [List.length_set]; exact hx)]
    by_cases h : x ∈ xs
    · rw [if_pos h, if_pos (List.mem_cons_of_mem _ h)]
    · rw [if_neg h]
      by_cases hy : x = y
      · subst hy
        rw [if_pos (by simp), List.getElem?_set_self hx]
      · rw [if_neg (by simp [hy, h]), List.getElem?_set_ne (fun z => hy z.symm)]
theorem setAll_snoc {nm : List Int} {f : Int} {xs : List Nat} {i x : Nat} (h : xs[i]? = some x) : setAll nm f (xs.take (i + 1)) = (setAll nm f (xs.take i)).set x f := by
  unfold setAll
  rw [List.take_add_one, h, List.foldl_append]
  rfl
structure NmI (rows srcs : List (List Int)) (O : List Nat) (i : Nat) (F : List Nat) (sn : List Bool) (nm : List Int) : Prop where
  v : Vtd (EdR srcs) srcs.length F
  s : SnOk srcs.length sn F
  l : nm.length = rows.length
  nn : ∀ x ∈ F, ∃ r : Nat, nm[x]? = some (r : Int)
  n : Nms (EdR rows) rows.length F (fun x => (nm.getD x (-1)).toNat)
  o : ∀ j x, O[j]? = some x → O.length ≤ j + i → x ∈ F
theorem nmi_step {rows srcs : List (List Int)} {O F fin : List Nat} {i first : Nat} {sn sn' : List Bool} {nm : List Int} (R : RwOk rows) (hl : srcs.length = rows.length) (hE : ∀ u v, EdR srcs v u ↔ EdR rows u v) (o : Vtd (EdR rows) rows.length O) (hO : ∀ x, x < rows.length → x ∈ O)
    (I : NmI rows srcs O i F sn nm) (hi : i < O.length) (hf : O[O.length - 1 - i]? = some first) (V : VRes srcs F sn first fin sn') : NmI rows srcs O (i + 1) (F ++ fin) sn' (setAll nm (first : Int) fin) := by
  obtain ⟨v1, v2, v3, v4⟩ := V
  have hfn : first < rows.length := o.lt first (List.mem_of_getElem? hf)
  have hlast : ∀ j x, O[j]? = some x → O.length ≤ j + (i + 1) → x ∈ F ∨ x = first := fun j x hx hj => by
    rcases Nat.lt_or_ge (j + i) O.length with h | h
    · have : j = O.length - 1 - i := by omega
      subst this
      rw [hf] at hx
      exact .inr (Option.some.inj hx).symm
    · exact .inl (I.o j x hx h)
  by_cases hF : first ∈ F
  · rw [v3 hF] at v1 v2 ⊢
    rw [List.append_nil] at v1 v2 ⊢
    refine ⟨v1, v2, I.l, I.nn, I.n, fun j x hx hj => ?_⟩
    rcases hlast j x hx hj with h | rfl
    · exact h
    · exact hF
  · have hEq : EdR srcs = fun a b => EdR rows b a := by
      funext a b
      exact propext (hE b a)
    have hfin : ∀ x, x ∈ fin ↔ (x < rows.length ∧ x ∉ F) ∧ Pth (fun a b => EdR rows b a) (fun z => z < rows.length ∧ z ∉ F) first x := fun x => by
      have := v4 hF x
      unfold un0 at this
      rw [hl, hEq] at this
      exact this
    have hff : first ∈ fin := (hfin first).2 ⟨⟨hfn, hF⟩, .nil _⟩
    have hg : ∀ x, x < rows.length → (setAll nm (first : Int) fin)[x]? = if x ∈ fin then some (first : Int) else nm[x]? := fun x hx => setAll_get (by rw [I.l]; exact hx)
    have hgd : ∀ x, x ∈ fin → (setAll nm (first : Int) fin).getD x (-1) = first := fun x hx => by
      rw [List.getD_eq_getElem?_getD, hg x ((hfin x).1 hx).1.1, if_pos hx]
      rfl
    refine ⟨v1, v2, by rw [setAll_len]; exact I.l, fun x hx => ?_, ?_, fun j x hx hj => ?_⟩
    · by_cases hxf : x ∈ fin
      · exact ⟨first, by rw [hg x ((hfin x).1 hxf).1.1, if_pos hxf]⟩
      · have hx' : x ∈ F := (List.mem_append.mp hx).resolve_right hxf
        rw [hg x (by have := I.v.lt x hx'; omega), if_neg hxf]
        exact I.nn x hx'
    · refine nms_step (nm := fun x => (nm.getD x (-1)).toNat) (k := O.length - 1 - i) (fun x y h => R.ed h) o hO hf (fun j x hx hj => I.o j x hx (by omega)) I.n hF hfin (fun x hx => ?_) (fun x hx => ?_)
      · show ((setAll nm (first : Int) fin).getD x (-1)).toNat = first
        rw [hgd x hx]
        omega
      · show ((setAll nm (first : Int) fin).getD x (-1)).toNat = (nm.getD x (-1)).toNat
        rcases Nat.lt_or_ge x rows.length with h | h
        · rw [List.getD_eq_getElem?_getD, hg x h, if_neg hx, List.getD_eq_getElem?_getD]
        · rw [List.getD_eq_getElem?_getD, List.getD_eq_getElem?_getD, List.getElem?_eq_none (by rw [setAll_len, I.l]; exact h), List.getElem?_eq_none (by rw [I.l]; exact h)]
    · rcases hlast j x hx hj with h | rfl
      · exact List.mem_append_left _ h
      · exact List.mem_append_right _ hff
/-- what components gives back -/
def CmpOk (rows : List (List Int)) (nm : List Nat) : Prop := nm.length = rows.length ∧ ∀ x y, x < rows.length → y < rows.length → (nm[x]? = nm[y]? ↔ Mut (EdR rows) x y)
theorem nmi_end {rows srcs : List (List Int)} {O F : List Nat} {sn : List Bool} {nm : List Int} (hO : ∀ x, x < rows.length → x ∈ O) (I : NmI rows srcs O O.length F sn nm) : ∃ ns : List Nat, nm = ns.map (fun x : Nat => (x : Int)) ∧ CmpOk rows ns := by
  have hF : ∀ x, x < rows.length → x ∈ F := fun x hx => by
    obtain ⟨j, hj⟩ := List.getElem?_of_mem (hO x hx)
    exact I.o j x hj (by omega)
  have hg : ∀ x, x < rows.length → nm[x]? = some (((nm.getD x (-1)).toNat : Nat) : Int) := fun x hx => by
    obtain ⟨r, hr⟩ := I.nn x (hF x hx)
    rw [List.getD_eq_getElem?_getD, hr]
    show some (r : Int) = some (((r : Int).toNat : Nat) : Int)
    rw [Int.toNat_natCast]
  refine ⟨nm.map Int.toNat, ?_, by rw [List.length_map]; exact I.l, fun x y hx hy => ?_⟩
  · refine List.ext_getElem? fun x => ?_
    rw [List.map_map, List.getElem?_map]
    rcases Nat.lt_or_ge x rows.length with h | h
    · obtain ⟨r, hr⟩ := I.nn x (hF x h)
      rw [hr]
      show some (r : Int) = some (((r : Int).toNat : Nat) : Int)
      rw [Int.toNat_natCast]
    · rw [List.getElem?_eq_none (by rw [I.l]; exact h)]
      rfl
  · rw [← nms_end I.n hF hx hy, List.getElem?_map, List.getElem?_map, hg x hx, hg y hy]
    show some (((nm.getD x (-1)).toNat : Int).toNat) = some (((nm.getD y (-1)).toNat : Int).toNat) ↔ (nm.getD x (-1)).toNat = (nm.getD y (-1)).toNat
    rw [Int.toNat_natCast, Int.toNat_natCast]
    exact ⟨fun h => Option.some.inj h, fun h => by rw [h]⟩
end Cv

namespace Cv
open PySem PySem.Spec PyProof.Rows L2 RZ
section
variable {d : Option Addr} {X : Cx} {B : Hp} {ρ ρ' : Ro d} {a b c e iter elt : Expr} {es : List Expr} {R R' Ra Rb : Rp d} {Rs : List (Rp d)} {pos : Pos} {m n : Int} {st : Stmt} {rest body orelse : List Stmt} {Pre Mid : L2.St → Hp → Prop} {Po : Ends}
/-! ### a dict of lists of ints -/
abbrev DlT := List (Int × Addr × List Int)
def dlP (K : PySem.W.Frag) (d : Option Addr) (H : Hp) (t : Int × Addr × List Int) : Prop := some t.2.1 ≠ d ∧ ∃ ws, H t.2.1 = some (.lst ws) ∧ DRl K H (t.2.2.map D.i) ws
abbrev dlU (M : DlT) : List (Key × V) := M.map fun t => (Sum.inl t.1, V.ref t.2.1)
theorem dlP.ext {K : PySem.W.Frag} {H H' : Hp} {t : Int × Addr × List Int} (e : Ext d H H') (h : dlP K d H t) : dlP K d H' t := by
  obtain ⟨h2, ws, h4, h5⟩ := h
  exact ⟨h2, ws, e.at h4 h2, h5.tk e.tk⟩
theorem dlP.put {K : PySem.W.Frag} {H : Hp} {t : Int × Addr × List Int} {l : Addr} {xs ys : List V} (hl : H l = some (.lst xs)) (hne : t.2.1 ≠ l) (h : dlP K d H t) : dlP K d (upd H l (.lst ys)) t := by
  obtain ⟨h2, ws, h4, h5⟩ := h
  exact ⟨h2, ws, by rw [upd_ne hne]; exact h4, h5.tk (Tk.lst hl)⟩
theorem dlP.dk {K : PySem.W.Frag} {H : Hp} {t : Int × Addr × List Int} {l : Addr} {o o' : HO} (hl : H l = some o) (ho : (∃ us, o = .dK us) ∨ ∃ us, o = .dT us) (h : dlP K d H t) : dlP K d (upd H l o') t := by
  obtain ⟨h2, ws, h4, h5⟩ := h
  exact ⟨h2, ws, by rw [upd_ne (ne_dk hl ho h4 (fun _ q => nomatch q) (fun _ q => nomatch q))]; exact h4, h5.tk (tk_dk hl ho)⟩
def dlR (K : PySem.W.Frag) (a : Addr) (M : DlT) : Rp d := ⟨fun v H => v = .ref a ∧ H a = some (.dK (dlU M)) ∧ ∀ t ∈ M, dlP K d H t, fun e ⟨h1, h2, h3⟩ => ⟨h1, e.keep _ _ h2 fun _ _ q => (by cases q), fun t ht => (h3 t ht).ext e⟩⟩
structure DlNew (B : Hp) (a : Addr) (M : DlT) : Prop where
  o : B a = none
  i : ∀ t ∈ M, B t.2.1 = none
  nd : (M.map (·.2.1)).Nodup
  ks : (M.map (·.1)).Nodup
def DlStep (M : DlT) (k x : Int) (M' : DlT) : Prop := (∃ A l ns C, M = A ++ (k, l, ns) :: C ∧ M' = A ++ (k, l, ns ++ [x]) :: C) ∨ (k ∉ M.map (·.1) ∧ ∃ l, M' = M ++ [(k, l, [x])])
theorem ind_dl {K : PySem.W.Frag} {l a : Addr} {M : DlT} (hT : ∀ t ∈ M, t.2.1 ≠ l) : Ind l (dlR (d := d) K a M) := fun v H xs ys hl ⟨h1, h2, h3⟩ => ⟨h1, by rw [upd_ne (fun z => by rw [z, hl] at h2; cases h2)]; exact h2, fun t ht => (h3 t ht).put hl (hT t ht)⟩
theorem ink_dl {K : PySem.W.Frag} {l a : Addr} {M : DlT} (hne : a ≠ l) : Ink l (dlR (d := d) K a M) := fun v H o o' hl ho ⟨h1, h2, h3⟩ => ⟨h1, by rw [upd_ne hne]; exact h2, fun t ht => (h3 t ht).dk hl ho⟩
theorem dl_nil {K : PySem.W.Frag} {a : Addr} {v : V} {H : Hp} (h : (dct (d := d) K a []).p v H) : (dlR (d := d) K a []).p v H := by
  obtain ⟨h1, us, h2, h3⟩ := h
  have : us = [] := by
    have := h3.len
    simpa using this
  subst this
  exact ⟨h1, h2, fun t ht => by simp at ht⟩
theorem dl_none {M : DlT} {k : Int} : valV (dlU M) (Sum.inl k) = none ↔ k ∉ M.map (·.1) := by
  unfold valV
  rw [Option.map_eq_none_iff, List.find?_eq_none]
  constructor
  · intro h hk
    obtain ⟨t, ht, rfl⟩ := List.mem_map.mp hk
    have := h (Sum.inl t.1, V.ref t.2.1) (List.mem_map.mpr ⟨t, ht, rfl⟩)
    simp at this
  · intro h u hu
    obtain ⟨t, ht, rfl⟩ := List.mem_map.mp hu
    simp only [decide_eq_true_eq, Sum.inl.injEq]
    intro e
    exact h (List.mem_map.mpr ⟨t, ht, e⟩)
theorem dl_some : ∀ {M : DlT} {k : Int} {v : V}, valV (dlU M) (Sum.inl k) = some v → ∃ A l ns C, M = A ++ (k, l, ns) :: C ∧ v = .ref l
  | [], _, _, h => by cases h
  | t :: M, k, v, h => by
    by_cases hk : t.1 = k
    · have e : valV (dlU (t :: M)) (Sum.inl k) = some (V.ref t.2.1) := by simp [valV, dlU, hk]
      rw [e] at h
      obtain ⟨t1, t2, t3⟩ := t
      have hk' : t1 = k := hk
      subst hk'
      exact ⟨[], t2, t3, M, rfl, (Option.some.inj h).symm⟩
    · have e : valV (dlU (t :: M)) (Sum.inl k) = valV (dlU M) (Sum.inl k) := by
        simp [valV, dlU, hk]
      rw [e] at h
      obtain ⟨A, l, ns, C, h1, h2⟩ := dl_some h
      exact ⟨t :: A, l, ns, C, by rw [h1]; rfl, h2⟩
/-- x.setdefault(k, []).append(e) -/
theorem bx_setdApp (i : Nat) {x : Str} {p1 p2 p3 p4 p5 p6 p7 : Pos} {K : PySem.W.Frag} {ad : Addr} {M : DlT} {k z : Int} (ls : List Addr) (hls : ∀ l ∈ ls, Known l ρ) (hi : ρ[i]? = some (some (dlR K ad M))) (hK : X.K = K) (hk : EX X B ρ b (rI k)) (he : ∀ R', EX X B (ρ.set i (some R')) e (rI z)) (hD : DlNew B ad M) (hl0 : ∀ t ∈ M, ∀ l' ∈ ls, t.2.1 ≠ l') (hb : ∀ l, (∀ l' ∈ ls, l ≠ l') → IndBut l i ρ) (hbk : InkBut ad i ρ) (hz : M.length ≤ 900) (hzs : ∀ t ∈ M, t.2.2.length ≤ 900)
    (h : ∀ M', DlStep M k z M' → DlNew B ad M' → (∀ t ∈ M', ∀ l' ∈ ls, t.2.1 ≠ l') → BX X rest (St B (ρ.set i (some (dlR K ad M')))) Po)
    (hN : X.N[i]? = some x := by rfl) (hv : Vis X.env.scope x := by first | exact Or.inl rfl | exact Or.inr (Or.inl rfl) | exact Or.inr (Or.inr rfl)) (hd : (x == ("__debug__" : Str)) = false := by decide) (hcd : (x == ("__classdict__" : Str)) = false := by decide)
    (m1 : attributeBase (.Name x p1) "setdefault" X.env (eval (.Name x p1) X.env) = eval (.Name x p1) X.env := by rfl)
    (m2 : ((backTo p6 (starEach [b, .List [] p7] X.env)).all (fun x => !x.1) && (backToKw p6 (keywordEach [] X.env)).all (fun x => x.1.isSome)
      && decide (([b, .List [] p7] : List Expr).length + ([] : List Keyword).length + (if ([] : List Keyword).isEmpty then 0 else 1) < 30)) = true := by rfl)
    (m3 : (p5.endLine == p6.line) = true := by rfl) (m4 : backTo p6 (starEach [b, .List [] p7] X.env) = [(false, eval b X.env), (false, eval (.List [] p7) X.env)] := by rfl)
    (hbase : attributeBase (.Call (.Attribute (.Name x p1) "setdefault" p5) [b, .List [] p7] [] p6) "append" X.env (eval (.Call (.Attribute (.Name x p1) "setdefault" p5) [b, .List [] p7] [] p6) X.env) = eval (.Call (.Attribute (.Name x p1) "setdefault" p5) [b, .List [] p7] [] p6) X.env := by rfl)
    (hfew : ((backTo p3 (starEach (e :: []) X.env)).all (fun x => !x.1) && (backToKw p3 (keywordEach [] X.env)).all (fun x => x.1.isSome)
      && decide ((e :: []).length + ([] : List Keyword).length + (if ([] : List Keyword).isEmpty then 0 else 1) < 30)) = true := by rfl)
    (hline : (p2.endLine == p3.line) = true := by rfl) (hs : starEach (e :: []) X.env = (false, eval e X.env) :: starEach [] X.env := by rfl) (hplain : (backTo p3 (starEach [] X.env)).any (·.1) = false := by rfl)
    (hsw : swapsWith (.Call (.Attribute (.Call (.Attribute (.Name x p1) "setdefault" p5) [b, .List [] p7] [] p6) "append" p2) [e] [] p3) none p4.line X.env = pure false := by rfl) :
    BX X (.Expr (.Call (.Attribute (.Call (.Attribute (.Name x p1) "setdefault" p5) [b, .List [] p7] [] p6) "append" p2) [e] [] p3) p4 :: rest) (St B ρ) Po := by
  subst hK
  refine bx_cons (Mid := fun σ H => ∃ M', (DlStep M k z M' ∧ DlNew B ad M' ∧ ∀ t ∈ M', ∀ l' ∈ ls, t.2.1 ≠ l') ∧ St B (ρ.set i (some (dlR X.K ad M'))) σ H) ?_ (bx_ex fun M' hM => h M' hM.1 hM.2.1 hM.2.2)
  have hnil : PE X (.List [] p7) (fun σ H Q => St B ρ σ H ∧ ∀ v H', Ext d H H' → (newL (d := d) H X.K []).p v H' → Q v H') := ⟨fun pins s σ H Q I ⟨st, q⟩ => (x_lst (B := H) (ρ := ρ) (ds := []) a_nil).run pins s σ H Q I ⟨⟨Ext.refl H, st.dr, st.good⟩, q⟩⟩
  have he' : PE X e (fun σ H Q => (∃ R', St B (ρ.set i (some R')) σ H) ∧ ∀ v H', Ext d H H' → v = .int z → Q v H') := ⟨fun pins s σ H Q I ⟨⟨R', st⟩, q⟩ => (he R').run pins s σ H Q I ⟨st, q⟩⟩
  have hset : ρ.set i (some (dlR X.K ad M)) = ρ := by
    refine List.ext_getElem? fun j => ?_
    by_cases hj : i = j
    · subst hj
      rw [List.getElem?_set_self (List.getElem?_eq_some_iff.mp hi).1, hi]
    · rw [List.getElem?_set_ne hj]
  refine PS_wk (ps_expr (pe_bm PySem.F.plainAttrs_list PySem.F.slot_list_append PySem.F.type_list_append mt_append (pe_dsetd (pe_var hN hv hd hcd) hk hnil ⟨m1, m2, m3, m4⟩) (pa_cons he' pa_nil hs) hbase hfew hline hs hplain) hsw) fun E σ H ⟨s, q⟩ => ?_
  obtain ⟨v, g1, rfl, g2, g3⟩ := s.good.get hi
  refine ⟨_, g1, ad, rfl, .inl ⟨_, .inl g2⟩, s, fun y H2 e2 hy => ⟨s.mono e2, fun w H3 e3 hw => ?_⟩⟩
  obtain rfl : y = .int k := hy
  have s3 := (s.mono e2).mono e3
  obtain ⟨v', g1', _, g4, g5⟩ := s3.good.get hi
  rw [g1] at g1'
  obtain rfl : V.ref ad = v' := Option.some.inj (Option.some.inj g1')
  obtain ⟨l', hl', rfl, hld', us', hu1, hu2⟩ := hw
  obtain rfl : us' = [] := by
    have := hu2.1
    simpa using this.symm
  refine ⟨dlU M, Sum.inl k, g4, rfl, Nat.lt_of_le_of_lt (show (dlU M).length ≤ 900 by rw [List.length_map]; exact hz) (by decide), fun v hv => ?_, fun hv => ?_⟩
  · -- the key is there
    obtain ⟨A, l, ns, C, rfl, rfl⟩ := dl_some hv
    have hm : (k, l, ns) ∈ A ++ (k, l, ns) :: C := by simp
    obtain ⟨w2, ws, w3, w4⟩ := g5 _ hm
    refine ⟨Or.inl ⟨rfl, _, SqL.of w3⟩, ⟨dlR X.K ad _, by rw [hset]; exact s3⟩, fun y H4 e4 hy => ?_⟩
    subst hy
    have s4 := s3.mono e4
    have w5 := e4.at w3 w2
    obtain rfl := w4.ints
    refine ⟨l, _, _, rfl, rfl, w5, by rw [List.length_map]; exact small1000 (Nat.le_trans (hzs _ hm) (by decide)), ?_⟩
    have kk := Tk.lst (ys := ns.map V.int ++ [V.int z]) w5
    have hnd := hD.nd
    rw [List.map_append, List.map_cons] at hnd
    have hne : ∀ t ∈ A ++ C, t.2.1 ≠ l := fun t ht e => by
      have h1 : (List.map (fun x => x.2.1) A ++ l :: List.map (fun x => x.2.1) C).Nodup := hnd
      rw [List.nodup_append] at h1
      obtain ⟨a1, a2, a3⟩ := h1
      rcases List.mem_append.mp ht with ht | ht
      · exact a3 t.2.1 (List.mem_map.mpr ⟨t, ht, rfl⟩) l (by simp) e
      · exact (List.nodup_cons.mp a2).1 (by rw [← e]; exact List.mem_map.mpr ⟨t, ht, rfl⟩)
    refine q.nx σ _ (((e2.tk.trans e3.tk).trans e4.tk).trans kk) ⟨A ++ (k, l, ns ++ [z]) :: C, ⟨.inl ⟨A, l, ns, C, rfl, rfl⟩, ⟨hD.o, fun t ht => ?_, ?_, ?_⟩, fun t ht l2 hl2 => ?_⟩, st_chg s4 hi (hD.i _ hm) w2 w5 (hb l fun l2 hl2 => hl0 _ hm l2 hl2) fun v hv => ?_⟩
    · rcases List.mem_append.mp ht with ht | ht
      · exact hD.i t (List.mem_append_left _ ht)
      · rcases List.mem_cons.mp ht with rfl | ht
        · exact hD.i (k, l, ns) hm
        · exact hD.i t (List.mem_append_right _ (List.mem_cons_of_mem _ ht))
    · have := hD.nd
      rw [List.map_append, List.map_cons] at this ⊢
      exact this
    · have := hD.ks
      rw [List.map_append, List.map_cons] at this ⊢
      exact this
    · rcases List.mem_append.mp ht with ht | ht
      · exact hl0 t (List.mem_append_left _ ht) l2 hl2
      · rcases List.mem_cons.mp ht with rfl | ht
        · exact hl0 (k, l, ns) hm l2 hl2
        · exact hl0 t (List.mem_append_right _ (List.mem_cons_of_mem _ ht)) l2 hl2
    · obtain ⟨rfl, v2, v3⟩ := hv
      refine ⟨rfl, ?_, fun t ht => ?_⟩
      · rw [upd_ne (fun z => by rw [z, w5] at v2; cases v2), v2]
        simp [dlU]
      · have other : ∀ t ∈ A ++ C, dlP X.K d (upd H4 l (.lst (ns.map V.int ++ [V.int z]))) t := fun t ht => (v3 t (by
          rcases List.mem_append.mp ht with ht | ht
          · exact List.mem_append_left _ ht
          · exact List.mem_append_right _ (List.mem_cons_of_mem _ ht))).put w5 (hne t ht)
        rcases List.mem_append.mp ht with ht | ht
        · exact other t (List.mem_append_left _ ht)
        · rcases List.mem_cons.mp ht with rfl | ht
          · refine ⟨w2, _, upd_same, ?_⟩
            have e5 : ns.map V.int ++ [V.int z] = (ns ++ [z]).map V.int := by simp
            rw [e5]
            exact DRl.of_ints _
          · exact other t (List.mem_append_right _ ht)
  · -- a new key
    have hkM := dl_none.mp hv
    rw [putK_new _ hv]
    have e6 : dlU M ++ [(Sum.inl k, V.ref l')] = dlU (M ++ [(k, l', [])]) := by simp [dlU]
    rw [e6]
    have hmn : ∀ t ∈ M, t.2.1 ≠ l' := fun t ht e => by
      obtain ⟨a1, ws, a2, _⟩ := g3 t ht
      have := e2.at a2 a1
      rw [e, hl'] at this
      cases this
    have hlB : B l' = none := by
      cases q' : B l' with
      | none => rfl
      | some o =>
        have := (s.mono e2).ext.at q' hld'
        rw [hl'] at this; cases this
    have hlk : ∀ l2 ∈ ls, l' ≠ l2 := fun l2 hl2 e => by
      obtain ⟨kk, R0, b1, b2⟩ := hls l2 hl2
      obtain ⟨w0, _, b3⟩ := (s.mono e2).good.get b1
      exact b2 w0 H2 b3 (by rw [← e]; exact hl')
    have kd : Tk H3 (upd H3 ad (.dK (dlU (M ++ [(k, l', [])])))) := tk_dk g4 (.inl ⟨_, rfl⟩)
    have hla : l' ≠ ad := fun e => by rw [e, g4] at hu1; cases hu1
    have s5 := st_dk (o' := .dK (dlU (M ++ [(k, l', [])]))) (R' := dlR X.K ad (M ++ [(k, l', [])])) s3 g4 (.inl ⟨_, rfl⟩) (List.getElem?_eq_some_iff.mp hi).1 g1 hD.o hbk ⟨rfl, upd_same, fun t ht => by
      rcases List.mem_append.mp ht with ht | ht
      · exact (g5 t ht).dk g4 (.inl ⟨_, rfl⟩)
      · rw [List.mem_singleton.mp ht]
        exact ⟨hld', [], by rw [upd_ne hla]; exact hu1, DRl.nil⟩⟩
    have hu5 : upd H3 ad (.dK (dlU (M ++ [(k, l', [])]))) l' = some (.lst []) := by rw [upd_ne hla]; exact hu1
    -- the item, then put behind
    refine ⟨Or.inl ⟨rfl, _, SqL.of hu5⟩, ⟨_, s5⟩, fun y H4 e4 hy => ?_⟩
    subst hy
    have s6 := s5.mono e4
    have w5 := e4.at hu5 hld'
    refine ⟨l', _, _, rfl, rfl, w5, by decide, ?_⟩
    have kk := Tk.lst (ys := [] ++ [V.int z]) w5
    have hi' : (ρ.set i (some (dlR (d := d) X.K ad (M ++ [(k, l', [])]))))[i]? = some (some (dlR X.K ad (M ++ [(k, l', [])]))) := List.getElem?_set_self (List.getElem?_eq_some_iff.mp hi).1
    have hbs : IndBut l' i (ρ.set i (some (dlR (d := d) X.K ad (M ++ [(k, l', [])])))) := fun j R0 hj h0 => hb l' hlk j R0 hj (by rw [List.getElem?_set_ne (fun z => hj z.symm)] at h0; exact h0)
    have s7 := st_chg (vs' := [] ++ [V.int z]) (R' := dlR X.K ad (M ++ [(k, l', [z])])) s6 hi' hlB hld' w5 hbs fun v hv => by
      obtain ⟨rfl, v2, v3⟩ := hv
      refine ⟨rfl, ?_, fun t ht => ?_⟩
      · rw [upd_ne (fun z => by rw [z, w5] at v2; cases v2), v2]
        simp [dlU]
      · rcases List.mem_append.mp ht with ht | ht
        · exact (v3 t (List.mem_append_left _ ht)).put w5 (hmn t ht)
        · rw [List.mem_singleton.mp ht]
          exact ⟨hld', _, upd_same, DRl.of_ints [z]⟩
    rw [List.set_set] at s7
    refine q.nx σ _ ((((e2.tk.trans e3.tk).trans kd).trans e4.tk).trans kk) ⟨M ++ [(k, l', [z])], ⟨.inr ⟨hkM, l', rfl⟩, ⟨hD.o, fun t ht => ?_, ?_, ?_⟩, fun t ht l2 hl2 => ?_⟩, s7⟩
    · rcases List.mem_append.mp ht with ht | ht
      · exact hD.i t ht
      · rw [List.mem_singleton.mp ht]
        exact hlB
    · rw [List.map_append, List.nodup_append]
      refine ⟨hD.nd, by simp, fun x hx y hy hxy => ?_⟩
      obtain ⟨t, ht, rfl⟩ := List.mem_map.mp hx
      rw [List.map_cons, List.map_nil, List.mem_singleton] at hy
      subst hy
      exact hmn t ht hxy
    · rw [List.map_append, List.nodup_append]
      refine ⟨hD.ks, by simp, fun x hx y hy hxy => ?_⟩
      rw [List.map_cons, List.map_nil, List.mem_singleton] at hy
      subst hy
      subst hxy
      exact hkM hx
    · rcases List.mem_append.mp ht with ht | ht
      · exact hl0 t ht l2 hl2
      · rw [List.mem_singleton.mp ht]
        exact hlk l2 hl2
theorem known_dl {K : PySem.W.Frag} {a : Addr} {M : DlT} {t : Int × Addr × List Int} (k : Nat) (h : ρ[k]? = some (some (dlR K a M))) (ht : t ∈ M) : Known t.2.1 ρ := ⟨k, _, h, fun v H ⟨_, _, h3⟩ => by
  obtain ⟨_, ws, h4, _⟩ := h3 t ht
  rw [h4]; exact fun z => by cases z⟩
/-- sorted(x), x a dict of lists -/
theorem x_sortedDl {K : PySem.W.Frag} {a : Addr} {M : DlT} {p : Pos} (hg : Gl X "sorted") (hm : X.mg "sorted" = none) (h : EX X B ρ e (dlR K a M)) (hn : M.length < 64) (hc : X.calm = true := by rfl) (he : starEach [e] X.env = (false, eval e X.env) :: starEach [] X.env := by rfl) (hpl : (backTo pos (starEach [] X.env)).any (·.1) = false := by rfl) : EX X B ρ (.Call (.Name "sorted" p) [e] [] pos) (exR (fun ys : List Int => ys.Perm (M.map (·.1)) ∧ ys.Pairwise (· ≤ ·)) fun ys => newL B X.K (ys.map D.i)) :=
  x_callB (call_sortedDI hc) hg hm (by decide +kernel) (a_cons h a_nil he) (fun vs H σ Q s hv q => by
    obtain ⟨v, rfl, hv'⟩ := hv.one
    obtain ⟨rfl, h2, h3⟩ := hv'
    refine ⟨a, dlU M, M.map (·.1), rfl, .inl h2, by rw [List.map_map, List.map_map]; rfl, by rw [List.length_map]; exact hn, fun ys D hp hs hD => ?_⟩
    obtain ⟨hB, hDd⟩ := s.fresh hD
    exact q _ _ (Ext.new hD) ⟨ys, ⟨hp, hs⟩, D, hB, rfl, hDd, _, upd_same, DRl.of_ints ys⟩) (he := he) (hpl := hpl)
def LcI (H1 : Hp) (K : PySem.W.Frag) (Dl : Addr) (d : Option Addr) (ys : List Int) (p : Int → Bool) (g : Int → Addr × List Int) (i : Nat) (H : Hp) : Prop :=
  Ext d H1 H ∧ ∃ vs, H Dl = some (.lst vs) ∧ vs = (((ys.take i).filter p).map g).map (fun t => V.ref t.1) ∧ ∀ t ∈ ((ys.take i).filter p).map g, some t.1 ≠ d ∧ t.1 ≠ Dl ∧ ∃ ws, H t.1 = some (.lst ws) ∧ DRl K H (t.2.map D.i) ws
def tEltI (B : Hp) (K : PySem.W.Frag) (ρ : Ro d) (j : Nat) (P : List Int → Prop) (p : Int → Bool) (g : Int → Addr × List Int) : TE := fun σ H Q => ∃ z : List Int × Int, (P z.1 ∧ z.2 ∈ z.1 ∧ p z.2 = true) ∧ St B (ρ.set j (some (dat K (.i z.2)))) σ H ∧ ∀ v H', Ext d H H' → (own (d := d) K (g z.2).1 ((g z.2).2.map D.i)).p v H' → Q v H'
theorem x_lcIL {P : List Int → Prop} (j : Nat) {x : Str} {scope : Scope} {tpos : Pos} (p : Int → Bool) (g : Int → Addr × List Int) (hi : EX X B ρ iter (exR P fun ys => newL B X.K (ys.map D.i))) (hn : ∀ ys, P ys → ys.length < 2000) (hN : X.N.Nodup) (hok : BlkOk X.N X.env.scope scope [(x, j)])
    (hgn : ∀ (s : Shared) (H : Hp) (C : Addr) (cl : List (Str × Addr)) (fp : List Addr), PG (X.blk s H scope (compEnvC scope cl C X.env) fp) (.Name x tpos) (gName j))
    (hk : ∀ ys k, P ys → k ∈ ys → p k = true → Known (g k).1 ρ)
    (hb : ∀ (s : Shared) (H : Hp) (C : Addr) (cl : List (Str × Addr)) (fp : List Addr) ys k, P ys → k ∈ ys → TX (X.blk s H scope (compEnvC scope cl C X.env) fp) B (ρ.set j (some (dat X.K (.i k)))) c (is (p k)) ∧ (p k = true → EX (X.blk s H scope (compEnvC scope cl C X.env) fp) B (ρ.set j (some (dat X.K (.i k)))) elt (own X.K (g k).1 ((g k).2.map D.i))))
    (hc : X.calm = true := by rfl) (hs : ∀ x, foldedSetIterable iter X.env x = pure x := by intro _; rfl) :
    EX X B ρ (.ListComp elt [⟨.Name x tpos, iter, [c], 0⟩] scope pos) (exR P fun ys => shLL B X.K ((ys.filter p).map g)) := by
  refine PE_wk (pe_lc (own := [(x, j)]) (g := gName j) (tt := tTst (Z := List Int × Int) B (fun z => ρ.set j (some (dat X.K (.i z.2)))) (fun z => P z.1 ∧ z.2 ∈ z.1) (fun z => is (p z.2))) (te := tEltI B X.K ρ j P p g) hc hN (pi_list hi) hok hgn (fun s H C cl fp => pts_one (tst_of fun z hz => (hb s H C cl fp z.1 z.2 hz.1 hz.2).1)) (fun s H C cl fp => ⟨fun pins s' σ H' Q I ⟨z, hz, st, q⟩ => ((hb s H C cl fp z.1 z.2 hz.1 hz.2.1).2 hz.2.2).run pins s' σ H' Q I ⟨st, q⟩⟩) hs) fun σ H Q ⟨s, q⟩ => ⟨s, fun v H1 e1 hv => ?_⟩
  obtain ⟨ys, hP, l, hlB, rfl, hld, us, g1, g2⟩ := hv
  obtain rfl := g2.ints
  have s1 := s.mono e1
  refine ⟨l, rfl, ⟨_, SqL.of g1⟩, fun Dl hD => ?_⟩
  obtain ⟨hB, hDd⟩ := s1.fresh hD
  refine lc_list (K := X.K) (a := l) (xs := ys.map V.int) (LcI H1 X.K Dl d ys p g) ⟨Ext.new hD, [], upd_same, rfl, fun t ht => by simp at ht⟩ (fun i H' _ L => SqL.of (L.1.at g1 hld)) (fun i y H' hy L => ?_) (fun H' L => ?_)
  · obtain ⟨k, hk0, rfl⟩ : ∃ k, ys[i]? = some k ∧ y = .int k := by
      rw [List.getElem?_map] at hy
      cases q0 : ys[i]? with
      | none => rw [q0] at hy; cases hy
      | some k => rw [q0] at hy; cases hy; exact ⟨k, rfl, rfl⟩
    have hkm := List.mem_of_getElem? hk0
    have hil := (List.getElem?_eq_some_iff.mp hk0).1
    refine ⟨wipe1 _ _ _, ?_⟩
    have hst := st_wipe (j := j) (s1.mono L.1) (R := dat X.K (.i k)) (v := V.int k) (.i k)
    refine ⟨(ys, k), ⟨hP, hkm⟩, hst, fun kb H2 e2 hkb => ?_⟩
    obtain ⟨h0, vs, h1, h2, h3⟩ := L
    have h1' := e2.at h1 hDd
    have htk : (ys.take (i + 1)) = ys.take i ++ [k] := by rw [List.take_add_one, hk0]; rfl
    have hst' := fun {Ha Hb : Hp} (e : Ext d Ha Hb) (t : Addr × List Int) (h : some t.1 ≠ d ∧ t.1 ≠ Dl ∧ ∃ ws, Ha t.1 = some (.lst ws) ∧ DRl X.K Ha (t.2.map D.i) ws) => (show some t.1 ≠ d ∧ t.1 ≠ Dl ∧ ∃ ws, Hb t.1 = some (.lst ws) ∧ DRl X.K Hb (t.2.map D.i) ws from by
      obtain ⟨a1, a2, ws, a3, a4⟩ := h
      exact ⟨a1, a2, ws, e.at a3 a1, a4.tk e.tk⟩)
    cases kb with
    | true =>
      have hpk : p k = true := hkb.symm
      refine ⟨(ys, k), ⟨hP, hkm, hpk⟩, hst.mono e2, fun y H3 e3 hy => ?_⟩
      obtain ⟨rfl, b1, ws, b2, b3⟩ := hy
      have h1'' := e3.at h1' hDd
      have hlen : vs.length < 2000 := by
        rw [h2, List.length_map, List.length_map]
        have q1 := List.length_filter_le p (ys.take i)
        have q2 : (ys.take i).length ≤ ys.length := by rw [List.length_take]; omega
        have := hn ys hP
        omega
      have hgD : (g k).1 ≠ Dl := fun z => by
        obtain ⟨kk, R0, c1, c2⟩ := hk ys k hP hkm hpk
        obtain ⟨w0, _, c3⟩ := s1.good.get c1
        exact c2 w0 H1 c3 (by rw [z]; exact hD)
      refine ⟨vs, h1'', Nat.lt_of_lt_of_le hlen (by decide), (h0.trans (e2.trans e3)).mut hD hDd, _, upd_same, ?_, ?_⟩
      · rw [htk, List.filter_append, List.map_append, List.map_append, ← h2]
        simp [hpk]
      · intro t ht
        rw [htk, List.filter_append, List.map_append] at ht
        have put : ∀ t : Addr × List Int, (some t.1 ≠ d ∧ t.1 ≠ Dl ∧ ∃ ws, H3 t.1 = some (.lst ws) ∧ DRl X.K H3 (t.2.map D.i) ws) → (some t.1 ≠ d ∧ t.1 ≠ Dl ∧ ∃ ws, upd H3 Dl (.lst (vs ++ [V.ref (g k).1])) t.1 = some (.lst ws) ∧ DRl X.K (upd H3 Dl (.lst (vs ++ [V.ref (g k).1]))) (t.2.map D.i) ws) := fun t ⟨a1, a2, ws, a3, a4⟩ => ⟨a1, a2, ws, by rw [upd_ne a2]; exact a3, a4.tk (Tk.lst h1'')⟩
        rcases List.mem_append.mp ht with ht | ht
        · exact put t (hst' (e2.trans e3) t (h3 t ht))
        · have : t = g k := by simpa [hpk] using ht
          subst this
          exact put _ ⟨b1, hgD, ws, b2, b3⟩
    | false =>
      have hpk : p k = false := hkb.symm
      refine ⟨h0.trans e2, vs, h1', ?_, ?_⟩
      · rw [htk, List.filter_append, List.map_append, List.map_append, ← h2]
        simp [hpk]
      · intro t ht
        rw [htk, List.filter_append, List.map_append] at ht
        rcases List.mem_append.mp ht with ht | ht
        · exact hst' e2 t (h3 t ht)
        · simp [hpk] at ht
  · obtain ⟨h0, vs, h1, h2, h3⟩ := L
    rw [List.length_map, List.take_length] at h2 h3
    refine q _ H' (e1.trans h0) ⟨ys, hP, Dl, hB, rfl, hDd, vs, h1, by rw [h2, List.length_map], fun k t u ht hu => ?_⟩
    rw [h2, List.getElem?_map, ht] at hu
    cases hu
    obtain ⟨a1, _, ws, a3, a4⟩ := h3 t (List.mem_of_getElem? ht)
    exact ⟨rfl, a1, ws, a3, a4⟩
/-- x[k], x a dict of lists -/
theorem dl_get : ∀ {M : DlT} {t : Int × Addr × List Int}, t ∈ M → (M.map (·.1)).Nodup → valV (dlU M) (Sum.inl t.1) = some (V.ref t.2.1)
  | [], _, h, _ => by cases h
  | u :: M, t, h, hn => by
    have hn' : u.1 ∉ M.map (·.1) ∧ (M.map (·.1)).Nodup := List.nodup_cons.mp hn
    rcases List.mem_cons.mp h with rfl | h
    · simp [valV, dlU]
    · have hne : u.1 ≠ t.1 := fun e => hn'.1 (by rw [e]; exact List.mem_map.mpr ⟨t, h, rfl⟩)
      have e : valV (dlU (u :: M)) (Sum.inl t.1) = valV (dlU M) (Sum.inl t.1) := by simp [valV, dlU, hne]
      rw [e]
      exact dl_get h hn'.2
end
end Cv

namespace Cv
open PySem PySem.Spec PyProof.Rows L2 RZ
section
variable {d : Option Addr} {X : Cx} {B : Hp} {ρ ρ' : Ro d} {a b c e iter elt : Expr} {es : List Expr} {R R' Ra Rb : Rp d} {Rs : List (Rp d)} {pos : Pos} {m n : Int} {st : Stmt} {rest body orelse : List Stmt} {Pre Mid : L2.St → Hp → Prop} {Po : Ends}
theorem x_dlget {K : PySem.W.Frag} {ad : Addr} {M : DlT} {t : Int × Addr × List Int} (hu : X.A.units + 1 < cLine) (ha : EX X B ρ a (dlR K ad M)) (hb : EX X B ρ b (rI t.1)) (ht : t ∈ M) (hn : (M.map (·.1)).Nodup) (hs : NoSl b := by exact (fun _ _ => rfl)) : EX X B ρ (.Subscript a b pos) (own K t.2.1 (t.2.2.map D.i)) :=
  PE_wk (pe_dget hu ha hb hs) fun σ H Q ⟨s, q⟩ => ⟨s, fun x H1 e1 hx => ⟨s.mono e1, fun y H2 e2 hy => by
    obtain ⟨rfl, h1, h2⟩ := (dlR (d := d) K ad M).st e2 hx
    obtain rfl : y = .int t.1 := hy
    obtain ⟨w1, ws, w2, w3⟩ := h2 t ht
    exact ⟨ad, V.ref t.2.1, rfl, by rw [← dl_get ht hn]; exact DGet.k (k := Sum.inl t.1) h1, q _ H2 (e1.trans e2) ⟨rfl, w1, ws, w2, w3⟩⟩⟩⟩
/-! ### a dict that is a set of ints -/
abbrev dkS (K : PySem.W.Frag) (a : Addr) (ks : List Int) : Rp d := dct K a (ks.map fun k => (Sum.inl k, .b true))
def addK (ks : List Int) (k : Int) : List Int := if k ∈ ks then ks else ks ++ [k]
theorem mem_addK {ks : List Int} {k x : Int} : x ∈ addK ks k ↔ x ∈ ks ∨ x = k := by
  unfold addK
  split
  · constructor
    · exact .inl
    · rintro (h | rfl)
      · exact h
      · assumption
  · simp
theorem valD_set {ks : List Int} {k : Int} : (valD (ks.map fun k => ((Sum.inl k : Key), D.b true)) (Sum.inl k)).isSome = decide (k ∈ ks) := by
  unfold valD
  rw [Option.isSome_map]
  by_cases h : k ∈ ks
  · rw [decide_eq_true h, List.find?_isSome]
    exact ⟨(Sum.inl k, .b true), List.mem_map.mpr ⟨k, h, rfl⟩, by simp⟩
  · rw [decide_eq_false h]
    cases q : (ks.map fun k => ((Sum.inl k : Key), D.b true)).find? fun kv => decide (kv.1 = Sum.inl k) with
    | none => rfl
    | some u =>
      have h1 := List.mem_of_find?_eq_some q
      have h2 := List.find?_some q
      obtain ⟨x, hx, rfl⟩ := List.mem_map.mp h1
      have : x = k := by simpa using h2
      exact absurd (this ▸ hx) h
theorem bx_dputS (i : Nat) {x : Str} {p1 p2 : Pos} {K : PySem.W.Frag} {l : Addr} {ks : List Int} {k : Int} (hi : ρ[i]? = some (some (dkS K l ks))) (hK : X.K = K) (hu : X.A.units + 1 < cLine) (he : EX X B ρ e (rB true)) (hk : EX X B ρ b (rI k)) (hz : ks.length ≤ 1000) (hB : B l = none) (hb : InkBut l i ρ) (h : BX X rest (St B (ρ.set i (some (dkS K l (addK ks k))))) Po)
    (hN : X.N[i]? = some x := by rfl) (hv : Vis X.env.scope x := by first | exact Or.inl rfl | exact Or.inr (Or.inl rfl) | exact Or.inr (Or.inr rfl)) (hd : (x == ("__debug__" : Str)) = false := by decide) (hcd : (x == ("__classdict__" : Str)) = false := by decide)
    (hs : swapsWith e (some (.Subscript (.Name x p1) b p2)) pos.line X.env = pure false := by rfl) :
    BX X (.Assign [.Subscript (.Name x p1) b p2] e pos :: rest) (St B ρ) Po := by
  subst hK
  by_cases hin : k ∈ ks
  · have ea : addK ks k = ks := if_pos hin
    rw [ea] at h
    have hset : ρ.set i (some (dkS X.K l ks)) = ρ := by
      refine List.ext_getElem? fun j => ?_
      by_cases hj : i = j
      · subst hj
        rw [List.getElem?_set_self (List.getElem?_eq_some_iff.mp hi).1, hi]
      · rw [List.getElem?_set_ne hj]
    rw [hset] at h
    refine bx_cons (Mid := St B ρ) ?_ h
    refine PS_wk (ps_dput hu (pe_var hN hv hd hcd) hk he hs) fun E σ H ⟨s, q⟩ => ⟨s, fun v H1 e1 hw => ?_⟩
    obtain rfl : v = .bl true := hw
    have s1 := s.mono e1
    obtain ⟨u, h1, rfl, _⟩ := s1.good.get hi
    refine ⟨_, h1, s1, fun y H2 e2 hy => ?_⟩
    obtain rfl : y = .int k := hy
    have s2 := s1.mono e2
    obtain ⟨u, h1', hu2, us, h2, h3⟩ := s2.good.get hi
    have hus : us = ks.map fun k => ((Sum.inl k : Key), V.bl true) := by
      have l1 := h3.1
      have l2 := h3.2
      have hl := h3.len
      rw [List.length_map] at hl
      refine List.ext_getElem? fun j => ?_
      rw [List.getElem?_map]
      rcases Nat.lt_or_ge j ks.length with hj | hj
      · obtain ⟨⟨u1, u2⟩, hju⟩ : ∃ u, us[j]? = some u := ⟨_, List.getElem?_eq_getElem (show j < us.length by omega)⟩
        rw [hju, List.getElem?_eq_getElem hj]
        have a1 : (us.map (·.1))[j]? = some u1 := by rw [List.getElem?_map, hju]; rfl
        rw [l1, List.map_map, List.getElem?_map, List.getElem?_eq_getElem hj] at a1
        have a2 : (us.map (·.2))[j]? = some u2 := by rw [List.getElem?_map, hju]; rfl
        have a3 := l2.2 j (D.b true) u2 (by rw [List.map_map, List.getElem?_map, List.getElem?_eq_getElem hj]; rfl) a2
        cases a3
        have a4 : Sum.inl ks[j] = u1 := Option.some.inj a1
        rw [← a4]
        rfl
      · rw [List.getElem?_eq_none (by omega), List.getElem?_eq_none hj]
        rfl
    have hput : putK us (Sum.inl k) (V.bl true) = us := by
      unfold putK
      rw [if_pos]
      · rw [hus, List.map_map]
        refine List.map_congr_left fun z _ => ?_
        show (if (Sum.inl z : Key) = Sum.inl k then ((Sum.inl z : Key), V.bl true) else (Sum.inl z, V.bl true)) = _
        split <;> rfl
      · rw [hus, List.any_eq_true]
        exact ⟨(Sum.inl k, V.bl true), List.mem_map.mpr ⟨k, hin, rfl⟩, by simp⟩
    refine ⟨l, _, rfl, DPut.k (k := Sum.inl k) h2 (by rw [h3.len, List.length_map]; exact small1000 hz), ?_⟩
    rw [hput]
    have hsame : upd H2 l (.dK us) = H2 := by
      funext a
      by_cases ha : a = l
      · rw [ha, upd_same, h2]
      · rw [upd_ne ha]
    rw [hsame]
    exact q.nx σ _ (e1.tk.trans e2.tk) s2
  · have ea : addK ks k = ks ++ [k] := if_neg hin
    rw [ea] at h
    refine bx_dput i (k := Sum.inl k) (w := .b true) hi rfl hu (x_Bd he) (x_Id hk) ?_ (by rw [List.length_map]; exact hz) hB hb (by
      have e2 : (ks.map fun k => ((Sum.inl k : Key), D.b true)) ++ [(Sum.inl k, D.b true)] = (ks ++ [k]).map fun k => ((Sum.inl k : Key), D.b true) := by simp
      rw [e2]
      exact h) hN hv hd hcd hs
    have := valD_set (ks := ks) (k := k)
    rw [decide_eq_false hin] at this
    cases q : valD (ks.map fun k => ((Sum.inl k : Key), D.b true)) (Sum.inl k) with
    | none => rfl
    | some u => rw [q] at this; cases this
end
/-! ### what last_components counts -/
def memK (ns : List Nat) (i k : Nat) : List Int := ((List.range i).filter fun v => decide (ns[v]? = some k)).map fun v : Nat => (v : Int)
theorem memK_succ {ns : List Nat} {i k k0 : Nat} (h : ns[i]? = some k0) : memK ns (i + 1) k = if k = k0 then memK ns i k ++ [(i : Int)] else memK ns i k := by
  unfold memK
  rw [List.range_succ, List.filter_append, List.map_append]
  by_cases hk : k = k0
  · rw [if_pos hk]
    have : decide (ns[i]? = some k) = true := by rw [h, hk]; simp
    simp [List.filter_cons, this]
  · rw [if_neg hk]
    have : decide (ns[i]? = some k) = false := by rw [h]; simp [Ne.symm hk]
    simp [List.filter_cons, this]
structure MeI (ns : List Nat) (i : Nat) (M : DlT) : Prop where
  c : ∀ t ∈ M, ∃ k : Nat, t.1 = (k : Int) ∧ t.2.2 = memK ns i k ∧ ∃ v, v < i ∧ ns[v]? = some k
  k : ∀ v k, v < i → ns[v]? = some k → (k : Int) ∈ M.map (·.1)
theorem mei_step {ns : List Nat} {i k : Nat} {M M' : DlT} {B : Hp} {ad : Addr} (hD : DlNew B ad M) (h : MeI ns i M) (hk : ns[i]? = some k) (hs : DlStep M (k : Int) (i : Int) M') : MeI ns (i + 1) M' := by
  have old : ∀ t ∈ M, t.1 ≠ (k : Int) → ∃ k' : Nat, t.1 = (k' : Int) ∧ t.2.2 = memK ns (i + 1) k' ∧ ∃ v, v < i + 1 ∧ ns[v]? = some k' := fun t ht hne => by
    obtain ⟨k', h1, h2, v, h3, h4⟩ := h.c t ht
    refine ⟨k', h1, ?_, v, by omega, h4⟩
    rw [memK_succ hk, if_neg (fun e => hne (by rw [h1, e]))]
    exact h2
  rcases hs with ⟨A, l, xs, C, rfl, rfl⟩ | ⟨hnk, l, rfl⟩
  · have hks := hD.ks
    rw [List.map_append, List.map_cons, List.nodup_append] at hks
    obtain ⟨n1, n2, n3⟩ := hks
    have hne : ∀ t, t ∈ A ∨ t ∈ C → t.1 ≠ (k : Int) := fun t ht e => by
      rcases ht with ht | ht
      · exact n3 t.1 (List.mem_map.mpr ⟨t, ht, rfl⟩) (k : Int) (by simp) e
      · exact (List.nodup_cons.mp n2).1 (by rw [← e]; exact List.mem_map.mpr ⟨t, ht, rfl⟩)
    refine ⟨fun t ht => ?_, fun v k' hv hv' => ?_⟩
    · rcases List.mem_append.mp ht with ht | ht
      · exact old t (List.mem_append_left _ ht) (hne t (.inl ht))
      · rcases List.mem_cons.mp ht with rfl | ht
        · obtain ⟨k', h1, h2, _⟩ := h.c (k, l, xs) (by simp)
          have : k = k' := by
            have h1 : (k : Int) = (k' : Int) := h1
            omega
          subst this
          refine ⟨k, rfl, ?_, i, by omega, hk⟩
          rw [memK_succ hk, if_pos rfl]
          show xs ++ [(i : Int)] = _
          rw [show xs = memK ns i k from h2]
        · exact old t (List.mem_append_right _ (List.mem_cons_of_mem _ ht)) (hne t (.inr ht))
    · have e : (A ++ ((k : Int), l, xs ++ [(i : Int)]) :: C).map (·.1) = (A ++ ((k : Int), l, xs) :: C).map (·.1) := by simp
      rw [e]
      rcases Nat.lt_or_ge v i with h1 | h1
      · exact h.k v k' h1 hv'
      · have : v = i := by omega
        subst this
        rw [hk] at hv'
        cases hv'
        simp
  · refine ⟨fun t ht => ?_, fun v k' hv hv' => ?_⟩
    · rcases List.mem_append.mp ht with ht | ht
      · exact old t ht (fun e => hnk (by rw [← e]; exact List.mem_map.mpr ⟨t, ht, rfl⟩))
      · rw [List.mem_singleton.mp ht]
        refine ⟨k, rfl, ?_, i, by omega, hk⟩
        rw [memK_succ hk, if_pos rfl]
        have : memK ns i k = [] := by
          unfold memK
          rw [List.map_eq_nil_iff, List.filter_eq_nil_iff]
          intro v hv hh
          exact hnk (h.k v k (List.mem_range.mp hv) (of_decide_eq_true hh))
        rw [this]
        rfl
    · rw [List.map_append]
      rcases Nat.lt_or_ge v i with h1 | h1
      · exact List.mem_append_left _ (h.k v k' h1 hv')
      · have : v = i := by omega
        subst this
        rw [hk] at hv'
        cases hv'
        simp
theorem mei_len {ns : List Nat} {i : Nat} {M : DlT} {B : Hp} {ad : Addr} (hD : DlNew B ad M) (h : MeI ns i M) : M.length ≤ i := by
  have h1 : (M.map (·.1)).length ≤ ((List.range i).map fun v => ((ns.getD v 0 : Nat) : Int)).length := hD.ks.length_le_of_subset fun x hx => by
    obtain ⟨t, ht, rfl⟩ := List.mem_map.mp hx
    obtain ⟨k, h1, _, v, h2, h3⟩ := h.c t ht
    refine List.mem_map.mpr ⟨v, List.mem_range.mpr h2, ?_⟩
    rw [List.getD_eq_getElem?_getD, h3, h1]
    rfl
  simpa using h1
theorem memK_len {ns : List Nat} {i k : Nat} : (memK ns i k).length ≤ i := by
  unfold memK
  rw [List.length_map]
  exact Nat.le_trans (List.length_filter_le _ _) (by simp)
end Cv

namespace Cv
open PySem PySem.Spec PyProof.Rows L2 RZ
theorem isTup_of {h : Heap} {a : Addr} {its : Array Value} (x : IsTup h a its) : h.IsTuple a its := by
  obtain ⟨o, h1, h2, n, h3⟩ := x
  exact ⟨o, h1, h2, n, h3⟩
theorem cr_maxDT {X : Cx} (hc : X.calm = true) (hu : X.A.units + 1 < cLine) : CallRK X (.builtin "max") [Str.ofString "default"] (fun vs zs H Q => ∃ (a : Addr) (ns : List Int) (k : Int), vs = [V.ref a] ∧ zs = [V.int k] ∧ SqT X.K H a (ns.map V.int) ∧ ∀ M, MaxD ns k M → Q (.int M) H) := by
  rintro pins s σ H vs zs us ws Q I r rz ⟨a, ns, k, rfl, rfl, hs, q⟩
  obtain ⟨its, rv, hl, hz⟩ := I.tuple hs
  obtain rfl := Vals.ref1 r
  obtain ⟨w1, rfl, t1, e1⟩ := vals1 rz
  have hI := Vals.ints rv
  refine PySem.W.max_tuple_datum_default (xs := ns) (I.ok.hd hc) (isTup_of hl) (holdAll_ints hI) (show X.A.units + 1 + 0 < cLine from hu) (fun e h' tk hk => ?_) (fun y ys i v h' tk e hi hv hk => ?_)
  · exact ⟨V.int k, H, Inv.kept I hk, ⟨t1, e1⟩, q k (.inl ⟨e, rfl⟩)⟩
  · rw [List.getElem?_toArray] at hi
    have hi' := hi
    obtain ⟨n, hn, hv2⟩ := (holdAll_ints (h := h') hI).at hi
    obtain ⟨t, rfl⟩ : ∃ t, v = Value.int n t := by
      have := ints_at hI i v hi
      obtain ⟨t, ht⟩ := this
      rw [List.getD_eq_getElem?_getD, hn] at ht
      exact ⟨t, ht⟩
    have hm := maxOf_int (xs := ys) (x := y)
    obtain ⟨as, rd⟩ := hv
    have en : PySem.W.maxOf y ys = n := by
      cases rd
      rfl
    rw [en] at hm
    subst e
    exact ⟨V.int n, H, Inv.kept I hk, ⟨t, rfl⟩, q n (.inr hm)⟩
section
variable {d : Option Addr} {X : Cx} {B : Hp} {ρ ρ' : Ro d} {a b c e iter elt : Expr} {es : List Expr} {R R' Ra Rb : Rp d} {Rs : List (Rp d)} {pos : Pos} {m n : Int} {st : Stmt} {rest body orelse : List Stmt} {Pre Mid : L2.St → Hp → Prop} {Po : Ends}
theorem x_lcHNN {P : LlT → Prop} (j : Nat) {x : Str} {scope : Scope} {tpos : Pos} (g : List Int → List Int) (hi : EX X B ρ iter (newLL B X.K P)) (hn : ∀ T, P T → T.length < 2000) (hN : X.N.Nodup) (hok : BlkOk X.N X.env.scope scope [(x, j)])
    (hgn : ∀ (s : Shared) (H : Hp) (C : Addr) (cl : List (Str × Addr)) (fp : List Addr), PG (X.blk s H scope (compEnvC scope cl C X.env) fp) (.Name x tpos) (gName j))
    (hb : ∀ (s : Shared) (H : Hp) (C : Addr) (cl : List (Str × Addr)) (fp : List Addr) (T : LlT) (i : Nat) (t : Addr × List Int) (B' : Hp), P T → T[i]? = some t → EX (X.blk s H scope (compEnvC scope cl C X.env) fp) B' (ρ.set j (some (own X.K t.1 (t.2.map D.i)))) elt (newL B' X.K ((g t.2).map D.i)))
    (hc : X.calm = true := by rfl) (hs : ∀ x, foldedSetIterable iter X.env x = pure x := by intro _; rfl) :
    EX X B ρ (.ListComp elt [⟨.Name x tpos, iter, [], 0⟩] scope pos) (newLL B X.K fun T' => ∃ T, P T ∧ T'.map (·.2) = T.map fun t => g t.2) := by
  refine PE_wk (pe_lc (own := [(x, j)]) (g := gName j) (tt := tYes) (te := tEltN (Z := LlT × Nat × (Addr × List Int)) B X.K (fun z => ρ.set j (some (own X.K z.2.2.1 (z.2.2.2.map D.i)))) (fun z => P z.1 ∧ z.1[z.2.1]? = some z.2.2) (fun z => g z.2.2.2)) hc hN (pi_list hi) hok hgn (fun _ _ _ _ _ => pts_nil) (fun s H C cl fp => eltN_of fun z hz B' => hb s H C cl fp z.1 z.2.1 z.2.2 B' hz.1 hz.2) hs) fun σ H Q ⟨s, q⟩ => ⟨s, fun v H1 e1 hv => ?_⟩
  obtain ⟨⟨l, T⟩, ⟨_, hP, _⟩, rfl, hld, us, g1, g2, g3⟩ := hv
  have hn := hn T hP
  dsimp only at hP g1 g2 g3 hld hn
  have s1 := s.mono e1
  refine ⟨l, rfl, ⟨us, SqL.of g1⟩, fun Dl hD => ?_⟩
  obtain ⟨hB, hDd⟩ := s1.fresh hD
  refine lc_list (K := X.K) (a := l) (xs := us) (LcL H1 X.K Dl d B fun k => ((T[k]?).map fun t => g t.2).getD []) ⟨Ext.new hD, [], [], upd_same, rfl, rfl, fun j t u h => by cases h⟩ (fun i H' _ L => SqL.of (L.1.at g1 hld)) (fun i y H' hy L => ?_) (fun H' L => ?_)
  · have hiT : i < T.length := by rw [← g2]; exact (List.getElem?_eq_some_iff.mp hy).1
    have hw : T[i]? = some T[i] := List.getElem?_eq_getElem hiT
    obtain ⟨rfl, p2', ws', p3', p4'⟩ := (g3 i _ y hw hy).ext L.1
    refine ⟨wipe1 _ _ _, ?_⟩
    refine ⟨(T, i, T[i]), ⟨hP, hw⟩, st_wipe (s1.mono L.1) (R := own X.K T[i].1 (T[i].2.map D.i)) ⟨rfl, p2', ws', p3', p4'⟩, fun v H2 e2 hv => ?_⟩
    obtain ⟨a, ha, rfl, had, ws, q1, q2⟩ := hv
    obtain ⟨h0, vs, T', p1, p2, p3, p4⟩ := L
    have p1' := e2.at p1 hDd
    have haD : a ≠ Dl := fun z => by rw [z, p1] at ha; cases ha
    have hBa : B a = none := by
      cases eb : B a with
      | none => rfl
      | some o =>
        have := (s1.mono h0).ext.at eb had
        rw [ha] at this; cases this
    have hlen : vs.length < 2000 := by omega
    refine ⟨vs, p1', Nat.lt_of_lt_of_le hlen (by decide), (h0.trans e2).mut hD hDd, vs ++ [.ref a], T' ++ [(a, g T[i].2)], upd_same, by simp [p2], by simp [p3], fun k t u ht hu => ?_⟩
    by_cases hk : k < T'.length
    · rw [List.getElem?_append_left hk] at ht
      rw [List.getElem?_append_left (by omega)] at hu
      obtain ⟨r1, r2, r3, r4⟩ := p4 k t u ht hu
      exact ⟨(r1.ext e2).upd p1' r4, r2, r3, r4⟩
    · have hk' : k = T'.length := by
        have := (List.getElem?_eq_some_iff.mp ht).1
        simp at this; omega
      subst hk'
      rw [List.getElem?_append_right (Nat.le_refl _), Nat.sub_self] at ht
      rw [List.getElem?_append_right (by omega), p2, Nat.sub_self] at hu
      cases ht; cases hu
      refine ⟨⟨rfl, had, ws, by rw [upd_ne haD]; exact q1, q2.tk (Tk.lst p1')⟩, ?_, hBa, haD⟩
      show g T[i].2 = ((T[T'.length]?).map fun t => g t.2).getD []
      rw [p3, hw]; rfl
  · obtain ⟨h0, vs, T', p1, p2, p3, p4⟩ := L
    refine q _ H' (e1.trans h0) ⟨(Dl, T'), ⟨hB, ⟨T, hP, ?_⟩, fun t ht => ?_⟩, rfl, hDd, vs, p1, p2, fun k t u ht hu => (p4 k t u ht hu).1⟩
    · apply List.ext_getElem?
      intro k
      rw [List.getElem?_map, List.getElem?_map]
      by_cases hk : k < T'.length
      · have ht : T'[k]? = some T'[k] := List.getElem?_eq_getElem hk
        have hu : vs[k]? = some (vs[k]'(by omega)) := List.getElem?_eq_getElem _
        have : T'[k].2 = ((T[k]?).map fun t => g t.2).getD [] := (p4 k _ _ ht hu).2.1
        have hks : k < T.length := by omega
        rw [ht, List.getElem?_eq_getElem hks]
        rw [List.getElem?_eq_getElem hks] at this
        exact congrArg some this
      · have hk2 : T.length ≤ k := by omega
        rw [List.getElem?_eq_none (show List.length T' ≤ k by omega), List.getElem?_eq_none hk2]; rfl
    · obtain ⟨k, hk⟩ := List.getElem?_of_mem ht
      have hkl : k < List.length T' := (List.getElem?_eq_some_iff.mp hk).1
      exact (p4 k t _ hk (List.getElem?_eq_getElem (show k < vs.length by omega))).2.2.1
theorem bx_newLLs (i : Nat) (hil : i < ρ.length) {x : Str} {pos' : Pos} {K : PySem.W.Frag} {P : LlT → Prop} (he : ∀ B' : Hp, EX X B' ρ e (newLL B' K P)) (h : ∀ la T, P T → B la = none → (∀ t ∈ T, B t.1 = none) → BX X rest (St B (ρ.set i (some (llR K la T)))) Po) (hN : X.N.Nodup) (hi : X.N[i]? = some x := by rfl) (hx : Loc X.env.scope x := by first | exact Or.inl rfl | exact Or.inr rfl) (hs : swapsWith e (some (.Name x pos')) pos.line X.env = pure false := by rfl)
    (hf : X.fn x = true ∨ X.env.scope.names.lookup x = some .local := by first | exact .inl rfl | exact .inr rfl | assumption) : BX X (.Assign [.Name x pos'] e pos :: rest) (St B ρ) Po := by
  refine bx_set i (R := newLL B K P) (he B) ?_ hN hi hx hs hf
  refine bx_open (P := fun z : Addr × LlT => B z.1 = none ∧ P z.2 ∧ ∀ t ∈ z.2, B t.1 = none) (Rz := fun z => llR K z.1 z.2) i (by rw [List.getElem?_set_self hil]; rfl) fun z hz => ?_
  rw [List.set_set]
  exact h z.1 z.2 hz.2.1 hz.1 hz.2.2
theorem x_allL {bs : List Bool} {p : Pos} (hg : Gl X "all") (hm : X.mg "all" = none) (h : EX X B ρ e (newL B X.K (bs.map D.b))) (hc : X.calm = true := by rfl) (he : starEach [e] X.env = (false, eval e X.env) :: starEach [] X.env := by rfl) (hpl : (backTo pos (starEach [] X.env)).any (·.1) = false := by rfl) : EX X B ρ (.Call (.Name "all" p) [e] [] pos) (rB (bs.all id)) :=
  x_callB (cr_all hc) hg hm (by decide +kernel) (a_cons h a_nil he) (fun vs H σ Q s hv q => by
    obtain ⟨x, rfl, hx⟩ := hv.one
    obtain ⟨a, _, rfl, _, us, h1, h2⟩ := hx
    obtain rfl := bools_of h2
    exact ⟨a, bs, rfl, SqL.of h1, q _ H (Ext.refl H) rfl⟩) (he := he) (hpl := hpl)
theorem x_maxL {ns : List Int} {p : Pos} (hg : Gl X "max") (hm : X.mg "max" = none) (h : EX X B ρ e (newL B X.K (ns.map D.i))) (hne : 0 < ns.length) (hc : X.calm = true := by rfl) (he : starEach [e] X.env = (false, eval e X.env) :: starEach [] X.env := by rfl) (hpl : (backTo pos (starEach [] X.env)).any (·.1) = false := by rfl) : EX X B ρ (.Call (.Name "max" p) [e] [] pos) (iE fun M => M ∈ ns ∧ ∀ y, y ∈ ns → y ≤ M) :=
  x_callB (cr_max hc) hg hm (by decide +kernel) (a_cons h a_nil he) (fun vs H σ Q s hv q => by
    obtain ⟨x, rfl, hx⟩ := hv.one
    obtain ⟨a, _, rfl, _, us, h1, h2⟩ := hx
    obtain rfl := h2.ints
    exact ⟨a, ns, rfl, SqL.of h1, hne, fun M h2 h3 => q _ H (Ext.refl H) ⟨M, ⟨h2, h3⟩, rfl⟩⟩) (he := he) (hpl := hpl)
theorem x_maxDT {ns : List Int} {k : Int} {p kp : Pos} (hg : Gl X "max") (hm : X.mg "max" = none) (hu : X.A.units + 1 < cLine) (h : EX X B ρ e (dat X.K (tI ns))) (hb : EX X B ρ b (rI k)) (hc : X.calm = true := by rfl)
    (he : backTo pos (starEach [e] X.env) = (false, eval e X.env) :: backTo pos (starEach [] X.env) := by rfl) (hpl : (backTo pos (starEach [e] X.env)).any (·.1) = false := by rfl)
    (hall : (backToKw pos (keywordEach [⟨some "default", b, kp⟩] X.env)).all (·.1.isSome) = true := by rfl) (hnone : (backToKw pos (keywordEach [⟨some "default", b, kp⟩] X.env)).any (·.1.isNone) = false := by rfl) (hks : (backToKw pos (keywordEach [⟨some "default", b, kp⟩] X.env)).filterMap (·.1) = [Str.ofString "default"] := by rfl)
    (hs : starEach [e] X.env = (false, eval e X.env) :: starEach [] X.env := by rfl) :
    EX X B ρ (.Call (.Name "max" p) [e] [⟨some "default", b, kp⟩] pos) (iE (MaxD ns k)) :=
  PE_wk (pe_callBK (cr_maxDT hc hu) hg hm (by decide +kernel) (pa_cons h pa_nil hs) (pk_cons hb pk_nil) (by decide) (by decide) he hpl hall hnone hks) fun σ H Q ⟨s, q⟩ => ⟨s, fun v H1 e1 hv => ⟨s.mono e1, fun w H2 e2 hw => by
    obtain ⟨a, rfl, h1⟩ := (DR.tk e2.tk hv).tupI
    obtain rfl : w = .int k := hw
    exact ⟨a, ns, k, rfl, rfl, h1, fun M hM => q _ H2 (e1.trans e2) ⟨M, hM, rfl⟩⟩⟩⟩
end
end Cv

namespace Cv
open PySem PySem.Spec PyProof.Rows L2 RZ
section
variable {d : Option Addr} {X : Cx} {B : Hp} {ρ ρ' : Ro d} {a b c e iter elt : Expr} {es : List Expr} {R R' Ra Rb : Rp d} {Rs : List (Rp d)} {pos : Pos} {m n : Int} {st : Stmt} {rest body orelse : List Stmt} {Pre Mid : L2.St → Hp → Prop} {Po : Ends}
theorem x_inI {l : Addr} {ns : List Int} {z : Int} (ha : EX X B ρ a (rI z)) (hb : EX X B ρ b (lstA X.K l (ns.map D.i))) (hm : behindInMarks CmpOp.In b = false := by rfl) : EX X B ρ (.Compare a [.In] [b] pos) (rB (decide (z ∈ ns))) :=
  x_cmp op_in_seq hm ha hb fun x y H σ Q _ hx hy q => by
    obtain rfl : x = .int z := hx
    obtain ⟨rfl, _, us, h1, h2⟩ := hy
    obtain rfl := h2.ints
    refine ⟨l, _, rfl, .inl h1.sq, rfl, ?_, q _ H (Ext.refl H) ?_⟩
    · rw [List.all_eq_true]
      intro v hv
      obtain ⟨n, _, rfl⟩ := List.mem_map.mp hv
      rfl
    · show V.bl (if false = true then !inV (.int z) (ns.map V.int) else inV (.int z) (ns.map V.int)) = V.bl _
      rw [if_neg Bool.false_ne_true, inV_ints]
/-- xs[k], xs a list of lists -/
theorem x_ixLL {l : Addr} {T : LlT} {t : Addr × List Int} {k : Nat} (ha : EX X B ρ a (llR X.K l T)) (hb : EX X B ρ b (rI (k : Int))) (hk : T[k]? = some t) (hs : PlainIx b := by exact (fun _ _ => rfl)) : EX X B ρ (.Subscript a b pos) (own X.K t.1 (t.2.map D.i)) :=
  PE_wk (pe_ix ix_list ha hb hs) fun σ H Q ⟨s, q⟩ => ⟨s, fun x H1 e1 hx => ⟨s.mono e1, fun y H2 e2 hy => by
    obtain ⟨rfl, hld, vs, h1, h2, h3⟩ := (llR (d := d) X.K l T).st e2 hx
    have hkl : k < vs.length := by
      have := (List.getElem?_eq_some_iff.mp hk).1
      omega
    obtain ⟨u, hu⟩ : ∃ u, vs[k]? = some u := ⟨_, List.getElem?_eq_getElem hkl⟩
    obtain ⟨rfl, w1, ws, w2, w3⟩ := h3 k t u hk hu
    exact ⟨l, vs, _, _, rfl, hy, SqL.of h1, atI_nat hu, q _ H2 (e1.trans e2) ⟨rfl, w1, ws, w2, w3⟩⟩⟩⟩
end
end Cv

namespace Cv
open PySem PySem.Spec PyProof.Rows L2 RZ
section
variable {d : Option Addr} {X : Cx} {B : Hp} {ρ ρ' : Ro d} {a b c e iter elt : Expr} {es : List Expr} {R R' Ra Rb : Rp d} {Rs : List (Rp d)} {pos : Pos} {m n : Int} {st : Stmt} {rest body orelse : List Stmt} {Pre Mid : L2.St → Hp → Prop} {Po : Ends}
/-! ### lists of lists of data -/
abbrev LbT := List (Addr × List D)
def lbP (K : PySem.W.Frag) (d : Option Addr) (H : Hp) (t : Addr × List D) (u : V) : Prop := u = .ref t.1 ∧ some t.1 ≠ d ∧ ∃ ws, H t.1 = some (.lst ws) ∧ DRl K H t.2 ws
theorem lbP.ext {K : PySem.W.Frag} {H H' : Hp} {t : Addr × List D} {u : V} (e : Ext d H H') (h : lbP K d H t u) : lbP K d H' t u := by
  obtain ⟨h1, h2, ws, h4, h5⟩ := h
  exact ⟨h1, h2, ws, e.at h4 h2, h5.tk e.tk⟩
theorem lbP.put {K : PySem.W.Frag} {H : Hp} {t : Addr × List D} {u : V} {l : Addr} {xs ys : List V} (hl : H l = some (.lst xs)) (hne : t.1 ≠ l) (h : lbP K d H t u) : lbP K d (upd H l (.lst ys)) t u := by
  obtain ⟨h1, h2, ws, h4, h5⟩ := h
  exact ⟨h1, h2, ws, by rw [upd_ne hne]; exact h4, h5.tk (Tk.lst hl)⟩
def lbR (K : PySem.W.Frag) (a : Addr) (T : LbT) : Rp d := ⟨fun v H => v = .ref a ∧ some a ≠ d ∧ ∃ vs, H a = some (.lst vs) ∧ vs.length = T.length ∧ ∀ (j : Nat) t u, T[j]? = some t → vs[j]? = some u → lbP K d H t u,
  fun e ⟨h1, h2, vs, h3, h4, h5⟩ => ⟨h1, h2, vs, e.at h3 h2, h4, fun j t u ht hu => (h5 j t u ht hu).ext e⟩⟩
theorem ind_lb {K : PySem.W.Frag} {l a : Addr} {T : LbT} (hne : a ≠ l) (hT : ∀ t ∈ T, t.1 ≠ l) : Ind l (lbR (d := d) K a T) := fun v H xs ys hl ⟨h1, h2, vs, h3, h4, h5⟩ => ⟨h1, h2, vs, by rw [upd_ne hne]; exact h3, h4, fun j t u ht hu => (h5 j t u ht hu).put hl (hT t (List.mem_of_getElem? ht))⟩
/-- a new one: its rows told -/
def newLB (B : Hp) (K : PySem.W.Frag) (M : List (List D)) : Rp d := exR (fun z : Addr × LbT => B z.1 = none ∧ z.2.map (·.2) = M ∧ ∀ t ∈ z.2, B t.1 = none ∧ t.1 ≠ z.1) fun z => lbR K z.1 z.2
theorem x_ixLb {l : Addr} {T : LbT} {t : Addr × List D} {k : Nat} (ha : EX X B ρ a (lbR X.K l T)) (hb : EX X B ρ b (rI (k : Int))) (hk : T[k]? = some t) (hs : PlainIx b := by exact (fun _ _ => rfl)) : EX X B ρ (.Subscript a b pos) (own X.K t.1 t.2) :=
  PE_wk (pe_ix ix_list ha hb hs) fun σ H Q ⟨s, q⟩ => ⟨s, fun x H1 e1 hx => ⟨s.mono e1, fun y H2 e2 hy => by
    obtain ⟨rfl, hld, vs, h1, h2, h3⟩ := (lbR (d := d) X.K l T).st e2 hx
    have hkl : k < vs.length := by
      have := (List.getElem?_eq_some_iff.mp hk).1
      omega
    obtain ⟨u, hu⟩ : ∃ u, vs[k]? = some u := ⟨_, List.getElem?_eq_getElem hkl⟩
    obtain ⟨rfl, w1, ws, w2, w3⟩ := h3 k t u hk hu
    exact ⟨l, vs, _, _, rfl, hy, SqL.of h1, atI_nat hu, q _ H2 (e1.trans e2) ⟨rfl, w1, ws, w2, w3⟩⟩⟩⟩
/-- x[k] = a new list, x a list of lists -/
theorem bx_setLb (i : Nat) {x : Str} {p1 p2 p3 : Pos} {K : PySem.W.Frag} {la : Addr} {T : LbT} {ds : List D} {k : Nat} (hi : ρ[i]? = some (some (lbR K la T))) (hK : X.K = K) (he : ∀ B', EX X B' ρ e (newL B' K ds)) (hk : EX X B ρ b (rI (k : Int))) (hkl : k < T.length) (hB : B la = none) (hT : ∀ t ∈ T, t.1 ≠ la) (hb : IndBut la i ρ)
    (h : ∀ r, B r = none → r ≠ la → BX X rest (St B (ρ.set i (some (lbR K la (T.set k (r, ds)))))) Po)
    (hN : X.N[i]? = some x := by rfl) (hv : Vis X.env.scope x := by first | exact Or.inl rfl | exact Or.inr (Or.inl rfl) | exact Or.inr (Or.inr rfl)) (hd : (x == ("__debug__" : Str)) = false := by decide) (hcd : (x == ("__classdict__" : Str)) = false := by decide)
    (ha : ∀ v, assign (.Subscript (.Name x p1) b p2) X.env v = (do
      let ov ← holding [v] (eval (.Name x p1) X.env)
      let iv ← holding [v, ov] (eval b X.env)
      standAt p2
      holding [v, ov, iv] (setItem ov iv v)
      release [v, ov, iv] []) := by intro _; rfl)
    (hs : swapsWithSole [.Subscript (.Name x p1) b p2] e p3.line X.env = pure false := by rfl) (hw : swappedStores [.Subscript (.Name x p1) b p2] e X.env = pure none := by rfl) (h1 : (assignEach [.Subscript (.Name x p1) b p2] X.env).map (·.2) = [assign (.Subscript (.Name x p1) b p2) X.env] := by rfl) :
    BX X (.Assign [.Subscript (.Name x p1) b p2] e p3 :: rest) (St B ρ) Po := by
  subst hK
  refine bx_cons (Mid := fun σ H => ∃ r, (B r = none ∧ r ≠ la) ∧ St B (ρ.set i (some (lbR X.K la (T.set k (r, ds))))) σ H) ?_ (bx_ex fun r hr => h r hr.1 hr.2)
  have he' : PE X e (fun σ H Q => St B ρ σ H ∧ ∀ v H', Ext d H H' → (newL (d := d) H X.K ds).p v H' → Q v H') := ⟨fun pins s σ H Q I ⟨st, q⟩ => (he H).run pins s σ H Q I ⟨⟨Ext.refl H, st.dr, st.good⟩, q⟩⟩
  refine PS_wk (ps_asg he' (pg_sub (pe_var hN hv hd hcd) hk set_list ha) hs hw h1) fun E σ H ⟨s, q⟩ => ⟨s, fun y H1 e1 hy => ?_⟩
  obtain ⟨r, hrH, rfl, hrd, us, r1, r2⟩ := hy
  have s1 := s.mono e1
  obtain ⟨v, a1, rfl, hl, vs, a2, a3, a4⟩ := s1.good.get hi
  refine ⟨_, a1, s1, fun iv H2 e2 hiv => ?_⟩
  have s2 := s1.mono e2
  have g2 := e2.at a2 hl
  have hra : r ≠ la := fun z => by
    obtain ⟨v0, _, rfl, _, vs0, a20, _⟩ := s.good.get hi
    rw [← z, hrH] at a20
    cases a20
  have hrB : B r = none := by
    cases q' : B r with
    | none => rfl
    | some o =>
      have := s.ext.at q' hrd
      rw [hrH] at this; cases this
  refine ⟨la, vs, k, k, rfl, hiv, g2, by unfold ixN; rw [if_pos (by omega), if_pos (by omega)]; simp, ?_⟩
  refine q.nx σ _ ((e1.tk.trans e2.tk).trans (Tk.lst g2)) ⟨r, ⟨hrB, hra⟩, st_chg s2 hi hB hl g2 hb fun v hv => ?_⟩
  obtain ⟨rfl, _, vs', b1, b2, b3⟩ := hv
  rw [g2] at b1
  have ev : vs = vs' := by cases b1; rfl
  subst ev
  refine ⟨rfl, hl, _, upd_same, by simp [b2], fun j t u ht hu => ?_⟩
  by_cases hj : k = j
  · subst hj
    rw [List.getElem?_set_self hkl] at ht
    rw [List.getElem?_set_self (by omega)] at hu
    cases ht; cases hu
    exact ⟨rfl, hrd, us, by rw [upd_ne hra]; exact e2.at r1 hrd, (r2.tk e2.tk).tk (Tk.lst g2)⟩
  · rw [List.getElem?_set_ne hj] at ht hu
    exact (b3 j t u ht hu).put g2 (hT t (List.mem_of_getElem? ht))
def LcB (H1 : Hp) (K : PySem.W.Frag) (Dl : Addr) (d : Option Addr) (B : Hp) (g : Nat → List D) (i : Nat) (H : Hp) : Prop :=
  Ext d H1 H ∧ ∃ (vs : List V) (T : LbT), H Dl = some (.lst vs) ∧ vs.length = T.length ∧ T.length = i ∧ (∀ (j : Nat) t u, T[j]? = some t → vs[j]? = some u → lbP K d H t u ∧ t.2 = g j ∧ B t.1 = none ∧ t.1 ≠ Dl)
def tEltB (B : Hp) (K : PySem.W.Frag) (pr : Nat → Ro d) (S : Nat → Prop) (g : Nat → List D) : TE := fun σ H Q => ∃ z, S z ∧ St B (pr z) σ H ∧ ∀ v H', Ext d H H' → (newL (d := d) H K (g z)).p v H' → Q v H'
/-- [[..] for x in range(n)] -/
theorem x_lcRB {nn : Nat} (j : Nat) {x : Str} {scope : Scope} {tpos p p2 : Pos} (g : Nat → List D) (hg : Gl X "range") (hm : X.mg "range" = none) (hi : EX X B ρ e (rI (nn : Int))) (hn : nn < 2000) (hN : X.N.Nodup) (hok : BlkOk X.N X.env.scope scope [(x, j)])
    (hgn : ∀ (s : Shared) (H : Hp) (C : Addr) (cl : List (Str × Addr)) (fp : List Addr), PG (X.blk s H scope (compEnvC scope cl C X.env) fp) (.Name x tpos) (gName j))
    (hb : ∀ (s : Shared) (H : Hp) (C : Addr) (cl : List (Str × Addr)) (fp : List Addr) (i : Nat) (B' : Hp), i < nn → EX (X.blk s H scope (compEnvC scope cl C X.env) fp) B' (ρ.set j (some (rI (i : Int)))) elt (newL B' X.K (g i)))
    (hc : X.calm = true := by rfl) (he : starEach [e] X.env = [(false, eval e X.env)] := by rfl) (hs : ∀ x, foldedSetIterable (.Call (.Name "range" p) [e] [] p2) X.env x = pure x := by intro _; rfl) :
    EX X B ρ (.ListComp elt [⟨.Name x tpos, .Call (.Name "range" p) [e] [] p2, [], 0⟩] scope pos) (newLB B X.K ((List.range nn).map g)) := by
  refine PE_wk (pe_lc (own := [(x, j)]) (g := gName j) (tt := tYes) (te := tEltB B X.K (fun i => ρ.set j (some (rI (i : Int)))) (fun i => i < nn) g) hc hN (pi_range1 hg hm (a_cons hi a_nil he) he) hok hgn (fun _ _ _ _ _ => pts_nil) (fun s H C cl fp => ⟨fun pins s' σ H' Q I ⟨z, hz, st, q⟩ => (hb s H C cl fp z H' hz).run pins s' σ H' Q I ⟨⟨Ext.refl H', st.dr, st.good⟩, q⟩⟩) hs) fun σ H Q ⟨s, q⟩ => ⟨s, fun vs H1 e1 hv => ?_⟩
  obtain ⟨v, rfl, hv'⟩ := hv.one
  obtain rfl : v = .int (nn : Int) := hv'
  have s1 := s.mono e1
  refine ⟨nn, rfl, by omega, by omega, fun Dl hD => ?_⟩
  obtain ⟨hB, hDd⟩ := s1.fresh hD
  refine lc_range (lo := 0) (n := (nn : Int).toNat) (LcB H1 X.K Dl d B g) ⟨Ext.new hD, [], [], upd_same, rfl, rfl, fun j t u h => by cases h⟩ (fun i H' hlt L => ?_) (fun H' L => ?_)
  · refine ⟨wipe1 _ _ _, ?_⟩
    have hin : i < nn := by omega
    refine ⟨i, hin, ?_, fun v H2 e2 hv => ?_⟩
    · rw [Int.zero_add]
      exact st_wipe (s1.mono L.1) (R := rI (i : Int)) rfl
    · obtain ⟨a, ha, rfl, had, ws, q1, q2⟩ := hv
      obtain ⟨h0, vs, T, p1, p2, p3, p4⟩ := L
      have p1' := e2.at p1 hDd
      have haD : a ≠ Dl := fun z => by rw [z, p1] at ha; cases ha
      have hBa : B a = none := by
        cases eb : B a with
        | none => rfl
        | some o =>
          have := (s1.mono h0).ext.at eb had
          rw [ha] at this; cases this
      have hlen : vs.length < 2000 := by omega
      refine ⟨vs, p1', Nat.lt_of_lt_of_le hlen (by decide), (h0.trans e2).mut hD hDd, vs ++ [.ref a], T ++ [(a, g i)], upd_same, by simp [p2], by simp [p3], fun k t u ht hu => ?_⟩
      by_cases hk : k < T.length
      · rw [List.getElem?_append_left hk] at ht
        rw [List.getElem?_append_left (by omega)] at hu
        obtain ⟨r1, r2, r3, r4⟩ := p4 k t u ht hu
        exact ⟨(r1.ext e2).put p1' r4, r2, r3, r4⟩
      · have hk' : k = T.length := by
          have := (List.getElem?_eq_some_iff.mp ht).1
          simp at this; omega
        subst hk'
        rw [List.getElem?_append_right (Nat.le_refl _), Nat.sub_self] at ht
        rw [List.getElem?_append_right (by omega), p2, Nat.sub_self] at hu
        cases ht; cases hu
        refine ⟨⟨rfl, had, ws, by rw [upd_ne haD]; exact q1, q2.tk (Tk.lst p1')⟩, ?_, hBa, haD⟩
        show g i = g T.length
        rw [p3]
  · obtain ⟨h0, vs, T, p1, p2, p3, p4⟩ := L
    rw [Int.toNat_natCast] at p3
    refine q _ H' (e1.trans h0) ⟨(Dl, T), ⟨hB, ?_, fun t ht => ?_⟩, rfl, hDd, vs, p1, p2, fun k t u ht hu => (p4 k t u ht hu).1⟩
    · apply List.ext_getElem?
      intro k
      rw [List.getElem?_map, List.getElem?_map]
      by_cases hk : k < T.length
      · have ht : T[k]? = some T[k] := List.getElem?_eq_getElem hk
        have hu : vs[k]? = some (vs[k]'(by omega)) := List.getElem?_eq_getElem _
        have : T[k].2 = g k := (p4 k _ _ ht hu).2.1
        rw [ht, List.getElem?_range (by omega)]
        exact congrArg some this
      · rw [List.getElem?_eq_none (show List.length T ≤ k by omega), List.getElem?_eq_none (by rw [List.length_range]; omega)]; rfl
    · obtain ⟨k, hk⟩ := List.getElem?_of_mem ht
      have hkl : k < List.length T := (List.getElem?_eq_some_iff.mp hk).1
      exact (p4 k t _ hk (List.getElem?_eq_getElem (show k < vs.length by omega))).2.2
end
end Cv

namespace Cv
open PySem PySem.Spec PyProof.Rows L2 RZ
/-! ### an error that leaves a list comprehension -/
def cpE (M : Model) (A : Around) (E : Value → Shared → Prop) (use : Option (Value → Sem Unit)) (Q : Value → Shared → Prop) (acc : Value) (ce : Env) : Result → Shared → Prop := fun r s' => match r with
  | .ok f => compPost M A E use Q acc ce.locals (.ok f) s'
  | .error x => ∃ m, s'.heap.Ns ce.locals m ∧ ∀ h', Heap.SameBut ce.locals s'.heap h' → wpAny M A (PySem.passOn "comprehension.variables-let-go" x ce : Sem Value) (fun _ _ => False) E { s' with heap := h' }
theorem compr_err {M : Model} {A : Around} {E : Value → Shared → Prop} {s : Shared} {env : Env} {e : Expr} {scope : Scope} {pos : Pos} {newAcc first : Sem Value} {g : Comprehension} {gs : List Comprehension} {cl : List (Str × Addr)} {Q : Value → Shared → Prop}
    (hcl : clausesOf e = g :: gs) (hs : ∀ x, foldedSetIterable g.iter env x = pure x) (hclos : closureFor scope env = pure cl) (hkind : scope.kind = .function) (hnames : ∀ x ∈ scope.names, x.2 = .local → scope.names.lookup x.1 = some .local)
    (h : wpAny M A first (fun x s₁ => wpAny M A (pyIter x) (fun it s₂ => wpAny M A newAcc (fun acc s₃ => wpAny M A (newFunctionEnv scope env.globals cl [] env.qual none Value.none (some env))
      (fun cenv s₄ => codeAny M A (Code.compStart e 0 it acc { cenv with scope := relabel scope env }) (cpE M A E none Q acc { cenv with scope := relabel scope env }) s₄) E s₃) E s₂) E s₁) E s) :
    wpAny M A (comprehension e scope env pos newAcc false first none) Q E s := by
  unfold comprehension
  rw [hclos, hcl]
  refine wpAny_bind (wpAny_mono h (fun x s1 h1 => ?_) fun _ _ e => e)
  refine wpAny_bind (wpAny_standAt (wpAny_bind (wpAny_of_eq (hs x) ?_)))
  refine wpAny_bind (wpAny_holding (wpAny_mono h1 (fun it s2 h2 => ?_) fun _ _ e => e))
  refine wpAny_standIf (wpAny_bind (wpAny_mono h2 (fun acc s3 h3 => ?_) fun _ _ e => e))
  refine wpAny_bind (wpAny_pure (wpAny_bind (wpAny_mono h3 (fun cenv s4 h4 => ?_) fun _ _ e => e)))
  have hloc : ∀ y ∈ List.filter (fun (x : Str × NameKind) => match x with | (n, k) => (k == NameKind.local || k == NameKind.cell) && n != Str.ofString ".0") scope.names, y.2 = .local → ({ cenv with scope := relabel scope env } : Env).kindOf y.1 = some .local := fun y hy e =>
    lookup_relabel_local (hnames y (List.mem_filter.mp hy).1 e)
  refine wpAny_holding (wpAny_bind (wpAny_attempt (wpAny_holding (wpAny_run (codeAny_mono h4 fun r s5 h5 => ?_)))))
  cases r with
  | ok f =>
    obtain ⟨m, hn, hq⟩ := h5
    refine wpAny_bind (wpAny_holding (wpAny_comp_letGo hkind _ _ m (fun y hy e => hloc y (List.mem_reverse.mp hy) e) hn fun h' m' _ sb => wpAny_pure (hq h' sb)))
  | error x =>
    obtain ⟨m, hn, hq⟩ := h5
    refine wpAny_bind (wpAny_holding (wpAny_comp_letGo hkind _ _ m (fun y hy e => hloc y (List.mem_reverse.mp hy) e) hn fun h' m' _ sb => ?_))
    exact wpAny_mono (hq h' sb) (fun _ _ z => z.elim) fun _ _ e => e
theorem noteFrame_same {e : Value} {env env' : Env} (h : env'.frame = env.frame) : noteFrame e env' = noteFrame e env := by
  unfold noteFrame PySem.frameOf
  rw [h]
section
variable {X : Cx} {pins : List (Addr × Obj)} {σ : L2.St} {H : Hp} {sI s s' : Shared} {B : Heap} {W : L2.WX} {E : XK}
/-- what a call let out is in the air: the ground, and that it flies -/
theorem fly_of_call (I : L2.Inv X pins σ H s) {u : Value} (c : L2.CX X.prog X.w X.stack H s E u s') :
    ∃ (a : Addr) (B : Heap) (sI : Shared) (p' : List (Addr × Obj)) (σ' : L2.St) (H' : Hp) (cls : Value) (d : Option Addr), u = .ref a ∧ L2.Inv X p' σ' H' sI ∧ (∀ b o, sI.heap.get? b = some o → b ∉ frs X.stack → B.get? b = some o) ∧ sI.heap.UpToSlots s'.heap ∧
      HandSPX.FlyingZ B X.stack a (Zc cls d) s'.heap ∧ H' a = none ∧ s'.os = sI.os ∧ AllBare s'.gens ∧ E cls d H' := by
  have x := XE.of_call (W := fun cls d _ H' => E cls d H') I (fun _ _ _ z => z) c
  obtain ⟨a0, B0, H0, c0, d0, e0, fl0, _⟩ := c
  obtain ⟨a, B, sI, p', σ', H', cls, d, rfl, J, nb, up, sky, na, os, ag, w⟩ := x
  have e1 : a0 = a := by cases e0; rfl
  subst e1
  obtain ⟨_, _, _, oe0, vs0, T0, oT0, ts0, g1, _, g3, g4, _, _, g7, g8, g9⟩ := fl0
  refine ⟨a0, B, sI, p', σ', H', cls, d, rfl, J, nb, up, ?_, na, os, ag, w⟩
  rcases sky with ⟨_, _, _, oe, vs, y1, _, y3, y4⟩ | fl | ⟨_, _, _, oe, vs, T, oT, ts, y1, _, y3, y4, _, _, y7, y8, y9⟩
  · rw [g1] at y1; cases y1
    rw [g3] at y3; cases y3
    rw [g4] at y4; cases y4
  · exact fl
  · rw [g1] at y1; cases y1
    rw [g3] at y3; cases y3
    rw [g4] at y4; cases y4
    rw [g7] at y7; cases y7
    rw [g8] at y8; cases y8
    rw [g9] at y9; cases y9
end
/-- the context of a block from which errors leave -/
abbrev blkX (X : Cx) (s : Shared) (H : Hp) (scope : Scope) (cenv : Env) (fp : List Addr) (xe : Value → Shared → Prop) : Cx := { X.blk s H scope cenv fp with xe := xe }
section
variable {X : Cx} {pins : List (Addr × Obj)} {σ : L2.St} {H : Hp} {s : Shared} {s3 : Shared} {H3 : Hp} {scope : Scope} {ce : Env} {fp : List Addr} {xe : Value → Shared → Prop}
theorem Inv.toX (I : L2.Inv (X.blk s3 H3 scope ce fp) pins σ H s) : L2.Inv (blkX X s3 H3 scope ce fp xe) pins σ H s := by
  obtain ⟨⟨a1, a2, a3, a4, a5, a6, a7, a8, a9, a10, a11, a12, a13, a14, a15, a16, a17, a18⟩, b1, b2, b3, b4, b5, b6, b7, b8, b9, b10⟩ := I
  exact ⟨⟨a1, a2, a3, a4, a5, a6, a7, a8, a9, a10, a11, a12, a13, a14, a15, a16, a17, a18⟩, b1, b2, b3, b4, b5, b6, b7, b8, b9, b10⟩
theorem Inv.ofX (I : L2.Inv (blkX X s3 H3 scope ce fp xe) pins σ H s) : L2.Inv (X.blk s3 H3 scope ce fp) pins σ H s := by
  obtain ⟨⟨a1, a2, a3, a4, a5, a6, a7, a8, a9, a10, a11, a12, a13, a14, a15, a16, a17, a18⟩, b1, b2, b3, b4, b5, b6, b7, b8, b9, b10⟩ := I
  exact ⟨⟨a1, a2, a3, a4, a5, a6, a7, a8, a9, a10, a11, a12, a13, a14, a15, a16, a17, a18⟩, b1, b2, b3, b4, b5, b6, b7, b8, b9, b10⟩
end
section
variable {X : Cx} {pins : List (Addr × Obj)} {σ : L2.St} {H : Hp} {s : Shared} {s3 : Shared} {H3 : Hp} {scope : Scope} {ce : Env} {fp : List Addr} {xe : Value → Shared → Prop}
theorem funFrames_at {base h h' : Heap} : ∀ {l : List Env}, h.FunFrames base l → (∀ L ∈ frs l, h'.get? L = h.get? L) → h'.FunFrames base l
  | [], _, _ => trivial
  | env :: l, h, hn => by
    obtain ⟨hk, ⟨L, o, hf, hb, ho, hd⟩, hr⟩ := h
    exact ⟨hk, ⟨L, o, hf, hb, (hn L (List.mem_filterMap.mpr ⟨env, List.mem_cons_self, hf⟩)).trans ho, hd⟩, funFrames_at hr fun b hb => by
      obtain ⟨e, he, q⟩ := List.mem_filterMap.mp hb
      exact hn b (List.mem_filterMap.mpr ⟨e, List.mem_cons_of_mem _ he, q⟩)⟩
theorem ns_slots {h h' : Heap} {L : Addr} {m : Str → Option Value} (up : h.UpToSlots h') (hn : h.Ns L m) : h'.Ns L m := by
  obtain ⟨o, es, ep, ho, hd, r⟩ := hn
  obtain ⟨sl, q⟩ := up L o ho fun vs z => by rw [hd] at z; cases z
  exact ⟨_, es, ep, q, hd, r⟩
theorem comp_err_leave {E : XK} {Q : Value → Shared → Prop} {D : Addr} {p5 : List (Addr × Obj)} {σ5 : L2.St} {H5 : Hp} {s5 s' : Shared} {u : Value} (tk : L2.Takes X (fun cls d _ H => E cls d H)) (hs : X.stack = X.env :: X.outer) (hf : X.env.frame = some X.env.locals) (I3 : L2.Inv X pins σ H3 s3)
    (hfp : ∀ b ∈ fp, (b ∈ X.ex ∨ X.s_0.heap.objs.size ≤ b) ∧ b ≠ X.env.locals ∧ (∀ x c, X.env.cells.lookup x = some c → c ≠ b) ∧ ∀ p ∈ X.pn ++ pins, p.1 ≠ b) (cL : ce.locals = s3.heap.objs.size) (cF : ce.frame = X.env.frame)
    (I : L2.Inv (X.blk s3 H3 scope ce fp) p5 σ5 H5 s5) (c : L2.CX X.prog X.w X.stack H5 s5 E u s') :
    notedBy (model X.prog X.w) X.A ce (fun e s'' => cpE (model X.prog X.w) X.A X.xe none Q (.ref D) ce (.error e) s'') u s' := by
  obtain ⟨a, B, sI, p6, σ6, HI, cls, d, rfl, IB, nb, up, fl, na, os, ag, hE⟩ := fly_of_call I c
  have hfr : X.A.frames = some (X.env :: X.outer) := by rw [I3.ok.frames, hs]
  unfold notedBy
  rw [noteFrame_same cF]
  rw [show X.stack = X.env :: X.outer from hs] at fl
  refine HandSPX.looks_onZ Zc.steady hfr hf fl fun h1 hh up1 => ?_
  obtain ⟨m, hn, _⟩ := IB.loc
  have hn : sI.heap.Ns ce.locals m := hn
  have hn1 : h1.Ns ce.locals m := ns_slots (up.trans up1) hn
  refine ⟨m, hn1, fun h2 sb => ?_⟩
  have nC : HI ce.locals = none := IB.free
  have cne : ∀ b o, s3.heap.get? b = some o → b ≠ ce.locals := fun b o e => by rw [cL]; exact Nat.ne_of_lt (Heap.lt_size e)
  -- the frames are not the block's dict
  have nfr : ce.locals ∉ frs X.stack := fun hm => by
    have h1 := I3.stack
    obtain ⟨_, o, ho, _⟩ := h1.mem hm
    exact cne _ o ho rfl
  -- the ground without the block's dict
  obtain ⟨k1, k2, k3, oe, vs, T, oT, ts, t1, t2, t3, t4, t5, t6, t7, t8, t9⟩ := hh
  have nrec : ∀ b o vs, h1.get? b = some o → o.data = .fields vs → b ≠ ce.locals := fun b o vs e hd z => by
    obtain ⟨o', es, ep, ho, hd', _⟩ := hn1
    rw [← z, e] at ho
    cases ho
    rw [hd] at hd'; cases hd'
  have B'n : (PySem.W.hideAll B [ce.locals]).get? ce.locals = none := PySem.W.hideAll_none _ (by simp)
  have B'g : ∀ b o, (PySem.W.hideAll B [ce.locals]).get? b = some o → B.get? b = some o ∧ b ≠ ce.locals := fun b o e => ⟨PySem.W.of_hideAll _ e, fun z => by rw [z, B'n] at e; cases e⟩
  have B'o : ∀ b o, b ≠ ce.locals → B.get? b = some o → (PySem.W.hideAll B [ce.locals]).get? b = some o := fun b o hb e => PySem.W.hideAll_get _ e (by simpa using hb)
  have B'0 : ∀ b, B.get? b = none → (PySem.W.hideAll B [ce.locals]).get? b = none := fun b e => by
    cases q : (PySem.W.hideAll B [ce.locals]).get? b with
    | none => rfl
    | some o =>
      have := (B'g b o q).1
      rw [e] at this; cases this
  have hh2 : HandSPX.HeldZ (PySem.W.hideAll B [ce.locals]) (X.env :: X.outer) a (Zc cls d) X.env.locals h2 := by
    refine ⟨fun b o e => ?_, B'0 _ k2, ?_, oe, vs, T, oT, ts, ?_, t2, t3, t4, B'0 _ t5, t6, ?_, t8, t9⟩
    · obtain ⟨e1, hb⟩ := B'g b o e
      exact (sb.2 b hb).trans (k1 b o e1)
    · have f1 : h1.FunFrames (PySem.W.hideAll B [ce.locals]) (X.env :: X.outer) := funFrames_none k3 fun b hb => by
        obtain ⟨e, o, ho, hd⟩ := k3.mem hb
        exact B'0 b e
      exact funFrames_at f1 fun b hb => sb.2 b fun z => nfr (by rw [hs, ← z]; exact hb)
    · exact (sb.2 a (nrec a oe vs t1 t3)).trans t1
    · exact (sb.2 T (nrec T oT ts t7 t8)).trans t7
  -- the state without it
  have J : L2.Inv X pins σ HI { sI with heap := PySem.W.hideAll sI.heap [ce.locals] } := by
    have kp : ∀ b o, b ≠ ce.locals → sI.heap.get? b = some o → (PySem.W.hideAll sI.heap [ce.locals]).get? b = some o := fun b o hb e => PySem.W.hideAll_get _ e (by simpa using hb)
    have u := IB.base
    refine I3.call' (ch := fp) IB.os ⟨fun b o e n hb hx => ?_, fun b o e n hb hx => ?_, fun b o e n hx => u.free b o e n hx, fun b o e hx => ?_, u.tups, u.frzs, u.tbls⟩ (fun b o e => ?_) IB.bare hfp
    · exact kp b o (cne b o e) (u.keep b o e n hb hx)
    · obtain ⟨sl, q⟩ := u.slot b o e n hb hx
      exact ⟨sl, kp b _ (cne b o e) q⟩
    · obtain ⟨o', q⟩ := u.there b o e hx
      exact ⟨o', kp b _ (cne b o e) q⟩
    · refine (IB.hok b o e).stay (fun c v hc q => kp c v (fun z => ?_) q) (fun _ q => q) fun _ _ q => q
      rcases hc with hc | hc
      · rw [← hc, z, nC] at e; cases e
      · rw [z, nC] at hc; cases hc
  have up2 : Heap.UpToSlots (PySem.W.hideAll sI.heap [ce.locals]) h2 := fun b o e hd => by
    have e' := PySem.W.of_hideAll _ e
    have hb : b ≠ ce.locals := fun z => by
      rw [z, PySem.W.hideAll_none _ (by simp)] at e; cases e
    obtain ⟨sl, q⟩ := (up.trans up1) b o e' hd
    exact ⟨sl, (sb.2 b hb).trans q⟩
  unfold PySem.passOn
  have g1 : h2.get? a = some oe := (sb.2 a (nrec a oe vs t1 t3)).trans t1
  refine wpAny_bind (wpAny_field g1 t3 t4 ?_)
  show wpAny _ _ (if (Value.ref T == Value.none) = true then _ else _) _ _ _
  rw [if_neg (by simp)]
  rw [cF, hf]
  refine wpAny_bind (HandSPX.setFlight_onZ hh2 fun h3 hh3 up3 => wpAny_throw ?_)
  refine tk _ _ ⟨a, PySem.W.hideAll B [ce.locals], _, pins, σ, HI, cls, d, rfl, J, fun b o e hb => ?_, up2.trans up3, .inr (.inr (by rw [hs]; exact hh3)), na, os, ag, hE⟩
  have e' := PySem.W.of_hideAll _ e
  have hb' : b ≠ ce.locals := fun z => by
    rw [z, PySem.W.hideAll_none _ (by simp)] at e; cases e
  exact B'o b o hb' (nb b o e' hb)
/-- [elt for target in iter], elt may call what raises -/
theorem pe_lcE {EK : XK} {elt tg iter : Expr} {scope : Scope} {own : List (Str × Nat)} {pos : Pos} {wi : TI} {g : TG} {te : TE} (tk : L2.Takes X (fun cls d _ H => EK cls d H)) (hst : X.stack = X.env :: X.outer) (hfr : X.env.frame = some X.env.locals) (hc : X.calm = true) (hN : X.N.Nodup) (hi : PI X tg iter wi) (ok : BlkOk X.N X.env.scope scope own)
    (hg : ∀ (s : Shared) (H : Hp) (C : Addr) (cl : List (Str × Addr)) (fp : List Addr), PG (X.blk s H scope (compEnvC scope cl C X.env) fp) tg g)
    (he : ∀ (s : Shared) (H : Hp) (C : Addr) (cl : List (Str × Addr)) (fp : List Addr) (xe : Value → Shared → Prop), Passes (L2.CX X.prog X.w) (blkX X s H scope (compEnvC scope cl C X.env) fp xe) EK → PE (blkX X s H scope (compEnvC scope cl C X.env) fp xe) elt te)
    (hs : ∀ x, foldedSetIterable iter X.env x = pure x := by intro _; rfl) :
    PE X (.ListComp elt [⟨tg, iter, [], 0⟩] scope pos) (tLc wi g tYes te (own.map (·.2))) := by
  refine ⟨fun pins s σ H Q I0 h => ?_⟩
  rw [eval_ListComp]
  have cells : ∀ y ∈ scope.names, y.2 = .free → ∃ c, X.env.cells.lookup y.1 = some c := fun y hy e => (ok.free y hy e).elim (fun k => I0.ok.has _ (.inl k)) fun k => I0.ok.has _ (.inr k)
  have names : ∀ y ∈ scope.names, y.2 = NameKind.local → scope.names.lookup y.1 = some .local := fun y hy e => (ok.uniq y hy).trans (by rw [e])
  refine compr_err rfl hs (closure_ok cells) ok.kind names (thn (hi.run pins s σ H _ I0 h) fun _ s1 h1 => thn h1 fun _ s2 h2 => ?_)
  obtain ⟨it, fp, tn, J, H2, rfl, I2, T, st2, f2, q⟩ := h2
  refine wpAny_newObj_type (newEnv_comp ?_) (Nat.zero_le _)
  -- D the new list, C the block's dict
  have nD : H2 s2.heap.objs.size = none := I2.hok.fresh (Nat.le_refl _)
  obtain ⟨W, ⟨m0, w0⟩, turn⟩ := q _ nD
  have I3 : L2.Inv X pins σ (upd H2 s2.heap.objs.size (.lst [])) { s2 with heap := s2.heap.push { cls := .type "list", data := .seq ([] : List Value).toArray } } :=
    I2.laid (t' := s2.toks) (fun _ _ e => Heap.get?_push_of_some _ e) (Nat.le_refl _) ⟨Nat.zero_le _, [], 0, .nil, Heap.get?_push_size _ rfl⟩
  have small : ∀ b ∈ fp, b < s2.heap.objs.size := fun b hb => let ⟨_, e, _⟩ := T.obj _ _ st2 b hb; Heap.lt_size e
  generalize hE : s2.heap.objs.size = D at *
  generalize hS : ({ s2 with heap := s2.heap.push { cls := .type "list", data := .seq ([] : List Value).toArray } } : Shared) = s3 at I3 ⊢
  have hp3 : s3.heap = s2.heap.push { cls := .type "list", data := .seq ([] : List Value).toArray } := by rw [← hS]
  have st3 : tn 0 s3.heap := T.keep _ _ _ st2 fun b _ o e => by rw [hp3]; exact Heap.get?_push_of_some _ e
  have f3 : ∀ b ∈ fp, FpOk X pins (upd H2 D (.lst [])) b ∧ b < s3.heap.objs.size := fun b hb =>
    ⟨⟨by rw [upd_ne (Nat.ne_of_lt (small b hb))]; exact (f2 b hb).1, (f2 b hb).2⟩, by rw [hp3, Heap.size_push]; exact Nat.lt_succ_of_lt (by rw [hE]; exact small b hb)⟩
  have fS : ∀ b ∈ fp, (b ∈ X.ex ∨ X.s_0.heap.objs.size ≤ b) ∧ b ≠ X.env.locals ∧ (∀ x c, X.env.cells.lookup x = some c → c ≠ b) ∧ ∀ p ∈ X.pn ++ pins, p.1 ≠ b := fun b hb => let z := (f3 b hb).1.2; ⟨z.2.2.1, z.1, z.2.2.2.1, z.2.2.2.2⟩
  have hcn : ∃ ce : Env, ce = compEnvC scope (cellsFrom (s3.heap.objs.size + 1) scope.names (cloFrom X.env.cells scope.names [])) s3.heap.objs.size X.env := ⟨_, rfl⟩
  obtain ⟨ce, hce⟩ := hcn
  have I4 := block_start I3 ok hN f3
  have pg := hg s3 (upd H2 D (.lst [])) s3.heap.objs.size (cellsFrom (s3.heap.objs.size + 1) scope.names (cloFrom X.env.cells scope.names [])) fp
  have pe := he s3 (upd H2 D (.lst [])) s3.heap.objs.size (cellsFrom (s3.heap.objs.size + 1) scope.names (cloFrom X.env.cells scope.names [])) fp
  rw [← hce] at I4 pg pe
  have cL : ce.locals = s3.heap.objs.size := by rw [hce]; rfl
  have cF : ce.frame = X.env.frame := by rw [hce]; rfl
  suffices goal : codeAny (model X.prog X.w) X.A (.compStart (.ListComp elt [⟨tg, iter, [], 0⟩] scope pos) 0 (.ref it) (.ref D) ce) (cpE (model X.prog X.w) X.A X.xe none (EP X pins σ Q) (.ref D) ce) { s3 with heap := pushCells (s3.heap.push { cls := .type "dict", data := .dict #[] }) scope.names } by
    rw [hce] at goal; exact goal
  have none3 : ∀ b ∈ fp, (upd H2 D (.lst [])) b = none := fun b hb => (f3 b hb).1.1
  generalize hS4 : ({ s3 with heap := pushCells (s3.heap.push { cls := .type "dict", data := .dict #[] }) scope.names } : Shared) = s4 at I4 ⊢
  generalize upd H2 D (.lst []) = H3 at *
  have st4 : tn 0 s4.heap := T.keep _ _ _ st3 fun b _ o e => by rw [← hS4]; exact pushCells_keeps _ _ _ _ (Heap.get?_push_of_some _ e)
  have fpB : ∀ (σ' : L2.St) (H' : Hp) (s' : Shared), L2.Inv (X.blk s3 H3 scope ce fp) [] σ' H' s' → (∀ b ∈ fp, H' b = none) → ∀ b ∈ fp, FpOk (X.blk s3 H3 scope ce fp) [] H' b := fun _ _ _ I' nb b hb =>
    ⟨nb b hb, (I'.ok.exf b hb).1, I'.ok.exfs b hb, .inl hb, (I'.ok.exf b hb).2, fun p hp => absurd hp (by show p ∉ ([] : List (Addr × Obj)) ++ []; simp)⟩
  suffices loop : codeAny (model X.prog X.w) X.A (.compLoop (.ListComp elt [⟨tg, iter, [], 0⟩] scope pos) 0 (.ref it) (.ref D) ce) (cpE (model X.prog X.w) X.A X.xe none (EP X pins σ Q) (.ref D) ce) s4 from codeAny_compStart_list loop (T.self X.A 0 _ _ _ st4 loop)
  refine compLoop_any (fun n s' => ∃ i H', L2.Inv (X.blk s3 H3 scope ce fp) [] (wipe σ (own.map (·.2))) H' s' ∧ tn i s'.heap ∧ (∀ b ∈ fp, H' b = none) ∧ W i n H') ?_ m0 ⟨0, H3, I4, st4, none3, w0⟩
  rintro n s5 ⟨i, H5, I5, st5, n5, w5⟩
  rcases turn i n H5 w5 with ⟨stop, fin⟩ | ⟨go, Nx, less, step⟩
  · refine thnF (T.done (X.blk s3 H3 scope ce fp) rfl rfl rfl hc i [] s5 _ H5 (fun _ _ => False) I5 (fpB _ _ _ I5 n5) st5 stop) fun r s6 ⟨hr, I6⟩ => ?_
    subst hr
    have I7 : L2.Inv X pins σ H5 s6 := I3.call' (ch := fp) I6.os I6.base I6.hok I6.bare fS
    obtain ⟨m, hn, _⟩ := id I6.loc
    have hn : s6.heap.Ns ce.locals m := hn
    have nC : H5 ce.locals = none := I6.free
    obtain ⟨z0, z1, z2, z3, z4, z5⟩ := I3.fpOk (b := ce.locals) (Nat.le_of_eq cL.symm) nC
    exact ⟨m, hn, fun h'' sb => ⟨.ref D, H5, I7.turned (t' := s6.toks) (fun b o hb e => (sb.2 b hb).trans e) z0 z1 z3 z4 z5, rfl, fin⟩⟩
  · refine thnF (T.item (X.blk s3 H3 scope ce fp) rfl rfl rfl hc i [] s5 _ H5 (fun _ _ => False) I5 (fpB _ _ _ I5 n5) st5 go) fun r s6 ⟨u, hr, h6⟩ => ?_
    subst hr
    refine thnF h6 fun _ s7 ⟨x, H7, I7, r7, y7, st7, n7⟩ => ?_
    refine thnF (pg.run _ s7 _ H7 x u _ (I7.pinned (fpB _ _ _ I7 n7) (T.obj _ _ st7)) r7 (step x H7 y7)) fun _ s8 ⟨σ8, H8, I8, hw8, q8⟩ => ?_
    refine wpAny_tests_nil ?_
    have q8 : te σ8 H8 _ := q8
    show wpAny _ _ (eval elt ce) _ _ s8
    refine wpAny_mono ((pe (notedBy (model X.prog X.w) X.A ce fun e s' => cpE (model X.prog X.w) X.A X.xe none (EP X pins σ Q) (.ref D) ce (.error e) s') (fun p5 σ5 H5' s5' e s' I5' c => comp_err_leave tk hst hfr I3 fS cL cF (Inv.ofX I5') c)).run _ s8 σ8 H8 _ (Inv.toX I8) q8) (fun z s9 h9 => ?_) (fun _ _ e => e)
    obtain ⟨yv, H9, I9, r9, acc, hD9, hz9, nx⟩ := h9
    refine app_ok (X := X.blk s3 H3 scope ce fp) (Inv.ofX I9) hD9 hz9 r9 fun s10 I10 => ?_
    obtain ⟨m', hm, w'⟩ := less _ nx
    have stay : ∀ b ∈ fp, ∀ o, s7.heap.get? b = some o → s10.heap.get? b = some o ∧ _ = none := fun b hb o e =>
      let z := I10.pin (b, o) (List.mem_append_right _ (List.mem_append_right _ (mem_pinsAt hb e)))
      ⟨z.1, z.2.1⟩
    refine ⟨m', hm, i + 1, _, (I10.unpinned (pins := [])).weak (by rw [← hw8, wipe_length]) (fun j v e => ?_), T.keep _ _ _ st7 fun b hb o e => (stay b hb o e).1, fun b hb => ?_, w'⟩
    · rw [← hw8] at e
      exact (wipe_some e).1
    · obtain ⟨o, e, _⟩ := T.obj _ _ st7 b hb
      exact (stay b hb o e).2
end
end Cv

namespace Cv
open PySem PySem.Spec PyProof.Rows L2 RZ
section
variable {d : Option Addr} {X : Cx} {B : Hp} {ρ ρ' : Ro d} {a b c e e2 iter elt : Expr} {es : List Expr} {R R' Ra Rb : Rp d} {Rs : List (Rp d)} {pos : Pos} {m n : Int} {st : Stmt} {rest body orelse : List Stmt} {Pre Mid : L2.St → Hp → Prop} {Po : Ends}
/-- [elt for x in xs], xs a list at l; elt may raise -/
theorem x_lcLX {EK : XK} {src : List D} {l : Addr} (j : Nat) {x : Str} {scope : Scope} {tpos : Pos} (P : Nat → D → Prop) (tk : L2.Takes X (fun cls d _ H => EK cls d H)) (hi : EX X B ρ iter (lstA X.K l src)) (hn : src.length < 2000) (hN : X.N.Nodup) (hok : BlkOk X.N X.env.scope scope [(x, j)])
    (hgn : ∀ (s : Shared) (H : Hp) (C : Addr) (cl : List (Str × Addr)) (fp : List Addr), PG (X.blk s H scope (compEnvC scope cl C X.env) fp) (.Name x tpos) (gName j))
    (hb : ∀ (s : Shared) (H : Hp) (C : Addr) (cl : List (Str × Addr)) (fp : List Addr) (xe : Value → Shared → Prop), Passes (L2.CX X.prog X.w) (blkX X s H scope (compEnvC scope cl C X.env) fp xe) EK → ∀ (i : Nat) (w : D), src[i]? = some w → EX (blkX X s H scope (compEnvC scope cl C X.env) fp xe) B (ρ.set j (some (dat X.K w))) elt (dE X.K (P i)))
    (hst : X.stack = X.env :: X.outer := by rfl) (hfr : X.env.frame = some X.env.locals := by rfl) (hc : X.calm = true := by rfl) (hs : ∀ x, foldedSetIterable iter X.env x = pure x := by intro _; rfl) :
    EX X B ρ (.ListComp elt [⟨.Name x tpos, iter, [], 0⟩] scope pos) (newE B X.K fun ds => ds.length = src.length ∧ ∀ k w, ds[k]? = some w → P k w) := by
  refine PE_wk (pe_lcE (own := [(x, j)]) (g := gName j) (te := tElt (Z := Nat × D) B X.K (fun z => ρ.set j (some (dat X.K z.2))) (fun z => src[z.1]? = some z.2) (fun z => P z.1)) tk hst hfr hc hN (pi_list hi) hok hgn (fun s H C cl fp xe hx => elt_of fun z hz => hb s H C cl fp xe hx z.1 z.2 hz) hs) fun σ H Q ⟨s, q⟩ => ⟨s, fun v H1 e1 hv => ?_⟩
  obtain ⟨rfl, hld, us, g1, g2⟩ := hv
  have s1 := s.mono e1
  refine ⟨l, rfl, ⟨us, g1.sq⟩, fun Dl hD => ?_⟩
  obtain ⟨hB, hDd⟩ := s1.fresh hD
  refine lc_list (K := X.K) (a := l) (xs := us) (Lc H1 X.K Dl d P) ⟨Ext.new hD, [], [], upd_same, DRl.nil, rfl, fun k w h => by cases h⟩ (fun i H' _ L => (g1.ext L.1).sq) (fun i y H' hy L => ?_) (fun H' L => ?_)
  · obtain ⟨w, hw, hr⟩ := g2.getV hy
    refine ⟨wipe1 _ _ _, ?_⟩
    exact ⟨(i, w), hw, st_wipe (s1.mono L.1) (R := dat X.K w) (hr.tk L.1.tk), fun y H2 e2 hy => lc_step hD hDd L e2 hy (Nat.lt_trans (List.getElem?_eq_some_iff.mp hw).1 hn)⟩
  · obtain ⟨h0, vs, ds, h1, h2, h3, h4⟩ := L
    exact q _ H' (e1.trans h0) ⟨ds, ⟨by rw [h3, g2.1], h4⟩, Dl, hB, rfl, hDd, vs, h1, h2⟩
/-- a call that may raise -/
theorem x_callE {α : Type} {As : α → List (Rp d)} {Ok Bad : α → Prop} {Rz : α → Rp d} {cv : Value} {x : Str} {p : Pos} {f : Addr} {fd : FuncData} {ps : List Str} {k : Nat} {CX : CXT} {E : XK} (F : FnOk X.prog X.w X.K X.mg X.base CX k f fd ps (spE d As Ok Rz Bad cv)) (hr : Room k X.A) (hg : Gl X x) (hm : X.mg x = some (.ref f)) (hk : PySem.W.keepIn X.K (.ref f) = true) (hb : Binds X.K fd ps []) (hx : Passes CX X E)
    (z : α) (ha : AX X B ρ (e :: es) (As z)) (ob : Ok z ∨ Bad z) (hR : Ok z → ∀ v H, (Rz z).p v H → R.p v H) (hE : Bad z → ∀ H', Ext d B H' → E cv none H')
    (hdb : (x == ("__debug__" : Str)) = false := by decide) (he : starEach (e :: es) X.env = (false, eval e X.env) :: starEach es X.env := by rfl) (hpl : (backTo pos (starEach es X.env)).any (·.1) = false := by rfl) : EX X B ρ (.Call (.Name x p) (e :: es) [] pos) R :=
  PE_wk (pe_call (dvs := []) (E := E) F hr hg hm hk hb .nil hx ha (hdb := hdb) (he := he) (hpl := hpl)) fun σ H Q ⟨s, q⟩ => ⟨s, fun vs H1 e1 hvs => by
    show spE d As Ok Rz Bad cv (vs ++ []) H1 Q E
    rw [List.append_nil]
    exact ⟨z, hvs, (s.mono e1).dr, fun o v H' e2 hv => q v H' (e1.trans e2) (hR o v H' hv), fun o H' e2 => hE o H' ((s.mono e1).ext.trans e2), ob⟩⟩
/-- an __init__ that may raise -/
def spIE {α : Type} (d : Option Addr) (C : Addr) (As : α → List (Rp d)) (F : α → List (Str × Rp d)) (Ok Bad : α → Prop) (c : Value) : Sp := fun vs H Q E => ∃ (z : α) (x dx : Addr) (us : List V), vs = .ref x :: us ∧ H x = some (.ins C dx []) ∧ RsH (As z) us (del H x) ∧ (∀ a, d = some a → Drw H a) ∧
  (Ok z → ∀ H', Ext d (del H x) H' → (insA C x (F z)).p (.ref x) H' → Q .non H') ∧ (Bad z → ∀ H', Ext d (del H x) H' → E c none H') ∧ (Ok z ∨ Bad z)
def tMakeS (C : Addr) (sp : Sp) (E : L2.St → XK) (t : TA) : TE := fun σ H Q => t σ H fun vs H1 => ∀ x dx, H1 x = none → H1 dx = none → dx ≠ x → sp (.ref x :: vs) (upd (upd H1 dx (.own x)) x (.ins C dx [])) (fun v H2 => v = .non ∧ Q (.ref x) H2) (E σ)
theorem pe_makeS {CX : CXT} {k : Nat} {f C : Addr} {fd : FuncData} {ps : List Str} {sp : Sp} {E : L2.St → XK} {x : Str} {p : Pos} {t : TA} (M : Mk X.K C f) (F : FnOk X.prog X.w X.K X.mg X.base CX k f fd ps sp) (hr : Room (k + 1) X.A) (hg : Gl X x) (hm : X.mg x = some (.ref C)) (hb : Binds X.K fd ps []) (hx : ∀ σ, PassesAt CX X σ (E σ))
    (ha : PA X (e :: es) t) (hdb : (x == ("__debug__" : Str)) = false := by decide) (he : starEach (e :: es) X.env = (false, eval e X.env) :: starEach es X.env := by rfl) (hpl : (backTo pos (starEach es X.env)).any (·.1) = false := by rfl) :
    PE X (.Call (.Name x p) (e :: es) [] pos) (tMakeS C sp E t) := by
  refine ⟨fun pins s σ H Q I h => wpAny_Call_Name_kw (ld_glob I hg hm (PySem.W.callWith_K (h₀ := X.base) I.ok.mod.kin M.kp (thn (ha.run pos pins s σ H _ I h) fun us s1 ⟨vs, H1, I1, r, q⟩ => ⟨I1.kIn, ?_⟩) he hpl) hdb)⟩
  have h2 := q (s1.heap.objs.size + 1) s1.heap.objs.size (I1.hok.fresh (Nat.le_succ _)) (I1.hok.fresh (Nat.le_refl _)) (Nat.ne_of_lt (Nat.lt_succ_self _))
  have J := Inv.made (C := C) I1
  have rr : Vals (V.ref (s1.heap.objs.size + 1) :: vs) (Value.ref (s1.heap.objs.size + 1) :: us) := .cons rfl r
  have len : (Value.ref (s1.heap.objs.size + 1) :: us).length = ps.length := rr.length.symm.trans (F.len _ _ _ _ h2)
  have bb := hb _ (Value.ref (s1.heap.objs.size + 1) :: us) J.kIn (by rw [List.append_nil]; exact len)
  rw [List.append_nil] at bb
  show wpAny _ _ (call (.ref C) us) _ _ s1
  refine wpAny_call (make_map (f := f) I1.kIn M.makes M.init (beq_iff_eq.mp M.fn) (codeAny_mono (F.run _ X.stack _ _ ⟨Value.ref (s1.heap.objs.size + 1) :: us, []⟩ (Value.ref (s1.heap.objs.size + 1) :: us) _ _ (E σ) (hr.make C us []) (J.env0.make C us []) bb rr h2) fun r s' w => ?_))
  match r, w with
  | .error er, w => exact hx σ pins _ _ er s' J w
  | .ok (.ret u), w =>
    obtain ⟨v, H', K', rv, rfl, q3⟩ := J.after w
    exact ⟨rv, ⟨V.ref (s1.heap.objs.size + 1), H', K', rfl, q3⟩⟩
  | .ok .next, w => exact w.elim
  | .ok .brk, w => exact w.elim
  | .ok .cont, w => exact w.elim
/-- raise C(e) -/
theorem bx_raiseF {C : Addr} {x : Str} {p pos2 : Pos} {E : XK} {W : L2.WX} (T : ErrTxt X.K X.mg C x) (tk : L2.Takes X W) (hW : ∀ σ H, E (.ref C) none H → W (.ref C) none σ H) (he : EX X B ρ e R) (hE : ∀ H1, Ext d B H1 → E (.ref C) none H1)
    (hs : starEach [e] X.env = (false, eval e X.env) :: starEach [] X.env := by rfl) (hc : X.calm = true := by rfl) (hg : Gl X x := by rfl) (hd : (x == ("__debug__" : Str)) = false := by decide) :
    BX X (.Raise (some (.Call (.Name x p) [e] [] pos)) none pos2 :: rest) (St B ρ) Po :=
  bx_cons (Mid := fun _ _ => False) (PS_wk (L2.ps_raise hc tk (SkE.pmk_own1 PySem.F.excBase_ValueError T.exc T.gC T.kC (raises_own T.exB T.tyC) hg he hs hd)) fun D σ H ⟨s, _⟩ => ⟨s, fun v H1 e1 _ => hW σ H1 (hE H1 (s.ext.trans e1))⟩) bx_false
theorem str_app (a b : Str) : (a ++ b).length = a.length + b.length := by
  show (a.cps ++ b.cps).size = _
  rw [Array.size_append]; rfl
theorem int_text_small : ∀ k : Fin 60, (Str.ofString (toString (((k : Nat) : Int) - 20))).length ≤ 20 := by decide +kernel
theorem int_text_le {n : Int} (h : -20 ≤ n ∧ n < 40) : (Str.ofString (toString n)).length ≤ 20 := by
  have := int_text_small ⟨(n + 20).toNat, by omega⟩
  have e : ((((n + 20).toNat : Nat) : Int) - 20) = n := by omega
  rw [e] at this
  exact this
theorem small_log {n : Int} (h : -20 ≤ n ∧ n < 40) : n.natAbs.log2 < 1920 := by
  have h1 : n.natAbs < 64 := by omega
  by_cases h0 : n.natAbs = 0
  · rw [h0]; decide
  · have := (Nat.log2_lt h0 (k := 6)).mpr h1
    omega
/-- f'..{a}..' -/
theorem x_f3 {m1 m2 : Str} {j1 j2 : Nat} {p1 p2 p3 : Pos} (ha : EX X B ρ a (rI n)) (h1 : m1.length ≤ 1000 := by decide +kernel) (h2 : m2.length ≤ 1000 := by decide +kernel) (hn : -20 ≤ n ∧ n < 40) : EX X B ρ (.JoinedStr [.Constant (.str m1) j1 p1, .FormattedValue a (-1) none p2, .Constant (.str m2) j2 p3] pos) rAny := by
  have h3 := int_text_le hn
  have z0 : Str.empty.length = 0 := rfl
  have big : sizeLine = 16777216 := sizeLine_eq
  refine PE_wk (pe_joined (.cons pe_str (.cons (pe_fmt ha) (.cons pe_str .nil)))) fun σ H Q ⟨s, q⟩ => ?_
  refine ⟨m1, rfl, ?_, s, fun v H1 e1 hv => .inr ⟨n, hv, small_log hn, _, rfl, ?_, _, rfl, ?_, q _ H1 e1 trivial⟩⟩ <;> simp only [str_app] <;> omega
/-- f'..{a}..{b}' -/
theorem x_f4 {m1 m2 : Str} {j1 j2 : Nat} {p1 p2 p3 p4 : Pos} (ha : EX X B ρ a (rI m)) (hb : EX X B ρ b (rI n)) (h1 : m1.length ≤ 1000 := by decide +kernel) (h2 : m2.length ≤ 1000 := by decide +kernel) (hm : -20 ≤ m ∧ m < 40) (hn : -20 ≤ n ∧ n < 40) : EX X B ρ (.JoinedStr [.Constant (.str m1) j1 p1, .FormattedValue a (-1) none p2, .Constant (.str m2) j2 p3, .FormattedValue b (-1) none p4] pos) rAny := by
  have h3 := int_text_le hn
  have h4 := int_text_le hm
  have z0 : Str.empty.length = 0 := rfl
  have big : sizeLine = 16777216 := sizeLine_eq
  refine PE_wk (pe_joined (.cons pe_str (.cons (pe_fmt ha) (.cons pe_str (.cons (pe_fmt hb) .nil))))) fun σ H Q ⟨s, q⟩ => ?_
  refine ⟨m1, rfl, ?_, s, fun v H1 e1 hv => .inr ⟨m, hv, small_log hm, _, rfl, ?_, _, rfl, ?_, s.mono e1, fun v2 H2 e2 hv2 => .inr ⟨n, hv2, small_log hn, _, rfl, ?_, q _ H2 (e1.trans e2) trivial⟩⟩⟩ <;> simp only [str_app] <;> omega
end
end Cv

namespace Cv
open PySem PySem.Spec PyProof.Rows L2 RZ
/-! ### kinds of things that are tracked: data, lists of data, lists of such .. -/
structure Kd (d : Option Addr) (β : Type) where
  R : β → Rp d
  adr : β → List Addr
  live : ∀ t v H, (R t).p v H → ∀ c ∈ adr t, some c ≠ d ∧ H c ≠ none
  put : ∀ t v H l xs ys, H l = some (.lst xs) → l ∉ adr t → (R t).p v H → (R t).p v (upd H l (.lst ys))
section
variable {d : Option Addr} {β γ : Type}
def kdD (d : Option Addr) (K : PySem.W.Frag) : Kd d D := ⟨dat K, fun _ => [], fun _ _ _ _ c hc => by simp at hc, fun t v H l xs ys hl _ h => ind_dat v H xs ys hl h⟩
def kdL (d : Option Addr) (K : PySem.W.Frag) : Kd d (Addr × List D) := ⟨fun t => own K t.1 t.2, fun t => [t.1], fun t v H h c hc => by
    rw [List.mem_singleton.mp hc]
    obtain ⟨_, h2, vs, h3, _⟩ := h
    exact ⟨h2, by rw [h3]; exact fun z => nomatch z⟩,
  fun t v H l xs ys hl hn h => ind_own (fun z => hn (by simp [z])) v H xs ys hl h⟩
def lsR (k : Kd d β) (a : Addr) (T : List β) : Rp d := ⟨fun v H => v = .ref a ∧ some a ≠ d ∧ ∃ vs, H a = some (.lst vs) ∧ vs.length = T.length ∧ ∀ (j : Nat) t u, T[j]? = some t → vs[j]? = some u → (k.R t).p u H,
  fun e ⟨h1, h2, vs, h3, h4, h5⟩ => ⟨h1, h2, vs, e.at h3 h2, h4, fun j t u ht hu => (k.R t).st e (h5 j t u ht hu)⟩⟩
def kdS (k : Kd d β) : Kd d (Addr × List β) := ⟨fun t => lsR k t.1 t.2, fun t => t.1 :: t.2.flatMap k.adr, fun t v H h c hc => by
    obtain ⟨_, h2, vs, h3, h4, h5⟩ := h
    rcases List.mem_cons.mp hc with rfl | hc
    · exact ⟨h2, by rw [h3]; exact fun z => nomatch z⟩
    · obtain ⟨b, hb, hc⟩ := List.mem_flatMap.mp hc
      obtain ⟨j, hj⟩ := List.getElem?_of_mem hb
      have := (List.getElem?_eq_some_iff.mp hj).1
      exact k.live b _ H (h5 j b _ hj (List.getElem?_eq_getElem (show j < vs.length by omega))) c hc,
  fun t v H l xs ys hl hn ⟨h1, h2, vs, h3, h4, h5⟩ => ⟨h1, h2, vs, by rw [upd_ne (fun z => hn (by simp [z]))]; exact h3, h4, fun j b u hb hu => k.put b u H l xs ys hl (fun z => hn (List.mem_cons_of_mem _ (List.mem_flatMap.mpr ⟨b, List.mem_of_getElem? hb, z⟩))) (h5 j b u hb hu)⟩⟩
theorem ind_kd {k : Kd d β} {t : β} {l : Addr} (h : l ∉ k.adr t) : Ind l (k.R t) := fun v H xs ys hl hv => k.put t v H l xs ys hl h hv
theorem own_lsR {K : PySem.W.Frag} {a : Addr} {ds : List D} {v : V} {H : Hp} : (own (d := d) K a ds).p v H ↔ (lsR (kdD d K) a ds).p v H :=
  ⟨fun ⟨h1, h2, vs, h3, h4⟩ => ⟨h1, h2, vs, h3, h4.1.symm, fun j t u ht hu => h4.2 j t u ht hu⟩, fun ⟨h1, h2, vs, h3, h4, h5⟩ => ⟨h1, h2, vs, h3, h4.symm, fun j t u ht hu => h5 j t u ht hu⟩⟩
/-- a new thing: none of its places in B -/
def newK (B : Hp) (k : Kd d β) (P : β → Prop) : Rp d := exR (fun t => (∀ c ∈ k.adr t, B c = none) ∧ P t) k.R
/-- no list within itself, no two items in common places -/
structure LsOk (k : Kd d β) (z : Addr × List β) : Prop where
  i : ∀ t ∈ z.2, z.1 ∉ k.adr t
  dj : z.2.Pairwise fun t t' => ∀ c ∈ k.adr t, c ∉ k.adr t'
def LcG (H1 : Hp) (k : Kd d β) (Dl : Addr) (B : Hp) (P : Nat → β → Prop) (i : Nat) (H : Hp) : Prop :=
  Ext d H1 H ∧ ∃ (vs : List V) (T : List β), H Dl = some (.lst vs) ∧ vs.length = T.length ∧ T.length = i ∧ (∀ (j : Nat) t u, T[j]? = some t → vs[j]? = some u → (k.R t).p u H) ∧ (∀ (j : Nat) t, T[j]? = some t → P j t) ∧ (∀ t ∈ T, ∀ c ∈ k.adr t, B c = none ∧ c ≠ Dl) ∧ T.Pairwise (fun t t' => ∀ c ∈ k.adr t, c ∉ k.adr t')
theorem lcG_step {H1 H H2 B : Hp} {k : Kd d β} {Dl : Addr} {P : Nat → β → Prop} {i : Nat} {y : V} (hn : H1 Dl = none) (hd : some Dl ≠ d) (hB : ∀ c, some c ≠ d → H c = none → B c = none) (h : LcG H1 k Dl B P i H) (e : Ext d H H2) (hy : ∃ t, P i t ∧ (∀ c ∈ k.adr t, H c = none) ∧ (k.R t).p y H2) (hi : i < 2000) :
    ∃ acc, H2 Dl = some (.lst acc) ∧ acc.length < sizeLine ∧ LcG H1 k Dl B P (i + 1) (upd H2 Dl (.lst (acc ++ [y]))) := by
  obtain ⟨h0, vs, T, p1, p2, p3, p4, p5, p6, p7⟩ := h
  obtain ⟨t, ht, hf, hr⟩ := hy
  have g := e.at p1 hd
  have old : ∀ b ∈ T, ∀ c ∈ k.adr b, H c ≠ none := fun b hb c hc => by
    obtain ⟨j, hj⟩ := List.getElem?_of_mem hb
    have := (List.getElem?_eq_some_iff.mp hj).1
    exact (k.live b _ H (p4 j b _ hj (List.getElem?_eq_getElem (show j < vs.length by omega))) c hc).2
  have new : ∀ c ∈ k.adr t, B c = none ∧ c ≠ Dl := fun c hc => ⟨hB c (k.live t _ H2 hr c hc).1 (hf c hc), fun z => by
    have := hf c hc
    rw [z, p1] at this; cases this⟩
  refine ⟨vs, g, Nat.lt_of_lt_of_le (show vs.length < 2000 by omega) (by decide), (h0.trans e).mut hn hd, vs ++ [y], T ++ [t], upd_same, by simp [p2], by simp [p3], fun j b u hb hu => ?_, fun j b hb => ?_, fun b hb c hc => ?_, ?_⟩
  · by_cases hj : j < T.length
    · rw [List.getElem?_append_left hj] at hb
      rw [List.getElem?_append_left (by omega)] at hu
      exact k.put b u H2 Dl _ _ g (fun z => (p6 b (List.mem_of_getElem? hb) Dl z).2 rfl) ((k.R b).st e (p4 j b u hb hu))
    · have hj' : j = T.length := by
        have := (List.getElem?_eq_some_iff.mp hb).1
        simp at this; omega
      subst hj'
      rw [List.getElem?_append_right (Nat.le_refl _), Nat.sub_self] at hb
      rw [List.getElem?_append_right (by omega), p2, Nat.sub_self] at hu
      cases hb; cases hu
      exact k.put t y H2 Dl _ _ g (fun z => (new Dl z).2 rfl) hr
  · by_cases hj : j < T.length
    · rw [List.getElem?_append_left hj] at hb
      exact p5 j b hb
    · have hj' : j = T.length := by
        have := (List.getElem?_eq_some_iff.mp hb).1
        simp at this; omega
      subst hj'
      rw [List.getElem?_append_right (Nat.le_refl _), Nat.sub_self] at hb
      cases hb
      rw [p3]; exact ht
  · rcases List.mem_append.mp hb with hb | hb
    · exact p6 b hb c hc
    · rw [List.mem_singleton.mp hb] at hc
      exact new c hc
  · rw [List.pairwise_append]
    refine ⟨p7, List.pairwise_singleton _ _, fun b hb b' hb' c hc hc' => ?_⟩
    rw [List.mem_singleton.mp hb'] at hc'
    exact old b hb c hc (hf c hc')
theorem lcG_end {H1 H B : Hp} {k : Kd d β} {Dl : Addr} {P : Nat → β → Prop} {i : Nat} (hd : some Dl ≠ d) (hDB : B Dl = none) (h : LcG H1 k Dl B P i H) : (newK B (kdS k) fun z => LsOk k z ∧ z.2.length = i ∧ ∀ j t, z.2[j]? = some t → P j t).p (.ref Dl) H := by
  obtain ⟨h0, vs, T, p1, p2, p3, p4, p5, p6, p7⟩ := h
  refine ⟨(Dl, T), ⟨fun c hc => ?_, ⟨fun t ht z => (p6 t ht Dl z).2 rfl, p7⟩, p3, p5⟩, rfl, hd, vs, p1, p2, p4⟩
  rcases List.mem_cons.mp hc with rfl | hc
  · exact hDB
  · obtain ⟨b, hb, hc⟩ := List.mem_flatMap.mp hc
    exact (p6 b hb c hc).1
def tEltK {Z : Type} (B : Hp) (k : Kd d β) (pr : Z → Ro d) (S : Z → Prop) (P : Z → β → Prop) : TE := fun σ H Q => ∃ z, S z ∧ St B (pr z) σ H ∧ ∀ v H', Ext d H H' → (∃ t, P z t ∧ (∀ c ∈ k.adr t, H c = none) ∧ (k.R t).p v H') → Q v H'
theorem eltK_of {Z : Type} {B : Hp} {k : Kd d β} {pr : Z → Ro d} {S : Z → Prop} {P : Z → β → Prop} {Y : Cx} {elt : Expr} (h : ∀ z, S z → ∀ B' : Hp, EX Y B' (pr z) elt (newK B' k (P z))) : PE Y elt (tEltK B k pr S P) :=
  ⟨fun pins s σ H Q I ⟨z, hz, st, q⟩ => (h z hz H).run pins s σ H Q I ⟨⟨Ext.refl H, st.dr, st.good⟩, fun v H' e1 ⟨t, ⟨h1, h2⟩, h3⟩ => q v H' e1 ⟨t, h2, h1, h3⟩⟩⟩
end
section
variable {d : Option Addr} {β γ : Type} {X : Cx} {B : Hp} {ρ ρ' : Ro d} {a b c e iter elt : Expr} {es : List Expr} {R R' Ra Rb : Rp d} {Rs : List (Rp d)} {pos : Pos} {m n : Int} {st : Stmt} {rest body orelse : List Stmt} {Pre Mid : L2.St → Hp → Prop} {Po : Ends}
/-- [elt for x in t], t a tuple told by S, elt a new thing -/
theorem x_lcTK {k : Kd d β} {S : List D → Prop} (j : Nat) {x : Str} {scope : Scope} {tpos : Pos} (P : List D → Nat → β → Prop) (hi : EX X B ρ iter (dE X.K fun w => ∃ src, S src ∧ w = .t src)) (hn : ∀ src, S src → src.length < 2000) (hN : X.N.Nodup) (hok : BlkOk X.N X.env.scope scope [(x, j)])
    (hgn : ∀ (s : Shared) (H : Hp) (C : Addr) (cl : List (Str × Addr)) (fp : List Addr), PG (X.blk s H scope (compEnvC scope cl C X.env) fp) (.Name x tpos) (gName j))
    (hb : ∀ (s : Shared) (H : Hp) (C : Addr) (cl : List (Str × Addr)) (fp : List Addr) (src : List D) (i : Nat) (w : D) (B' : Hp), S src → src[i]? = some w → EX (X.blk s H scope (compEnvC scope cl C X.env) fp) B' (ρ.set j (some (dat X.K w))) elt (newK B' k (P src i)))
    (hc : X.calm = true := by rfl) (hs : ∀ x, foldedSetIterable iter X.env x = pure x := by intro _; rfl) :
    EX X B ρ (.ListComp elt [⟨.Name x tpos, iter, [], 0⟩] scope pos) (newK B (kdS k) fun z => LsOk k z ∧ ∃ src, S src ∧ z.2.length = src.length ∧ ∀ i t, z.2[i]? = some t → P src i t) := by
  refine PE_wk (pe_lc (own := [(x, j)]) (g := gName j) (tt := tYes) (te := tEltK (Z := List D × Nat × D) B k (fun z => ρ.set j (some (dat X.K z.2.2))) (fun z => S z.1 ∧ z.1[z.2.1]? = some z.2.2) (fun z => P z.1 z.2.1)) hc hN (pi_tup hi) hok hgn (fun _ _ _ _ _ => pts_nil) (fun s H C cl fp => eltK_of fun z hz B' => hb s H C cl fp z.1 z.2.1 z.2.2 B' hz.1 hz.2) hs) fun σ H Q ⟨s, q⟩ => ⟨s, fun v H1 e1 hv => ?_⟩
  obtain ⟨w, ⟨src, hS, rfl⟩, hv⟩ := hv
  obtain ⟨t, us, rfl, g1, g2⟩ := DR.tup hv
  have s1 := s.mono e1
  refine ⟨t, rfl, ⟨us, g1⟩, fun Dl hD => ?_⟩
  obtain ⟨hB, hDd⟩ := s1.fresh hD
  have hl := hn src hS
  refine lc_tup (K := X.K) (a := t) (xs := us) (LcG H1 k Dl B (P src)) ⟨Ext.new hD, [], [], upd_same, rfl, rfl, fun j t u h => (by cases h), fun j t h => (by cases h), fun t h => by simp at h, .nil⟩ (fun i H' _ L => L.1.tk.sqT g1) (fun i y H' hy L => ?_) (fun H' L => ?_)
  · obtain ⟨w, hw, hr⟩ := g2.getV hy
    refine ⟨wipe1 _ _ _, ?_⟩
    have s2 := s1.mono L.1
    exact ⟨(src, i, w), ⟨hS, hw⟩, st_wipe s2 (R := dat X.K w) (hr.tk L.1.tk), fun y H2 e2 hy => lcG_step hD hDd (fun c hcd hc => (s2.fresh hc).1) L e2 hy (Nat.lt_trans (List.getElem?_eq_some_iff.mp hw).1 hl)⟩
  · obtain ⟨t, ⟨h1, h2, h3, h4⟩, h5⟩ := lcG_end hDd hB L
    exact q _ H' (e1.trans L.1) ⟨t, ⟨h1, h2, src, hS, by rw [h3, g2.1], h4⟩, h5⟩
/-- y = [elt for x in xs], xs a list of data, elt a new thing -/
theorem as_lcLK {k : Kd d β} {src : List D} {l : Addr} (i0 j : Nat) {x y : Str} {py spos : Pos} {scope : Scope} {tpos : Pos} (P : Nat → β → Prop) (hi : EX X B ρ iter (lstA X.K l src)) (hn : src.length < 2000) (hN : X.N.Nodup) (hok : BlkOk X.N X.env.scope scope [(x, j)])
    (hgn : ∀ (s : Shared) (H : Hp) (C : Addr) (cl : List (Str × Addr)) (fp : List Addr), PG (X.blk s H scope (compEnvC scope cl C X.env) fp) (.Name x tpos) (gName j))
    (hb : ∀ (s : Shared) (H : Hp) (C : Addr) (cl : List (Str × Addr)) (fp : List Addr) (i : Nat) (w : D) (B' : Hp), src[i]? = some w → EX (X.blk s H scope (compEnvC scope cl C X.env) fp) B' (ρ.set j (some (dat X.K w))) elt (newK B' k (P i)))
    (hc : X.calm = true := by rfl) (hs : ∀ x, foldedSetIterable iter X.env x = pure x := by intro _; rfl)
    (hy0 : X.N[i0]? = some y := by rfl) (hyl : X.env.scope.names.lookup y = some .local := by rfl) (hsw : swapsWith (.ListComp elt [⟨.Name x tpos, iter, [], 0⟩] scope pos) (some (.Name y py)) spos.line X.env = pure true := by rfl) :
    AsgX X B ρ i0 (.Assign [.Name y py] (.ListComp elt [⟨.Name x tpos, iter, [], 0⟩] scope pos) spos) (newK B (kdS k) fun z => LsOk k z ∧ z.2.length = src.length ∧ ∀ i t, z.2[i]? = some t → P i t) := by
  refine PS_wk (ps_setLc (own := [(x, j)]) (g := gName j) (tt := tYes) (te := tEltK (Z := Nat × D) B k (fun z => ρ.set j (some (dat X.K z.2))) (fun z => src[z.1]? = some z.2) (fun z => P z.1)) hc hN hy0 hyl hsw (pi_list hi) hok hgn (fun _ _ _ _ _ => pts_nil) (fun s H C cl fp => eltK_of fun z hz B' => hb s H C cl fp z.1 z.2 B' hz) hs) fun E σ H ⟨s, q⟩ => ⟨s, fun v H1 e1 hv => ?_⟩
  obtain ⟨rfl, hld, us, g1, g2⟩ := hv
  have s1 := s.mono e1
  refine ⟨l, rfl, ⟨us, g1.sq⟩, fun Dl hD => ?_⟩
  obtain ⟨hB, hDd⟩ := s1.fresh hD
  refine lc_list (K := X.K) (a := l) (xs := us) (LcG H1 k Dl B P) ⟨Ext.new hD, [], [], upd_same, rfl, rfl, fun j t u h => (by cases h), fun j t h => (by cases h), fun t h => by simp at h, .nil⟩ (fun i H' _ L => (g1.ext L.1).sq) (fun i y H' hy L => ?_) (fun H' L => ?_)
  · obtain ⟨w, hw, hr⟩ := g2.getV hy
    refine ⟨wipe1 _ _ _, ?_⟩
    have s2 := s1.mono L.1
    exact ⟨(i, w), hw, st_wipe s2 (R := dat X.K w) (hr.tk L.1.tk), fun y H2 e2 hy => lcG_step hD hDd (fun c hcd hc => (s2.fresh hc).1) L e2 hy (Nat.lt_trans (List.getElem?_eq_some_iff.mp hw).1 hn)⟩
  · obtain ⟨t, ⟨h1, h2, h3, h4⟩, h5⟩ := lcG_end hDd hB L
    exact q _ H' (e1.trans L.1) ⟨t, ⟨h1, h2, by rw [h3, g2.1], h4⟩, h5⟩
/-- a tracked list of things: [elt for x in xs], elt data -/
theorem x_lcSD {k : Kd d β} {T : List β} {l : Addr} (j : Nat) {x : Str} {scope : Scope} {tpos : Pos} (P : Nat → D → Prop) (hi : EX X B ρ iter (lsR k l T)) (hn : T.length < 2000) (hN : X.N.Nodup) (hok : BlkOk X.N X.env.scope scope [(x, j)])
    (hgn : ∀ (s : Shared) (H : Hp) (C : Addr) (cl : List (Str × Addr)) (fp : List Addr), PG (X.blk s H scope (compEnvC scope cl C X.env) fp) (.Name x tpos) (gName j))
    (hb : ∀ (s : Shared) (H : Hp) (C : Addr) (cl : List (Str × Addr)) (fp : List Addr) (i : Nat) (t : β), T[i]? = some t → EX (X.blk s H scope (compEnvC scope cl C X.env) fp) B (ρ.set j (some (k.R t))) elt (dE X.K (P i)))
    (hc : X.calm = true := by rfl) (hs : ∀ x, foldedSetIterable iter X.env x = pure x := by intro _; rfl) :
    EX X B ρ (.ListComp elt [⟨.Name x tpos, iter, [], 0⟩] scope pos) (newE B X.K fun ds => ds.length = T.length ∧ ∀ k w, ds[k]? = some w → P k w) := by
  refine PE_wk (pe_lc (own := [(x, j)]) (g := gName j) (tt := tYes) (te := tElt (Z := Nat × β) B X.K (fun z => ρ.set j (some (k.R z.2))) (fun z => T[z.1]? = some z.2) (fun z => P z.1)) hc hN (pi_list hi) hok hgn (fun _ _ _ _ _ => pts_nil) (fun s H C cl fp => elt_of fun z hz => hb s H C cl fp z.1 z.2 hz) hs) fun σ H Q ⟨s, q⟩ => ⟨s, fun v H1 e1 hv => ?_⟩
  obtain ⟨rfl, hld, us, g1, g2, g3⟩ := hv
  have s1 := s.mono e1
  refine ⟨l, rfl, ⟨us, SqL.of g1⟩, fun Dl hD => ?_⟩
  obtain ⟨hB, hDd⟩ := s1.fresh hD
  refine lc_list (K := X.K) (a := l) (xs := us) (Lc H1 X.K Dl d P) ⟨Ext.new hD, [], [], upd_same, DRl.nil, rfl, fun k w h => by cases h⟩ (fun i H' _ L => SqL.of (L.1.at g1 hld)) (fun i y H' hy L => ?_) (fun H' L => ?_)
  · have hiT : i < T.length := by rw [← g2]; exact (List.getElem?_eq_some_iff.mp hy).1
    have ht : T[i]? = some T[i] := List.getElem?_eq_getElem hiT
    refine ⟨wipe1 _ _ _, ?_⟩
    exact ⟨(i, T[i]), ht, st_wipe (s1.mono L.1) (R := k.R T[i]) ((k.R T[i]).st L.1 (g3 i _ y ht hy)), fun y H2 e2 hy => lc_step hD hDd L e2 hy (Nat.lt_trans hiT hn)⟩
  · obtain ⟨h0, vs, ds, h1, h2, h3, h4⟩ := L
    exact q _ H' (e1.trans h0) ⟨ds, ⟨by rw [h3, g2], h4⟩, Dl, hB, rfl, hDd, vs, h1, h2⟩
/-- y = [elt for x in xs], xs a tracked list of things, elt data -/
theorem as_lcSD {k : Kd d β} {T : List β} {l : Addr} (i0 j : Nat) {x y : Str} {py spos : Pos} {scope : Scope} {tpos : Pos} (P : Nat → D → Prop) (hi : EX X B ρ iter (lsR k l T)) (hn : T.length < 2000) (hN : X.N.Nodup) (hok : BlkOk X.N X.env.scope scope [(x, j)])
    (hgn : ∀ (s : Shared) (H : Hp) (C : Addr) (cl : List (Str × Addr)) (fp : List Addr), PG (X.blk s H scope (compEnvC scope cl C X.env) fp) (.Name x tpos) (gName j))
    (hb : ∀ (s : Shared) (H : Hp) (C : Addr) (cl : List (Str × Addr)) (fp : List Addr) (i : Nat) (t : β), T[i]? = some t → EX (X.blk s H scope (compEnvC scope cl C X.env) fp) B (ρ.set j (some (k.R t))) elt (dE X.K (P i)))
    (hc : X.calm = true := by rfl) (hs : ∀ x, foldedSetIterable iter X.env x = pure x := by intro _; rfl)
    (hy0 : X.N[i0]? = some y := by rfl) (hyl : X.env.scope.names.lookup y = some .local := by rfl) (hsw : swapsWith (.ListComp elt [⟨.Name x tpos, iter, [], 0⟩] scope pos) (some (.Name y py)) spos.line X.env = pure true := by rfl) :
    AsgX X B ρ i0 (.Assign [.Name y py] (.ListComp elt [⟨.Name x tpos, iter, [], 0⟩] scope pos) spos) (newE B X.K fun ds => ds.length = T.length ∧ ∀ k w, ds[k]? = some w → P k w) := by
  refine PS_wk (ps_setLc (own := [(x, j)]) (g := gName j) (tt := tYes) (te := tElt (Z := Nat × β) B X.K (fun z => ρ.set j (some (k.R z.2))) (fun z => T[z.1]? = some z.2) (fun z => P z.1)) hc hN hy0 hyl hsw (pi_list hi) hok hgn (fun _ _ _ _ _ => pts_nil) (fun s H C cl fp => elt_of fun z hz => hb s H C cl fp z.1 z.2 hz) hs) fun E σ H ⟨s, q⟩ => ⟨s, fun v H1 e1 hv => ?_⟩
  obtain ⟨rfl, hld, us, g1, g2, g3⟩ := hv
  have s1 := s.mono e1
  refine ⟨l, rfl, ⟨us, SqL.of g1⟩, fun Dl hD => ?_⟩
  obtain ⟨hB, hDd⟩ := s1.fresh hD
  refine lc_list (K := X.K) (a := l) (xs := us) (Lc H1 X.K Dl d P) ⟨Ext.new hD, [], [], upd_same, DRl.nil, rfl, fun k w h => by cases h⟩ (fun i H' _ L => SqL.of (L.1.at g1 hld)) (fun i y H' hy L => ?_) (fun H' L => ?_)
  · have hiT : i < T.length := by rw [← g2]; exact (List.getElem?_eq_some_iff.mp hy).1
    have ht : T[i]? = some T[i] := List.getElem?_eq_getElem hiT
    refine ⟨wipe1 _ _ _, ?_⟩
    exact ⟨(i, T[i]), ht, st_wipe (s1.mono L.1) (R := k.R T[i]) ((k.R T[i]).st L.1 (g3 i _ y ht hy)), fun y H2 e2 hy => lc_step hD hDd L e2 hy (Nat.lt_trans hiT hn)⟩
  · obtain ⟨h0, vs, ds, h1, h2, h3, h4⟩ := L
    exact q _ H' (e1.trans h0) ⟨ds, ⟨by rw [h3, g2], h4⟩, Dl, hB, rfl, hDd, vs, h1, h2⟩
/-- for x in xs, xs a tracked list of things -/
theorem bx_forS {k : Kd d β} {α : Type} {T : List β} {la : Addr} (j : Nat) {x : Str} {tpos : Pos} (P : Nat → α → Prop) (r : Nat → α → Ro d) (hi : EX X B ρ iter (lsR k la T)) (h0 : ∀ σ H, St B ρ σ H → IS B (P 0) (r 0) σ H)
    (hl : ∀ i z, P i z → ∃ (n : Nat) (R : Rp d), (r i z)[n]? = some (some R) ∧ ∀ v H, R.p v H → ∃ u, (lsR k la T).p u H)
    (hb : ∀ i t z, T[i]? = some t → P i z → BX X body (St B ((r i z).set j (some (k.R t)))) (Lp Po (IS B (P (i + 1)) (r (i + 1))) (IS B (P T.length) (r T.length)))) (h : BX X rest (IS B (P T.length) (r T.length)) Po)
    (hN : X.N.Nodup) (hp : PassesOwn (model X.prog X.w) X.A X.env X.xe) (hj : X.N[j]? = some x := by rfl) (hc : X.calm = true := by rfl) (hx : Loc X.env.scope x := by first | exact Or.inl rfl | exact Or.inr rfl)
    (hf : X.fn x = true ∨ X.env.scope.names.lookup x = some .local := by first | exact .inl rfl | exact .inr rfl | assumption) (hs : ∀ x, foldedSetIterable iter X.env x = pure x := by intro _; rfl) : BX X (.For (.Name x tpos) iter body [] pos :: rest) (St B ρ) Po := by
  refine bx_cons (Mid := IS B (P T.length) (r T.length)) ?_ h
  refine PS_wk (t := tFor (iList X.K fun σ H Q => St B ρ σ H ∧ ∀ v H', Ext d H H' → (lsR k la T).p v H' → Q v H') (gName j) (tBody (Z := Nat × β × α) B (fun z => (r z.1 z.2.2).set j (some (k.R z.2.1))) (fun z => T[z.1]? = some z.2.1 ∧ P z.1 z.2.2) (fun z => Lp Po (IS B (P (z.1 + 1)) (r (z.1 + 1))) (IS B (P T.length) (r T.length)))))
    (ps_for hp hc (pi_list hi) (pg_name hN hj hx hf) ⟨fun pins s σ H E I ⟨⟨i, w, z⟩, ⟨hw, hz⟩, q, l⟩ => (hb i w z hw hz).run pins s σ H E I ⟨q, l⟩⟩ hs) fun E σ H ⟨s, l⟩ => ⟨s, fun v H1 e1 hv => ?_⟩
  obtain ⟨rfl, hld, us, h1, h2, h3⟩ := hv
  refine ⟨la, rfl, ⟨us, SqL.of h1⟩, ?_⟩
  have key : ∀ i σ H, IS B (P i) (r i) σ H → ∃ vs, SqL X.K H la vs ∧ vs.length = T.length ∧ ∀ (j : Nat) t u, T[j]? = some t → vs[j]? = some u → (k.R t).p u H := fun i σ H ⟨z, hz, q⟩ => by
    obtain ⟨n, R, hk, hR⟩ := hl i z hz
    obtain ⟨v, _, g⟩ := q.good.get hk
    obtain ⟨_, _, _, vs, a1, a2, a3⟩ := hR v H g
    exact ⟨vs, SqL.of a1, a2, a3⟩
  refine ⟨fun i m σ H => m = T.length - i ∧ i ≤ T.length ∧ Tk H1 H ∧ IS B (P i) (r i) σ H, ⟨T.length, rfl, Nat.zero_le _, Tk.refl _, h0 _ _ (s.mono e1)⟩, ?_⟩
  rintro i m σ H ⟨rfl, hi', kk, q⟩
  obtain ⟨vs, a1, a2, a3⟩ := key i σ H q
  by_cases hlt : i < T.length
  · have hv : i < vs.length := by rw [a2]; exact hlt
    refine .inr ⟨⟨vs, vs[i], a1, List.getElem?_eq_getElem hv⟩, fun σ' H' => Tk H1 H' ∧ IS B (P (i + 1)) (r (i + 1)) σ' H', fun σ' H' p' => ⟨T.length - (i + 1), by omega, rfl, hlt, p'.1, p'.2⟩, fun x H' y => ?_⟩
    obtain ⟨rfl, y⟩ := y
    have ht : T[i]? = some T[i] := List.getElem?_eq_getElem hlt
    obtain ⟨z, hz, q⟩ := q
    refine ⟨(i, T[i], z), ⟨ht, hz⟩, ⟨q.ext, q.dr, q.good.set j (R := k.R T[i]) (a3 i _ x ht (y vs a1))⟩, ?_⟩
    exact ⟨fun σ' H' k' q' => ⟨kk.trans k', q'⟩, fun v H' k' q' => l.rt v H' ((e1.tk.trans kk).trans k') q', fun σ' H' k' q' => l.nx σ' H' ((e1.tk.trans kk).trans k') q', fun σ' H' k' q' => ⟨kk.trans k', q'⟩⟩
  · have e : i = T.length := by omega
    subst e
    exact .inl ⟨⟨vs, a1, by rw [a2]; exact Nat.le_refl _⟩, l.nx σ H (e1.tk.trans kk) q⟩
/-- xs[i], len(xs) -/
theorem x_ixS {k : Kd d β} {la : Addr} {T : List β} {P : Int → Prop} (ha : EX X B ρ a (lsR k la T)) (hb : EX X B ρ b (iE P)) (hw : ∀ j, P j → 0 ≤ j ∧ j < T.length) (hs : PlainIx b := by exact (fun _ _ => rfl)) : EX X B ρ (.Subscript a b pos) (exR (fun t => ∃ i : Nat, P i ∧ T[i]? = some t) k.R) :=
  PE_wk (pe_ix ix_list ha hb hs) fun σ H Q ⟨s, q⟩ => ⟨s, fun x H1 e1 hx => ⟨s.mono e1, fun y H2 e2 hy => by
    obtain ⟨rfl, hd, us, h1, h2, h3⟩ := (lsR k la T).st e2 hx
    obtain ⟨j, hj, hy⟩ := hy
    obtain ⟨h0, hl⟩ := hw j hj
    obtain ⟨i, rfl⟩ : ∃ i : Nat, j = (i : Int) := ⟨j.toNat, by omega⟩
    have hi : i < T.length := by omega
    have hu : us[i]? = some (us[i]'(by omega)) := List.getElem?_eq_getElem _
    exact ⟨la, us, _, _, rfl, hy, SqL.of h1, atI_nat hu, q _ H2 (e1.trans e2) ⟨_, ⟨i, hj, List.getElem?_eq_getElem hi⟩, h3 i _ _ (List.getElem?_eq_getElem hi) hu⟩⟩⟩⟩
theorem x_ixS1 {k : Kd d β} {la : Addr} {T : List β} {t : β} {i : Nat} (ha : EX X B ρ a (lsR k la T)) (hb : EX X B ρ b (rI (i : Int))) (ht : T[i]? = some t) (hs : PlainIx b := by exact (fun _ _ => rfl)) : EX X B ρ (.Subscript a b pos) (k.R t) :=
  x_sub (x_ixS (P := fun j => j = (i : Int)) ha (x_I hb) (fun j hj => by have := (List.getElem?_eq_some_iff.mp ht).1; omega) hs) fun v H ⟨u, ⟨j, hj, hu⟩, h⟩ => by
    obtain rfl : j = i := by omega
    rw [ht] at hu; cases hu
    exact h
theorem x_lenS {k : Kd d β} {la : Addr} {T : List β} {p : Pos} (hg : Gl X "len") (hm : X.mg "len" = none) (h : EX X B ρ e (lsR k la T)) (he : starEach [e] X.env = (false, eval e X.env) :: starEach [] X.env := by rfl) (hpl : (backTo pos (starEach [] X.env)).any (·.1) = false := by rfl) : EX X B ρ (.Call (.Name "len" p) [e] [] pos) (rI T.length) :=
  x_callB call_len_seq hg hm PySem.boot_len (a_cons h a_nil he) (fun vs H σ Q s hv q => by
    obtain ⟨x, rfl, hx⟩ := hv.one
    obtain ⟨rfl, _, us, h1, h2, _⟩ := hx
    exact ⟨la, us, rfl, .inl (SqL.of h1), q _ H (Ext.refl H) (by show V.int _ = V.int _; rw [h2])⟩) (he := he) (hpl := hpl)
/-- a slot's place is opened -/
theorem bx_newK (i : Nat) {k : Kd d β} {P : β → Prop} (ls : List Addr) (hls : ∀ l ∈ ls, Known l ρ) (he : ∀ B' : Hp, AsgX X B' ρ i st (newK B' k P))
    (h : ∀ t, P t → (∀ c ∈ k.adr t, B c = none ∧ ∀ l ∈ ls, c ≠ l) → BX X rest (St B (ρ.set i (some (k.R t)))) Po) : BX X (st :: rest) (St B ρ) Po := by
  refine bx_cons (Mid := fun σ H => ∃ t : β, (P t ∧ ∀ c ∈ k.adr t, B c = none ∧ ∀ l ∈ ls, c ≠ l) ∧ St B (ρ.set i (some (k.R t))) σ H) ?_ (bx_ex fun t ht => h t ht.1 ht.2)
  refine ⟨fun pins s σ H E I ⟨st, q⟩ => ?_⟩
  refine (he H).run pins s σ H E I ⟨⟨Ext.refl H, st.dr, st.good⟩, fun v H' e1 hv => ?_⟩
  obtain ⟨t, ⟨h1, h2⟩, hv⟩ := hv
  refine q.nx _ H' e1.tk ⟨t, ⟨h2, fun c hc => ⟨(st.fresh (h1 c hc)).1, fun l hl z => ?_⟩⟩, st.ext.trans e1, (st.mono e1).dr, (st.mono e1).good.set i hv⟩
  obtain ⟨n, R, hn, hR⟩ := hls l hl
  obtain ⟨u, _, g⟩ := st.good.get hn
  exact hR u H g (by rw [← z]; exact h1 c hc)
end
end Cv

namespace Cv
open PySem PySem.Spec PyProof.Rows L2 RZ
section
variable {d : Option Addr} {β γ : Type} {X : Cx} {B : Hp} {ρ ρ' : Ro d} {a b c e iter elt : Expr} {es : List Expr} {R R' Ra Rb : Rp d} {Rs : List (Rp d)} {pos : Pos} {m n : Int} {st : Stmt} {rest body orelse : List Stmt} {Pre Mid : L2.St → Hp → Prop} {Po : Ends}
/-! ### a list changed through a second name: what follows is told by Mid -/
theorem bx_setitemM (i : Nat) {S : D → Prop} {x : Str} {p1 p2 p3 : Pos} {l : Addr} {ds : List D} {k : Nat} (hi : ρ[i]? = some (some (own X.K l ds))) (he : EX X B ρ e (dE X.K S)) (hk : EX X B ρ b (rI (k : Int))) (hkl : k < ds.length)
    (hM : ∀ w σ H vs', S w → St B ρ σ H → DRl X.K H (ds.set k w) vs' → Mid σ (upd H l (.lst vs'))) (h : BX X rest Mid Po)
    (hN : X.N[i]? = some x := by rfl) (hv : Vis X.env.scope x := by first | exact Or.inl rfl | exact Or.inr (Or.inl rfl) | exact Or.inr (Or.inr rfl)) (hd : (x == ("__debug__" : Str)) = false := by decide) (hcd : (x == ("__classdict__" : Str)) = false := by decide)
    (ha : ∀ v, assign (.Subscript (.Name x p1) b p2) X.env v = (do
      let ov ← holding [v] (eval (.Name x p1) X.env)
      let iv ← holding [v, ov] (eval b X.env)
      standAt p2
      holding [v, ov, iv] (setItem ov iv v)
      release [v, ov, iv] []) := by intro _; rfl)
    (hs : swapsWithSole [.Subscript (.Name x p1) b p2] e p3.line X.env = pure false := by rfl) (hw : swappedStores [.Subscript (.Name x p1) b p2] e X.env = pure none := by rfl) (h1 : (assignEach [.Subscript (.Name x p1) b p2] X.env).map (·.2) = [assign (.Subscript (.Name x p1) b p2) X.env] := by rfl) :
    BX X (.Assign [.Subscript (.Name x p1) b p2] e p3 :: rest) (St B ρ) Po := by
  refine bx_cons (Mid := Mid) (PS_wk (ps_asg he (pg_sub (pe_var hN hv hd hcd) hk set_list ha) hs hw h1) fun E σ H ⟨s, q⟩ => ⟨s, fun y H1 e1 ⟨w, hw, hy⟩ => ?_⟩) h
  have s1 := s.mono e1
  obtain ⟨v, a1, rfl, hl, vs, a2, a3⟩ := s1.good.get hi
  refine ⟨_, a1, s1, fun iv H2 e2 hiv => ?_⟩
  have g2 := e2.at a2 hl
  have a3' := a3.tk e2.tk
  have hkv : k < vs.length := by rw [← a3.1]; exact hkl
  refine ⟨l, vs, k, k, rfl, hiv, g2, by unfold ixN; rw [if_pos (by omega), if_pos (by omega)]; simp, q.nx σ _ ((e1.tk.trans e2.tk).trans (Tk.lst g2)) (hM w σ H2 _ hw (s1.mono e2) ⟨by simp [a3.1], fun j e' v' b1 b2 => ?_⟩)⟩
  by_cases hj : k = j
  · subst hj
    rw [List.getElem?_set_self hkl] at b1
    rw [List.getElem?_set_self hkv] at b2
    cases b1; cases b2
    exact DR.tk e2.tk hy
  · rw [List.getElem?_set_ne hj] at b1 b2
    exact a3'.2 j e' v' b1 b2
theorem bx_appendM (i : Nat) {S : D → Prop} {x : Str} {p1 p2 p3 p4 : Pos} {l : Addr} {ds : List D} (hi : ρ[i]? = some (some (own X.K l ds))) (he : EX X B ρ e (dE X.K S)) (hz : ds.length ≤ 1000) (hM : ∀ w σ H vs', S w → St B ρ σ H → DRl X.K H (ds ++ [w]) vs' → Mid σ (upd H l (.lst vs'))) (h : BX X rest Mid Po)
    (hN : X.N[i]? = some x := by rfl) (hv : Vis X.env.scope x := by first | exact Or.inl rfl | exact Or.inr (Or.inl rfl) | exact Or.inr (Or.inr rfl)) (hd : (x == ("__debug__" : Str)) = false := by decide) (hcd : (x == ("__classdict__" : Str)) = false := by decide)
    (hbase : attributeBase (.Name x p1) "append" X.env (eval (.Name x p1) X.env) = eval (.Name x p1) X.env := by rfl)
    (hfew : ((backTo p3 (starEach (e :: []) X.env)).all (fun x => !x.1) && (backToKw p3 (keywordEach [] X.env)).all (fun x => x.1.isSome)
      && decide ((e :: []).length + ([] : List Keyword).length + (if ([] : List Keyword).isEmpty then 0 else 1) < 30)) = true := by rfl)
    (hline : (p2.endLine == p3.line) = true := by rfl) (hs : starEach (e :: []) X.env = (false, eval e X.env) :: starEach [] X.env := by rfl) (hplain : (backTo p3 (starEach [] X.env)).any (·.1) = false := by rfl)
    (hsw : swapsWith (.Call (.Attribute (.Name x p1) "append" p2) [e] [] p3) none p4.line X.env = pure false := by rfl) :
    BX X (.Expr (.Call (.Attribute (.Name x p1) "append" p2) [e] [] p3) p4 :: rest) (St B ρ) Po := by
  refine bx_cons (Mid := Mid) (PS_wk (ps_expr (pe_bm PySem.F.plainAttrs_list PySem.F.slot_list_append PySem.F.type_list_append mt_append (pe_var hN hv hd hcd) (a_cons he a_nil hs) hbase hfew hline hs hplain) hsw) fun E σ H ⟨s, q⟩ => ?_) h
  obtain ⟨v, h1, rfl, hl, vs, h2, h3⟩ := s.good.get hi
  refine ⟨_, h1, Or.inl ⟨rfl, _, SqL.of h2⟩, s, fun us H1 e1 hus => ?_⟩
  obtain ⟨y, rfl, w, hw, hy⟩ := hus.one
  have g2 := e1.at h2 hl
  exact ⟨l, vs, y, rfl, rfl, g2, small1000 (by rw [← h3.1]; exact hz), q.nx σ _ (e1.tk.trans (Tk.lst g2)) (hM w σ H1 _ hw (s.mono e1) ((h3.tk e1.tk).snoc hy))⟩
/-- x.pop() as a statement -/
theorem bx_popM (i : Nat) {x : Str} {p1 p2 p3 p4 : Pos} {l : Addr} {ds : List D} (hi : ρ[i]? = some (some (own X.K l ds))) (hz : ds ≠ []) (hM : ∀ σ H vs', St B ρ σ H → DRl X.K H ds.dropLast vs' → Mid σ (upd H l (.lst vs'))) (h : BX X rest Mid Po)
    (hN : X.N[i]? = some x := by rfl) (hv : Vis X.env.scope x := by first | exact Or.inl rfl | exact Or.inr (Or.inl rfl) | exact Or.inr (Or.inr rfl)) (hd : (x == ("__debug__" : Str)) = false := by decide) (hcd : (x == ("__classdict__" : Str)) = false := by decide)
    (hbase : attributeBase (.Name x p1) "pop" X.env (eval (.Name x p1) X.env) = eval (.Name x p1) X.env := by rfl) (hline : (p2.endLine == p3.line) = true := by rfl)
    (hsw : swapsWith (.Call (.Attribute (.Name x p1) "pop" p2) [] [] p3) none p4.line X.env = pure false := by rfl) :
    BX X (.Expr (.Call (.Attribute (.Name x p1) "pop" p2) [] [] p3) p4 :: rest) (St B ρ) Po := by
  refine bx_cons (Mid := Mid) (PS_wk (ps_expr (pe_bm0 PySem.F.plainAttrs_list PySem.F.slot_list_pop PySem.F.type_list_pop mt_pop (pe_var hN hv hd hcd) hbase hline) hsw) fun E σ H ⟨s, q⟩ => ?_) h
  obtain ⟨v, h1, rfl, hl, vs, h2, h3⟩ := s.good.get hi
  have hne : vs ≠ [] := fun z => hz (List.length_eq_zero_iff.mp (by rw [h3.1, z]; rfl))
  have h4 : DRl X.K H ds.dropLast vs.dropLast := ⟨by rw [List.length_dropLast, List.length_dropLast, h3.1], fun j e' v' b1 b2 => by
    rw [List.getElem?_dropLast] at b1 b2
    split at b1
    · rw [if_pos (by rw [← h3.1]; assumption)] at b2
      exact h3.2 j e' v' b1 b2
    · cases b1⟩
  exact ⟨_, h1, Or.inl ⟨rfl, _, SqL.of h2⟩, l, vs, vs.getLast hne, rfl, rfl, h2, by rw [List.getLast_eq_getElem]; exact List.getElem?_eq_getElem _, q.nx σ _ (Tk.lst h2) (hM σ H _ s h4)⟩
/-! ### three levels of lists, one of the innermost changed -/
abbrev k3 (d : Option Addr) (K : PySem.W.Frag) : Kd d (Addr × List (Addr × List (Addr × List D))) := kdS (kdS (kdL d K))
def put2 (c : Addr) (ds : List D) (t : Addr × List (Addr × List D)) : Addr × List (Addr × List D) := (t.1, t.2.map fun s => if s.1 = c then (s.1, ds) else s)
def put3 (c : Addr) (ds : List D) (z : List (Addr × List (Addr × List D))) : List (Addr × List (Addr × List D)) := z.map (put2 c ds)
theorem l3_put {K : PySem.W.Frag} {H : Hp} {v : V} {la c : Addr} {T : List (Addr × List (Addr × List D))} {us vs' : List V} {ds : List D} (hne : la ≠ c) (hm : ∀ t ∈ T, t.1 ≠ c) (hc : H c = some (.lst us)) (hd : DRl K H ds vs') (h : (lsR (kdS (kdL d K)) la T).p v H) : (lsR (kdS (kdL d K)) la (put3 c ds T)).p v (upd H c (.lst vs')) := by
  obtain ⟨h1, h2, vs, h3, h4, h5⟩ := h
  refine ⟨h1, h2, vs, by rw [upd_ne hne]; exact h3, by unfold put3; rw [List.length_map]; exact h4, fun j t' u ht' hu => ?_⟩
  unfold put3 at ht'
  rw [List.getElem?_map] at ht'
  cases ht : T[j]? with
  | none => rw [ht] at ht'; cases ht'
  | some t =>
    rw [ht] at ht'
    cases ht'
    obtain ⟨g1, g2, ws, g3, g4, g5⟩ := h5 j t u ht hu
    refine ⟨g1, g2, ws, (upd_ne (show t.1 ≠ c from hm t (List.mem_of_getElem? ht))).trans g3, by show ws.length = (t.2.map _).length; rw [List.length_map]; exact g4, fun i s' w hs' hw => ?_⟩
    have hs' : (t.2.map fun s => if s.1 = c then (s.1, ds) else s)[i]? = some s' := hs'
    rw [List.getElem?_map] at hs'
    cases hs : t.2[i]? with
    | none => rw [hs] at hs'; cases hs'
    | some s =>
      rw [hs] at hs'
      cases hs'
      obtain ⟨q1, q2, xs, q3, q4⟩ := g5 i s w hs hw
      show (own K (if s.1 = c then (s.1, ds) else s).1 (if s.1 = c then (s.1, ds) else s).2).p w _
      by_cases e : s.1 = c
      · rw [if_pos e]
        rw [e] at q1 q2 ⊢
        exact ⟨q1, q2, vs', upd_same, hd.tk (Tk.lst hc)⟩
      · rw [if_neg e]
        exact ⟨q1, q2, xs, by rw [upd_ne e]; exact q3, q4.tk (Tk.lst hc)⟩
/-- two slots told anew, the others do not lean on c -/
theorem st_put2 {p i : Nat} {c : Addr} {us vs' : List V} {σ : L2.St} {H : Hp} {Rp' Ri Ri' : Rp d} (s : St B ρ σ H) (hBc : B c = none) (hcd : some c ≠ d) (hc : H c = some (.lst us)) (hpi : p ≠ i) (hp : p < ρ.length) (hi : ρ[i]? = some (some Ri)) (hP : ∀ v, σ[p]? = some (some v) → Rp'.p v (upd H c (.lst vs'))) (hPv : ∃ v, σ[p]? = some (some v)) (hI : ∀ v, Ri.p v H → Ri'.p v (upd H c (.lst vs')))
    (hb : ∀ (j : Nat) (R : Rp d), j ≠ p → j ≠ i → ρ[j]? = some (some R) → Ind c R) : St B ((ρ.set p (some Rp')).set i (some Ri')) σ (upd H c (.lst vs')) := by
  refine ⟨s.ext.mut hBc hcd, fun a e => ?_, by simp [s.good.1], fun j R e => ?_⟩
  · obtain ⟨ns, hn, q⟩ := s.dr a e
    have : a ≠ c := fun z => hcd (by rw [e, z])
    exact ⟨ns, hn, by rw [upd_ne this]; exact q⟩
  · have hil := (List.getElem?_eq_some_iff.mp hi).1
    by_cases hj : i = j
    · subst hj
      rw [List.getElem?_set_self (by simpa using hil)] at e
      cases e
      obtain ⟨v, a1, a2⟩ := s.good.get hi
      exact ⟨v, a1, hI v a2⟩
    · rw [List.getElem?_set_ne hj] at e
      by_cases hjp : p = j
      · subst hjp
        rw [List.getElem?_set_self hp] at e
        cases e
        obtain ⟨v, hv⟩ := hPv
        exact ⟨v, hv, hP v hv⟩
      · rw [List.getElem?_set_ne hjp] at e
        obtain ⟨v, a1, a2⟩ := s.good.get e
        exact ⟨v, a1, hb j R (Ne.symm hjp) (Ne.symm hj) e v H us vs' hc a2⟩
end
end Cv

namespace Cv
open PySem PySem.Spec PyProof.Rows L2 RZ
open AutoSeq1 (wpAny_loadPart')
/-! ### an instance without an __eq__ of its own against an int -/
theorem int_eq_ref (l : Addr) (C dx : Addr) (i : Int) (t : Tok) : Meets (Builtin.«int.__eq__» ⟨[.int i t, .ref l], []⟩) (fun _ R s => s.heap.get? l = some (PySem.W.instObj C dx) ∧ R (.ok (.ret .notImplemented)) s) :=
  .of_wp fun prog w A R s h => by
    obtain ⟨hp, g, d, tk, os⟩ := s
    obtain ⟨hl, h⟩ := h
    wp_walk using wpAny_loadPart' hl
    exact ⟨_, rfl, h⟩
section
variable {M : Model} {prog : Program} {w : World} {A : Around} {E : Value → Shared → Prop} {s : Shared} {K : PySem.W.Frag} {x C dx : Addr} {od : Option Obj} {i : Int} {t : Tok}
theorem same_refI {R : Bool → Shared → Prop} (h : R false s) : wpAny M A (isSame (.ref x) (.int i t)) R E s := wpAny_of_eq (rfl : isSame (.ref x) (.int i t) = pure false) h
theorem objEq_int {Q : Value → Shared → Prop} (X : K.In s.heap) (I : PySem.W.InstAt s.heap x (PySem.W.instObj C dx) C od) (hm : PySem.W.mroIn K C (.type "object") = some true) (hq : Q .notImplemented s) :
    wpAny (model prog w) A (call (.builtin "object.__eq__") [.ref x, .int i t]) Q E s := by
  refine wpAny_call (codeAny_call_builtin F.cmp_object.eq.plain F.cmpEntry_eq (PySem.W.check_slot F.cmpKind_eq F.cmpSplit_eq (I.type.andThen (PySem.W.looks_mroIn X hm)) (F.cmpArgs_eq _ _) ?_))
  unfold Builtin.«object.__eq__»
  repeat (first | with_reducible refine same_refI ?_ | wp_step)
  exact hq
theorem sub_intC : PySem.W.subIn K (.type "int") (.ref C) = some false := by
  have e : fastBuiltinMro "int" = some [.type "int", .type "object"] := by decide +kernel
  show (fastBuiltinMro "int").map (·.contains (.ref C)) = some false
  rw [e]
  simp
theorem rc_int (hu : A.units < cLine) (X : K.In s.heap) (I : PySem.W.InstAt s.heap x (PySem.W.instObj C dx) C od) (hm : PySem.W.mroIn K C (.type "object") = some true) (hs : PySem.W.findIn K (.ref C) "__eq__" = some (some (.builtin "object.__eq__"))) :
    SeqAt.RcAt A s (.ref x) (.int i t) false := fun prog w E Q h => by
  have ti : s.TypeIs (.int i t) "int" := typeIs_int s i t
  have left : wpAny (model prog w) A (tryCompare (.ref x) "__eq__" (.int i t)) (fun r s' => r = none ∧ s' = s) E s := by
    unfold tryCompare
    exact wpAny_bind (HN.ifBound_objEq X I hs (objEq_int X I hm (wpAny_pure ⟨rfl, rfl⟩)))
  have right : wpAny (model prog w) A (tryCompare (.int i t) "__eq__" (.ref x)) (fun r s' => r = none ∧ s' = s) E s :=
    wpAny_tryCompare_declines ti F.slot_int_eq_refl (call_meets F.slot_int_eq_refl ti F.entry_int_eq (F.args_int_eq_2 _ _) (int_eq_ref x C dx i t) ⟨I.at_, rfl, rfl, rfl⟩)
  simp only [richCompare, cmpInfo_Eq, oneThing_ref]
  refine wpAny_holding (wpAny_bind (wpAny_cRoomFor hu (wpAny_bind (I.type.here (wpAny_bind (wpAny_typeOf ti ?_))))))
  split
  · refine wpAny_bind ((PySem.W.looks_subIn X sub_intC).here ?_)
    simp only [Bool.false_eq_true, if_false, Bool.not_false, if_true]
    refine wpAny_bind (m := tryCompare (.ref x) _ (.int i t)) (wpAny_mono left (fun r s1 z => ?_) fun _ _ e => e)
    obtain ⟨rfl, rfl⟩ := z
    refine wpAny_bind (m := tryCompare (.int i t) _ (.ref x)) (wpAny_mono right (fun r s2 z => ?_) fun _ _ e => e)
    obtain ⟨rfl, rfl⟩ := z
    exact wpAny_bind (wpAny_rule (wpAny_bind (same_refI (wpAny_pure h))))
  · rename_i q
    exact absurd (by simp) q
end
section
variable {d : Option Addr} {X : Cx} {B : Hp} {ρ : Ro d} {a b c e : Expr} {es : List Expr} {pos : Pos} {n : Int}
/-- what the class says of == -/
structure PlainEq (K : PySem.W.Frag) (C : Addr) : Prop where
  o : PySem.W.mroIn K C (.type "object") = some true
  e : PySem.W.findIn K (.ref C) "__eq__" = some (some (.builtin "object.__eq__"))
theorem op_eq_insI (hu : X.A.units < cLine) : OpR X (compareOp .Eq) (fun x y H Q => ∃ p C dx fs i, x = .ref p ∧ y = .int i ∧ H p = some (.ins C dx fs) ∧ PlainEq X.K C ∧ Q (.bl false) H) := by
  intro pins s σ H x y v u Q I rx ry h
  obtain ⟨p, C, dx, fs, i, rfl, rfl, hp, pe, q⟩ := h
  cases rx
  obtain ⟨t, rfl⟩ := ry
  obtain ⟨_, _, _, ho, _⟩ := I.hok p _ hp
  obtain ⟨mA, O, _⟩ := ins_get I.hok hp
  obtain ⟨od, J, _⟩ := O.look
  exact rc_int hu I.kIn J pe.o pe.e _ _ _ _ ⟨.bl false, H, I, rfl, q⟩
theorem t_eqInsI {C : Addr} {F : List (Str × Rp d)} (hu : X.A.units < cLine) (pe : PlainEq X.K C) (ha : EX X B ρ a (insR C F)) (hb : EX X B ρ b (rI n)) : TX X B ρ (.Compare a [.Eq] [b] pos) (is false) :=
  t_cmp (op_eq_insI hu) (nomark _) ha hb fun x y H σ Q _ hx hy q => by
    obtain ⟨p, _, rfl, dx, fs, h1, _⟩ := hx
    exact ⟨p, C, dx, fs, n, rfl, hy, h1, pe, q _ H (Ext.refl H) rfl⟩
/-- z in (1, 2, ..) -/
theorem t_inTI {ns : List Int} {z : Int} (ha : EX X B ρ a (rI z)) (hb : EX X B ρ b (dat X.K (tI ns))) (hm : behindInMarks CmpOp.In b = false := by rfl) : TX X B ρ (.Compare a [.In] [b] pos) (is (decide (z ∈ ns))) :=
  t_cmp op_in_seq hm ha hb fun x y H σ Q _ hx hy q => by
    obtain rfl : x = .int z := hx
    obtain ⟨p, rfl, h1⟩ := hy.tupI
    refine ⟨p, _, rfl, .inr h1, rfl, ?_, ?_⟩
    · rw [List.all_eq_true]
      intro v hv
      obtain ⟨n, _, rfl⟩ := List.mem_map.mp hv
      rfl
    · show Q (V.bl (if false = true then !inV (.int z) (ns.map V.int) else inV (.int z) (ns.map V.int))) H
      rw [if_neg Bool.false_ne_true, inV_ints]
      exact q _ H (Ext.refl H) rfl
theorem drl_rep {K : PySem.W.Frag} {H : Hp} {l0 : List D} {vs : List V} (g : DRl K H l0 vs) : ∀ k : Nat, DRl K H (List.replicate k l0).flatten (List.replicate k vs).flatten
  | 0 => DRl.nil
  | k + 1 => by
    have ih := drl_rep g k
    rw [List.replicate_succ, List.replicate_succ, List.flatten_cons, List.flatten_cons]
    refine ⟨by rw [List.length_append, List.length_append, g.1, ih.1], fun i e' v' h1 h2 => ?_⟩
    have hl := g.1
    by_cases hi : i < l0.length
    · rw [List.getElem?_append_left hi] at h1
      rw [List.getElem?_append_left (by omega)] at h2
      exact g.2 i e' v' h1 h2
    · rw [List.getElem?_append_right (by omega)] at h1 h2
      rw [← hl] at h2
      exact ih.2 _ e' v' h1 h2
/-- [e] * n, the item and the number told -/
theorem x_lst1E {P : D → Prop} (h : EX X B ρ e (dE X.K P)) (hs : starEach [e] X.env = (false, eval e X.env) :: starEach [] X.env := by rfl) : EX X B ρ (.List [e] pos) (newE B X.K fun ds => ∃ w, P w ∧ ds = [w]) :=
  PE_wk (pe_lst (a_cons h a_nil hs)) fun σ H Q ⟨s, q⟩ => ⟨s, fun vs H1 e1 hv => by
    obtain ⟨x, rfl, w, hw, hx⟩ := hv.one
    refine ⟨by show 1 ≤ sizeLine; rw [sizeLine_eq]; omega, fun p hp => q _ _ (e1.trans (Ext.new hp)) ?_⟩
    obtain ⟨hB, hpd⟩ := (s.mono e1).fresh hp
    exact ⟨[w], ⟨w, hw, rfl⟩, p, hB, rfl, hpd, [x], upd_same, (DRl.nil.snoc hx).tk (Ext.new (d := d) hp).tk⟩⟩
theorem x_repE {S : List D → Prop} {P : Int → Prop} (ha : EX X B ρ a (newE B X.K S)) (hb : EX X B ρ b (iE P)) (hn : ∀ l0 n, S l0 → P n → l0.length * n.toNat ≤ 1000 ∧ -(2 ^ 62) ≤ n ∧ n < 2 ^ 62) : EX X B ρ (.BinOp a .Mult b pos) (newE B X.K fun ds => ∃ l0 n, S l0 ∧ P n ∧ ds = (List.replicate n.toNat l0).flatten) :=
  x_op2 op_rep ha hb fun x y H σ Q s hx hy q => by
    obtain ⟨l0, hS, l, _, rfl, hl, vs, g1, g2⟩ := hx
    obtain ⟨n, hn', hy⟩ := hy
    obtain ⟨b1, b2, b3⟩ := hn l0 n hS hn'
    refine ⟨l, n, vs, rfl, hy, g1, by omega, by omega, by rw [← g2.1]; exact Nat.le_of_lt (small1000 b1), fun p hp => q _ _ (Ext.new hp) ?_⟩
    obtain ⟨hB, hpd⟩ := s.fresh hp
    exact ⟨_, ⟨l0, n, hS, hn', rfl⟩, p, hB, rfl, hpd, _, upd_same, (drl_rep g2 n.toNat).tk (Ext.new (d := d) hp).tk⟩
/-- xs[i], xs told by Q -/
theorem x_ixSE {β : Type} {k : Kd d β} {Q : (Addr × List β) → Prop} {P : Int → Prop} (ha : EX X B ρ a (exR Q (kdS k).R)) (hb : EX X B ρ b (iE P)) (hw : ∀ t, Q t → ∀ j, P j → 0 ≤ j ∧ j < t.2.length) (hs : PlainIx b := by exact (fun _ _ => rfl)) : EX X B ρ (.Subscript a b pos) (exR (fun s => ∃ t, Q t ∧ ∃ i : Nat, P i ∧ t.2[i]? = some s) k.R) :=
  PE_wk (pe_ix ix_list ha hb hs) fun σ H Q' ⟨s, q⟩ => ⟨s, fun x H1 e1 hx => ⟨s.mono e1, fun y H2 e2 hy => by
    obtain ⟨t, ht, hx⟩ := hx
    obtain ⟨rfl, hd, us, h1, h2, h3⟩ := ((kdS k).R t).st e2 hx
    obtain ⟨j, hj, hy⟩ := hy
    obtain ⟨h0, hl⟩ := hw t ht j hj
    obtain ⟨i, rfl⟩ : ∃ i : Nat, j = (i : Int) := ⟨j.toNat, by omega⟩
    have hi : i < t.2.length := by omega
    have hu : us[i]? = some (us[i]'(by omega)) := List.getElem?_eq_getElem _
    exact ⟨t.1, us, _, _, rfl, hy, SqL.of h1, atI_nat hu, q _ H2 (e1.trans e2) ⟨_, ⟨t, ht, i, hj, List.getElem?_eq_getElem hi⟩, h3 i _ _ (List.getElem?_eq_getElem hi) hu⟩⟩⟩⟩
theorem x_eqBB {p q : Bool} (ha : EX X B ρ a (rB p)) (hb : EX X B ρ b (rB q)) : EX X B ρ (.Compare a [.Eq] [b] pos) (rB (decide (p = q))) :=
  x_cmp op_eq (nomark _) ha hb fun x y H σ Q _ hx hy k => by
    obtain rfl : x = .bl p := hx
    obtain rfl : y = .bl q := hy
    refine ⟨rfl, k _ H (Ext.refl H) ?_⟩
    show V.bl _ = V.bl _
    congr 1
    cases p <;> cases q <;> rfl
end
end Cv

namespace Cv
open PySem PySem.Spec PyProof.Rows L2 RZ
section
variable {d : Option Addr} {β γ : Type} {X : Cx} {B : Hp} {ρ ρ' : Ro d} {a b c e e2 iter elt : Expr} {es : List Expr} {R R' Ra Rb : Rp d} {Rs : List (Rp d)} {pos : Pos} {m n : Int} {st : Stmt} {rest body orelse : List Stmt} {Pre Mid : L2.St → Hp → Prop} {Po : Ends}
/-- [elt for x in xs], xs a tracked list of things; elt data, may raise -/
theorem x_lcSX {EK : XK} {k : Kd d β} {T : List β} {l : Addr} (j : Nat) {x : Str} {scope : Scope} {tpos : Pos} (P : Nat → D → Prop) (tk : L2.Takes X (fun cls d _ H => EK cls d H)) (hi : EX X B ρ iter (lsR k l T)) (hn : T.length < 2000) (hN : X.N.Nodup) (hok : BlkOk X.N X.env.scope scope [(x, j)])
    (hgn : ∀ (s : Shared) (H : Hp) (C : Addr) (cl : List (Str × Addr)) (fp : List Addr), PG (X.blk s H scope (compEnvC scope cl C X.env) fp) (.Name x tpos) (gName j))
    (hb : ∀ (s : Shared) (H : Hp) (C : Addr) (cl : List (Str × Addr)) (fp : List Addr) (xe : Value → Shared → Prop), Passes (L2.CX X.prog X.w) (blkX X s H scope (compEnvC scope cl C X.env) fp xe) EK → ∀ (i : Nat) (t : β), T[i]? = some t → EX (blkX X s H scope (compEnvC scope cl C X.env) fp xe) B (ρ.set j (some (k.R t))) elt (dE X.K (P i)))
    (hst : X.stack = X.env :: X.outer := by rfl) (hfr : X.env.frame = some X.env.locals := by rfl) (hc : X.calm = true := by rfl) (hs : ∀ x, foldedSetIterable iter X.env x = pure x := by intro _; rfl) :
    EX X B ρ (.ListComp elt [⟨.Name x tpos, iter, [], 0⟩] scope pos) (newE B X.K fun ds => ds.length = T.length ∧ ∀ k w, ds[k]? = some w → P k w) := by
  refine PE_wk (pe_lcE (own := [(x, j)]) (g := gName j) (te := tElt (Z := Nat × β) B X.K (fun z => ρ.set j (some (k.R z.2))) (fun z => T[z.1]? = some z.2) (fun z => P z.1)) tk hst hfr hc hN (pi_list hi) hok hgn (fun s H C cl fp xe hx => elt_of fun z hz => hb s H C cl fp xe hx z.1 z.2 hz) hs) fun σ H Q ⟨s, q⟩ => ⟨s, fun v H1 e1 hv => ?_⟩
  obtain ⟨rfl, hld, us, g1, g2, g3⟩ := hv
  have s1 := s.mono e1
  refine ⟨l, rfl, ⟨us, SqL.of g1⟩, fun Dl hD => ?_⟩
  obtain ⟨hB, hDd⟩ := s1.fresh hD
  refine lc_list (K := X.K) (a := l) (xs := us) (Lc H1 X.K Dl d P) ⟨Ext.new hD, [], [], upd_same, DRl.nil, rfl, fun k w h => by cases h⟩ (fun i H' _ L => SqL.of (L.1.at g1 hld)) (fun i y H' hy L => ?_) (fun H' L => ?_)
  · have hiT : i < T.length := by rw [← g2]; exact (List.getElem?_eq_some_iff.mp hy).1
    have ht : T[i]? = some T[i] := List.getElem?_eq_getElem hiT
    refine ⟨wipe1 _ _ _, ?_⟩
    exact ⟨(i, T[i]), ht, st_wipe (s1.mono L.1) (R := k.R T[i]) ((k.R T[i]).st L.1 (g3 i _ y ht hy)), fun y H2 e2 hy => lc_step hD hDd L e2 hy (Nat.lt_trans hiT hn)⟩
  · obtain ⟨h0, vs, ds, h1, h2, h3, h4⟩ := L
    exact q _ H' (e1.trans h0) ⟨ds, ⟨by rw [h3, g2], h4⟩, Dl, hB, rfl, hDd, vs, h1, h2⟩
/-- x1, x2 = xs, a tracked list of two -/
theorem bx_unpS2 {k : Kd d β} {la : Addr} {t1 t2 : β} (i1 i2 : Nat) {x1 x2 : Str} {q1 q2 q4 : Pos} {kk : Nat} (he : EX X B ρ e (lsR k la [t1, t2])) (h : BX X rest (St B ((ρ.set i1 (some (k.R t1))).set i2 (some (k.R t2)))) Po)
    (hN : X.N.Nodup) (h1 : X.N[i1]? = some x1 := by rfl) (h2 : X.N[i2]? = some x2 := by rfl) (hc : X.calm = true := by rfl) (l1 : Loc X.env.scope x1 := by first | exact Or.inl rfl | exact Or.inr rfl) (l2 : Loc X.env.scope x2 := by first | exact Or.inl rfl | exact Or.inr rfl)
    (f1 : X.fn x1 = true ∨ X.env.scope.names.lookup x1 = some .local := by first | exact .inl rfl | exact .inr rfl | assumption) (f2 : X.fn x2 = true ∨ X.env.scope.names.lookup x2 = some .local := by first | exact .inl rfl | exact .inr rfl | assumption)
    (hs : swapsWithSole [.Tuple [.Name x1 q1, .Name x2 q2] kk q4] e pos.line X.env = pure false := by rfl) (hw : swappedStores [.Tuple [.Name x1 q1, .Name x2 q2] kk q4] e X.env = pure none := by rfl) :
    BX X (.Assign [.Tuple [.Name x1 q1, .Name x2 q2] kk q4] e pos :: rest) (St B ρ) Po := by
  refine bx_cons (Mid := St B ((ρ.set i1 (some (k.R t1))).set i2 (some (k.R t2)))) (PS_wk (ps_asg he (pg_lst hc (pgs_cons (pg_name hN h1 l1 f1) (pgs_cons (pg_name hN h2 l2 f2) pgs_nil))) hs hw) fun E σ H ⟨s, l⟩ => ⟨s, fun v H' e1 hv => ?_⟩) h
  obtain ⟨rfl, hd, us, g1, g2, g3⟩ := hv
  match us, g2 with
  | [v1, v2], _ =>
    refine ⟨la, [v1, v2], rfl, SqL.of g1, rfl, v1, [v2], rfl, v2, [], rfl, rfl, ?_⟩
    exact l.nx _ H' e1.tk ⟨(s.mono e1).ext, (s.mono e1).dr, ((s.mono e1).good.set i1 (R := k.R t1) (g3 0 t1 v1 rfl rfl)).set i2 (R := k.R t2) (g3 1 t2 v2 rfl rfl)⟩
/-- xs + ys, lists of data -/
theorem x_catD {l : Addr} {xs ys : List D} (ha : EX X B ρ a (own X.K l xs)) (hb : EX X B ρ b (newL B X.K ys)) (hz : xs.length + ys.length ≤ 1000) : EX X B ρ (.BinOp a .Add b pos) (newL B X.K (xs ++ ys)) :=
  x_op2 op_cat ha hb fun x y H σ Q s hx hy q => by
    obtain ⟨rfl, hl, us, g1, g2⟩ := hx
    obtain ⟨r, hBr, rfl, hr, ws, g3, g4⟩ := hy
    refine ⟨l, r, us, ws, rfl, rfl, g1, g3, by rw [← g2.1, ← g4.1]; exact Nat.le_of_lt (small1000 hz), fun p hp => q _ _ (Ext.new hp) ?_⟩
    obtain ⟨hB, hpd⟩ := s.fresh hp
    refine ⟨p, hB, rfl, hpd, _, upd_same, DRl.tk (Ext.new (d := d) hp).tk ⟨by rw [List.length_append, List.length_append, g2.1, g4.1], fun i e' v' h1 h2 => ?_⟩⟩
    have hlx := g2.1
    by_cases hi : i < xs.length
    · rw [List.getElem?_append_left hi] at h1
      rw [List.getElem?_append_left (by omega)] at h2
      exact g2.2 i e' v' h1 h2
    · rw [List.getElem?_append_right (by omega)] at h1 h2
      rw [← hlx] at h2
      exact g4.2 _ e' v' h1 h2
/-! ### the outer list changed -/
theorem known_kd {k : Kd d β} {t : β} (i : Nat) (h : ρ[i]? = some (some (k.R t))) : ∀ c ∈ k.adr t, Known c ρ := fun c hc => ⟨i, _, h, fun v H g => (k.live t v H g c hc).2⟩
theorem lsok_snoc {k : Kd d β} {la : Addr} {T : List β} {t : β} (h : LsOk k (la, T)) (hn : ∀ c ∈ k.adr t, c ∉ (kdS k).adr (la, T)) : LsOk k (la, T ++ [t]) := by
  refine ⟨fun u hu => ?_, ?_⟩
  · rcases List.mem_append.mp hu with hu | hu
    · exact h.i u hu
    · rw [List.mem_singleton.mp hu]
      exact fun z => hn la z List.mem_cons_self
  · show (T ++ [t]).Pairwise _
    rw [List.pairwise_append]
    refine ⟨h.dj, List.pairwise_singleton _ _, fun u hu u' hu' c hc hc' => ?_⟩
    rw [List.mem_singleton.mp hu'] at hc'
    exact hn c hc' (List.mem_cons_of_mem _ (List.mem_flatMap.mpr ⟨u, hu, hc⟩))
theorem lsok_drop {k : Kd d β} {la : Addr} {T : List β} (h : LsOk k (la, T)) : LsOk k (la, T.dropLast) := ⟨fun u hu => h.i u (List.dropLast_subset T hu), h.dj.sublist (List.dropLast_sublist T)⟩
/-- xs.append(e), e a new thing -/
theorem bx_appS (i : Nat) {k : Kd d β} {P : β → Prop} {x : Str} {p1 p2 p3 p4 : Pos} {la : Addr} {T : List β} (ls : List Addr) (hls : ∀ l ∈ ls, Known l ρ) (hi : ρ[i]? = some (some (lsR k la T))) (he : ∀ B' : Hp, EX X B' ρ e (newK B' k P)) (hB : B la = none) (hT : ∀ t ∈ T, la ∉ k.adr t) (hla : la ∈ ls) (hb : IndBut la i ρ) (hz : T.length ≤ 1000)
    (h : ∀ t, P t → (∀ c ∈ k.adr t, B c = none ∧ c ∉ ls) → BX X rest (St B (ρ.set i (some (lsR k la (T ++ [t]))))) Po)
    (hN : X.N[i]? = some x := by rfl) (hv : Vis X.env.scope x := by first | exact Or.inl rfl | exact Or.inr (Or.inl rfl) | exact Or.inr (Or.inr rfl)) (hd : (x == ("__debug__" : Str)) = false := by decide) (hcd : (x == ("__classdict__" : Str)) = false := by decide)
    (hbase : attributeBase (.Name x p1) "append" X.env (eval (.Name x p1) X.env) = eval (.Name x p1) X.env := by rfl)
    (hfew : ((backTo p3 (starEach (e :: []) X.env)).all (fun x => !x.1) && (backToKw p3 (keywordEach [] X.env)).all (fun x => x.1.isSome)
      && decide ((e :: []).length + ([] : List Keyword).length + (if ([] : List Keyword).isEmpty then 0 else 1) < 30)) = true := by rfl)
    (hline : (p2.endLine == p3.line) = true := by rfl) (hs : starEach (e :: []) X.env = (false, eval e X.env) :: starEach [] X.env := by rfl) (hplain : (backTo p3 (starEach [] X.env)).any (·.1) = false := by rfl)
    (hsw : swapsWith (.Call (.Attribute (.Name x p1) "append" p2) [e] [] p3) none p4.line X.env = pure false := by rfl) :
    BX X (.Expr (.Call (.Attribute (.Name x p1) "append" p2) [e] [] p3) p4 :: rest) (St B ρ) Po := by
  have key : PE X e (fun σ H Q => St B ρ σ H ∧ ∀ v H', Ext d H H' → (newK H k P).p v H' → Q v H') := ⟨fun pins s σ H Q I ⟨st, q⟩ => (he H).run pins s σ H Q I ⟨⟨Ext.refl H, st.dr, st.good⟩, q⟩⟩
  refine bx_cons (Mid := fun σ H => ∃ t : β, (P t ∧ ∀ c ∈ k.adr t, B c = none ∧ c ∉ ls) ∧ St B (ρ.set i (some (lsR k la (T ++ [t])))) σ H) (PS_wk (ps_expr (pe_bm PySem.F.plainAttrs_list PySem.F.slot_list_append PySem.F.type_list_append mt_append (pe_var hN hv hd hcd) (pa_cons key pa_nil hs) hbase hfew hline hs hplain) hsw) fun E σ H ⟨s, q⟩ => ?_) (bx_ex fun t ht => h t ht.1 ht.2)
  obtain ⟨v, h1, rfl, hl, vs, h2, h3, h4⟩ := s.good.get hi
  refine ⟨_, h1, Or.inl ⟨rfl, _, SqL.of h2⟩, s, fun y H1 e1 hy => ?_⟩
  obtain ⟨t, ⟨hf, hP⟩, hy⟩ := hy
  have s1 := s.mono e1
  have g2 := e1.at h2 hl
  have fresh : ∀ c ∈ k.adr t, B c = none ∧ c ∉ ls := fun c hc => ⟨(s.fresh (hf c hc)).1, fun hcl => by
    obtain ⟨n, R, hn, hR⟩ := hls c hcl
    obtain ⟨u, _, g⟩ := s.good.get hn
    exact hR u H g (hf c hc)⟩
  have nla : la ∉ k.adr t := fun z => (fresh la z).2 hla
  refine ⟨la, vs, y, rfl, rfl, g2, small1000 (by rw [h3]; exact hz), ?_⟩
  refine q.nx σ _ (e1.tk.trans (Tk.lst g2)) ⟨t, ⟨hP, fresh⟩, st_chg s1 hi hB hl g2 hb fun v hv => ?_⟩
  obtain ⟨w1, w2, ws, w3, w4, w5⟩ := hv
  rw [g2] at w3
  cases w3
  refine ⟨w1, w2, vs ++ [y], upd_same, by simp [h3], fun j b u hb' hu => ?_⟩
  by_cases hj : j < T.length
  · rw [List.getElem?_append_left hj] at hb'
    rw [List.getElem?_append_left (by omega)] at hu
    exact k.put b u H1 la _ _ g2 (hT b (List.mem_of_getElem? hb')) (w5 j b u hb' hu)
  · have hj' : j = T.length := by
      have := (List.getElem?_eq_some_iff.mp hb').1
      simp at this; omega
    subst hj'
    rw [List.getElem?_append_right (Nat.le_refl _), Nat.sub_self] at hb'
    rw [List.getElem?_append_right (by omega), h3, Nat.sub_self] at hu
    cases hb'; cases hu
    exact k.put t y H1 la _ _ g2 nla hy
/-- xs.pop() -/
theorem bx_popS (i : Nat) {k : Kd d β} {x : Str} {p1 p2 p3 p4 : Pos} {la : Addr} {T : List β} (hi : ρ[i]? = some (some (lsR k la T))) (hz : T ≠ []) (hB : B la = none) (hT : ∀ t ∈ T, la ∉ k.adr t) (hb : IndBut la i ρ) (h : BX X rest (St B (ρ.set i (some (lsR k la T.dropLast)))) Po)
    (hN : X.N[i]? = some x := by rfl) (hv : Vis X.env.scope x := by first | exact Or.inl rfl | exact Or.inr (Or.inl rfl) | exact Or.inr (Or.inr rfl)) (hd : (x == ("__debug__" : Str)) = false := by decide) (hcd : (x == ("__classdict__" : Str)) = false := by decide)
    (hbase : attributeBase (.Name x p1) "pop" X.env (eval (.Name x p1) X.env) = eval (.Name x p1) X.env := by rfl) (hline : (p2.endLine == p3.line) = true := by rfl)
    (hsw : swapsWith (.Call (.Attribute (.Name x p1) "pop" p2) [] [] p3) none p4.line X.env = pure false := by rfl) :
    BX X (.Expr (.Call (.Attribute (.Name x p1) "pop" p2) [] [] p3) p4 :: rest) (St B ρ) Po := by
  refine bx_cons (Mid := St B (ρ.set i (some (lsR k la T.dropLast)))) (PS_wk (ps_expr (pe_bm0 PySem.F.plainAttrs_list PySem.F.slot_list_pop PySem.F.type_list_pop mt_pop (pe_var hN hv hd hcd) hbase hline) hsw) fun E σ H ⟨s, q⟩ => ?_) h
  obtain ⟨v, h1, rfl, hl, vs, h2, h3, h4⟩ := s.good.get hi
  have hne : vs ≠ [] := fun z => hz (List.length_eq_zero_iff.mp (by rw [← h3, z]; rfl))
  refine ⟨_, h1, Or.inl ⟨rfl, _, SqL.of h2⟩, la, vs, vs.getLast hne, rfl, rfl, h2, by rw [List.getLast_eq_getElem]; exact List.getElem?_eq_getElem _, q.nx σ _ (Tk.lst h2) (st_chg s hi hB hl h2 hb fun v hv => ?_)⟩
  obtain ⟨w1, w2, ws, w3, w4, w5⟩ := hv
  rw [h2] at w3
  cases w3
  refine ⟨w1, w2, vs.dropLast, upd_same, by rw [List.length_dropLast, List.length_dropLast, h3], fun j b u hb' hu => ?_⟩
  rw [List.getElem?_dropLast] at hb' hu
  split at hb'
  · rw [if_pos (by rw [h3]; assumption)] at hu
    exact k.put b u H la _ _ h2 (hT b (List.mem_of_getElem? hb')) (w5 j b u hb' hu)
  · cases hb'
/-- [e1, e2], two new things -/
theorem x_lst2K {k : Kd d β} {P1 P2 : β → Prop} (h1 : ∀ B', EX X B' ρ a (newK B' k P1)) (h2 : ∀ B', EX X B' ρ b (newK B' k P2)) (hs1 : starEach [a, b] X.env = (false, eval a X.env) :: starEach [b] X.env := by rfl) (hs2 : starEach [b] X.env = (false, eval b X.env) :: starEach [] X.env := by rfl) :
    EX X B ρ (.List [a, b] pos) (newK B (kdS k) fun z => LsOk k z ∧ ∃ t1 t2, P1 t1 ∧ P2 t2 ∧ z.2 = [t1, t2]) := by
  have k1 : PE X a (fun σ H Q => St B ρ σ H ∧ ∀ v H', Ext d H H' → (newK H k P1).p v H' → Q v H') := ⟨fun pins s σ H Q I ⟨st, q⟩ => (h1 H).run pins s σ H Q I ⟨⟨Ext.refl H, st.dr, st.good⟩, q⟩⟩
  have k2 : PE X b (fun σ H Q => St B ρ σ H ∧ ∀ v H', Ext d H H' → (newK H k P2).p v H' → Q v H') := ⟨fun pins s σ H Q I ⟨st, q⟩ => (h2 H).run pins s σ H Q I ⟨⟨Ext.refl H, st.dr, st.good⟩, q⟩⟩
  refine PE_wk (pe_lst (pa_cons k1 (pa_cons k2 pa_nil hs2) hs1)) fun σ H Q ⟨s, q⟩ => ⟨s, fun v1 H1 e1 g1 => ⟨s.mono e1, fun v2 H2 e2 g2 => ⟨by show 2 ≤ sizeLine; rw [sizeLine_eq]; omega, fun p hp => q _ _ (e1.trans (e2.trans (Ext.new hp))) ?_⟩⟩⟩
  obtain ⟨t1, ⟨f1, p1⟩, r1⟩ := g1
  obtain ⟨t2, ⟨f2, p2⟩, r2⟩ := g2
  have s1 := s.mono e1
  have s2 := s1.mono e2
  obtain ⟨hB, hpd⟩ := s2.fresh hp
  have r1' := (k.R t1).st e2 r1
  have n1 : ∀ c ∈ k.adr t1, c ≠ p := fun c hc z => (k.live t1 v1 H2 r1' c hc).2 (by rw [z]; exact hp)
  have n2 : ∀ c ∈ k.adr t2, c ≠ p := fun c hc z => (k.live t2 v2 H2 r2 c hc).2 (by rw [z]; exact hp)
  have e3 : Ext d H2 (upd H2 p (.lst [v1, v2])) := Ext.new hp
  refine ⟨(p, [t1, t2]), ⟨fun c hc => ?_, ⟨fun t ht => ?_, ?_⟩, t1, t2, p1, p2, rfl⟩, rfl, hpd, [v1, v2], upd_same, rfl, fun j t u ht hu => ?_⟩
  · rcases List.mem_cons.mp hc with rfl | hc
    · exact hB
    · obtain ⟨t, ht, hc2⟩ := List.mem_flatMap.mp hc
      rcases List.mem_cons.mp ht with rfl | ht
      · exact (s.fresh (f1 c hc2)).1
      · rw [List.mem_singleton.mp ht] at hc2
        exact (s1.fresh (f2 c hc2)).1
  · rcases List.mem_cons.mp ht with rfl | ht
    · exact fun z => n1 p z rfl
    · rw [List.mem_singleton.mp ht]
      exact fun z => n2 p z rfl
  · refine List.pairwise_pair.mpr fun c hc hc' => ?_
    exact (k.live t1 v1 H1 r1 c hc).2 (f2 c hc')
  · match j, ht, hu with
    | 0, ht, hu => cases ht; cases hu; exact (k.R t1).st e3 r1'
    | 1, ht, hu => cases ht; cases hu; exact (k.R t2).st e3 r2
    | j + 2, ht, hu => cases ht
theorem x_nilK (h : True := trivial) : ∀ B', EX X B' ρ (.List [] pos) (newK B' (kdL d X.K) fun t => t.2 = []) := fun B' => x_sub (x_lst (ds := []) a_nil) fun v H ⟨p, hp, hv⟩ => ⟨(p, []), ⟨fun c hc => by rw [List.mem_singleton.mp hc]; exact hp, rfl⟩, hv⟩
end
end Cv

namespace Cv
open PySem PySem.Spec PyProof.Rows L2 RZ
section
variable {d : Option Addr} {β γ : Type} {X : Cx} {B : Hp} {ρ ρ' : Ro d} {a b c e e2 iter elt : Expr} {es : List Expr} {R R' Ra Rb : Rp d} {Rs : List (Rp d)} {pos : Pos} {m n : Int} {st : Stmt} {rest body orelse : List Stmt} {Pre Mid : L2.St → Hp → Prop} {Po : Ends}
/-- xs[j] = e, the index told by P -/
theorem bx_setitemI (i : Nat) {x : Str} {p1 p2 p3 : Pos} {l : Addr} {ds : List D} {S : D → Prop} {P : Int → Prop} (hi : ρ[i]? = some (some (own X.K l ds))) (he : EX X B ρ e (dE X.K S)) (hk : EX X B ρ b (iE P)) (hP : ∀ j, P j → 0 ≤ j ∧ j < ds.length) (hB : B l = none) (hb : IndBut l i ρ)
    (h : ∀ w (k : Nat), S w → P k → BX X rest (St B (ρ.set i (some (own X.K l (ds.set k w))))) Po)
    (hN : X.N[i]? = some x := by rfl) (hv : Vis X.env.scope x := by first | exact Or.inl rfl | exact Or.inr (Or.inl rfl) | exact Or.inr (Or.inr rfl)) (hd : (x == ("__debug__" : Str)) = false := by decide) (hcd : (x == ("__classdict__" : Str)) = false := by decide)
    (ha : ∀ v, assign (.Subscript (.Name x p1) b p2) X.env v = (do
      let ov ← holding [v] (eval (.Name x p1) X.env)
      let iv ← holding [v, ov] (eval b X.env)
      standAt p2
      holding [v, ov, iv] (setItem ov iv v)
      release [v, ov, iv] []) := by intro _; rfl)
    (hs : swapsWithSole [.Subscript (.Name x p1) b p2] e p3.line X.env = pure false := by rfl) (hw : swappedStores [.Subscript (.Name x p1) b p2] e X.env = pure none := by rfl) (h1 : (assignEach [.Subscript (.Name x p1) b p2] X.env).map (·.2) = [assign (.Subscript (.Name x p1) b p2) X.env] := by rfl) :
    BX X (.Assign [.Subscript (.Name x p1) b p2] e p3 :: rest) (St B ρ) Po := by
  refine bx_cons (Mid := fun σ H => ∃ z : D × Nat, (S z.1 ∧ P z.2) ∧ St B (ρ.set i (some (own X.K l (ds.set z.2 z.1)))) σ H) (PS_wk (ps_asg he (pg_sub (pe_var hN hv hd hcd) hk set_list ha) hs hw h1) fun E σ H ⟨s, q⟩ => ⟨s, fun y H1 e1 ⟨w, hw, hy⟩ => ?_⟩) (bx_ex fun z hz => h z.1 z.2 hz.1 hz.2)
  have s1 := s.mono e1
  obtain ⟨v, a1, rfl, hl, vs, a2, a3⟩ := s1.good.get hi
  refine ⟨_, a1, s1, fun iv H2 e2 ⟨j, hj, hiv⟩ => ?_⟩
  obtain ⟨j0, jl⟩ := hP j hj
  obtain ⟨k, rfl⟩ : ∃ k : Nat, j = (k : Int) := ⟨j.toNat, by omega⟩
  have hkl : k < ds.length := by omega
  have g2 := e2.at a2 hl
  have hkv : k < vs.length := by rw [← a3.1]; exact hkl
  refine ⟨l, vs, k, k, rfl, hiv, g2, by unfold ixN; rw [if_pos (by omega), if_pos (by omega)]; simp, q.nx σ _ ((e1.tk.trans e2.tk).trans (Tk.lst g2)) ⟨(w, k), ⟨hw, hj⟩, st_chg (s1.mono e2) hi hB hl g2 hb fun v hv => ?_⟩⟩
  have kk := Tk.lst (ys := vs.set k y) g2
  have a3' := (a3.tk e2.tk).tk kk
  refine ⟨hv.1, hl, _, upd_same, by simp [a3.1], fun j e' v' b1 b2 => ?_⟩
  by_cases hj : k = j
  · subst hj
    rw [List.getElem?_set_self hkl] at b1
    rw [List.getElem?_set_self hkv] at b2
    cases b1; cases b2
    exact DR.tk kk (DR.tk e2.tk hy)
  · rw [List.getElem?_set_ne hj] at b1 b2
    exact a3'.2 j e' v' b1 b2
/-- b.append(e), b a list told by R -/
theorem bx_appendR {S : D → Prop} {p2 p3 p4 : Pos} (h0 : EX X B ρ b R) (hR : ∀ v H, R.p v H → ∃ c vs, v = .ref c ∧ some c ≠ d ∧ H c = some (.lst vs) ∧ vs.length ≤ 1000) (he : EX X B ρ e (dE X.K S))
    (hM : ∀ w σ H c vs y, S w → St B ρ σ H → R.p (.ref c) H → H c = some (.lst vs) → DR X.K H w y → Mid σ (upd H c (.lst (vs ++ [y])))) (h : BX X rest Mid Po)
    (hbase : attributeBase b "append" X.env (eval b X.env) = eval b X.env := by rfl)
    (hfew : ((backTo p3 (starEach (e :: []) X.env)).all (fun x => !x.1) && (backToKw p3 (keywordEach [] X.env)).all (fun x => x.1.isSome)
      && decide ((e :: []).length + ([] : List Keyword).length + (if ([] : List Keyword).isEmpty then 0 else 1) < 30)) = true := by rfl)
    (hline : (p2.endLine == p3.line) = true := by rfl) (hs : starEach (e :: []) X.env = (false, eval e X.env) :: starEach [] X.env := by rfl) (hplain : (backTo p3 (starEach [] X.env)).any (·.1) = false := by rfl)
    (hsw : swapsWith (.Call (.Attribute b "append" p2) [e] [] p3) none p4.line X.env = pure false := by rfl) :
    BX X (.Expr (.Call (.Attribute b "append" p2) [e] [] p3) p4 :: rest) (St B ρ) Po := by
  refine bx_cons (Mid := Mid) (PS_wk (ps_expr (pe_bm PySem.F.plainAttrs_list PySem.F.slot_list_append PySem.F.type_list_append mt_append h0 (a_cons he a_nil hs) hbase hfew hline hs hplain) hsw) fun E σ H ⟨s, q⟩ => ⟨s, fun v H1 e1 hv => ?_⟩) h
  obtain ⟨c, vs, rfl, hcd, hc, hz⟩ := hR v H1 hv
  have s1 := s.mono e1
  refine ⟨Or.inl ⟨rfl, _, SqL.of hc⟩, s1, fun us H2 e2 hus => ?_⟩
  obtain ⟨y, rfl, w, hw, hy⟩ := hus.one
  have g2 := e2.at hc hcd
  exact ⟨c, vs, y, rfl, rfl, g2, small1000 hz, q.nx σ _ ((e1.tk.trans e2.tk).trans (Tk.lst g2)) (hM w σ H2 c vs y hw (s1.mono e2) (R.st e2 hv) g2 hy)⟩
/-! ### lists of lists, told by their places and by the greatest length -/
def kdA (d : Option Addr) (M : Nat) : Kd d (Addr × List Addr) := ⟨fun t => ⟨fun v H => v = .ref t.1 ∧ some t.1 ≠ d ∧ H t.1 = some (.lst (t.2.map V.ref)) ∧ ∀ c ∈ t.2, some c ≠ d ∧ ∃ us, H c = some (.lst us) ∧ us.length ≤ M,
    fun e ⟨h1, h2, h3, h4⟩ => ⟨h1, h2, e.at h3 h2, fun c hc => let ⟨q1, us, q2, q3⟩ := h4 c hc; ⟨q1, us, e.at q2 q1, q3⟩⟩⟩, fun t => t.1 :: t.2,
  fun t v H ⟨h1, h2, h3, h4⟩ c hc => by
    rcases List.mem_cons.mp hc with rfl | hc
    · exact ⟨h2, by rw [h3]; exact fun z => nomatch z⟩
    · obtain ⟨q1, us, q2, _⟩ := h4 c hc
      exact ⟨q1, by rw [q2]; exact fun z => nomatch z⟩,
  fun t v H l xs ys hl hn ⟨h1, h2, h3, h4⟩ => ⟨h1, h2, by rw [upd_ne (fun z => hn (by simp [z]))]; exact h3, fun c hc => let ⟨q1, us, q2, q3⟩ := h4 c hc; ⟨q1, us, by rw [upd_ne (fun z => hn (List.mem_cons_of_mem _ (by rw [← z]; exact hc)))]; exact q2, q3⟩⟩⟩
theorem lsA_up {M M' : Nat} (h : M ≤ M') {la : Addr} {T : List (Addr × List Addr)} {v : V} {H : Hp} (q : (lsR (kdA d M) la T).p v H) : (lsR (kdA d M') la T).p v H := by
  obtain ⟨h1, h2, vs, h3, h4, h5⟩ := q
  refine ⟨h1, h2, vs, h3, h4, fun j t u ht hu => ?_⟩
  obtain ⟨g1, g2, g3, g4⟩ := h5 j t u ht hu
  exact ⟨g1, g2, g3, fun c hc => let ⟨q1, us, q2, q3⟩ := g4 c hc; ⟨q1, us, q2, Nat.le_trans q3 h⟩⟩
def places2 (x : Addr × List (Addr × List D)) : Addr × List Addr := (x.1, x.2.map (·.1))
theorem l3_A {K : PySem.W.Frag} {M : Nat} {la : Addr} {T : List (Addr × List (Addr × List D))} {v : V} {H : Hp} (hM : ∀ x ∈ T, ∀ s ∈ x.2, s.2.length ≤ M) (q : (lsR (kdS (kdL d K)) la T).p v H) : (lsR (kdA d M) la (T.map places2)).p v H := by
  obtain ⟨h1, h2, vs, h3, h4, h5⟩ := q
  refine ⟨h1, h2, vs, h3, by rw [List.length_map]; exact h4, fun j t u ht hu => ?_⟩
  rw [List.getElem?_map] at ht
  cases hx : T[j]? with
  | none => rw [hx] at ht; cases ht
  | some x =>
    rw [hx] at ht; cases ht
    obtain ⟨g1, g2, ws, g3, g4, g5⟩ := h5 j x u hx hu
    have e : ws = (places2 x).2.map V.ref := List.ext_getElem? fun i => by
      unfold places2
      rw [List.map_map, List.getElem?_map]
      by_cases hi : i < x.2.length
      · have hs : x.2[i]? = some x.2[i] := List.getElem?_eq_getElem hi
        have hw : ws[i]? = some (ws[i]'(by omega)) := List.getElem?_eq_getElem _
        obtain ⟨q1, _⟩ := g5 i _ _ hs hw
        rw [hs, hw, q1]; rfl
      · rw [List.getElem?_eq_none (by omega), List.getElem?_eq_none (by omega)]; rfl
    refine ⟨g1, g2, by rw [← e]; exact g3, fun c hc => ?_⟩
    unfold places2 at hc
    obtain ⟨s, hs, rfl⟩ := List.mem_map.mp hc
    obtain ⟨i, hi⟩ := List.getElem?_of_mem hs
    have hil := (List.getElem?_eq_some_iff.mp hi).1
    obtain ⟨_, q2, us, q3, q4⟩ := g5 i s _ hi (List.getElem?_eq_getElem (show i < ws.length by omega))
    exact ⟨q2, us, q3, by rw [← q4.1]; exact hM x (List.mem_of_getElem? hx) s hs⟩
/-- one of the innermost lists has grown by one -/
theorem lsA_put {M : Nat} {la c : Addr} {T : List (Addr × List Addr)} {v y : V} {H : Hp} {us : List V} (hla : la ≠ c) (hm : ∀ t ∈ T, t.1 ≠ c) (hc : H c = some (.lst us)) (q : (lsR (kdA d M) la T).p v H) : (lsR (kdA d (M + 1)) la T).p v (upd H c (.lst (us ++ [y]))) := by
  obtain ⟨h1, h2, vs, h3, h4, h5⟩ := q
  refine ⟨h1, h2, vs, by rw [upd_ne hla]; exact h3, h4, fun j t u ht hu => ?_⟩
  obtain ⟨g1, g2, g3, g4⟩ := h5 j t u ht hu
  refine ⟨g1, g2, by rw [upd_ne (hm t (List.mem_of_getElem? ht))]; exact g3, fun b hb => ?_⟩
  obtain ⟨q1, ws, q2, q3⟩ := g4 b hb
  by_cases e : b = c
  · subst e
    rw [hc] at q2
    cases q2
    exact ⟨q1, _, upd_same, by rw [List.length_append]; simp; omega⟩
  · exact ⟨q1, ws, by rw [upd_ne e]; exact q2, Nat.le_succ_of_le q3⟩
/-- a list at c of at most M items -/
def lenR (d : Option Addr) (c : Addr) (M : Nat) : Rp d := ⟨fun v H => v = .ref c ∧ some c ≠ d ∧ ∃ us, H c = some (.lst us) ∧ us.length ≤ M, fun e ⟨h1, h2, us, h3, h4⟩ => ⟨h1, h2, us, e.at h3 h2, h4⟩⟩
theorem x_ixA {M k : Nat} {t : Addr × List Addr} {c : Addr} (ha : EX X B ρ a ((kdA d M).R t)) (hb : EX X B ρ b (rI (k : Int))) (hc : t.2[k]? = some c) (hs : PlainIx b := by exact (fun _ _ => rfl)) : EX X B ρ (.Subscript a b pos) (lenR d c M) :=
  PE_wk (pe_ix ix_list ha hb hs) fun σ H Q ⟨s, q⟩ => ⟨s, fun x H1 e1 hx => ⟨s.mono e1, fun y H2 e2 hy => by
    obtain ⟨rfl, h2, h3, h4⟩ := ((kdA d M).R t).st e2 hx
    obtain ⟨q1, us, q2, q3⟩ := h4 c (List.mem_of_getElem? hc)
    have hl := (List.getElem?_eq_some_iff.mp hc).1
    refine ⟨t.1, _, _, V.ref c, rfl, hy, SqL.of h3, atI_nat (by rw [List.getElem?_map, hc]; rfl), q _ H2 (e1.trans e2) ⟨rfl, q1, us, q2, q3⟩⟩⟩⟩
end
end Cv

set_option maxHeartbeats 8000000
namespace Cv
open PySem PySem.Spec PyProof.Rows L2 RZ
def topS (i : Nat) : Stmt := PySem.Challenge.pw_covernets_k39_mail_nets.main.body.getD i (.Pass ⟨0, 0, 0, 0⟩)
abbrev s_Net_init : Stmt := inClass (topS 7) 0
theorem sc_Net_init : FnScope ["self", "places", "transitions", "transition"] ["self", "places", "transitions"] (defScope s_Net_init) := ⟨rfl, rfl, rfl, by decide +kernel, rfl, by decide +kernel, by decide +kernel⟩
abbrev s_checked_nets : Stmt := topS 8
theorem sc_checked_nets : FnScope ["transition", "places", "takes", "gives", "moves"] ["transition", "places"] (defScope s_checked_nets) := ⟨rfl, rfl, rfl, by decide +kernel, rfl, by decide +kernel, by decide +kernel⟩
abbrev s_numbers : Stmt := topS 10
theorem sc_numbers : FnScope ["row", "places", "least", "most", "number"] ["row", "places", "least", "most"] (defScope s_numbers) := ⟨rfl, rfl, rfl, by decide +kernel, rfl, by decide +kernel, by decide +kernel⟩
abbrev s_MailNet_init : Stmt := inClass (topS 14) 0
theorem sc_MailNet_init : FnScope ["self", "net", "channels", "actions", "letters", "action"] ["self", "net", "channels", "actions"] (defScope s_MailNet_init) := ⟨rfl, rfl, rfl, by decide +kernel, rfl, by decide +kernel, by decide +kernel⟩
abbrev s_checked_mail : Stmt := topS 15
theorem sc_checked_mail : FnScope ["action", "channels", "hears", "sends"] ["action", "channels"] (defScope s_checked_mail) := ⟨rfl, rfl, rfl, by decide +kernel, rfl, by decide +kernel, by decide +kernel⟩
abbrev s_checked_pairs : Stmt := topS 17
theorem sc_checked_pairs : FnScope ["pairs", "channels", "copies", "seen", "pair", "channel", "letter"] ["pairs", "channels"] (defScope s_checked_pairs) := ⟨rfl, rfl, rfl, by decide +kernel, rfl, by decide +kernel, by decide +kernel⟩
abbrev s_law_draws : Stmt := topS 19
theorem sc_law_draws : FnScope ["script", "count", "cells", "found", "mixed", "k", "j", "cell", "again"] ["script", "count"] (defScope s_law_draws) := ⟨rfl, rfl, rfl, by decide +kernel, rfl, by decide +kernel, by decide +kernel⟩
abbrev s_law_take : Stmt := topS 20
theorem sc_law_take : FnScope ["draws", "limit"] ["draws", "limit"] (defScope s_law_take) := ⟨rfl, rfl, rfl, by decide +kernel, rfl, by decide +kernel, by decide +kernel⟩
abbrev s_law_transition : Stmt := topS 21
theorem sc_law_transition : FnScope ["draws", "places", "plain", "takes", "gives", "k", "moves"] ["draws", "places", "plain"] (defScope s_law_transition) := ⟨rfl, rfl, rfl, by decide +kernel, rfl, by decide +kernel, by decide +kernel⟩
abbrev s_law_net : Stmt := topS 22
theorem sc_law_net : FnScope ["draws", "places", "most", "plain", "k"] ["draws", "places", "most", "plain"] (defScope s_law_net) := ⟨rfl, rfl, rfl, by decide +kernel, rfl, by decide +kernel, by decide +kernel⟩
abbrev s_law_action : Stmt := topS 23
theorem sc_law_action : FnScope ["draws", "channels", "hears", "sends", "channel"] ["draws", "channels"] (defScope s_law_action) := ⟨rfl, rfl, rfl, by decide +kernel, rfl, by decide +kernel, by decide +kernel⟩
abbrev s_law_outcome : Stmt := topS 24
theorem sc_law_outcome : FnScope ["net", "channels", "actions"] ["net", "channels", "actions"] (defScope s_law_outcome) := ⟨rfl, rfl, rfl, by decide +kernel, rfl, by decide +kernel, by decide +kernel⟩
abbrev s_law_right : Stmt := topS 25
theorem sc_law_right : FnScope ["channels", "actions", "count", "letters", "action", "pairs", "used", "pair"] ["channels", "actions", "count"] (defScope s_law_right) := ⟨rfl, rfl, rfl, by decide +kernel, rfl, by decide +kernel, by decide +kernel⟩
abbrev s_law : Stmt := topS 26
theorem sc_law : FnScope ["script", "draws", "places", "transitions", "net", "k", "channels", "transition", "pairs", "actions", "spoilt", "action", "kept", "sizes", "found"] ["script"] (defScope s_law) := ⟨rfl, rfl, rfl, by decide +kernel, rfl, by decide +kernel, by decide +kernel⟩

theorem getI {ns : List Int} {i : Nat} {w : D} (h : (ns.map D.i)[i]? = some w) : ∃ n, ns[i]? = some n ∧ w = .i n := by
  rw [List.getElem?_map] at h
  cases q : ns[i]? with
  | none => rw [q] at h; cases h
  | some n => rw [q] at h; cases h; exact ⟨n, rfl, rfl⟩
section
variable {d : Option Addr} {P : Program} {w : World} {K : PySem.W.Frag} {mg : Str → Option Value} {base : Heap}
theorem ok_take {f : Addr} {fd : FuncData} (F : Fun K "_law_take" "_law_take" s_law_take f fd) (ml : mg "len" = none) (mi : mg "int" = none) : FnOk P w K mg base CX0 1 f fd ["draws", "limit"] spTake := by
  refine F.ok sc_law_take (fun vs H Q E h => ?_) (fun cdv A outer s H vs Q E hr h => ?_)
  · obtain ⟨a, ns, n, rfl, _⟩ := h
    rfl
  · obtain ⟨a, ns, n, rfl, ha, hl, h0, k⟩ := h
    refine ⟨_, pss_cons (ps_if (pt_cmpR op_eq (pe_callB call_len_seq (by rfl) ml PySem.boot_len (pa_cons (pv 0) pa_nil)) pe_int (nomark _)) (pss_one (ps_ret pe_int)) pss_nil)
      (pss_one (ps_ret (pe_op op_mod (pe_callTy call_int1 (by rfl) mi (by decide +kernel) (pa_cons (pe_bm0 PySem.F.plainAttrs_list PySem.F.slot_list_pop PySem.F.type_list_pop mt_pop (pv 0)) pa_nil)) (pv 1)))), ?_⟩
    refine ⟨.ref a, rfl, a, ns.map V.int, rfl, .inl (SqL.of ha), rfl, _, rfl, ite2 (fun e => ?_) (fun e => ?_)⟩
    · exact k 0 ns H (Int.le_refl _) h0 ha hl fun b o _ hb => hb
    · have hne : ns ≠ [] := fun z => by subst z; exact e (decide_eq_true rfl)
      obtain ⟨ms, z, rfl⟩ : ∃ ms z, ns = ms ++ [z] := ⟨ns.dropLast, ns.getLast hne, (List.dropLast_concat_getLast hne).symm⟩
      rw [List.map_append] at ha
      refine ⟨_, rfl, .inl ⟨rfl, _, SqL.of ha⟩, a, _, .int z, rfl, rfl, ha, by simp, .inl ⟨z, rfl, ?_⟩⟩
      refine ⟨_, rfl, z, n, rfl, rfl, h0, k (z % n) ms _ (Int.emod_nonneg _ (by omega)) (Int.emod_lt_of_pos _ h0) ?_ (by simp at hl; omega) fun b o hb hbo => by rw [upd_ne hb]; exact hbo⟩
      rw [upd_same]
      congr 2
      exact List.dropLast_concat
end
def covb : List Int → List Int → Bool
  | a :: r, b :: s => if a < b then false else covb r s
  | _, _ => true
theorem covb_lt : ∀ {xs ys : List Int} {i : Nat} {a b : Int}, xs[i]? = some a → ys[i]? = some b → a < b → covb xs ys = false
  | x :: xs, y :: ys, 0, a, b, ha, hb, h => by
    obtain rfl : x = a := Option.some.inj ha
    obtain rfl : y = b := Option.some.inj hb
    show (if x < y then false else covb xs ys) = false
    rw [if_pos h]
  | x :: xs, y :: ys, i + 1, a, b, ha, hb, h => by
    show (if x < y then false else covb xs ys) = false
    rw [covb_lt (xs := xs) (ys := ys) (i := i) ha hb h]
    split <;> rfl
theorem covb_all : ∀ {xs ys : List Int}, (∀ (i : Nat) a b, xs[i]? = some a → ys[i]? = some b → ¬ a < b) → covb xs ys = true
  | [], _, _ => rfl
  | _ :: _, [], _ => rfl
  | x :: xs, y :: ys, h => by
    show (if x < y then false else covb xs ys) = true
    rw [if_neg (h 0 x y rfl rfl)]
    exact covb_all fun i a b ha hb => h (i + 1) a b ha hb
section
variable {d : Option Addr} {P : Program} {w : World} {K : PySem.W.Frag} {mg : Str → Option Value} {base : Heap}
end
section
variable {d : Option Addr} {P : Program} {w : World} {K : PySem.W.Frag} {mg : Str → Option Value} {base : Heap}
theorem ok_draws {f : Addr} {fd : FuncData} (F : Fun K "_law_draws" "_law_draws" s_law_draws f fd) (ml : mg "len" = none) (mL : mg "list" = none) (mr : mg "range" = none) (mi : mg "int" = none) :
    FnOk P w K mg base CX0 1 f fd ["script", "count"] (spP (none : Option Addr) (fun (z : {z : Addr × List Int × Int // 0 ≤ z.2.2 ∧ z.2.2 ≤ 1000 ∧ z.2.1.length ≤ 900}) => [lstA K z.1.1 (z.1.2.1.map D.i), rI z.1.2.2]) (fun _ H => newE H K fun ds => ∃ ns : List Int, ds = ns.map D.i ∧ ns.length ≤ 1000)) := by
  refine fn_okB F sc_law_draws (fun _ => rfl) (by decide) (fun z H => [some (lstB H K z.1.1 (z.1.2.1.map D.i)), some (rI z.1.2.2), none, none, none, none, none, none, none]) (fun z H σ s => (st_toB 0 rfl s).sub (by (repeat (first | exact Sub.nil | refine Sub.same ?_ | refine Sub.drop ?_)))) fun z H cdv A outer s E hr => ?_
  obtain ⟨⟨a, ns, c⟩, hc0, hc1, hns⟩ := z
  dsimp only at hc0 hc1 hns ⊢
  -- cells = list(script)
  refine bx_new 2 [] (by simp) (fun B' => x_list_l rfl mL (x_lstB (x_var 0 rfl))) (fun l hl _ => ?_) sc_law_draws.nd
  -- if len(cells) == 0: cells = [7]
  refine bx_if (fun σ H' => ∃ z : Addr × List Int, (H z.1 = none ∧ z.2 ≠ [] ∧ z.2.length ≤ 900) ∧ St (d := none) H [some (lstB H K a (ns.map D.i)), some (rI c), some (own K z.1 (z.2.map D.i)), none, none, none, none, none, none] σ H')
    (t_eq (x_len_l rfl ml (x_lstA (x_var 2 rfl))) x_int) (fun h => ?_) (fun h => ?_) ?_
  · refine bx_new 2 [] (by simp) (fun B' => x_lst (ds := [.i 7]) (a_cons (x_Id x_int) a_nil)) (fun l2 hl2 _ => bx_nil fun σ H' s => ⟨(l2, [7]), ⟨hl2, by simp, by simp⟩, s.sub (by (repeat (first | exact Sub.nil | refine Sub.same ?_ | refine Sub.drop ?_)))⟩) sc_law_draws.nd
  · refine bx_nil fun σ H' s => ⟨(l, ns), ⟨hl, ?_, hns⟩, s.sub (by (repeat (first | exact Sub.nil | refine Sub.same ?_ | refine Sub.drop ?_)))⟩
    intro e
    subst e
    simp [is] at h
  refine bx_ex fun z hz => ?_
  obtain ⟨l, cs⟩ := z
  obtain ⟨hl, hcs, hcl⟩ := hz
  dsimp only at hl hcs hcl ⊢
  -- found = []; mixed = 12345
  refine bx_new 3 [l] (by intro l' h'; rw [List.mem_singleton.mp h']; exact known_own 2 rfl) (fun B' => x_lst (ds := []) a_nil) (fun g hg hgl => ?_) sc_law_draws.nd
  have hgl : g ≠ l := hgl l (by simp)
  refine bx_set 4 x_int ?_ sc_law_draws.nd
  -- for k in range(count)
  refine bx_forR 5 (fun i (z : List Int × List Int × Int) => z.1 ≠ [] ∧ z.1.length ≤ 900 ∧ z.2.1.length = i ∧ 0 ≤ z.2.2 ∧ z.2.2 < 2147483647) (fun i z => [some (lstB H K a (ns.map D.i)), some (rI c), some (own K l (z.1.map D.i)), some (own K g (z.2.1.map D.i)), some (rI z.2.2), none, none, none, none]) rfl mr (x_var 1 rfl) (by omega)
    (fun σ H' s => ⟨(cs, [], 12345), ⟨hcs, hcl, rfl, by simp, by simp⟩, s.sub (by (repeat (first | exact Sub.nil | refine Sub.same ?_ | refine Sub.drop ?_)))⟩) (fun i z hi hz => ?_) ?_ sc_law_draws.nd PassesOwn.never
  · obtain ⟨cs, fs, m⟩ := z
    obtain ⟨hcs, hcl, hfs, hm0, hm1⟩ := hz
    dsimp only at hcs hcl hfs hm0 hm1 ⊢
    have hL : 0 < cs.length := List.length_pos_iff.mpr hcs
    -- j = k % len(cells)
    refine bx_set 6 (x_mod (x_var 5 rfl) (x_len_l rfl ml (x_lstA (x_var 2 rfl))) (by simp; omega)) ?_ sc_law_draws.nd
    have hj : ((i : Int) % ((cs.map D.i).length : Int)) = ((i % cs.length : Nat) : Int) := by rw [List.length_map]; omega
    have hjl : i % cs.length < cs.length := Nat.mod_lt _ hL
    -- cell = cells[j]
    refine bx_set 7 (x_dI (x_ixl (w := .i cs[i % cs.length]) (x_lstA (x_var 2 rfl)) (x_var 6 rfl) (by rw [hj]; exact atI_nat (by rw [List.getElem?_map, List.getElem?_eq_getElem hjl]; rfl)))) ?_ sc_law_draws.nd
    generalize cs[i % cs.length] = cell
    -- mixed = ..
    refine bx_set 4 (x_mod (x_int_ rfl mi (x_add (x_add (x_add (x_mul (x_var 4 rfl) x_int (.inl (by omega))) (x_mul (x_mod (x_int_ rfl mi (x_var 7 rfl)) x_int (by decide)) x_int (.inr (by decide)))) (x_mul (x_var 5 rfl) x_int (.inr (by decide)))) x_int)) x_int (by decide)) ?_ sc_law_draws.nd
    generalize hm' : (m * 48271 + cell % 1000003 * 69621 + (i : Int) * 7919 + 11) % 2147483647 = m'
    have hb0 : 0 ≤ m' := by omega
    have hb1 : m' < 2147483647 := by omega
    refine bx_set 8 (x_mod (x_int_ rfl mi (x_add (x_add (x_mul (x_var 4 rfl) (x_var 4 rfl) (.inl (by omega))) (x_mul x_int (x_var 4 rfl) (.inl (by decide)))) (x_var 5 rfl))) x_int (by decide)) ?_ sc_law_draws.nd
    generalize (m' * m' + 31 * m' + (i : Int)) % 1000003 = ag
    refine bx_if (IS H (fun (z : List Int × List Int × Int) => z.1 ≠ [] ∧ z.1.length ≤ 900 ∧ z.2.1.length = i + 1 ∧ 0 ≤ z.2.2 ∧ z.2.2 < 2147483647) (fun z => [some (lstB H K a (ns.map D.i)), some (rI c), some (own K l (z.1.map D.i)), some (own K g (z.2.1.map D.i)), some (rI z.2.2), none, none, none, none]))
      (t_ge (x_var 7 rfl) (x_pow x_int x_int ⟨by decide, by decide, by decide⟩)) (fun h => ?_) (fun h => ?_) (bx_nil fun σ H' s => s)
    · refine bx_append 3 (w := .i (cell % 1000)) rfl rfl (x_Id (x_mod (x_int_ rfl mi (x_var 7 rfl)) x_int (by decide))) hg (by (repeat' (first | exact ia_nil | refine ia_none ?_ | refine ia_some ?_ ?_ | refine ib_here ?_ | refine ib_none ?_ | refine ib_some ?_ ?_ | exact ind_I | exact ind_B | exact ind_dat | exact ind_any | exact ind_drw | exact ind_net | exact ind_dct | exact ind_dcT | exact ind_mail | exact ind_xB | exact ind_lstB (by assumption) | exact ind_own (by assumption) | exact ind_lstA (by assumption) | exact ind_own (Ne.symm (by assumption)) | exact ind_lstA (Ne.symm (by assumption)) | exact ind_tpl | exact ind_ownT (by assumption) | exact ind_ownT (Ne.symm (by assumption)) | exact ind_ll (by assumption) (by assumption) | exact ind_rwsV (by assumption) | exact ind_rowV (by assumption) | exact ind_wlk (by assumption) (by assumption) | exact ind_wlk (by assumption) (Ne.symm (by assumption)) | exact ind_ll (Ne.symm (by assumption)) (by assumption)))) (by rw [List.length_map]; omega) ?_
      refine bx_setitem 2 (w := .i (cell / 1000)) (k := i % cs.length) rfl rfl (x_Id (x_fdiv (x_var 7 rfl) x_int ⟨by decide, by decide⟩)) (x_sub (x_var 6 rfl) fun v H hv => by rw [← hj]; exact hv) (by rw [List.length_map]; exact hjl) hl (by (repeat' (first | exact ia_nil | refine ia_none ?_ | refine ia_some ?_ ?_ | refine ib_here ?_ | refine ib_none ?_ | refine ib_some ?_ ?_ | exact ind_I | exact ind_B | exact ind_dat | exact ind_any | exact ind_drw | exact ind_net | exact ind_dct | exact ind_dcT | exact ind_mail | exact ind_xB | exact ind_lstB (by assumption) | exact ind_own (by assumption) | exact ind_lstA (by assumption) | exact ind_own (Ne.symm (by assumption)) | exact ind_lstA (Ne.symm (by assumption)) | exact ind_tpl | exact ind_ownT (by assumption) | exact ind_ownT (Ne.symm (by assumption)) | exact ind_ll (by assumption) (by assumption) | exact ind_rwsV (by assumption) | exact ind_rowV (by assumption) | exact ind_wlk (by assumption) (by assumption) | exact ind_wlk (by assumption) (Ne.symm (by assumption)) | exact ind_ll (Ne.symm (by assumption)) (by assumption)))) ?_
      refine bx_nil fun σ H' s => ⟨(cs.set (i % cs.length) (cell / 1000), fs ++ [cell % 1000], m'), ⟨?_, ?_, ?_, hb0, hb1⟩, s.sub ?_⟩
      · intro z; apply hcs; exact List.eq_nil_of_length_eq_zero (by have := congrArg List.length z; simpa using this)
      · simpa using hcl
      · simp [hfs]
      · show Sub _ [_, _, _, _, _, _, _, _, _]
        rw [List.map_set, List.map_append]
        (repeat (first | exact Sub.nil | refine Sub.same ?_ | refine Sub.drop ?_))
    · refine bx_append 3 (w := .i (ag % 1000)) rfl rfl (x_Id (x_mod (x_int_ rfl mi (x_var 8 rfl)) x_int (by decide))) hg (by (repeat' (first | exact ia_nil | refine ia_none ?_ | refine ia_some ?_ ?_ | refine ib_here ?_ | refine ib_none ?_ | refine ib_some ?_ ?_ | exact ind_I | exact ind_B | exact ind_dat | exact ind_any | exact ind_drw | exact ind_net | exact ind_dct | exact ind_dcT | exact ind_mail | exact ind_xB | exact ind_lstB (by assumption) | exact ind_own (by assumption) | exact ind_lstA (by assumption) | exact ind_own (Ne.symm (by assumption)) | exact ind_lstA (Ne.symm (by assumption)) | exact ind_tpl | exact ind_ownT (by assumption) | exact ind_ownT (Ne.symm (by assumption)) | exact ind_ll (by assumption) (by assumption) | exact ind_rwsV (by assumption) | exact ind_rowV (by assumption) | exact ind_wlk (by assumption) (by assumption) | exact ind_wlk (by assumption) (Ne.symm (by assumption)) | exact ind_ll (Ne.symm (by assumption)) (by assumption)))) (by rw [List.length_map]; omega) ?_
      refine bx_nil fun σ H' s => ⟨(cs, fs ++ [ag % 1000], m'), ⟨hcs, hcl, by simp [hfs], hb0, hb1⟩, s.sub ?_⟩
      show Sub _ [_, _, _, _, _, _, _, _, _]
      rw [List.map_append]
      (repeat (first | exact Sub.nil | refine Sub.same ?_ | refine Sub.drop ?_))
  · refine bx_ex fun z hz => ?_
    obtain ⟨cs, fs, m⟩ := z
    obtain ⟨_, _, hfs, _, _⟩ := hz
    dsimp only at hfs ⊢
    refine bx_reverse 3 rfl rfl hg (by (repeat' (first | exact ia_nil | refine ia_none ?_ | refine ia_some ?_ ?_ | refine ib_here ?_ | refine ib_none ?_ | refine ib_some ?_ ?_ | exact ind_I | exact ind_B | exact ind_dat | exact ind_any | exact ind_drw | exact ind_net | exact ind_dct | exact ind_dcT | exact ind_mail | exact ind_xB | exact ind_lstB (by assumption) | exact ind_own (by assumption) | exact ind_lstA (by assumption) | exact ind_own (Ne.symm (by assumption)) | exact ind_lstA (Ne.symm (by assumption)) | exact ind_tpl | exact ind_ownT (by assumption) | exact ind_ownT (Ne.symm (by assumption)) | exact ind_ll (by assumption) (by assumption) | exact ind_rwsV (by assumption) | exact ind_rowV (by assumption) | exact ind_wlk (by assumption) (by assumption) | exact ind_wlk (by assumption) (Ne.symm (by assumption)) | exact ind_ll (Ne.symm (by assumption)) (by assumption)))) ?_
    refine bx_retR (x_sub (x_var 3 rfl) fun v H' hv => ?_) rfl
    rw [← List.map_reverse] at hv
    exact ⟨_, ⟨fs.reverse, rfl, by simp [hfs]; omega⟩, g, hg, hv⟩
end
section
variable {d : Option Addr} {P : Program} {w : World} {K : PySem.W.Frag} {mg : Str → Option Value} {base : Heap}
end
/-! ### transitions -/
structure Tr where
  tk : List Int
  gv : List Int
  mv : List Int
abbrev Tr.d (t : Tr) : D := .t [tI t.tk, tI t.gv, tI t.mv]
structure TrOk (n : Nat) (t : Tr) : Prop where
  l1 : t.tk.length = n
  l2 : t.gv.length = n
  l3 : t.mv.length = n
  b1 : ∀ x ∈ t.tk, 0 ≤ x ∧ x ≤ 9
  b2 : ∀ x ∈ t.gv, 0 ≤ x ∧ x ≤ 9
  b3 : ∀ x ∈ t.mv, -1 ≤ x ∧ x < n
abbrev upTo (n : Nat) : List Int := (List.range n).map fun (i : Nat) => (i : Int)
/-- the first i places' tokens moved -/
def stepF (t : Tr) (m res : List Int) (p : Nat) : List Int :=
  if t.mv.getD p 0 = -1 then res else res.set (t.mv.getD p 0).toNat (res.getD (t.mv.getD p 0).toNat 0 + (m.getD p 0 - t.tk.getD p 0))
def fireN (t : Tr) (m : List Int) (i : Nat) : List Int := (List.range i).foldl (stepF t m) t.gv
theorem fireN_succ (t : Tr) (m : List Int) (i : Nat) : fireN t m (i + 1) = stepF t m (fireN t m i) i := by
  unfold fireN
  rw [List.range_succ, List.foldl_append]
  rfl
theorem stepF_len (t : Tr) (m res : List Int) (p : Nat) : (stepF t m res p).length = res.length := by
  unfold stepF
  split <;> simp
theorem fireN_len (t : Tr) (m : List Int) : ∀ i, (fireN t m i).length = t.gv.length
  | 0 => rfl
  | i + 1 => by rw [fireN_succ, stepF_len, fireN_len t m i]
theorem getD_of {l : List Int} {i : Nat} {x : Int} (h : l[i]? = some x) : l.getD i 0 = x := by rw [List.getD_eq_getElem?_getD, h]; rfl
theorem mem_set {l : List Int} {i : Nat} {x y : Int} (h : y ∈ l.set i x) : y = x ∨ y ∈ l := by
  rcases List.mem_or_eq_of_mem_set h with h | h
  · exact .inr h
  · exact .inl h
theorem ex_i {n : Nat} {l : List Int} (hl : l.length = n) {i : Nat} (h : i < n) : ∃ x, l[i]? = some x := ⟨l[i], List.getElem?_eq_getElem (by omega)⟩
section
variable {d : Option Addr} {P : Program} {w : World} {K : PySem.W.Frag} {mg : Str → Option Value} {base : Heap}
theorem flat0 {n : Nat} : (List.replicate n [D.i 0]).flatten = (List.replicate n (0 : Int)).map D.i := by
  induction n with
  | zero => rfl
  | succ n ih => rw [List.replicate_succ, List.flatten_cons, ih, List.replicate_succ]; rfl
def okTr (n : Nat) (plain : Bool) (w : D) : Prop := ∃ t : Tr, w = t.d ∧ TrOk n t ∧ (plain = true → t.mv = upTo n)
theorem ok_transition {f fT : Addr} {fd fdT : FuncData} (F : Fun K "_law_transition" "_law_transition" s_law_transition f fd) (FT : Fun K "_law_take" "_law_take" s_law_take fT fdT) (bT : Binds K fdT ["draws", "limit"] []) (gT : mg "_law_take" = some (.ref fT)) (ml : mg "len" = none) (mi : mg "int" = none) (mt : mg "tuple" = none) (mL : mg "list" = none) (mr : mg "range" = none) :
    FnOk P w K mg base CX0 2 f fd ["draws", "places", "plain"] (spP d (fun (z : {z : Nat × Bool // 1 ≤ z.1 ∧ z.1 ≤ 100}) => [drw, rI (z.1.1 : Int), rB z.1.2]) (fun z _ => dE K fun w => okTr z.1.1 z.1.2 w)) := by
  have GT : FnOk P w K mg base CX0 1 fT fdT ["draws", "limit"] spTake := ok_take FT ml mi
  refine fn_ok F sc_law_transition (fun _ => rfl) (by decide) fun z H cdv A outer s E hr => ?_
  obtain ⟨⟨n, plain⟩, hn0, hn1⟩ := z
  dsimp only at hn0 hn1 ⊢
  have hr1 := hr.mono (show 1 ≤ 1 by decide)
  -- takes = [0] * places; gives = [0] * places
  refine bx_new 3 [] (by simp) (fun B' => x_rep (l0 := [.i 0]) (x_lst (a_cons (x_Id x_int) a_nil)) (x_var 1 rfl) (by simp; omega) (by omega)) (fun l1 hl1 _ => ?_) sc_law_transition.nd
  refine bx_new 4 [l1] (by intro l' h'; rw [List.mem_singleton.mp h']; exact known_own 3 rfl) (fun B' => x_rep (l0 := [.i 0]) (x_lst (a_cons (x_Id x_int) a_nil)) (x_var 1 rfl) (by simp; omega) (by omega)) (fun l2 hl2 h21 => ?_) sc_law_transition.nd
  have h21 : l2 ≠ l1 := h21 l1 (by simp)
  have step : ∀ {z : List Int} {i : Nat} {k : Nat} {y : Int}, (z.length = n ∧ ∀ x ∈ z, 0 ≤ x ∧ x ≤ (i : Int)) → z[k]? = some y → ((z.set k (y + 1)).length = n ∧ ∀ x ∈ z.set k (y + 1), 0 ≤ x ∧ x ≤ ((i + 1 : Nat) : Int)) := fun {z i k y} hz hy => by
    refine ⟨by simp [hz.1], fun x hx => ?_⟩
    rcases mem_set hx with h | h
    · have := hz.2 y (List.mem_of_getElem? hy)
      omega
    · have := hz.2 x h
      omega
  -- for k in range([1, 1, 2, 0][..]): takes[..] += 1
  refine bx_forRE (S := fun z => 0 ≤ z ∧ z ≤ 2) 5 (fun i (z : List Int) => z.length = n ∧ ∀ x ∈ z, 0 ≤ x ∧ x ≤ (i : Int)) (fun _ z => [some drw, some (rI (n : Int)), some (rB plain), some (own K l1 (z.map D.i)), some (own K l2 ((List.replicate n (0 : Int)).map D.i)), none, none]) rfl mr
    (x_dEi (x_ixnE (x_lst (ds := [.i 1, .i 1, .i 2, .i 0]) (a_cons (x_Id x_int) (a_cons (x_Id x_int) (a_cons (x_Id x_int) (a_cons (x_Id x_int) a_nil))))) (x_take (E := E0) GT hr1 rfl gT FT.kp bT pass0 (x_var 0 rfl) x_int (by decide)) (fun j hj => by simp; exact hj)) fun w ⟨k, hk, hw⟩ => ?_) (fun nn h => by omega) (fun σ H' s => ⟨List.replicate n 0, ⟨by simp, fun x hx => by rw [List.eq_of_mem_replicate hx]; simp⟩, s.sub ?_⟩) (fun nn hnn i z hi hz => ?_) (fun nn hnn => bx_ex fun tk htk => ?_) sc_law_transition.nd PassesOwn.never
  · obtain ⟨h0, h4⟩ := hk
    match k, hw with
    | 0, hw => cases hw; exact ⟨1, rfl, by decide⟩
    | 1, hw => cases hw; exact ⟨1, rfl, by decide⟩
    | 2, hw => cases hw; exact ⟨2, rfl, by decide⟩
    | 3, hw => cases hw; exact ⟨0, rfl, by decide⟩
    | k + 4, hw => exact absurd h4 (by omega)
  · show Sub _ [_, _, _, _, _, _, _]
    rw [← flat0]
    (repeat (first | exact Sub.nil | refine Sub.same ?_ | refine Sub.drop ?_))
  · refine bx_augitem 3 rfl rfl (x_take (E := E0) GT hr1 rfl gT FT.kp bT pass0 (x_var 0 rfl) (x_var 1 rfl) (by omega)) (fun k hk => by rw [hz.1]; exact hk) x_int hl1 (by (repeat' (first | exact ia_nil | refine ia_none ?_ | refine ia_some ?_ ?_ | refine ib_here ?_ | refine ib_none ?_ | refine ib_some ?_ ?_ | exact ind_I | exact ind_B | exact ind_dat | exact ind_any | exact ind_drw | exact ind_net | exact ind_dct | exact ind_dcT | exact ind_mail | exact ind_xB | exact ind_lstB (by assumption) | exact ind_own (by assumption) | exact ind_lstA (by assumption) | exact ind_own (Ne.symm (by assumption)) | exact ind_lstA (Ne.symm (by assumption)) | exact ind_tpl | exact ind_ownT (by assumption) | exact ind_ownT (Ne.symm (by assumption)) | exact ind_ll (by assumption) (by assumption) | exact ind_rwsV (by assumption) | exact ind_rowV (by assumption) | exact ind_wlk (by assumption) (by assumption) | exact ind_wlk (by assumption) (Ne.symm (by assumption)) | exact ind_ll (Ne.symm (by assumption)) (by assumption)))) (fun k y hk hy => bx_nil fun σ H' s => ⟨z.set k (y + 1), step hz hy, s.sub (by (repeat (first | exact Sub.nil | refine Sub.same ?_ | refine Sub.drop ?_)))⟩)
  have htk9 : ∀ x ∈ tk, 0 ≤ x ∧ x ≤ 9 := fun x hx => by have := htk.2 x hx; omega
  obtain ⟨htkl, _⟩ := htk
  -- for k in range([1, 1, 2, 3, 0][..]): gives[..] += 1
  refine bx_forRE (S := fun z => 0 ≤ z ∧ z ≤ 3) 5 (fun i (z : List Int) => z.length = n ∧ ∀ x ∈ z, 0 ≤ x ∧ x ≤ (i : Int)) (fun _ z => [some drw, some (rI (n : Int)), some (rB plain), some (own K l1 (tk.map D.i)), some (own K l2 (z.map D.i)), none, none]) rfl mr
    (x_dEi (x_ixnE (x_lst (ds := [.i 1, .i 1, .i 2, .i 3, .i 0]) (a_cons (x_Id x_int) (a_cons (x_Id x_int) (a_cons (x_Id x_int) (a_cons (x_Id x_int) (a_cons (x_Id x_int) a_nil)))))) (x_take (E := E0) GT hr1 rfl gT FT.kp bT pass0 (x_var 0 rfl) x_int (by decide)) (fun j hj => by simp; exact hj)) fun w ⟨k, hk, hw⟩ => ?_) (fun nn h => by omega) (fun σ H' s => ⟨List.replicate n 0, ⟨by simp, fun x hx => by rw [List.eq_of_mem_replicate hx]; simp⟩, s.sub (by (repeat (first | exact Sub.nil | refine Sub.same ?_ | refine Sub.drop ?_)))⟩) (fun nn hnn i z hi hz => ?_) (fun nn hnn => bx_ex fun gv hgv => ?_) sc_law_transition.nd PassesOwn.never
  · obtain ⟨h0, h4⟩ := hk
    match k, hw with
    | 0, hw => cases hw; exact ⟨1, rfl, by decide⟩
    | 1, hw => cases hw; exact ⟨1, rfl, by decide⟩
    | 2, hw => cases hw; exact ⟨2, rfl, by decide⟩
    | 3, hw => cases hw; exact ⟨3, rfl, by decide⟩
    | 4, hw => cases hw; exact ⟨0, rfl, by decide⟩
    | k + 5, hw => exact absurd h4 (by omega)
  · refine bx_augitem 4 rfl rfl (x_take (E := E0) GT hr1 rfl gT FT.kp bT pass0 (x_var 0 rfl) (x_var 1 rfl) (by omega)) (fun k hk => by rw [hz.1]; exact hk) x_int hl2 (by (repeat' (first | exact ia_nil | refine ia_none ?_ | refine ia_some ?_ ?_ | refine ib_here ?_ | refine ib_none ?_ | refine ib_some ?_ ?_ | exact ind_I | exact ind_B | exact ind_dat | exact ind_any | exact ind_drw | exact ind_net | exact ind_dct | exact ind_dcT | exact ind_mail | exact ind_xB | exact ind_lstB (by assumption) | exact ind_own (by assumption) | exact ind_lstA (by assumption) | exact ind_own (Ne.symm (by assumption)) | exact ind_lstA (Ne.symm (by assumption)) | exact ind_tpl | exact ind_ownT (by assumption) | exact ind_ownT (Ne.symm (by assumption)) | exact ind_ll (by assumption) (by assumption) | exact ind_rwsV (by assumption) | exact ind_rowV (by assumption) | exact ind_wlk (by assumption) (by assumption) | exact ind_wlk (by assumption) (Ne.symm (by assumption)) | exact ind_ll (Ne.symm (by assumption)) (by assumption)))) (fun k y hk hy => bx_nil fun σ H' s => ⟨z.set k (y + 1), step hz hy, s.sub (by (repeat (first | exact Sub.nil | refine Sub.same ?_ | refine Sub.drop ?_)))⟩)
  have hgv9 : ∀ x ∈ gv, 0 ≤ x ∧ x ≤ 9 := fun x hx => by have := hgv.2 x hx; omega
  obtain ⟨hgvl, _⟩ := hgv
  -- moves = list(range(places))
  refine bx_new 6 [l1, l2] (by intro l' h'; simp only [List.mem_cons, List.not_mem_nil, or_false] at h'; rcases h' with rfl | rfl; exact known_own 3 rfl; exact known_own 4 rfl) (fun B' => x_listR rfl mL rfl mr (x_var 1 rfl) (by omega)) (fun l3 hl3 h3 => ?_) sc_law_transition.nd
  have h31 : l3 ≠ l1 := h3 l1 (by simp)
  have h32 : l3 ≠ l2 := h3 l2 (by simp)
  have e0 : ((List.range ((n : Int)).toNat).map fun (i : Nat) => D.i (i : Int)) = (upTo n).map D.i := by rw [List.map_map]; rfl
  rw [e0]
  have hup : ∀ x ∈ upTo n, -1 ≤ x ∧ x < n := fun x hx => by
    obtain ⟨i, hi, rfl⟩ := List.mem_map.mp hx
    have := List.mem_range.mp hi
    omega
  -- if not plain and ..
  refine bx_if (IS H (fun (z : List Int) => z.length = n ∧ (∀ x ∈ z, -1 ≤ x ∧ x < n) ∧ (plain = true → z = upTo n)) (fun z => [some drw, some (rI (n : Int)), some (rB plain), some (own K l1 (tk.map D.i)), some (own K l2 (gv.map D.i)), none, some (own K l3 (z.map D.i))]))
    (t_w (w_and (t_not (t_val (x_var 2 rfl))) fun _ => w_and1 (t_eqE (x_take (E := E0) GT hr1 rfl gT FT.kp bT pass0 (x_var 0 rfl) x_int (by decide)) (x_I x_int)))) (fun h => ?_) (fun _ => bx_nil fun σ H' s => ⟨upTo n, ⟨by simp, hup, fun _ => rfl⟩, s.sub (by (repeat (first | exact Sub.nil | refine Sub.same ?_ | refine Sub.drop ?_)))⟩) (bx_ex fun mv hmv => ?_)
  · have hpl : plain = false := by
      rcases h with ⟨h, _⟩ | ⟨_, h⟩
      · cases plain with
        | true => cases h
        | false => rfl
      · cases h
    refine bx_forR 5 (fun i (z : List Int) => z.length = n ∧ ∀ x ∈ z, -1 ≤ x ∧ x < n) (fun _ z => [some drw, some (rI (n : Int)), some (rB plain), some (own K l1 (tk.map D.i)), some (own K l2 (gv.map D.i)), none, some (own K l3 (z.map D.i))]) rfl mr (x_var 1 rfl) (by omega) (fun σ H' s => ⟨upTo n, ⟨by simp, hup⟩, s.sub (by (repeat (first | exact Sub.nil | refine Sub.same ?_ | refine Sub.drop ?_)))⟩) (fun i z hi hz => ?_) (bx_ex fun z hz => bx_nil fun σ H' s => ⟨z, ⟨hz.1, hz.2, fun q => by rw [hpl] at q; cases q⟩, s⟩) sc_law_transition.nd PassesOwn.never
    refine bx_if (IS H (fun (z : List Int) => z.length = n ∧ ∀ x ∈ z, -1 ≤ x ∧ x < n) (fun z => [some drw, some (rI (n : Int)), some (rB plain), some (own K l1 (tk.map D.i)), some (own K l2 (gv.map D.i)), none, some (own K l3 (z.map D.i))]))
      (t_eqE (x_take (E := E0) GT hr1 rfl gT FT.kp bT pass0 (x_var 0 rfl) x_int (by decide)) (x_I x_int)) (fun _ => ?_) (fun _ => bx_nil fun σ H' s => ⟨z, hz, s.sub (by (repeat (first | exact Sub.nil | refine Sub.same ?_ | refine Sub.drop ?_)))⟩) (bx_nil fun σ H' s => s)
    refine bx_setitemE 6 rfl rfl (x_iEd (x_subE (x_take (E := E0) GT hr1 rfl gT FT.kp bT pass0 (x_var 0 rfl) (x_add (x_var 1 rfl) x_int) (by omega)) (x_I x_int))) (x_var 5 rfl) (by rw [List.length_map, hz.1]; omega) hl3 (by (repeat' (first | exact ia_nil | refine ia_none ?_ | refine ia_some ?_ ?_ | refine ib_here ?_ | refine ib_none ?_ | refine ib_some ?_ ?_ | exact ind_I | exact ind_B | exact ind_dat | exact ind_any | exact ind_drw | exact ind_net | exact ind_dct | exact ind_dcT | exact ind_mail | exact ind_xB | exact ind_lstB (by assumption) | exact ind_own (by assumption) | exact ind_lstA (by assumption) | exact ind_own (Ne.symm (by assumption)) | exact ind_lstA (Ne.symm (by assumption)) | exact ind_tpl | exact ind_ownT (by assumption) | exact ind_ownT (Ne.symm (by assumption)) | exact ind_ll (by assumption) (by assumption) | exact ind_rwsV (by assumption) | exact ind_rowV (by assumption) | exact ind_wlk (by assumption) (by assumption) | exact ind_wlk (by assumption) (Ne.symm (by assumption)) | exact ind_ll (Ne.symm (by assumption)) (by assumption)))) (fun w hw => ?_)
    obtain ⟨y, ⟨i1, j1, hi1, rfl, rfl⟩, rfl⟩ := hw
    refine bx_nil fun σ H' s => ⟨z.set i (i1 - 1), ⟨by simp [hz.1], fun x hx => ?_⟩, s.sub ?_⟩
    · rcases mem_set hx with h | h
      · omega
      · exact hz.2 x h
    · show Sub _ [_, _, _, _, _, _, _]
      rw [List.map_set]
      (repeat (first | exact Sub.nil | refine Sub.same ?_ | refine Sub.drop ?_))
  · obtain ⟨m1, m2, m3⟩ := hmv
    refine bx_retR (x_sub (x_tup (ds := [tI tk, tI gv, tI mv]) (a_cons (x_tuple_l rfl mt (x_lstA (x_var 3 rfl))) (a_cons (x_tuple_l rfl mt (x_lstA (x_var 4 rfl))) (a_cons (x_tuple_l rfl mt (x_lstA (x_var 6 rfl))) a_nil)))) fun v H' hv => ?_) rfl
    exact ⟨_, ⟨⟨tk, gv, mv⟩, rfl, ⟨htkl, hgvl, m1, htk9, hgv9, m2⟩, m3⟩, hv⟩
end
section
variable {d : Option Addr} {P : Program} {w : World} {K : PySem.W.Frag} {mg : Str → Option Value} {base : Heap}
/-- [_law_transition(..) for k in range(1 + _law_take(draws, most))] -/
theorem ok_lnet {f fT fR : Addr} {fd fdT fdR : FuncData} (F : Fun K "_law_net" "_law_net" s_law_net f fd) (FT : Fun K "_law_take" "_law_take" s_law_take fT fdT) (bT : Binds K fdT ["draws", "limit"] []) (gT : mg "_law_take" = some (.ref fT)) (FR : Fun K "_law_transition" "_law_transition" s_law_transition fR fdR) (bR : Binds K fdR ["draws", "places", "plain"] []) (gR : mg "_law_transition" = some (.ref fR))
    (ml : mg "len" = none) (mi : mg "int" = none) (mt : mg "tuple" = none) (mL : mg "list" = none) (mr : mg "range" = none) :
    FnOk P w K mg base CX0 3 f fd ["draws", "places", "most", "plain"] (spP d (fun (z : {z : Nat × Nat × Bool // 1 ≤ z.1 ∧ z.1 ≤ 100 ∧ 1 ≤ z.2.1 ∧ z.2.1 ≤ 100}) => [drw, rI (z.1.1 : Int), rI (z.1.2.1 : Int), rB z.1.2.2]) (fun z H => newE H K fun ds => 1 ≤ ds.length ∧ ds.length ≤ z.1.2.1 ∧ ∀ (k : Nat) (w : D), ds[k]? = some w → okTr z.1.1 z.1.2.2 w)) := by
  have GT : FnOk P w K mg base CX0 1 fT fdT ["draws", "limit"] spTake := ok_take FT ml mi
  have GR : FnOk P w K mg base CX0 2 fR fdR ["draws", "places", "plain"] (spP d (fun (z : {z : Nat × Bool // 1 ≤ z.1 ∧ z.1 ≤ 100}) => [drw, rI (z.1.1 : Int), rB z.1.2]) (fun z _ => dE K fun w => okTr z.1.1 z.1.2 w)) := ok_transition FR FT bT gT ml mi mt mL mr
  refine fn_ok F sc_law_net (fun _ => rfl) (by decide) fun z H cdv A outer s E hr => ?_
  obtain ⟨⟨n, most, plain⟩, hn0, hn1, hm0, hm1⟩ := z
  dsimp only at hn0 hn1 hm0 hm1 ⊢
  have hr1 : Room 1 _ := hr.mono (by decide)
  have hr2 : Room 2 _ := hr.mono (by decide)
  refine bx_retR (x_sub (x_lcRE (S := fun z => ∃ i j, i = 1 ∧ (0 ≤ j ∧ j < (most : Int)) ∧ z = i + j) 4 (fun _ w => okTr n plain w) rfl mr (x_addE (x_I x_int) (x_take (E := E0) GT hr1 rfl gT FT.kp bT pass0 (x_var 0 rfl) (x_var 2 rfl) (by omega))) (fun nn ⟨i, j, h1, h2, h3⟩ => by omega) sc_law_net.nd (blkOk_by (N := ["draws", "places", "most", "plain", "k"]) (sc := defScope s_law_net) (by decide +kernel)) (fun _ _ _ _ _ => pg_name (i := 4) sc_law_net.nd rfl (Or.inl rfl))
    (fun s H C cl fp i => x_call (E := E0) GR hr2 rfl gR FR.kp bR pass0 ⟨(n, plain), hn0, hn1⟩ (a_cons (x_var 0 rfl) (a_cons (x_var 1 rfl) (a_cons (x_var 3 rfl) a_nil))) fun v H H' σ _ _ h => h)) fun v H' hv => ?_) rfl
  obtain ⟨ds, ⟨⟨nn, ⟨i, j, h1, h2, h3⟩, h4⟩, h5⟩, hv⟩ := hv
  exact ⟨ds, ⟨by omega, by omega, h5⟩, hv⟩
theorem stepF_eq {t : Tr} {m res : List Int} {p : Nat} {g a b : Int} (h1 : t.mv[p]? = some g) (h2 : m[p]? = some a) (h3 : t.tk[p]? = some b) : stepF t m res p = if g = -1 then res else res.set g.toNat (res.getD g.toNat 0 + (a - b)) := by
  unfold stepF
  rw [getD_of h1, getD_of h2, getD_of h3]
/-- the law's own firing -/
def lfire (n : Nat) (t : Tr) (m : List Int) : D := if covb m t.tk = true then tI (fireN t m n) else .n
end
section
variable {d : Option Addr} {P : Program} {w : World} {K : PySem.W.Frag} {mg : Str → Option Value} {base : Heap}
/-- _numbers of a row that fits -/
theorem ok_pnumbers {f : Addr} {fd : FuncData} (F : Fun K "_numbers" "_numbers" s_numbers f fd) (ml : mg "len" = none) (mt : mg "tuple" = none) :
    FnOk P w K mg base CX0 1 f fd ["row", "places", "least", "most"] (spP d (fun (z : {z : List Int × Int × Int // ∀ x ∈ z.1, z.2.1 ≤ x ∧ x ≤ z.2.2}) => [dat K (tI z.1.1), rI (z.1.1.length : Int), rI z.1.2.1, rI z.1.2.2]) (fun z _ => dat K (tI z.1.1))) := by
  refine fn_ok F sc_numbers (fun _ => rfl) (by decide) fun z H cdv A outer s E hr => ?_
  obtain ⟨⟨ns, lo, hi⟩, hz⟩ := z
  dsimp only at hz ⊢
  refine bx_ifret (t_ne (x_len_t rfl ml (x_var 0 rfl)) (x_var 1 rfl)) (fun h => by simp [is] at h) (fun _ => ?_)
  refine bx_forT 4 (fun _ (_ : Unit) => True) (fun _ _ => [some (dat K (tI ns)), some (rI (ns.length : Int)), some (rI lo), some (rI hi), none]) (x_var 0 rfl) (fun σ H s => ⟨(), trivial, s.sub (by (repeat (first | exact Sub.nil | refine Sub.same ?_ | refine Sub.drop ?_)))⟩) (fun i w z hw _ => ?_) (bx_ex fun _ _ => bx_retR (x_tuple_t rfl mt (x_var 0 rfl)) rfl) sc_numbers.nd PassesOwn.never
  obtain ⟨n, hn, rfl⟩ := getI hw
  refine bx_ifret (t_not (t_chainLe (x_var 2 rfl) (x_dI (x_var 4 rfl)) (x_var 3 rfl))) (fun h => ?_) (fun _ => bx_nil fun σ H s => ⟨(), trivial, s.sub (by (repeat (first | exact Sub.nil | refine Sub.same ?_ | refine Sub.drop ?_)))⟩)
  have h2 := hz n (List.mem_of_getElem? hn)
  rw [decide_eq_true h2.1, decide_eq_true h2.2] at h
  simp [is] at h
theorem ok_checked {f fN : Addr} {fd fdN : FuncData} {tk1 : Tok} (F : Fun K "_checked" "_checked" s_checked_nets f fd) (FN : Fun K "_numbers" "_numbers" s_numbers fN fdN) (bN : Binds K fdN ["row", "places", "least", "most"] []) (gN : mg "_numbers" = some (.ref fN)) (gM : mg "MOST_TOKENS" = some (.int 9 tk1)) (ml : mg "len" = none) (mt : mg "tuple" = none) :
    FnOk P w K mg base CX0 2 f fd ["transition", "places"] (spP d (fun (z : {z : Nat × Tr // TrOk z.1 z.2}) => [dat K z.1.2.d, rI (z.1.1 : Int)]) (fun z _ => dat K z.1.2.d)) := by
  have GN : FnOk P w K mg base CX0 1 fN fdN ["row", "places", "least", "most"] (spP d (fun (z : {z : List Int × Int × Int // ∀ x ∈ z.1, z.2.1 ≤ x ∧ x ≤ z.2.2}) => [dat K (tI z.1.1), rI (z.1.1.length : Int), rI z.1.2.1, rI z.1.2.2]) (fun z _ => dat K (tI z.1.1))) := ok_pnumbers FN ml mt
  refine fn_ok F sc_checked_nets (fun _ => rfl) (by decide) fun z H cdv A outer s E hr => ?_
  obtain ⟨⟨n, t⟩, ht⟩ := z
  dsimp only at ht ⊢
  have hr1 : Room 1 _ := hr.mono (by decide)
  refine bx_ifret (t_ne (x_len_t rfl ml (x_var 0 rfl)) x_int) (fun h => by simp [is] at h) (fun _ => ?_)
  refine bx_unp3 2 3 4 (x_var 0 rfl) ?_ sc_checked_nets.nd
  have e1 : (n : Int) = (t.tk.length : Int) := by rw [ht.l1]
  have e2 : (n : Int) = (t.gv.length : Int) := by rw [ht.l2]
  have e3 : (n : Int) = (t.mv.length : Int) := by rw [ht.l3]
  refine bx_retR (x_tup (ds := [tI t.tk, tI t.gv, tI t.mv])
    (a_cons (x_call (E := E0) GN hr1 rfl gN FN.kp bN pass0 ⟨(t.tk, 0, 9), ht.b1⟩ (a_cons (x_var 2 rfl) (a_cons (x_sub (x_var 1 rfl) fun v H hv => by rw [← e1]; exact hv) (a_cons x_int (a_cons (x_globI rfl gM) a_nil)))) fun v H H' σ _ _ h => h)
    (a_cons (x_call (E := E0) GN hr1 rfl gN FN.kp bN pass0 ⟨(t.gv, 0, 9), ht.b2⟩ (a_cons (x_var 3 rfl) (a_cons (x_sub (x_var 1 rfl) fun v H hv => by rw [← e2]; exact hv) (a_cons x_int (a_cons (x_globI rfl gM) a_nil)))) fun v H H' σ _ _ h => h)
    (a_cons (x_call (E := E0) GN hr1 rfl gN FN.kp bN pass0 ⟨(t.mv, -1, (n : Int) - 1), fun x hx => by have := ht.b3 x hx; dsimp only; omega⟩ (a_cons (x_var 4 rfl) (a_cons (x_sub (x_var 1 rfl) fun v H hv => by rw [← e3]; exact hv) (a_cons (x_neg x_int) (a_cons (x_sub_ (x_var 1 rfl) x_int) a_nil)))) fun v H H' σ _ _ h => h) a_nil)))) rfl
/-- a net: its two fields -/
abbrev netF (K : PySem.W.Frag) (n : Nat) (Ts : List D) : List (Str × Rp d) := [("transitions", dat K (.t Ts)), ("places", rI (n : Int))]
structure NetTxt (K : PySem.W.Frag) (mg : Str → Option Value) (C : Addr) : Prop where
  cl : Cls K C
  nP : NoAttr K C "places"
  nT : NoAttr K C "transitions"
  gC : mg "Net" = some (.ref C)
theorem ok_net {f fC : Addr} {fd fdC : FuncData} {C fN : Addr} {fdN : FuncData} {tk1 tk2 tk3 : Tok} (F : Fun K "__init__" "Net.__init__" s_Net_init f fd) (T : NetTxt K mg C) (FC : Fun K "_checked" "_checked" s_checked_nets fC fdC) (bC : Binds K fdC ["transition", "places"] []) (gC : mg "checked_nets" = some (.ref fC))
    (FN : Fun K "_numbers" "_numbers" s_numbers fN fdN) (bN : Binds K fdN ["row", "places", "least", "most"] []) (gN : mg "_numbers" = some (.ref fN)) (gM : mg "MOST_TOKENS" = some (.int 9 tk1)) (gP : mg "MOST_PLACES" = some (.int 12 tk2)) (gT : mg "MOST_TRANSITIONS" = some (.int 24 tk3)) (ml : mg "len" = none) (mt : mg "tuple" = none) :
    FnOk P w K mg base CX0 3 f fd ["self", "places", "transitions"] (spI d C (fun (z : {z : Nat × List Tr // 1 ≤ z.1 ∧ z.1 ≤ 12 ∧ z.2.length ≤ 24 ∧ ∀ t ∈ z.2, TrOk z.1 t}) => [rI (z.1.1 : Int), lst K (z.1.2.map Tr.d)]) (fun z => netF K z.1.1 (z.1.2.map Tr.d))) := by
  have GC : FnOk P w K mg base CX0 2 fC fdC ["transition", "places"] (spP d (fun (z : {z : Nat × Tr // TrOk z.1 z.2}) => [dat K z.1.2.d, rI (z.1.1 : Int)]) (fun z _ => dat K z.1.2.d)) := ok_checked FC FN bN gN gM ml mt
  refine fn_okG F sc_Net_init (fun vs H Q E ⟨z, x, dx, us, h1, h2, h3, _⟩ => by rw [h1, List.length_cons, h3.len]; rfl) fun vs H Q E hsp cdv A outer s hr => ?_
  obtain ⟨⟨⟨n, ts⟩, hn0, hn1, hl, hts⟩, x, dx, us, rfl, hx, hus, hdr, q⟩ := hsp
  dsimp only at hn0 hn1 hl hts hus q
  have hxd : some x ≠ d := fun e => by
    obtain ⟨ns, _, h⟩ := hdr x e.symm
    rw [hx] at h; cases h
  obtain ⟨u1, u2, rfl, hu1, hu2⟩ := hus.two
  have xE := del_ext (H := H) (x := x) hxd
  refine ⟨St (d := d) (del H x) [some (insA C x []), some (rI (n : Int)), some (lst K (ts.map Tr.d)), none], { nx := fun _ H' => Ext d (del H x) H' ∧ (insA (d := d) C x (netF K n (ts.map Tr.d))).p (.ref x) H', rt := fun _ _ => False }, ?_, ?_, ?_⟩
  · refine ⟨xE, hdr, rfl, fun i R e => ?_⟩
    match i, e with
    | 0, e => cases e; exact ⟨_, rfl, rfl, dx, [], hx, Nat.le_refl _, fun i f R k => by cases k⟩
    | 1, e => cases e; exact ⟨_, rfl, hu1⟩
    | 2, e => cases e; exact ⟨_, rfl, (lst K (ts.map Tr.d)).st xE hu2⟩
    | 3, e => cases e
    | i + 4, e => cases e
  · have hr1 : Room 2 _ := hr.mono (by decide)
    refine bx_ifret (t_not (t_chainLe x_int (x_var 1 rfl) (x_globI rfl gP))) (fun h => ?_) (fun _ => ?_)
    · rw [decide_eq_true (show (1 : Int) ≤ n by omega), decide_eq_true (show (n : Int) ≤ 12 by omega)] at h
      cases h
    refine bx_open 2 rfl fun l _ => ?_
    refine bx_ifret (t_gt (x_len_l rfl ml (x_var 2 rfl)) (x_globI rfl gT)) (fun h => ?_) (fun _ => ?_)
    · have : (24 : Int) < ((ts.map Tr.d).length : Nat) := of_decide_eq_true h.symm
      rw [List.length_map] at this
      omega
    refine bx_setfld 0 rfl (by simp) T.cl T.nP (x_var 1 rfl) del_same (io_here (io_some io_I (io_some io_lstA (io_none io_nil)))) io_I (by simp) ?_
    refine bx_setfld 0 (R := dat K (.t (ts.map Tr.d))) rfl (by simp) T.cl T.nT (x_sub (x_tuple_lE rfl mt (x_lcL 3 (fun i w => ∃ t : Tr, ts[i]? = some t ∧ w = t.d) (x_var 2 rfl) (by simp; omega) sc_Net_init.nd (blkOk_by (N := ["self", "places", "transitions", "transition"]) (sc := defScope s_Net_init) (by decide +kernel)) (fun _ _ _ _ _ => pg_name (i := 3) sc_Net_init.nd rfl (Or.inl rfl))
      (fun s H C cl fp i w hw => ?_))) fun v H' hv => ?_) del_same (io_here (io_some io_I (io_some io_lstA (io_none io_nil)))) io_dat ?_ ?_
    · rw [List.getElem?_map] at hw
      cases e : ts[i]? with
      | none => rw [e] at hw; cases hw
      | some t =>
        rw [e] at hw
        cases hw
        exact x_sub (x_call (E := E0) (R := dat K t.d) GC hr1 rfl gC FC.kp bC pass0 ⟨(n, t), hts t (List.mem_of_getElem? e)⟩ (a_cons (x_var 3 rfl) (a_cons (x_var 1 rfl) a_nil)) fun v H H' σ _ _ h => h) fun v H hv => ⟨_, ⟨t, rfl, rfl⟩, hv⟩
    · obtain ⟨w, ⟨ds, ⟨h1, h2⟩, rfl⟩, hv⟩ := hv
      have e : ds = ts.map Tr.d := by
        apply List.ext_getElem?
        intro i
        rw [List.length_map] at h1
        rw [List.getElem?_map]
        by_cases hi : i < ts.length
        · obtain ⟨t, ht, hw⟩ := h2 i _ (List.getElem?_eq_getElem (show i < ds.length by omega))
          rw [List.getElem?_eq_getElem (show i < ds.length by omega), hw, ht]
          rfl
        · rw [List.getElem?_eq_none (by omega), List.getElem?_eq_none (by omega)]
          rfl
      rw [← e]
      exact hv
    · intro p hp
      rw [List.mem_singleton.mp hp]
      exact ⟨io_I, show ¬ (("places" : Str) = "transitions") by decide +kernel⟩
    · refine bx_nil fun σ H' s => ⟨s.ext, ?_⟩
      obtain ⟨v, _, hv⟩ := s.good.get (i := 0) rfl
      obtain rfl : v = .ref x := hv.1
      exact hv
  · exact ⟨fun σ' H' _ ⟨e1, h1⟩ => q H' e1 h1, fun v H' _ h => h.elim, fun _ _ _ h => h.elim, fun _ _ _ h => h.elim⟩
end
section
variable {d : Option Addr} {X : Cx} {B : Hp} {ρ ρ' : Ro d} {a b c e iter elt : Expr} {es : List Expr} {R R' Ra Rb : Rp d} {Rs : List (Rp d)} {pos : Pos} {m n : Int} {st : Stmt} {rest body orelse : List Stmt} {Pre Mid : L2.St → Hp → Prop} {Po : Ends}
theorem passN : Passes (L2N.CX X.prog X.w) X E0 := fun _ _ _ _ _ _ _ h => by
  obtain ⟨_, _, _, _, _, _, _, _, _, _, _, _, z⟩ := h
  exact z.elim
variable {Pg : Program} {w : World} {K : PySem.W.Frag} {mg : Str → Option Value} {base : Heap}
theorem fn_okN {x qual : Str} {sd : Stmt} {f : Addr} {fd : FuncData} {N ps : List Str} {k : Nat} {sp : Sp} (F : Fun K x qual sd f fd) (S : FnScope N ps (defScope sd)) (len : ∀ vs H Q E, sp vs H Q E → vs.length = ps.length)
    (body : ∀ (vs : List V) (H : Hp) (Q : VK) (E : XK), sp vs H Q E → ∀ (cdv : Value) (A : Around) (outer : List Env) (s : Shared), Room k (A.deeper (envOfC qual (defScope sd) s.heap.objs.size f cdv)) →
      ∃ (Pre : L2.St → Hp → Prop) (Po : Ends), Pre (L2.start N vs) H ∧ BX (cxOf (L2N.CX Pg w) Pg w K mg base N qual (defScope sd) f cdv A outer s H E) (defBody sd) Pre Po ∧ Le H Po { nx := fun _ H' => Q .non H', rt := Q }) : FnOk Pg w K mg base (L2N.CX Pg w) (k + 1) f fd ps sp := by
  obtain ⟨oc, od, kV, doc, pm, an, cdv, ct, osl, rfl, lk, hcd⟩ := F.ex
  refine fn_of lk hcd S len fun A outer s H vs Q E hr hsp => ?_
  obtain ⟨Pre, Po, h1, h2, h3⟩ := body vs H Q E hsp cdv A outer s hr
  exact ⟨_, h2, h1, h3⟩
theorem fn_okH {α : Type} {As : α → List (Rp d)} {Rz : α → Hp → Rp d} {x qual : Str} {sd : Stmt} {f : Addr} {fd : FuncData} {N ps : List Str} {k : Nat} (F : Fun K x qual sd f fd) (S : FnScope N ps (defScope sd)) (hl : ∀ z, (As z).length = ps.length) (hN : ps.length ≤ N.length)
    (body : ∀ (z : α) (H : Hp) (cdv : Value) (A : Around) (outer : List Env) (s : Shared) (E : XK) (p : Addr × Obj), L2H.RoomH k (A.deeper (envOfC qual (defScope sd) s.heap.objs.size f cdv)) →
      BX (L2H.cxH CX0 Pg w K mg base N qual (defScope sd) f cdv A outer s H E p) (defBody sd) (St H (ro (As z) (N.length - (As z).length))) (Rt H (Rz z H))) : L2H.FnH Pg w K mg base CX0 (k + 1) f fd ps (spP d As Rz) := by
  obtain ⟨oc, od, kV, doc, pm, an, cdv, ct, osl, rfl, lk, hcd⟩ := F.ex
  refine L2H.fn_ofH lk hcd S (fun vs H Q E ⟨z, h, _⟩ => by rw [h.len, hl]) fun A outer s H vs Q E p hot hr hsp => ?_
  obtain ⟨z, hz, dr, q⟩ := hsp
  refine ⟨_, body z H cdv A outer s E p hr, st_start hz (by rw [hl]; exact hN) dr, ?_⟩
  exact ⟨fun σ' H' _ ⟨e1, h1⟩ => q _ H' e1 h1, fun v H' _ ⟨e1, h1⟩ => q v H' e1 h1, fun _ _ _ h => h.elim, fun _ _ _ h => h.elim⟩
theorem takes0N : L2N.Takes X (fun _ _ _ _ => False) := fun _ _ x => by
  obtain ⟨_, _, _, _, _, _, _, _, _, _, _, _, _, _, _, _, z⟩ := x
  exact z.elim
/-- raise NotEnabled(e) -/
theorem bx_raiseNE {C fI : Addr} {p pos2 : Pos} {k : Nat} {E : XK} {W : L2.WX} (T : PySem.LowX.LowTxt X.K X.mg C fI) (hr : Room k X.A) (tk : L2N.Takes X W) (hW : ∀ cls d' σ H, E cls d' H → W cls d' σ H) (ha : EX X B ρ a (rI n)) (hE : ∀ dd H1, Ext d B H1 → H1 dd = none → E (.ref C) (some dd) (upd H1 dd (.xd [(("position" : Str), .int n)])))
    (hc : X.calm = true := by rfl) (hg : Gl X "NotEnabled" := by rfl) (he : starEach (a :: []) X.env = (false, eval a X.env) :: starEach [] X.env := by rfl) (hpl : (backTo pos (starEach [] X.env)).any (·.1) = false := by rfl) :
    BX X (.Raise (some (.Call (.Name "NotEnabled" p) [a] [] pos)) none pos2 :: rest) (St B ρ) Po := by
  refine bx_cons (Mid := fun _ _ => False) ?_ bx_false
  refine PS_wk (ps_raiseLow hc T hr tk (a_cons ha a_nil he) hg he hpl) fun D σ H ⟨s, l⟩ => ?_
  refine ⟨s, fun vs H1 e1 hv => ?_⟩
  obtain ⟨v, rfl, hv'⟩ := hv.one
  obtain rfl : v = .int n := hv'
  exact ⟨_, rfl, fun dd hdd => hW _ _ _ _ (hE dd H1 (s.ext.trans e1) hdd)⟩
/-- fire(net, index, marking) -/
def spFire (d : Option Addr) (K : PySem.W.Frag) (C CE : Addr) : Sp := fun vs H Q E => ∃ (n : Nat) (Ts : List D) (i : Nat) (t : Tr) (m : List Int), RsH (d := d) [insR C (netF K n Ts), rI (i : Int), dat K (tI m)] vs H ∧ Ts[i]? = some t.d ∧ TrOk n t ∧ m.length = n ∧ n ≤ 100 ∧ (∀ a, d = some a → Drw H a) ∧
  (covb m t.tk = true → ∀ v H', Ext d H H' → (dat (d := d) K (tI (fireN t m n))).p v H' → Q v H') ∧ (covb m t.tk = false → ∀ dd H1, Ext d H H1 → H1 dd = none → E (.ref CE) (some dd) (upd H1 dd (.xd [(("position" : Str), .int 0)])))
/-- after_firing(transition, marking) -/
def spAf (d : Option Addr) (K : PySem.W.Frag) : Sp := spP d (fun (z : {z : Nat × Tr × List Int // TrOk z.1 z.2.1 ∧ z.2.2.length = z.1 ∧ z.1 ≤ 100}) => [dat K z.1.2.1.d, dat K (tI z.1.2.2)]) (fun z _ => dat K (lfire z.1.1 z.1.2.1 z.1.2.2))
theorem lfire_yes {n : Nat} {t : Tr} {m : List Int} (h : covb m t.tk = true) : lfire n t m = tI (fireN t m n) := if_pos h
theorem lfire_no {n : Nat} {t : Tr} {m : List Int} (h : covb m t.tk = false) : lfire n t m = .n := if_neg (by rw [h]; exact Bool.false_ne_true)
theorem lfire_n {n : Nat} {t : Tr} {m : List Int} : lfire n t m = .n ↔ covb m t.tk = false := by
  cases q : covb m t.tk with
  | true => rw [lfire_yes q]; exact ⟨fun h => (by cases h), fun h => (by cases h)⟩
  | false => rw [lfire_no q]; exact ⟨fun _ => rfl, fun _ => rfl⟩
end
/-! ### the mathematics of firing -/
theorem covb_get : ∀ {xs ys : List Int} {i : Nat} {a b : Int}, covb xs ys = true → xs[i]? = some a → ys[i]? = some b → ¬ a < b := fun {xs ys i a b} h ha hb hlt => by
  rw [covb_lt ha hb hlt] at h
  cases h
theorem trs_of {n : Nat} : ∀ {ds : List D}, (∀ (k : Nat) (w : D), ds[k]? = some w → okTr n false w) → ∃ ts : List Tr, ds = ts.map Tr.d ∧ ∀ t ∈ ts, TrOk n t
  | [], _ => ⟨[], rfl, fun t h => by cases h⟩
  | e :: ds, h => by
    obtain ⟨t, ht, hok, _⟩ := h 0 e rfl
    obtain ⟨ts, hts, hall⟩ := trs_of (ds := ds) fun k w hk => h (k + 1) w hk
    exact ⟨t :: ts, by rw [ht, hts]; rfl, fun u hu => by
      rcases List.mem_cons.mp hu with rfl | hu
      · exact hok
      · exact hall u hu⟩
theorem getD_nn {l : List Int} (h : ∀ x ∈ l, 0 ≤ x) (i : Nat) : 0 ≤ l.getD i 0 := by
  cases e : l[i]? with
  | none => rw [List.getD_eq_getElem?_getD, e]; exact Int.le_refl _
  | some x => rw [getD_of e]; exact h x (List.mem_of_getElem? e)
theorem fireN_nn {n : Nat} {t : Tr} {m : List Int} (ht : TrOk n t) (hm : m.length = n) (hc : covb m t.tk = true) : ∀ i, i ≤ n → ∀ x ∈ fireN t m i, 0 ≤ x
  | 0, _, x, hx => (ht.b2 x hx).1
  | i + 1, hi, x, hx => by
    have ih := fireN_nn ht hm hc i (by omega)
    rw [fireN_succ] at hx
    obtain ⟨g, hg⟩ := ex_i ht.l3 (show i < n by omega)
    obtain ⟨a, ha⟩ := ex_i hm (show i < n by omega)
    obtain ⟨b, hb⟩ := ex_i ht.l1 (show i < n by omega)
    rw [stepF_eq hg ha hb] at hx
    split at hx
    · exact ih x hx
    · rcases mem_set hx with h | h
      · have h1 := covb_get hc ha hb
        have h2 := getD_nn ih g.toNat
        omega
      · exact ih x h
theorem fireN_mono {n : Nat} {t : Tr} {m g : List Int} (ht : TrOk n t) (hm : m.length = n) (hg : g.length = n) (hle : ∀ (i : Nat) a b, m[i]? = some a → g[i]? = some b → a ≤ b) : ∀ i, i ≤ n → ∀ (j : Nat) x y, (fireN t m i)[j]? = some x → (fireN t g i)[j]? = some y → x ≤ y
  | 0, _, j, x, y, hx, hy => by
    have : x = y := Option.some.inj (hx.symm.trans hy)
    omega
  | i + 1, hi, j, x, y, hx, hy => by
    have ih := fireN_mono ht hm hg hle i (by omega)
    obtain ⟨c, hc⟩ := ex_i ht.l3 (show i < n by omega)
    obtain ⟨a, ha⟩ := ex_i hm (show i < n by omega)
    obtain ⟨a', ha'⟩ := ex_i hg (show i < n by omega)
    obtain ⟨b, hb⟩ := ex_i ht.l1 (show i < n by omega)
    rw [fireN_succ, stepF_eq hc ha hb] at hx
    rw [fireN_succ, stepF_eq hc ha' hb] at hy
    by_cases h : c = -1
    · rw [if_pos h] at hx hy
      exact ih j x y hx hy
    · rw [if_neg h] at hx hy
      by_cases hj : c.toNat = j
      · subst hj
        have hl1 : c.toNat < (fireN t m i).length := by have := (List.getElem?_eq_some_iff.mp hx).1; simpa using this
        have hl2 : c.toNat < (fireN t g i).length := by rw [fireN_len] at hl1 ⊢; exact hl1
        rw [List.getElem?_set_self hl1] at hx
        rw [List.getElem?_set_self hl2] at hy
        have h1 := ih c.toNat _ _ (List.getElem?_eq_getElem hl1) (List.getElem?_eq_getElem hl2)
        rw [getD_of (List.getElem?_eq_getElem hl1)] at hx
        rw [getD_of (List.getElem?_eq_getElem hl2)] at hy
        have h2 := hle i a a' ha ha'
        have hx' := Option.some.inj hx
        have hy' := Option.some.inj hy
        omega
      · rw [List.getElem?_set_ne hj] at hx hy
        exact ih j x y hx hy
section
variable {P : Program} {w : World} {K : PySem.W.Frag} {mg : Str → Option Value} {base : Heap}
theorem x_makeZ {d : Option Addr} {R : Rp d} {B : Hp} {X : Cx} {ρ : Ro d} {e : Expr} {es : List Expr} {pos : Pos} {α : Type} {C : Addr} {As : α → List (Rp d)} {F : α → List (Str × Rp d)} {x : Str} {p : Pos} {f : Addr} {fd : FuncData} {ps : List Str} {k : Nat} {CX : CXT} {E : XK} (z : α) (M : Mk X.K C f) (G : FnOk X.prog X.w X.K X.mg X.base CX k f fd ps (spI d C As F)) (hr : Room (k + 1) X.A) (hg : Gl X x) (hm : X.mg x = some (.ref C)) (hb : Binds X.K fd ps []) (hx : Passes CX X E)
    (ha : AX X B ρ (e :: es) (As z)) (hR : insR C (F z) = R)
    (hdb : (x == ("__debug__" : Str)) = false := by decide) (he : starEach (e :: es) X.env = (false, eval e X.env) :: starEach es X.env := by rfl) (hpl : (backTo pos (starEach es X.env)).any (·.1) = false := by rfl) : EX X B ρ (.Call (.Name x p) (e :: es) [] pos) R := hR ▸ x_make M G hr hg hm hb hx z ha hdb he hpl
def spLaw (K : PySem.W.Frag) : Sp := fun vs H Q _ => ∃ (a : Addr) (ns : List Int), vs = [.ref a] ∧ SqL K H a (ns.map V.int) ∧ ns.length ≤ 63 ∧ ∀ H', Q (.bl true) H'
end
/-! ### runs -/
/-- the transitions of a run fired one by one: what is reached, or the place of the first that cannot be fired -/
def runTo (n : Nat) (ts : List Tr) (m : List Int) (run : List Nat) : Nat → (List Int) ⊕ Nat
  | 0 => .inl m
  | j + 1 => match runTo n ts m run j with
    | .inr p => .inr p
    | .inl c => match run[j]? with
      | none => .inl c
      | some i => match ts[i]? with
        | none => .inr j
        | some t => if covb c t.tk = true then .inl (fireN t c n) else .inr j
theorem runTo_step {n : Nat} {ts : List Tr} {m c : List Int} {run : List Nat} {j i : Nat} {t : Tr} (h : runTo n ts m run j = .inl c) (h1 : run[j]? = some i) (h2 : ts[i]? = some t) : runTo n ts m run (j + 1) = if covb c t.tk = true then .inl (fireN t c n) else .inr j := by
  simp only [runTo, h, h1, h2]
theorem runTo_stop {n : Nat} {ts : List Tr} {m : List Int} {run : List Nat} {j p : Nat} (h : runTo n ts m run j = .inr p) : ∀ k, j ≤ k → runTo n ts m run k = .inr p
  | 0, hk => by
    have : j = 0 := by omega
    rw [this] at h
    exact h
  | k + 1, hk => by
    by_cases hj : j = k + 1
    · rw [← hj]; exact h
    · have ih := runTo_stop h k (by omega)
      simp only [runTo, ih]
theorem runTo_len {n : Nat} {ts : List Tr} {m : List Int} {run : List Nat} (hts : ∀ t ∈ ts, TrOk n t) (hm : m.length = n) : ∀ {j : Nat} {c : List Int}, runTo n ts m run j = .inl c → c.length = n
  | 0, c, h => by
    have : m = c := Sum.inl.inj h
    rw [← this]; exact hm
  | j + 1, c, h => by
    cases q : runTo n ts m run j with
    | inr p => simp only [runTo, q] at h; cases h
    | inl c0 =>
      have ih := runTo_len hts hm q
      cases q1 : run[j]? with
      | none => simp only [runTo, q, q1] at h; cases h; exact ih
      | some i =>
        cases q2 : ts[i]? with
        | none => simp only [runTo, q, q1, q2] at h; cases h
        | some t =>
          rw [runTo_step q q1 q2] at h
          split at h
          · cases h
            rw [fireN_len, (hts t (List.mem_of_getElem? q2)).l2]
          · cases h
abbrev runD (run : List Nat) : List D := run.map fun (i : Nat) => D.i (i : Int)
theorem getN {ns : List Nat} {i : Nat} {w : D} (h : (runD ns)[i]? = some w) : ∃ n : Nat, ns[i]? = some n ∧ w = .i (n : Int) := by
  rw [List.getElem?_map] at h
  cases q : ns[i]? with
  | none => rw [q] at h; cases h
  | some z => rw [q] at h; cases h; exact ⟨z, rfl, rfl⟩
section
variable {d : Option Addr} {Pg : Program} {w : World} {K : PySem.W.Frag} {mg : Str → Option Value} {base : Heap}
def runR (d : Option Addr) (K : PySem.W.Frag) (run : List Nat) (b : Bool) : Rp d := match b with
  | true => lst K (runD run)
  | false => dat K (.t (runD run))
/-- run_from(net, marking, run) -/
def spRun (d : Option Addr) (K : PySem.W.Frag) (C CE : Addr) (b : Bool) : Sp := fun vs H Q E => ∃ (n : Nat) (ts : List Tr) (m : List Int) (run : List Nat), RsH (d := d) [insR C (netF K n (ts.map Tr.d)), dat K (tI m), runR d K run b] vs H ∧ (∀ t ∈ ts, TrOk n t) ∧ (∀ i ∈ run, i < ts.length) ∧ m.length = n ∧ n ≤ 100 ∧ (∀ a, d = some a → Drw H a) ∧
  (∀ c, runTo n ts m run run.length = .inl c → ∀ v H', Ext d H H' → (dat (d := d) K (tI c)).p v H' → Q v H') ∧ (∀ p, runTo n ts m run run.length = .inr p → ∀ dd H1, Ext d H H1 → H1 dd = none → E (.ref CE) (some dd) (upd H1 dd (.xd [(("position" : Str), .int (p : Int))])))
end
/-! ### mail: letters, words, actions -/
abbrev Prs := List (Nat × Int)
structure Act where
  hs : Prs
  sd : Prs
abbrev pairD (p : Nat × Int) : D := .t [.i (p.1 : Int), .i p.2]
abbrev prsD (ps : Prs) : D := .t (ps.map pairD)
abbrev Act.d (a : Act) : D := .t [prsD a.hs, prsD a.sd]
structure PrsOk (cs : List Int) (ps : Prs) : Prop where
  at_ : ∀ p ∈ ps, ∃ c, cs[p.1]? = some c ∧ 0 ≤ p.2 ∧ p.2 < c
  nd : (ps.map (·.1)).Nodup
structure ActOk (cs : List Int) (a : Act) : Prop where
  h : PrsOk cs a.hs
  s : PrsOk cs a.sd
theorem PrsOk.lt {cs : List Int} {ps : Prs} (h : PrsOk cs ps) : ∀ p ∈ ps, p.1 < cs.length := fun p hp => by
  obtain ⟨c, hc, _⟩ := h.at_ p hp
  exact (List.getElem?_eq_some_iff.mp hc).1
theorem getPr {ps : Prs} {i : Nat} {w : D} (h : (ps.map pairD)[i]? = some w) : ∃ p, ps[i]? = some p ∧ w = pairD p := by
  rw [List.getElem?_map] at h
  cases q : ps[i]? with
  | none => rw [q] at h; cases h
  | some z => rw [q] at h; cases h; exact ⟨z, rfl, rfl⟩
theorem prs_hd {ps : Prs} : ∀ (i : Nat) w, (ps.map pairD)[i]? = some w → ∃ A C, w = .t [A, C] := fun i w h => by
  obtain ⟨p, _, rfl⟩ := getPr h
  exact ⟨_, _, rfl⟩
theorem getPr2 {ps : Prs} {i : Nat} {A C : D} (h : (ps.map pairD)[i]? = some (.t [A, C])) : ∃ p, ps[i]? = some p ∧ A = .i (p.1 : Int) ∧ C = .i p.2 := by
  obtain ⟨p, h1, h2⟩ := getPr h
  cases h2
  exact ⟨p, h1, rfl, rfl⟩
abbrev Wds := List (List Int)
abbrev wsD (ws : Wds) : D := .t (ws.map tI)
theorem getW {ws : Wds} {c : Nat} (h : c < ws.length) : (ws.map tI)[c]? = some (tI (ws.getD c [])) := by
  rw [List.getElem?_map, List.getElem?_eq_getElem h, List.getD_eq_getElem?_getD, List.getElem?_eq_getElem h]
  rfl
/-- each word begins with the letter -/
def hearB (ws : Wds) (ps : Prs) : Bool := ps.all fun p => decide ((ws.getD p.1 []).take 1 = [p.2])
theorem hearB_no {ws : Wds} {ps : Prs} {p : Nat × Int} (hp : p ∈ ps) (h : ¬ (ws.getD p.1 []).take 1 = [p.2]) : hearB ws ps = false := by
  cases q : hearB ws ps with
  | false => rfl
  | true => exact absurd (of_decide_eq_true (List.all_eq_true.mp q p hp)) h
theorem hearB_yes {ws : Wds} {ps : Prs} (h : ∀ p ∈ ps, (ws.getD p.1 []).take 1 = [p.2]) : hearB ws ps = true := List.all_eq_true.mpr fun p hp => decide_eq_true (h p hp)
def loseB (ws : Wds) (c p : Int) : Bool := (decide (0 ≤ c) && decide (c < (ws.length : Int))) && (decide (0 ≤ p) && decide (p < ((ws.getD c.toNat []).length : Int)))
def dropL (ws : Wds) (c p : Nat) : Wds := ws.take c ++ [(ws.getD c []).take p ++ (ws.getD c []).drop (p + 1)] ++ ws.drop (c + 1)
def dropS (ws : Wds) (p : Nat × Int) : Wds := ws.set p.1 ((ws.getD p.1 []).drop 1)
def sendS (ws : Wds) (p : Nat × Int) : Wds := ws.set p.1 (ws.getD p.1 [] ++ [p.2])
def dropW (ws : Wds) (ps : Prs) : Wds := ps.foldl dropS ws
def sendW (ws : Wds) (ps : Prs) : Wds := ps.foldl sendS ws
theorem foldl_succ {α β : Type} {f : α → β → α} {a : α} {l : List β} {i : Nat} {b : β} (h : l[i]? = some b) : (l.take (i + 1)).foldl f a = f ((l.take i).foldl f a) b := by
  rw [List.take_add_one, h, List.foldl_append]
  rfl
theorem dropW_len {ws : Wds} : ∀ {ps : Prs}, (dropW ws ps).length = ws.length := fun {ps} => by
  induction ps generalizing ws with
  | nil => rfl
  | cons p r ih => show (dropW (dropS ws p) r).length = _; rw [ih]; simp [dropS]
theorem sendW_len {ws : Wds} : ∀ {ps : Prs}, (sendW ws ps).length = ws.length := fun {ps} => by
  induction ps generalizing ws with
  | nil => rfl
  | cons p r ih => show (sendW (sendS ws p) r).length = _; rw [ih]; simp [sendS]
theorem mem_setW {ws : Wds} {i : Nat} {x y : List Int} (h : y ∈ ws.set i x) : y = x ∨ y ∈ ws := by
  rcases List.mem_or_eq_of_mem_set h with h | h
  · exact .inr h
  · exact .inl h
theorem getD_bd {ws : Wds} {b : Nat} (h : ∀ w ∈ ws, w.length ≤ b) (c : Nat) : (ws.getD c []).length ≤ b := by
  rw [List.getD_eq_getElem?_getD]
  cases e : ws[c]? with
  | none => exact Nat.zero_le _
  | some w => exact h w (List.mem_of_getElem? e)
theorem dropW_bd {b : Nat} : ∀ {ps : Prs} {ws : Wds}, (∀ w ∈ ws, w.length ≤ b) → ∀ w ∈ dropW ws ps, w.length ≤ b
  | [], _, h => h
  | p :: r, ws, h => dropW_bd (ps := r) (ws := dropS ws p) fun w hw => by
    rcases mem_setW hw with rfl | hw
    · exact Nat.le_trans (by rw [List.length_drop]; exact Nat.sub_le _ _) (getD_bd h p.1)
    · exact h w hw
theorem sendW_bd {b : Nat} : ∀ {ps : Prs} {ws : Wds}, (∀ w ∈ ws, w.length ≤ b) → ∀ w ∈ sendW ws ps, w.length ≤ b + ps.length
  | [], _, h => h
  | p :: r, ws, h => fun w hw => by
    have := sendW_bd (b := b + 1) (ps := r) (ws := sendS ws p) (fun w hw => by
      rcases mem_setW hw with rfl | hw
      · rw [List.length_append]
        exact Nat.add_le_add_right (getD_bd h p.1) 1
      · have := h w hw; omega) w hw
    rw [List.length_cons]
    omega
theorem dropL_len {ws : Wds} {c p : Nat} (h : c < ws.length) : (dropL ws c p).length = ws.length := by
  unfold dropL
  simp; omega
theorem dropL_bd {b : Nat} {ws : Wds} {c p : Nat} (h : ∀ w ∈ ws, w.length ≤ b) (hp : p < (ws.getD c []).length) : ∀ w ∈ dropL ws c p, w.length ≤ b := fun w hw => by
  unfold dropL at hw
  rcases List.mem_append.mp hw with hw | hw
  · rcases List.mem_append.mp hw with hw | hw
    · exact h w (List.mem_of_mem_take hw)
    · rw [List.mem_singleton.mp hw]
      have h1 := getD_bd h c
      rw [List.length_append, List.length_take, List.length_drop]
      generalize (ws.getD c []).length = q at h1 hp ⊢
      omega
  · exact h w (List.mem_of_mem_drop hw)
/-! ### configurations and steps -/
abbrev Cf := List Int × Wds
abbrev cfD (c : Cf) : D := .t [tI c.1, wsD c.2]
inductive MS where
  | lose (c p : Int)
  | fire (k : Int)
abbrev MS.d : MS → D
  | .lose c p => .t [.s "lose", .i c, .i p]
  | .fire k => .t [.s "fire", .i k]
def canB (ts : List Tr) (as : List Act) (c : Cf) : MS → Bool
  | .lose x p => loseB c.2 x p
  | .fire k => if 0 ≤ k then (match ts[k.toNat]?, as[k.toNat]? with
    | some t, some a => covb c.1 t.tk && hearB c.2 a.hs
    | _, _ => false) else false
def goB (n : Nat) (ts : List Tr) (as : List Act) (c : Cf) : MS → Cf
  | .lose x p => (c.1, dropL c.2 x.toNat p.toNat)
  | .fire k => match ts[k.toNat]?, as[k.toNat]? with
    | some t, some a => (fireN t c.1 n, sendW (dropW c.2 a.hs) a.sd)
    | _, _ => c
def mrun (n : Nat) (ts : List Tr) (as : List Act) (c : Cf) (ss : List MS) : Nat → Cf ⊕ Nat
  | 0 => .inl c
  | j + 1 => match mrun n ts as c ss j with
    | .inr p => .inr p
    | .inl c1 => match ss[j]? with
      | none => .inl c1
      | some s => if canB ts as c1 s = true then .inl (goB n ts as c1 s) else .inr j
theorem mrun_step {n : Nat} {ts : List Tr} {as : List Act} {c c1 : Cf} {ss : List MS} {j : Nat} {s : MS} (h : mrun n ts as c ss j = .inl c1) (h1 : ss[j]? = some s) : mrun n ts as c ss (j + 1) = if canB ts as c1 s = true then .inl (goB n ts as c1 s) else .inr j := by
  simp only [mrun, h, h1]
theorem mrun_stop {n : Nat} {ts : List Tr} {as : List Act} {c : Cf} {ss : List MS} {j p : Nat} (h : mrun n ts as c ss j = .inr p) : ∀ k, j ≤ k → mrun n ts as c ss k = .inr p
  | 0, hk => by
    have : j = 0 := by omega
    rw [this] at h
    exact h
  | k + 1, hk => by
    by_cases hj : j = k + 1
    · rw [← hj]; exact h
    · have ih := mrun_stop h k (by omega)
      simp only [mrun, ih]
theorem mrun_app {n : Nat} {ts : List Tr} {as : List Act} {c : Cf} {ss : List MS} {s : MS} : ∀ j, j ≤ ss.length → mrun n ts as c (ss ++ [s]) j = mrun n ts as c ss j
  | 0, _ => rfl
  | j + 1, h => by
    have ih := mrun_app (s := s) (n := n) (ts := ts) (as := as) (c := c) (ss := ss) j (by omega)
    have e : (ss ++ [s])[j]? = ss[j]? := List.getElem?_append_left (by omega)
    simp only [mrun, ih, e]
/-- all fits together -/
structure MOk (n : Nat) (ts : List Tr) (cs : List Int) (as : List Act) : Prop where
  n0 : 1 ≤ n
  n1 : n ≤ 12
  tl : ts.length ≤ 24
  t : ∀ t ∈ ts, TrOk n t
  cl : cs.length ≤ 2
  c : ∀ c ∈ cs, 1 ≤ c ∧ c ≤ 4
  al : as.length = ts.length
  a : ∀ a ∈ as, ActOk cs a
structure CfOk (n : Nat) (cs : List Int) (b : Nat) (c : Cf) : Prop where
  m : c.1.length = n
  w : c.2.length = cs.length
  b : ∀ w ∈ c.2, w.length ≤ b
theorem CfOk.up {n : Nat} {cs : List Int} {b b' : Nat} {c : Cf} (h : CfOk n cs b c) (hb : b ≤ b') : CfOk n cs b' c := ⟨h.m, h.w, fun w hw => Nat.le_trans (h.b w hw) hb⟩
theorem nd_len {cs : List Int} {ps : Prs} (h : PrsOk cs ps) : ps.length ≤ cs.length := by
  have h1 : (ps.map (·.1)).length ≤ (List.range cs.length).length := h.nd.length_le_of_subset fun x hx => by
    obtain ⟨p, hp, rfl⟩ := List.mem_map.mp hx
    exact List.mem_range.mpr (h.lt p hp)
  simpa using h1
theorem go_ok {n : Nat} {ts : List Tr} {cs : List Int} {as : List Act} {b : Nat} {c : Cf} {s : MS} (M : MOk n ts cs as) (C : CfOk n cs b c) (h : canB ts as c s = true) : CfOk n cs (b + 2) (goB n ts as c s) := by
  cases s with
  | lose x p =>
    have h' : loseB c.2 x p = true := h
    unfold loseB at h'
    simp only [Bool.and_eq_true, decide_eq_true_eq] at h'
    obtain ⟨⟨h1, h2⟩, h3, h4⟩ := h'
    refine ⟨C.m, ?_, fun w hw => Nat.le_add_right_of_le (dropL_bd C.b (by omega) w hw)⟩
    show (dropL c.2 x.toNat p.toNat).length = _
    rw [dropL_len (by omega)]
    exact C.w
  | fire k =>
    have h' : (if 0 ≤ k then (match ts[k.toNat]?, as[k.toNat]? with | some t, some a => covb c.1 t.tk && hearB c.2 a.hs | _, _ => false) else false) = true := h
    by_cases hk : 0 ≤ k
    · rw [if_pos hk] at h'
      cases e1 : ts[k.toNat]? with
      | none => rw [e1] at h'; cases h'
      | some t =>
        cases e2 : as[k.toNat]? with
        | none => rw [e1, e2] at h'; cases h'
        | some a =>
          have e : goB n ts as c (.fire k) = (fireN t c.1 n, sendW (dropW c.2 a.hs) a.sd) := by
            show (match ts[k.toNat]?, as[k.toNat]? with | some t, some a => (fireN t c.1 n, sendW (dropW c.2 a.hs) a.sd) | _, _ => c) = _
            rw [e1, e2]
          rw [e]
          have ht := M.t t (List.mem_of_getElem? e1)
          have ha := M.a a (List.mem_of_getElem? e2)
          refine ⟨by rw [fireN_len, ht.l2], by rw [sendW_len, dropW_len, C.w], fun w hw => ?_⟩
          have h1 := sendW_bd (dropW_bd C.b) w hw
          have h2 := nd_len ha.s
          have h3 := M.cl
          omega
    · rw [if_neg hk] at h'; cases h'
section
variable {d : Option Addr} {P : Program} {w : World} {K : PySem.W.Frag} {mg : Str → Option Value} {base : Heap}
theorem x_succ {X : Cx} {B : Hp} {ρ : Ro d} {e : Expr} {k j : Nat} {p p2 : Pos} (h : EX X B ρ e (rI (k : Int))) : EX X B ρ (.BinOp e .Add (.Constant (.int 1) j p) p2) (rI ((k + 1 : Nat) : Int)) := x_sub (x_add h x_int) fun v H hv => hv
end
theorem nd_take {ps : Prs} {i : Nat} {p : Nat × Int} (h : (ps.map (·.1)).Nodup) (hi : ps[i]? = some p) : ∀ q ∈ ps.take i, ¬ q.1 = p.1 := fun q hq e => by
  obtain ⟨k, hk⟩ := List.getElem?_of_mem hq
  have hki : k < i := by
    have := (List.getElem?_eq_some_iff.mp hk).1
    rw [List.length_take] at this; omega
  rw [List.getElem?_take_of_lt hki] at hk
  have hil := (List.getElem?_eq_some_iff.mp hi).1
  have hkl := (List.getElem?_eq_some_iff.mp hk).1
  have := List.pairwise_iff_getElem.mp h k i (by rw [List.length_map]; exact hkl) (by rw [List.length_map]; exact hil) hki
  apply this
  rw [List.getElem_map, List.getElem_map, (List.getElem?_eq_some_iff.mp hk).2, (List.getElem?_eq_some_iff.mp hi).2]
  exact e
theorem map_take_succ {α β : Type} {f : α → β} {l : List α} {i : Nat} {a : α} (h : l[i]? = some a) : (l.take (i + 1)).map f = (l.take i).map f ++ [f a] := by
  rw [List.take_add_one, h, List.map_append]
  rfl
section
variable {d : Option Addr} {P : Program} {w : World} {K : PySem.W.Frag} {mg : Str → Option Value} {base : Heap}
def seenD (ps : Prs) : List (Key × D) := ps.map fun p => (Sum.inl (p.1 : Int), D.b true)
theorem ok_checked_pairs {f : Addr} {fd : FuncData} (F : Fun K "_checked_pairs" "_checked_pairs" s_checked_pairs f fd) (ml : mg "len" = none) (mt : mg "tuple" = none) : FnOk P w K mg base CX0 1 f fd ["pairs", "channels"]
    (spP d (fun (z : {z : List Int × Prs // PrsOk z.1 z.2 ∧ z.1.length ≤ 100}) => [dat K (prsD z.1.2), lst K (z.1.1.map D.i)]) (fun z _ => dat K (prsD z.1.2))) := by
  refine fn_okB F sc_checked_pairs (fun _ => rfl) (by decide) (fun z H => [some (dat K (prsD z.1.2)), some (lstY H K (z.1.1.map D.i)), none, none, none, none, none]) (fun z H σ s => (st_toY 1 rfl s).sub (by (repeat (first | exact Sub.nil | refine Sub.same ?_ | refine Sub.drop ?_)))) fun z H cdv A outer s E hr => ?_
  obtain ⟨⟨cs, ps⟩, hp, hcl⟩ := z
  dsimp only at hp hcl ⊢
  have hpl := nd_len hp
  refine bx_open 1 rfl fun la _ => ?_
  refine bx_new 2 [] (by simp) (fun B' => x_lst (ds := []) a_nil) (fun l2 hl2 _ => ?_) sc_checked_pairs.nd
  refine bx_dict 3 rfl (fun l3 hl3 => ?_) sc_checked_pairs.nd
  refine bx_forT 4 (fun i (_ : Unit) => True) (fun i _ => [some (dat K (prsD ps)), some (lstB H K la (cs.map D.i)), some (own K l2 ((ps.take i).map pairD)), some (dct K l3 (seenD (ps.take i))), none, none, none]) (x_var 0 rfl) (fun σ H s => ⟨(), trivial, s.sub (by (repeat (first | exact Sub.nil | refine Sub.same ?_ | refine Sub.drop ?_)))⟩) (fun i w z hw _ => ?_) (bx_ex fun _ _ => ?_) sc_checked_pairs.nd PassesOwn.never
  · obtain ⟨p, hi, rfl⟩ := getPr hw
    obtain ⟨c, hc, h0, h1⟩ := hp.at_ p (List.mem_of_getElem? hi)
    have hlt := (List.getElem?_eq_some_iff.mp hc).1
    refine bx_ifret (t_ne (x_len_t rfl ml (x_var 4 rfl)) x_int) (fun h => by simp [is] at h) (fun _ => ?_)
    refine bx_unp2 5 6 (x_var 4 rfl) ?_ sc_checked_pairs.nd
    refine bx_ifret (t_w (w_or (t_not (t_chainLt x_int (x_dI (x_var 5 rfl)) (x_len_l rfl ml (x_lstB (x_var 1 rfl))))) fun _ => w_or1 (t_not (t_chainLt x_int (x_dI (x_var 6 rfl)) (x_ixlI (x_lstB (x_var 1 rfl)) (x_dI (x_var 5 rfl)) hc))))) (fun h => ?_) (fun _ => ?_)
    · rcases h with ⟨_, h⟩ | ⟨h, _⟩
      · rw [decide_eq_true h0, decide_eq_true h1] at h
        cases h
      · rw [List.length_map, decide_eq_true (show (0 : Int) ≤ (p.1 : Int) by omega), decide_eq_true (show (p.1 : Int) < (cs.length : Int) by omega)] at h
        cases h
    have hnone : valD (seenD (ps.take i)) (Sum.inl (p.1 : Int)) = none := valD_none fun q hq e => by
      obtain ⟨r, hr, rfl⟩ := List.mem_map.mp hq
      have e' : (r.1 : Int) = (p.1 : Int) := Sum.inl.inj e
      exact nd_take hp.nd hi r hr (by omega)
    refine bx_ifret (t_din (k := Sum.inl (p.1 : Int)) (hu_of hr) (x_var 5 rfl) (x_var 3 rfl)) (fun h => ?_) (fun _ => ?_)
    · rw [hnone] at h; cases h
    have hil := (List.getElem?_eq_some_iff.mp hi).1
    refine bx_dput 3 (k := Sum.inl (p.1 : Int)) (w := .b true) rfl rfl (hu_of hr) (x_Bd x_bl) (x_var 5 rfl) hnone (by unfold seenD; rw [List.length_map, List.length_take]; omega) hl3 (by (repeat' (first | exact ka_nil | refine ka_none ?_ | refine ka_some ?_ ?_ | refine kb_here ?_ | refine kb_none ?_ | refine kb_some ?_ ?_ | exact ink_I | exact ink_B | exact ink_dat | exact ink_any | exact ink_drw | exact ink_own | exact ink_lstA | exact ink_lstB | exact ink_net | exact ink_dct (by assumption) | exact ink_netX | exact ink_tpl | exact ink_ownT | exact ink_ll))) ?_
    refine bx_append 2 (w := pairD p) rfl rfl (x_tup (ds := [.i (p.1 : Int), .i p.2]) (a_cons (x_var 5 rfl) (a_cons (x_var 6 rfl) a_nil))) hl2 (by (repeat' (first | exact ia_nil | refine ia_none ?_ | refine ia_some ?_ ?_ | refine ib_here ?_ | refine ib_none ?_ | refine ib_some ?_ ?_ | exact ind_I | exact ind_B | exact ind_dat | exact ind_any | exact ind_drw | exact ind_net | exact ind_dct | exact ind_dcT | exact ind_mail | exact ind_xB | exact ind_lstB (by assumption) | exact ind_own (by assumption) | exact ind_lstA (by assumption) | exact ind_own (Ne.symm (by assumption)) | exact ind_lstA (Ne.symm (by assumption)) | exact ind_tpl | exact ind_ownT (by assumption) | exact ind_ownT (Ne.symm (by assumption)) | exact ind_ll (by assumption) (by assumption) | exact ind_rwsV (by assumption) | exact ind_rowV (by assumption) | exact ind_wlk (by assumption) (by assumption) | exact ind_wlk (by assumption) (Ne.symm (by assumption)) | exact ind_ll (Ne.symm (by assumption)) (by assumption)))) (by rw [List.length_map, List.length_take]; omega) ?_
    refine bx_nil fun σ H s => ⟨(), trivial, s.sub ?_⟩
    show Sub _ [_, _, _, _, _, _, _]
    have e1 : seenD (ps.take (i + 1)) = seenD (ps.take i) ++ [(Sum.inl (p.1 : Int), D.b true)] := map_take_succ hi
    rw [map_take_succ (f := pairD) hi, e1]
    (repeat (first | exact Sub.nil | refine Sub.same ?_ | refine Sub.drop ?_))
  · rw [List.length_map, List.take_length]
    exact bx_retR (x_tuple_l rfl mt (x_lstA (x_var 2 rfl))) rfl
theorem ok_checked_mail {f fP : Addr} {fd fdP : FuncData} (F : Fun K "_checked" "_checked" s_checked_mail f fd) (FP : Fun K "_checked_pairs" "_checked_pairs" s_checked_pairs fP fdP) (bP : Binds K fdP ["pairs", "channels"] []) (gP : mg "_checked_pairs" = some (.ref fP)) (ml : mg "len" = none) (mt : mg "tuple" = none) : FnOk P w K mg base CX0 2 f fd ["action", "channels"]
    (spP d (fun (z : {z : List Int × Act // ActOk z.1 z.2 ∧ z.1.length ≤ 100}) => [dat K z.1.2.d, lst K (z.1.1.map D.i)]) (fun z _ => dat K z.1.2.d)) := by
  refine fn_ok F sc_checked_mail (fun _ => rfl) (by decide) fun z H cdv A outer s E hr => ?_
  obtain ⟨⟨cs, a⟩, ha, hcl⟩ := z
  dsimp only at ha hcl ⊢
  have hr1 : Room 1 _ := hr.mono (by decide)
  have G : FnOk P w K mg base CX0 1 fP fdP ["pairs", "channels"] (spP d (fun (z : {z : List Int × Prs // PrsOk z.1 z.2 ∧ z.1.length ≤ 100}) => [dat K (prsD z.1.2), lst K (z.1.1.map D.i)]) (fun z _ => dat K (prsD z.1.2))) := ok_checked_pairs FP ml mt
  refine bx_ifret (t_ne (x_len_t rfl ml (x_var 0 rfl)) x_int) (fun h => by simp [is] at h) (fun _ => ?_)
  refine bx_unp2 2 3 (x_var 0 rfl) ?_ sc_checked_mail.nd
  exact bx_retR (x_tup (ds := [prsD a.hs, prsD a.sd]) (a_cons (x_call (E := E0) G hr1 rfl gP FP.kp bP pass0 ⟨(cs, a.hs), ha.h, hcl⟩ (a_cons (x_var 2 rfl) (a_cons (x_var 1 rfl) a_nil)) fun v H H' σ _ _ h => h) (a_cons (x_call (E := E0) G hr1 rfl gP FP.kp bP pass0 ⟨(cs, a.sd), ha.s, hcl⟩ (a_cons (x_var 3 rfl) (a_cons (x_var 1 rfl) a_nil)) fun v H H' σ _ _ h => h) a_nil))) rfl
/-- a mail net: its three fields -/
abbrev mailF (K : PySem.W.Frag) (C : Addr) (n : Nat) (Ts : List D) (cs : List Int) (as : List Act) : List (Str × Rp d) := [("actions", dat K (.t (as.map Act.d))), ("channels", dat K (tI cs)), ("net", insR C (netF K n Ts))]
structure MailTxt (K : PySem.W.Frag) (mg : Str → Option Value) (C : Addr) : Prop where
  cl : Cls K C
  nN : NoAttr K C "net"
  nC : NoAttr K C "channels"
  nA : NoAttr K C "actions"
  gC : mg "MailNet" = some (.ref C)
theorem ok_mailnet {f fC fP C CM : Addr} {fd fdC fdP : FuncData} {tk1 tk2 : Tok} (F : Fun K "__init__" "MailNet.__init__" s_MailNet_init f fd) (T : NetTxt K mg C) (TM : MailTxt K mg CM) (FC : Fun K "_checked" "_checked" s_checked_mail fC fdC) (bC : Binds K fdC ["action", "channels"] []) (gC : mg "checked_mail" = some (.ref fC))
    (FP : Fun K "_checked_pairs" "_checked_pairs" s_checked_pairs fP fdP) (bP : Binds K fdP ["pairs", "channels"] []) (gP : mg "_checked_pairs" = some (.ref fP)) (g2 : mg "MOST_CHANNELS" = some (.int 2 tk1)) (g4 : mg "MOST_LETTERS" = some (.int 4 tk2)) (ml : mg "len" = none) (mt : mg "tuple" = none) :
    FnOk P w K mg base CX0 3 f fd ["self", "net", "channels", "actions"] (spI d CM (fun (z : {z : Nat × List Tr × List Int × List Act // MOk z.1 z.2.1 z.2.2.1 z.2.2.2}) => [insR C (netF K z.1.1 (z.1.2.1.map Tr.d)), lst K (z.1.2.2.1.map D.i), lst K (z.1.2.2.2.map Act.d)]) (fun z => mailF K C z.1.1 (z.1.2.1.map Tr.d) z.1.2.2.1 z.1.2.2.2)) := by
  have GC : FnOk P w K mg base CX0 2 fC fdC ["action", "channels"] (spP d (fun (z : {z : List Int × Act // ActOk z.1 z.2 ∧ z.1.length ≤ 100}) => [dat K z.1.2.d, lst K (z.1.1.map D.i)]) (fun z _ => dat K z.1.2.d)) := ok_checked_mail FC FP bP gP ml mt
  refine fn_okG F sc_MailNet_init (fun vs H Q E ⟨z, x, dx, us, h1, h2, h3, _⟩ => by rw [h1, List.length_cons, h3.len]; rfl) fun vs H Q E hsp cdv A outer s hr => ?_
  obtain ⟨⟨⟨n, ts, cs, as⟩, M⟩, x, dx, us, rfl, hx, hus, hdr, q⟩ := hsp
  dsimp only at M hus q
  have hxd : some x ≠ d := fun e => by
    obtain ⟨ns, _, h⟩ := hdr x e.symm
    rw [hx] at h; cases h
  obtain ⟨u1, us1, rfl, hu1, hus1⟩ : ∃ u1 us1, us = u1 :: us1 ∧ (insR (d := d) C (netF K n (ts.map Tr.d))).p u1 (del H x) ∧ RsH (d := d) [lst K (cs.map D.i), lst K (as.map Act.d)] us1 (del H x) := by
    match us, hus with
    | u :: us1, hus => exact ⟨u, us1, rfl, hus.1, hus.2⟩
  obtain ⟨u2, u3, rfl, hu2, hu3⟩ := hus1.two
  have xE := del_ext (H := H) (x := x) hxd
  have iN : ∀ p ∈ netF (d := d) K n (ts.map Tr.d), IndO x p.2 := fun p hp => by
    rcases List.mem_cons.mp hp with rfl | hp
    · exact io_dat
    · rw [List.mem_singleton.mp hp]; exact io_I
  have iB : IndO x (insB (d := d) (del H x) C (netF K n (ts.map Tr.d))) := io_insB del_same iN
  refine ⟨St (d := d) (del H x) [some (insA CM x []), some (insB (del H x) C (netF K n (ts.map Tr.d))), some (lst K (cs.map D.i)), some (lst K (as.map Act.d)), none, none], { nx := fun _ H' => Ext d (del H x) H' ∧ (insA (d := d) CM x (mailF K C n (ts.map Tr.d) cs as)).p (.ref x) H', rt := fun _ _ => False }, ?_, ?_, ?_⟩
  · refine ⟨xE, hdr, rfl, fun i R e => ?_⟩
    match i, e with
    | 0, e => cases e; exact ⟨_, rfl, rfl, dx, [], hx, Nat.le_refl _, fun i f R k => by cases k⟩
    | 1, e => cases e; exact ⟨_, rfl, (insB (del H x) C (netF K n (ts.map Tr.d))).st xE (insB_of hu1)⟩
    | 2, e => cases e; exact ⟨_, rfl, (lst K (cs.map D.i)).st xE hu2⟩
    | 3, e => cases e; exact ⟨_, rfl, (lst K (as.map Act.d)).st xE hu3⟩
    | 4, e => cases e
    | 5, e => cases e
    | i + 6, e => cases e
  · have hr1 : Room 2 _ := hr.mono (by decide)
    refine bx_open 2 rfl fun l2 _ => ?_
    refine bx_open 3 rfl fun l3 _ => ?_
    refine bx_ifret (t_gt (x_len_l rfl ml (x_var 2 rfl)) (x_globI rfl g2)) (fun h => ?_) (fun _ => ?_)
    · have : (2 : Int) < ((cs.map D.i).length : Nat) := of_decide_eq_true h.symm
      rw [List.length_map] at this
      have := M.cl
      omega
    refine bx_forL 4 (fun _ (_ : Unit) => True) (fun _ _ => [some (insA CM x []), some (insB (del H x) C (netF K n (ts.map Tr.d))), some (lstA K l2 (cs.map D.i)), some (lstA K l3 (as.map Act.d)), none, none]) (x_var 2 rfl) (fun σ H s => ⟨(), trivial, s.sub (by (repeat (first | exact Sub.nil | refine Sub.same ?_ | refine Sub.drop ?_)))⟩) (fun _ _ _ => ⟨2, _, rfl, fun v H h => h⟩) (fun i w z hw _ => ?_) (bx_ex fun _ _ => ?_) sc_MailNet_init.nd PassesOwn.never
    · obtain ⟨c, hc, rfl⟩ := getI hw
      refine bx_ifret (t_not (t_chainLe x_int (x_dI (x_var 4 rfl)) (x_globI rfl g4))) (fun h => ?_) (fun _ => bx_nil fun σ H s => ⟨(), trivial, s.sub (by (repeat (first | exact Sub.nil | refine Sub.same ?_ | refine Sub.drop ?_)))⟩)
      have := M.c c (List.mem_of_getElem? hc)
      rw [decide_eq_true this.1, decide_eq_true this.2] at h
      cases h
    refine bx_ifret (t_ne (x_len_l rfl ml (x_var 3 rfl)) (x_len_t rfl ml (x_fld 0 T.cl T.nT (x_insB (x_var 1 rfl))))) (fun h => ?_) (fun _ => ?_)
    · rw [List.length_map, List.length_map, M.al] at h
      simp [is] at h
    refine bx_setfld 0 (R := insB (del H x) C (netF K n (ts.map Tr.d))) rfl (by simp) TM.cl TM.nN (x_var 1 rfl) del_same (io_here (io_some iB (io_some io_lstA (io_some io_lstA (io_none (io_none io_nil)))))) iB (by simp) ?_
    refine bx_setfld 0 (R := dat K (tI cs)) rfl (by simp) TM.cl TM.nC (x_tuple_l rfl mt (x_var 2 rfl)) del_same (io_here (io_some iB (io_some io_lstA (io_some io_lstA (io_none (io_none io_nil)))))) io_dat (fun p hp => ?_) ?_
    · rw [List.mem_singleton.mp hp]
      exact ⟨iB, show ¬ (("net" : Str) = "channels") by decide +kernel⟩
    refine bx_setfld 0 (R := dat K (.t (as.map Act.d))) rfl (by simp) TM.cl TM.nA (x_sub (x_tuple_lE rfl mt (x_lcL 5 (fun i w => ∃ a : Act, as[i]? = some a ∧ w = a.d) (x_var 3 rfl) (by rw [List.length_map, M.al]; have := M.tl; omega) sc_MailNet_init.nd (blkOk_by (N := ["self", "net", "channels", "actions", "letters", "action"]) (sc := defScope s_MailNet_init) (by decide +kernel)) (fun _ _ _ _ _ => pg_name (i := 5) sc_MailNet_init.nd rfl (Or.inl rfl))
      (fun s H C cl fp i w hw => ?_))) fun v H' hv => ?_) del_same (io_here (io_some iB (io_some io_lstA (io_some io_lstA (io_none (io_none io_nil)))))) io_dat (fun p hp => ?_) ?_
    · rw [List.getElem?_map] at hw
      cases e : as[i]? with
      | none => rw [e] at hw; cases hw
      | some a =>
        rw [e] at hw
        cases hw
        exact x_sub (x_call (E := E0) (R := dat K a.d) GC hr1 rfl gC FC.kp bC pass0 ⟨(cs, a), M.a a (List.mem_of_getElem? e), by have := M.cl; dsimp only; omega⟩ (a_cons (x_var 5 rfl) (a_cons (x_sub (x_var 2 rfl) fun v H hv => ⟨_, trivial, hv⟩) a_nil)) fun v H H' σ _ _ h => h) fun v H hv => ⟨_, ⟨a, rfl, rfl⟩, hv⟩
    · obtain ⟨w, ⟨ds, ⟨h1, h2⟩, rfl⟩, hv⟩ := hv
      have e : ds = as.map Act.d := by
        apply List.ext_getElem?
        intro i
        rw [List.length_map] at h1
        rw [List.getElem?_map]
        by_cases hi : i < as.length
        · obtain ⟨a, ha, hw⟩ := h2 i _ (List.getElem?_eq_getElem (show i < ds.length by omega))
          rw [List.getElem?_eq_getElem (show i < ds.length by omega), hw, ha]
          rfl
        · rw [List.getElem?_eq_none (by omega), List.getElem?_eq_none (by omega)]
          rfl
      rw [← e]
      exact hv
    · rcases List.mem_cons.mp hp with rfl | hp
      · exact ⟨io_dat, show ¬ (("channels" : Str) = "actions") by decide +kernel⟩
      · rw [List.mem_singleton.mp hp]
        exact ⟨iB, show ¬ (("net" : Str) = "actions") by decide +kernel⟩
    · refine bx_nil fun σ H' s => ⟨s.ext, ?_⟩
      obtain ⟨v, _, hv⟩ := s.good.get (i := 0) rfl
      obtain rfl : v = .ref x := hv.1
      obtain ⟨h0, dy, fs, h1, h2, h3⟩ := hv
      refine ⟨h0, dy, fs, h1, h2, fun i f R k => ?_⟩
      match i, k with
      | 0, k => exact h3 0 f R k
      | 1, k => exact h3 1 f R k
      | 2, k =>
        cases k
        obtain ⟨u, a, b⟩ := h3 2 "net" _ rfl
        exact ⟨u, a, insR_of b⟩
      | i + 3, k => cases k
  · exact ⟨fun σ' H' _ ⟨e1, h1⟩ => q H' e1 h1, fun v H' _ h => h.elim, fun _ _ _ h => h.elim, fun _ _ _ h => h.elim⟩
end
section
variable {d : Option Addr} {P : Program} {w : World} {K : PySem.W.Frag} {mg : Str → Option Value} {base : Heap}
theorem all2_2 {P Q : D → Prop} {ds : List D} (h : All2 [P, Q] ds) : ∃ a b, ds = [a, b] ∧ P a ∧ Q b := by
  match ds, h with
  | [a, b], ⟨h1, h2, _⟩ => exact ⟨a, b, rfl, h1, h2⟩
  | [], h => exact h.elim
  | [_], ⟨_, h⟩ => exact h.elim
  | _ :: _ :: _ :: _, ⟨_, _, h⟩ => exact h.elim
theorem all2_3 {P Q R : D → Prop} {ds : List D} (h : All2 [P, Q, R] ds) : ∃ a b c, ds = [a, b, c] ∧ P a ∧ Q b ∧ R c := by
  match ds, h with
  | [a, b, c], ⟨h1, h2, h3, _⟩ => exact ⟨a, b, c, rfl, h1, h2, h3⟩
  | [], h => exact h.elim
  | [_], ⟨_, h⟩ => exact h.elim
  | [_, _], ⟨_, _, h⟩ => exact h.elim
  | _ :: _ :: _ :: _ :: _, ⟨_, _, _, h⟩ => exact h.elim
theorem x_eqIE {X : Cx} {B : Hp} {ρ : Ro d} {a b : Expr} {pos : Pos} {P S : Int → Prop} (ha : EX X B ρ a (iE P)) (hb : EX X B ρ b (iE S)) : EX X B ρ (.Compare a [.Eq] [b] pos) (exR (fun _ => True) rB) :=
  x_cmp op_eq (nomark _) ha hb fun x y H σ Q _ ⟨i, hi, hx⟩ ⟨j, hj, hy⟩ q => by
    subst hx; subst hy
    exact ⟨rfl, q _ H (Ext.refl H) ⟨_, trivial, rfl⟩⟩
/-- words one by one -/
theorem wds_of {b : Nat} : ∀ {ds : List D}, (∀ (k : Nat) (w : D), ds[k]? = some w → ∃ ns : List Int, w = tI ns ∧ (ns.length : Int) ≤ b) → ∃ ws : Wds, ds = ws.map tI ∧ ∀ w ∈ ws, w.length ≤ b
  | [], _ => ⟨[], rfl, fun t h => by cases h⟩
  | e :: ds, h => by
    obtain ⟨t, ht, hok⟩ := h 0 e rfl
    obtain ⟨ts, hts, hall⟩ := wds_of (ds := ds) fun k w hk => h (k + 1) w hk
    exact ⟨t :: ts, by rw [ht, hts]; rfl, fun u hu => by
      rcases List.mem_cons.mp hu with rfl | hu
      · omega
      · exact hall u hu⟩
/-- what a turn of _law_action keeps -/
structure PrB (cs : List Int) (i : Nat) (ps : Prs) : Prop where
  ok : PrsOk cs ps
  lt : ∀ p ∈ ps, p.1 < i
  ln : ps.length ≤ i
theorem PrB.up {cs : List Int} {i : Nat} {ps : Prs} (h : PrB cs i ps) : PrB cs (i + 1) ps := ⟨h.ok, fun p hp => Nat.lt_succ_of_lt (h.lt p hp), Nat.le_succ_of_le h.ln⟩
theorem PrB.snoc {cs : List Int} {i : Nat} {ps : Prs} {z c : Int} (h : PrB cs i ps) (hc : cs[i]? = some c) (h0 : 0 ≤ z) (h1 : z < c) : PrB cs (i + 1) (ps ++ [(i, z)]) := by
  refine ⟨⟨fun p hp => ?_, ?_⟩, fun p hp => ?_, by rw [List.length_append]; have := h.ln; simp; omega⟩
  · rcases List.mem_append.mp hp with hp | hp
    · exact h.ok.at_ p hp
    · rw [List.mem_singleton.mp hp]; exact ⟨c, hc, h0, h1⟩
  · rw [List.map_append, List.nodup_append]
    refine ⟨h.ok.nd, by simp, fun a ha b hb e => ?_⟩
    obtain ⟨p, hp, rfl⟩ := List.mem_map.mp ha
    obtain rfl : b = i := by simpa using hb
    have := h.lt p hp
    omega
  · rcases List.mem_append.mp hp with hp | hp
    · have := h.lt p hp; omega
    · rw [List.mem_singleton.mp hp]; exact Nat.lt_succ_self i
theorem PrsOk.rev {cs : List Int} {ps : Prs} (h : PrsOk cs ps) : PrsOk cs ps.reverse := ⟨fun p hp => h.at_ p (List.mem_reverse.mp hp), by rw [List.map_reverse]; exact List.pairwise_reverse.mpr (h.nd.imp fun h e => h e.symm)⟩
theorem ok_laction {f fT : Addr} {fd fdT : FuncData} (F : Fun K "_law_action" "_law_action" s_law_action f fd) (FT : Fun K "_law_take" "_law_take" s_law_take fT fdT) (bT : Binds K fdT ["draws", "limit"] []) (gT : mg "_law_take" = some (.ref fT)) (ml : mg "len" = none) (mi : mg "int" = none) (mt : mg "tuple" = none) (mr : mg "range" = none) :
    FnOk P w K mg base CX0 2 f fd ["draws", "channels"] (spP d (fun (z : {z : Addr × List Int // (∀ c ∈ z.2, 1 ≤ c ∧ c ≤ 4) ∧ z.2.length ≤ 100}) => [drw, lstA K z.1.1 (z.1.2.map D.i)]) (fun z _ => dE K fun w => ∃ a : Act, w = a.d ∧ ActOk z.1.2 a)) := by
  have GT : FnOk P w K mg base CX0 1 fT fdT ["draws", "limit"] spTake := ok_take FT ml mi
  refine fn_okB F sc_law_action (fun _ => rfl) (by decide) (fun z H => [some drw, some (lstB H K z.1.1 (z.1.2.map D.i)), none, none, none]) (fun z H σ s => (st_toB 1 rfl s).sub (by (repeat (first | exact Sub.nil | refine Sub.same ?_ | refine Sub.drop ?_)))) fun z H cdv A outer s E hr => ?_
  obtain ⟨⟨la, cs⟩, hcs, hcl⟩ := z
  dsimp only at hcs hcl ⊢
  have hr1 : Room 1 _ := hr.mono (by decide)
  refine bx_new 2 [] (by simp) (fun B' => x_lst (ds := []) a_nil) (fun l2 hl2 _ => ?_) sc_law_action.nd
  refine bx_new 3 [l2] (by intro l' h'; rw [List.mem_singleton.mp h']; exact known_own 2 rfl) (fun B' => x_lst (ds := []) a_nil) (fun l3 hl3 hne => ?_) sc_law_action.nd
  have hne' : l3 ≠ l2 := hne l2 (List.mem_singleton.mpr rfl)
  have p0 : PrB cs 0 [] := ⟨⟨fun p h => (by cases h), List.nodup_nil⟩, fun p h => (by cases h), Nat.le_refl _⟩
  refine bx_forR 4 (fun i (z : Prs × Prs) => PrB cs i z.1 ∧ PrB cs i z.2) (fun _ z => [some drw, some (lstB H K la (cs.map D.i)), some (own K l2 (z.1.map pairD)), some (own K l3 (z.2.map pairD)), none]) rfl mr (x_len_l rfl ml (x_lstB (x_var 1 rfl))) (by rw [List.length_map]; omega) (fun σ H' s => ⟨([], []), ⟨p0, p0⟩, s.sub (by (repeat (first | exact Sub.nil | refine Sub.same ?_ | refine Sub.drop ?_)))⟩) (fun i z hi hz => ?_) (bx_ex fun z hz => ?_) sc_law_action.nd PassesOwn.never
  · obtain ⟨hs, sd⟩ := z
    obtain ⟨h1, h2⟩ := hz
    dsimp only at h1 h2 ⊢
    rw [List.length_map] at hi
    have hil : i < cs.length := by omega
    obtain ⟨c, hc⟩ : ∃ c, cs[i]? = some c := ⟨cs[i], List.getElem?_eq_getElem hil⟩
    have hc1 := (hcs c (List.mem_of_getElem? hc)).1
    refine bx_if (IS H (fun (z : Prs) => PrB cs (i + 1) z) (fun z => [some drw, some (lstB H K la (cs.map D.i)), some (own K l2 (z.map pairD)), some (own K l3 (sd.map pairD)), some (rI (i : Int))])) (t_eqE (x_take (E := E0) GT hr1 rfl gT FT.kp bT pass0 (x_var 0 rfl) x_int (by decide)) (x_I x_int)) (fun _ => ?_) (fun _ => bx_nil fun σ H' s => ⟨hs, h1.up, s.sub (by (repeat (first | exact Sub.nil | refine Sub.same ?_ | refine Sub.drop ?_)))⟩) (bx_ex fun hs' h1' => ?_)
    · refine bx_appendE 2 (S := fun w => ∃ ds, All2 [fun w => w = D.i (i : Int), fun w => ∃ z, (0 ≤ z ∧ z < c) ∧ w = D.i z] ds ∧ w = .t ds) rfl rfl (x_tupE (Ps := [fun w => w = D.i (i : Int), fun w => ∃ z, (0 ≤ z ∧ z < c) ∧ w = D.i z]) (a_cons (x_d (x_Id (x_var 4 rfl))) (a_cons (x_iEd (x_take (E := E0) GT hr1 rfl gT FT.kp bT pass0 (x_var 0 rfl) (x_ixlI (x_lstB (x_var 1 rfl)) (x_var 4 rfl) hc) (by omega))) a_nil))) hl2 (by (repeat' (first | exact ia_nil | refine ia_none ?_ | refine ia_some ?_ ?_ | refine ib_here ?_ | refine ib_none ?_ | refine ib_some ?_ ?_ | exact ind_I | exact ind_B | exact ind_dat | exact ind_any | exact ind_drw | exact ind_net | exact ind_dct | exact ind_dcT | exact ind_mail | exact ind_xB | exact ind_lstB (by assumption) | exact ind_own (by assumption) | exact ind_lstA (by assumption) | exact ind_own (Ne.symm (by assumption)) | exact ind_lstA (Ne.symm (by assumption)) | exact ind_tpl | exact ind_ownT (by assumption) | exact ind_ownT (Ne.symm (by assumption)) | exact ind_ll (by assumption) (by assumption) | exact ind_rwsV (by assumption) | exact ind_rowV (by assumption) | exact ind_wlk (by assumption) (by assumption) | exact ind_wlk (by assumption) (Ne.symm (by assumption)) | exact ind_ll (Ne.symm (by assumption)) (by assumption)))) (by rw [List.length_map]; have := h1.ln; omega) fun w hw => ?_
      obtain ⟨ds, h3, rfl⟩ := hw
      obtain ⟨_, _, rfl, rfl, z, hz, rfl⟩ := all2_2 h3
      · refine bx_nil fun σ H' s => ⟨hs ++ [(i, z)], h1.snoc hc hz.1 hz.2, s.sub ?_⟩
        show Sub _ [_, _, _, _, _]
        rw [List.map_append]
        (repeat (first | exact Sub.nil | refine Sub.same ?_ | refine Sub.drop ?_))
    · refine bx_if (IS H (fun (z : Prs × Prs) => PrB cs (i + 1) z.1 ∧ PrB cs (i + 1) z.2) (fun z => [some drw, some (lstB H K la (cs.map D.i)), some (own K l2 (z.1.map pairD)), some (own K l3 (z.2.map pairD)), none])) (t_eqE (x_take (E := E0) GT hr1 rfl gT FT.kp bT pass0 (x_var 0 rfl) x_int (by decide)) (x_I x_int)) (fun _ => ?_) (fun _ => bx_nil fun σ H' s => ⟨(hs', sd), ⟨h1', h2.up⟩, s.sub (by (repeat (first | exact Sub.nil | refine Sub.same ?_ | refine Sub.drop ?_)))⟩) (bx_nil fun σ H s => s)
      refine bx_appendE 3 (S := fun w => ∃ ds, All2 [fun w => w = D.i (i : Int), fun w => ∃ z, (0 ≤ z ∧ z < c) ∧ w = D.i z] ds ∧ w = .t ds) rfl rfl (x_tupE (Ps := [fun w => w = D.i (i : Int), fun w => ∃ z, (0 ≤ z ∧ z < c) ∧ w = D.i z]) (a_cons (x_d (x_Id (x_var 4 rfl))) (a_cons (x_iEd (x_take (E := E0) GT hr1 rfl gT FT.kp bT pass0 (x_var 0 rfl) (x_ixlI (x_lstB (x_var 1 rfl)) (x_var 4 rfl) hc) (by omega))) a_nil))) hl3 (by (repeat' (first | exact ia_nil | refine ia_none ?_ | refine ia_some ?_ ?_ | refine ib_here ?_ | refine ib_none ?_ | refine ib_some ?_ ?_ | exact ind_I | exact ind_B | exact ind_dat | exact ind_any | exact ind_drw | exact ind_net | exact ind_dct | exact ind_dcT | exact ind_mail | exact ind_xB | exact ind_lstB (by assumption) | exact ind_own (by assumption) | exact ind_lstA (by assumption) | exact ind_own (Ne.symm (by assumption)) | exact ind_lstA (Ne.symm (by assumption)) | exact ind_tpl | exact ind_ownT (by assumption) | exact ind_ownT (Ne.symm (by assumption)) | exact ind_ll (by assumption) (by assumption) | exact ind_rwsV (by assumption) | exact ind_rowV (by assumption) | exact ind_wlk (by assumption) (by assumption) | exact ind_wlk (by assumption) (Ne.symm (by assumption)) | exact ind_ll (Ne.symm (by assumption)) (by assumption)))) (by rw [List.length_map]; have := h2.ln; omega) fun w hw => ?_
      obtain ⟨ds, h3, rfl⟩ := hw
      obtain ⟨_, _, rfl, rfl, z, hz, rfl⟩ := all2_2 h3
      · refine bx_nil fun σ H' s => ⟨(hs', sd ++ [(i, z)]), ⟨h1', h2.snoc hc hz.1 hz.2⟩, s.sub ?_⟩
        show Sub _ [_, _, _, _, _]
        rw [List.map_append]
        (repeat (first | exact Sub.nil | refine Sub.same ?_ | refine Sub.drop ?_))
  · obtain ⟨hs, sd⟩ := z
    obtain ⟨h1, h2⟩ := hz
    dsimp only at h1 h2 ⊢
    refine bx_if (IS H (fun (z : Prs) => PrsOk cs z) (fun z => [some drw, some (lstB H K la (cs.map D.i)), some (own K l2 (z.map pairD)), some (own K l3 (sd.map pairD)), none])) (t_w (w_and (t_eq (x_len_l rfl ml (x_lstA (x_var 2 rfl))) x_int) fun _ => w_and1 (t_eqE (x_take (E := E0) GT hr1 rfl gT FT.kp bT pass0 (x_var 0 rfl) x_int (by decide)) (x_I x_int)))) (fun _ => ?_) (fun _ => bx_nil fun σ H' s => ⟨hs, h1.ok, s.sub (by (repeat (first | exact Sub.nil | refine Sub.same ?_ | refine Sub.drop ?_)))⟩) (bx_ex fun hs' h1' => ?_)
    · refine bx_reverse 2 rfl rfl hl2 (by (repeat' (first | exact ia_nil | refine ia_none ?_ | refine ia_some ?_ ?_ | refine ib_here ?_ | refine ib_none ?_ | refine ib_some ?_ ?_ | exact ind_I | exact ind_B | exact ind_dat | exact ind_any | exact ind_drw | exact ind_net | exact ind_dct | exact ind_dcT | exact ind_mail | exact ind_xB | exact ind_lstB (by assumption) | exact ind_own (by assumption) | exact ind_lstA (by assumption) | exact ind_own (Ne.symm (by assumption)) | exact ind_lstA (Ne.symm (by assumption)) | exact ind_tpl | exact ind_ownT (by assumption) | exact ind_ownT (Ne.symm (by assumption)) | exact ind_ll (by assumption) (by assumption) | exact ind_rwsV (by assumption) | exact ind_rowV (by assumption) | exact ind_wlk (by assumption) (by assumption) | exact ind_wlk (by assumption) (Ne.symm (by assumption)) | exact ind_ll (Ne.symm (by assumption)) (by assumption)))) (bx_nil fun σ H' s => ⟨hs.reverse, h1.ok.rev, s.sub ?_⟩)
      show Sub _ [_, _, _, _, _]
      rw [List.map_reverse]
      (repeat (first | exact Sub.nil | refine Sub.same ?_ | refine Sub.drop ?_))
    · exact bx_retR (R := dE K fun w => ∃ a : Act, w = a.d ∧ ActOk cs a) (x_sub (x_tup (ds := [prsD hs', prsD sd]) (a_cons (x_tuple_l rfl mt (x_lstA (x_var 2 rfl))) (a_cons (x_tuple_l rfl mt (x_lstA (x_var 3 rfl))) a_nil))) fun v H' hv => ⟨_, ⟨⟨hs', sd⟩, rfl, ⟨h1', h2.ok⟩⟩, hv⟩) rfl
/-! ### the end -/
def outM : Cf ⊕ Nat → D
  | .inl c => .t [.s "end", cfD c]
  | .inr p => .t [.s "stop", .i (p : Int)]
theorem shp_cf (c : Cf) : Shp 3 (cfD c) := .t fun e he => by
  rcases List.mem_cons.mp he with rfl | he
  · exact shp_tI _
  · obtain rfl := List.mem_singleton.mp he
    exact .t fun e he => by
      obtain ⟨x, _, rfl⟩ := List.mem_map.mp he
      exact shp_tI _
theorem shp_outM (o : Cf ⊕ Nat) : Shp 4 (outM o) := by
  cases o with
  | inl c =>
    refine .t fun e he => ?_
    rcases List.mem_cons.mp he with rfl | he
    · exact .s _ (by decide +kernel)
    · obtain rfl := List.mem_singleton.mp he
      exact shp_cf _
  | inr p =>
    refine .t fun e he => ?_
    rcases List.mem_cons.mp he with rfl | he
    · exact .s _ (by decide +kernel)
    · obtain rfl := List.mem_singleton.mp he
      exact .i _
theorem shp_ms (s : MS) : Shp 1 s.d := by
  cases s with
  | lose c p =>
    refine .t fun e he => ?_
    rcases List.mem_cons.mp he with rfl | he
    · exact .s _ (by decide +kernel)
    · rcases List.mem_cons.mp he with rfl | he
      · exact .i _
      · obtain rfl := List.mem_singleton.mp he
        exact .i _
  | fire k =>
    refine .t fun e he => ?_
    rcases List.mem_cons.mp he with rfl | he
    · exact .s _ (by decide +kernel)
    · obtain rfl := List.mem_singleton.mp he
      exact .i _
theorem ind_xB {l : Addr} {P : Bool → Prop} : Ind l (exR (d := d) P rB) := ind_ex fun _ => ind_B
theorem ind_mail {l C CM : Addr} {n : Nat} {Ts : List D} {cs : List Int} {as : List Act} : Ind l (insR (d := d) CM (mailF K C n Ts cs as)) := ind_ex fun _ => ind_insA fun p hp => by
  rcases List.mem_cons.mp hp with rfl | hp
  · exact ind_dat
  · rcases List.mem_cons.mp hp with rfl | hp
    · exact ind_dat
    · rw [List.mem_singleton.mp hp]
      exact ind_ex fun _ => ind_insA fun p hp => by
        rcases List.mem_cons.mp hp with rfl | hp
        · exact ind_dat
        · rw [List.mem_singleton.mp hp]; exact ind_I
end
end Cv

namespace Cv
open PySem PySem.Spec PyProof.Rows L2 RZ
/-! ### a mail net that may be refused -/
abbrev Pz := List (Int × Int)
abbrev pzD (p : Int × Int) : D := .t [.i p.1, .i p.2]
abbrev pzsD (ps : Pz) : D := .t (ps.map pzD)
theorem getPz {ps : Pz} {i : Nat} {w : D} (h : (ps.map pzD)[i]? = some w) : ∃ p, ps[i]? = some p ∧ w = pzD p := by
  rw [List.getElem?_map] at h
  cases q : ps[i]? with
  | none => rw [q] at h; cases h
  | some z => rw [q] at h; cases h; exact ⟨z, rfl, rfl⟩
def PzIn (cs : List Int) (p : Int × Int) : Prop := 0 ≤ p.1 ∧ 0 ≤ p.2 ∧ p.2 < cs.getD p.1.toNat 0
instance {cs : List Int} {p : Int × Int} : Decidable (PzIn cs p) := inferInstanceAs (Decidable (_ ∧ _))
theorem PzIn.lt {cs : List Int} {p : Int × Int} (h : PzIn cs p) : p.1 < cs.length := by
  obtain ⟨h1, h2, h3⟩ := h
  rcases Nat.lt_or_ge p.1.toNat cs.length with q | q
  · omega
  · rw [List.getD_eq_getElem?_getD, List.getElem?_eq_none q] at h3
    simp at h3
    omega
def PzOk (cs : List Int) (ps : Pz) : Prop := (∀ p ∈ ps, PzIn cs p) ∧ (ps.map (·.1)).Nodup
instance {cs : List Int} {ps : Pz} : Decidable (PzOk cs ps) := inferInstanceAs (Decidable (_ ∧ _))
theorem pz_snoc {cs : List Int} {ps : Pz} {p : Int × Int} : PzOk cs (ps ++ [p]) ↔ PzOk cs ps ∧ PzIn cs p ∧ p.1 ∉ ps.map (·.1) := by
  constructor
  · rintro ⟨h1, h2⟩
    rw [List.map_append, List.nodup_append] at h2
    obtain ⟨h3, _, h4⟩ := h2
    exact ⟨⟨fun q hq => h1 q (List.mem_append_left _ hq), h3⟩, h1 p (by simp), fun hm => h4 p.1 hm p.1 (by simp) rfl⟩
  · rintro ⟨⟨h1, h2⟩, h3, h4⟩
    refine ⟨fun q hq => ?_, ?_⟩
    · rcases List.mem_append.mp hq with hq | hq
      · exact h1 q hq
      · rw [List.mem_singleton.mp hq]; exact h3
    · rw [List.map_append, List.nodup_append]
      refine ⟨h2, by simp, fun a ha b hb e => ?_⟩
      obtain rfl : b = p.1 := by simpa using hb
      exact h4 (e ▸ ha)
theorem pz_take {cs : List Int} {ps : Pz} (h : PzOk cs ps) (i : Nat) : PzOk cs (ps.take i) := ⟨fun p hp => h.1 p (List.mem_of_mem_take hp), h.2.sublist ((List.take_sublist i ps).map _)⟩
theorem takeSnoc {α : Type} {l : List α} {i : Nat} {a : α} (h : l[i]? = some a) : l.take (i + 1) = l.take i ++ [a] := by
  rw [List.take_add_one, h]; rfl
theorem pz_at {cs : List Int} {ps : Pz} {i : Nat} {p : Int × Int} (h : PzOk cs ps) (hi : ps[i]? = some p) : PzIn cs p ∧ p.1 ∉ (ps.take i).map (·.1) := by
  have := pz_take h (i + 1)
  rw [takeSnoc hi] at this
  exact (pz_snoc.mp this).2
abbrev AcZ := Pz × Pz
abbrev acD (a : AcZ) : D := .t [pzsD a.1, pzsD a.2]
def AcOk (cs : List Int) (a : AcZ) : Prop := PzOk cs a.1 ∧ PzOk cs a.2
instance {cs : List Int} {a : AcZ} : Decidable (AcOk cs a) := inferInstanceAs (Decidable (_ ∧ _))
/-- an action's two lists -/
def AcM (x : Addr × List (Addr × List D)) (a : AcZ) : Prop := x.2.map (·.2) = [a.1.map pzD, a.2.map pzD]
structure AcB (m : Nat) (a : AcZ) : Prop where
  h : a.1.length ≤ m
  s : a.2.length ≤ m
theorem AcM.two {x : Addr × List (Addr × List D)} {a : AcZ} (h : AcM x a) : ∃ s1 s2 : Addr × List D, x.2 = [s1, s2] ∧ s1.2 = a.1.map pzD ∧ s2.2 = a.2.map pzD := by
  unfold AcM at h
  match q : x.2, h with
  | [s1, s2], h =>
    simp only [List.map_cons, List.map_nil, List.cons.injEq, and_true] at h
    exact ⟨s1, s2, rfl, h.1, h.2⟩
  | [], h => simp at h
  | [_], h => simp at h
  | _ :: _ :: _ :: _, h => simp at h
section
variable {d : Option Addr} {P : Program} {w : World} {K : PySem.W.Frag} {mg : Str → Option Value} {base : Heap}
/-- a def that may raise, its slots at the start told anew -/
theorem fn_okEB {α : Type} {As : α → List (Rp d)} {Ok : α → Prop} {Rz : α → Rp d} {Bad : α → Prop} {c : Value} {x qual : Str} {sd : Stmt} {f : Addr} {fd : FuncData} {N ps : List Str} {k : Nat} (F : Fun K x qual sd f fd) (S : FnScope N ps (defScope sd)) (hl : ∀ z, (As z).length = ps.length) (hN : ps.length ≤ N.length) (r0 : α → Hp → Ro d) (h0 : ∀ z H σ, St H (ro (As z) (N.length - (As z).length)) σ H → St H (r0 z H) σ H)
    (body : ∀ (z : α) (H : Hp) (cdv : Value) (A : Around) (outer : List Env) (s : Shared) (E : XK), Room k (A.deeper (envOfC qual (defScope sd) s.heap.objs.size f cdv)) → (Bad z → ∀ H', Ext d H H' → E c none H') → (Ok z ∨ Bad z) →
      BX (cxOf (L2.CX P w) P w K mg base N qual (defScope sd) f cdv A outer s H E) (defBody sd) (St H (r0 z H)) { nx := fun _ H' => Ok z ∧ Ext d H H' ∧ (Rz z).p .non H', rt := fun v H' => Ok z ∧ Ext d H H' ∧ (Rz z).p v H' }) : FnOk P w K mg base (L2.CX P w) (k + 1) f fd ps (spE d As Ok Rz Bad c) :=
  fn_okX F S (fun vs H Q E ⟨z, h, _⟩ => by rw [h.len, hl]) fun vs H Q E ⟨z, hz, dr, q, qe, ob⟩ cdv A outer s hr =>
    ⟨_, _, h0 z H _ (st_start hz (by rw [hl]; exact hN) dr), body z H cdv A outer s E hr qe ob, fun σ' H' _ ⟨o, e1, h1⟩ => q o _ H' e1 h1, fun v H' _ ⟨o, e1, h1⟩ => q o v H' e1 h1, fun _ _ _ h => h.elim, fun _ _ _ h => h.elim⟩
theorem x_ixlZ {X : Cx} {B : Hp} {ρ : Ro d} {a b : Expr} {pos : Pos} {l : Addr} {ns : List Int} {z : Int} (ha : EX X B ρ a (lstA X.K l (ns.map D.i))) (hb : EX X B ρ b (rI z)) (h0 : 0 ≤ z) (h1 : z < ns.length) (hs : PlainIx b := by exact (fun _ _ => rfl)) : EX X B ρ (.Subscript a b pos) (rI (ns.getD z.toNat 0)) :=
  x_ixlI (k := z.toNat) ha (x_sub hb fun v H hv => by
    have : v = .int z := hv
    rw [this]
    show V.int z = V.int _
    congr 1
    omega) (by rw [List.getD_eq_getElem?_getD, List.getElem?_eq_getElem (by omega)]; rfl) hs
abbrev spPrsE (d : Option Addr) (K : PySem.W.Frag) (c : Value) : Sp := spE d (fun (z : {z : List Int × Pz // z.1.length ≤ 100 ∧ z.2.length ≤ 100}) => [lst K (z.1.2.map pzD), lst K (z.1.1.map D.i)]) (fun z => PzOk z.1.1 z.1.2) (fun z => dat K (pzsD z.1.2)) (fun z => ¬ PzOk z.1.1 z.1.2) c
theorem ok_checked_pairsE {f CI : Addr} {fd : FuncData} (F : Fun K "_checked_pairs" "_checked_pairs" s_checked_pairs f fd) (TI : ErrTxt K mg CI "InvalidNet") (ml : mg "len" = none) (mt : mg "tuple" = none) : FnOk P w K mg base (L2.CX P w) 1 f fd ["pairs", "channels"] (spPrsE d K (.ref CI)) := by
  refine fn_okEB F sc_checked_pairs (fun _ => rfl) (by decide) (fun z H => [some (lstY H K (z.1.2.map pzD)), some (lstY H K (z.1.1.map D.i)), none, none, none, none, none]) (fun z H σ s => (st_toY 1 rfl (st_toY 0 rfl s)).sub (by (repeat (first | exact Sub.nil | refine Sub.same ?_ | refine Sub.drop ?_)))) fun z H cdv A outer s E hr hE _ => ?_
  obtain ⟨⟨cs, ps⟩, hcl, hpl⟩ := z
  dsimp only at hcl hpl hE ⊢
  refine bx_open 0 rfl fun lp _ => ?_
  refine bx_open 1 rfl fun la _ => ?_
  refine bx_new 2 [] (by simp) (fun B' => x_lst (ds := []) a_nil) (fun l2 hl2 _ => ?_) sc_checked_pairs.nd
  refine bx_dict 3 rfl (fun l3 hl3 => ?_) sc_checked_pairs.nd
  refine bx_forL 4 (fun i (_ : Unit) => PzOk cs (ps.take i)) (fun i _ => [some (lstB H K lp (ps.map pzD)), some (lstB H K la (cs.map D.i)), some (own K l2 ((ps.take i).map pzD)), some (dkS K l3 ((ps.take i).map (·.1))), none, none, none]) (x_lstB (x_var 0 rfl)) (fun σ H s => ⟨(), ⟨fun p hp => by simp at hp, by simp⟩, s.sub (by (repeat (first | exact Sub.nil | refine Sub.same ?_ | refine Sub.drop ?_)))⟩) (fun _ _ _ => ⟨0, _, rfl, fun v H h => lstB_A h⟩) (fun i w z hw hz => ?_) (bx_ex fun _ hz => ?_) sc_checked_pairs.nd (passes_of rfl)
  · obtain ⟨p, hi, rfl⟩ := getPz hw
    have hil := (List.getElem?_eq_some_iff.mp hi).1
    have bad : ¬ (PzIn cs p ∧ p.1 ∉ (ps.take i).map (·.1)) → ∀ H', Ext d H H' → E (.ref CI) none H' := fun h => hE fun o => h (pz_at o hi)
    refine bx_ifret (t_ne (x_len_t rfl ml (x_var 4 rfl)) x_int) (fun h => by simp [is] at h) (fun _ => ?_)
    refine bx_unp2 5 6 (x_var 4 rfl) ?_ sc_checked_pairs.nd
    refine bx_ifret (t_w (w_or (t_not (t_chainLt x_int (x_dI (x_var 5 rfl)) (x_len_l rfl ml (x_lstB (x_var 1 rfl))))) fun hc => w_or1 (t_not (t_chainLt x_int (x_dI (x_var 6 rfl)) (x_ixlZ (x_lstB (x_var 1 rfl)) (x_dI (x_var 5 rfl)) (by simp [is] at hc; omega) (by simp [is] at hc; omega)))))) (fun h => ?_) (fun h => ?_)
    · refine bx_raiseC (E := E) (W := fun cls d' _ H => E cls d' H) TI (takes_of rfl rfl rfl rfl) (fun _ _ h => h) (bad fun o => ?_)
      have o2 := o.1.lt
      obtain ⟨⟨o1, o3, o4⟩, _⟩ := o
      rcases h with ⟨_, h⟩ | ⟨h, _⟩
      · rw [decide_eq_true o3, decide_eq_true o4] at h
        cases h
      · rw [List.length_map, decide_eq_true o1, decide_eq_true o2] at h
        cases h
    have hin : PzIn cs p := by
      rcases h with ⟨h1, h2⟩ | ⟨_, h2⟩
      · simp [is] at h1 h2
        exact ⟨h1.1, h2.1, by rw [List.getD_eq_getElem?_getD]; exact h2.2⟩
      · cases h2
    refine bx_ifret (t_din (k := Sum.inl p.1) (hu_of hr) (x_var 5 rfl) (x_var 3 rfl)) (fun h => ?_) (fun h => ?_)
    · refine bx_raiseC (E := E) (W := fun cls d' _ H => E cls d' H) TI (takes_of rfl rfl rfl rfl) (fun _ _ h => h) (bad fun o => ?_)
      rw [valD_set, decide_eq_false o.2] at h
      cases h
    have hnew : p.1 ∉ (ps.take i).map (·.1) := by
      rw [valD_set] at h
      exact of_decide_eq_false h.symm
    refine bx_dputS 3 (ks := (ps.take i).map (·.1)) (k := p.1) rfl rfl (hu_of hr) x_bl (x_dI (x_var 5 rfl)) (by rw [List.length_map, List.length_take]; omega) hl3 (by (repeat' (first | exact ka_nil | refine ka_none ?_ | refine ka_some ?_ ?_ | refine kb_here ?_ | refine kb_none ?_ | refine kb_some ?_ ?_ | exact ink_I | exact ink_B | exact ink_dat | exact ink_any | exact ink_drw | exact ink_own | exact ink_lstA | exact ink_lstB | exact ink_net | exact ink_dct (by assumption) | exact ink_netX | exact ink_tpl | exact ink_ownT | exact ink_ll))) ?_
    refine bx_append 2 (w := pzD p) rfl rfl (x_tup (ds := [.i p.1, .i p.2]) (a_cons (x_var 5 rfl) (a_cons (x_var 6 rfl) a_nil))) hl2 (by (repeat' (first | exact ia_nil | refine ia_none ?_ | refine ia_some ?_ ?_ | refine ib_here ?_ | refine ib_none ?_ | refine ib_some ?_ ?_ | exact ind_I | exact ind_B | exact ind_dat | exact ind_any | exact ind_drw | exact ind_net | exact ind_dct | exact ind_dcT | exact ind_mail | exact ind_xB | exact ind_lstB (by assumption) | exact ind_own (by assumption) | exact ind_lstA (by assumption) | exact ind_own (Ne.symm (by assumption)) | exact ind_lstA (Ne.symm (by assumption)) | exact ind_tpl | exact ind_ownT (by assumption) | exact ind_ownT (Ne.symm (by assumption)) | exact ind_ll (by assumption) (by assumption) | exact ind_rwsV (by assumption) | exact ind_rowV (by assumption) | exact ind_wlk (by assumption) (by assumption) | exact ind_wlk (by assumption) (Ne.symm (by assumption)) | exact ind_ll (Ne.symm (by assumption)) (by assumption)))) (by rw [List.length_map, List.length_take]; omega) ?_
    refine bx_nil fun σ H s => ⟨(), ?_, s.sub ?_⟩
    · rw [takeSnoc hi]
      exact pz_snoc.mpr ⟨hz, hin, hnew⟩
    show Sub _ [_, _, _, _, _, _, _]
    have e1 : addK ((ps.take i).map (·.1)) p.1 = (ps.take (i + 1)).map (·.1) := by
      rw [takeSnoc hi, List.map_append]
      exact if_neg hnew
    rw [e1, show (ps.take (i + 1)).map pzD = (ps.take i).map pzD ++ [pzD p] by rw [takeSnoc hi, List.map_append]; rfl]
    (repeat (first | exact Sub.nil | refine Sub.same ?_ | refine Sub.drop ?_))
  · rw [List.length_map, List.take_length] at hz ⊢
    exact bx_ret (x_tuple_l rfl mt (x_lstA (x_var 2 rfl))) fun v σ H' s hv => ⟨hz, s.ext, hv⟩
abbrev AcI := {z : List Int × (Addr × List (Addr × List D)) × AcZ // z.1.length ≤ 100 ∧ AcM z.2.1 z.2.2 ∧ AcB 100 z.2.2}
abbrev spAcE (d : Option Addr) (K : PySem.W.Frag) (c : Value) : Sp := spE d (fun (z : AcI) => [lsR (kdL d K) z.1.2.1.1 z.1.2.1.2, lst K (z.1.1.map D.i)]) (fun z => AcOk z.1.1 z.1.2.2) (fun z => dat K (acD z.1.2.2)) (fun z => ¬ AcOk z.1.1 z.1.2.2) c
theorem ok_checked_mailE {f fP CI : Addr} {fd fdP : FuncData} (F : Fun K "_checked" "_checked" s_checked_mail f fd) (TI : ErrTxt K mg CI "InvalidNet") (FP : Fun K "_checked_pairs" "_checked_pairs" s_checked_pairs fP fdP) (bP : Binds K fdP ["pairs", "channels"] []) (gP : mg "_checked_pairs" = some (.ref fP)) (ml : mg "len" = none) (mt : mg "tuple" = none) : FnOk P w K mg base (L2.CX P w) 2 f fd ["action", "channels"] (spAcE d K (.ref CI)) := by
  have G : FnOk P w K mg base (L2.CX P w) 1 fP fdP ["pairs", "channels"] (spPrsE d K (.ref CI)) := ok_checked_pairsE FP TI ml mt
  refine fn_okE F sc_checked_mail (fun _ => rfl) (by decide) fun z H cdv A outer s E hr hE _ => ?_
  obtain ⟨⟨cs, x, a⟩, hcl, hM, hB⟩ := z
  dsimp only at hcl hM hB hE ⊢
  obtain ⟨s1, s2, hx, h1, h2⟩ := hM.two
  have hb1 := hB.h
  have hb2 := hB.s
  have hr1 : Room 1 _ := hr.mono (by decide)
  have em : ∀ q : Prop, Decidable q → q ∨ ¬ q := fun q h => by cases h with | isTrue h => exact .inl h | isFalse h => exact .inr h
  rw [hx]
  refine bx_ifret (t_ne (x_lenS (k := kdL d K) rfl ml (x_var 0 rfl)) x_int) (fun h => by simp [is] at h) (fun _ => ?_)
  refine bx_unpS2 (k := kdL d K) 2 3 (x_var 0 rfl) ?_ sc_checked_mail.nd
  refine bx_ret (x_tupE (Ps := [fun u => u = pzsD a.1 ∧ PzOk cs a.1, fun u => u = pzsD a.2 ∧ PzOk cs a.2])
    (a_cons (x_callE (E := E) G hr1 rfl gP FP.kp bP (passes_call (takes_of rfl rfl rfl rfl) fun _ _ _ _ h => h) ⟨(cs, a.1), hcl, hb1⟩ (a_cons (x_sub (x_var 2 rfl) fun v H h => ⟨s1.1, trivial, by rw [← h1]; exact own_lstA h⟩) (a_cons (x_var 1 rfl) a_nil)) (em _ inferInstance) (fun o v H h => ⟨_, ⟨rfl, o⟩, h⟩) (fun q => hE fun o => q o.1))
    (a_cons (x_callE (E := E) G hr1 rfl gP FP.kp bP (passes_call (takes_of rfl rfl rfl rfl) fun _ _ _ _ h => h) ⟨(cs, a.2), hcl, hb2⟩ (a_cons (x_sub (x_var 3 rfl) fun v H h => ⟨s2.1, trivial, by rw [← h2]; exact own_lstA h⟩) (a_cons (x_var 1 rfl) a_nil)) (em _ inferInstance) (fun o v H h => ⟨_, ⟨rfl, o⟩, h⟩) (fun q => hE fun o => q o.2)) a_nil)))
    fun v σ H' s hv => ?_
  obtain ⟨u, ⟨ds, h3, rfl⟩, hv⟩ := hv
  obtain ⟨d1, d2, rfl, ⟨rfl, o1⟩, rfl, o2⟩ := all2_2 h3
  exact ⟨⟨o1, o2⟩, s.ext, hv⟩
end

end Cv

namespace Cv
open PySem PySem.Spec PyProof.Rows L2 RZ
theorem io_lsR {d : Option Addr} {β : Type} {k : Kd d β} {x a : Addr} {T : List β} (h : ∀ t, IndO x (k.R t)) : IndO x (lsR k a T) := fun v H C dx fs fs' hx ⟨h1, h2, vs, h3, h4, h5⟩ => ⟨h1, h2, vs, by rw [upd_ne (show a ≠ x from fun z => by rw [z, hx] at h3; cases h3)]; exact h3, h4, fun j t u ht hu => h t u H C dx fs fs' hx (h5 j t u ht hu)⟩
abbrev T3 := List (Addr × List (Addr × List D))
def AcsM (T : T3) (as : List AcZ) : Prop := T.length = as.length ∧ ∀ (i : Nat) x a, T[i]? = some x → as[i]? = some a → AcM x a
def MlOk (cs : List Int) (as : List AcZ) (m : Nat) : Prop := cs.length ≤ 2 ∧ as.length = m ∧ (∀ c ∈ cs, 1 ≤ c ∧ c ≤ 4) ∧ ∀ a ∈ as, AcOk cs a
instance {cs : List Int} {as : List AcZ} {m : Nat} : Decidable (MlOk cs as m) := inferInstanceAs (Decidable (_ ∧ _))
structure MlZ where
  n : Nat
  ts : List Tr
  cs : List Int
  la : Addr
  T : T3
  as : List AcZ
structure MlZ.B (z : MlZ) : Prop where
  c : z.cs.length ≤ 100
  M : AcsM z.T z.as
  a : z.as.length ≤ 100
  b : ∀ a ∈ z.as, AcB 100 a
def MlZ.Ok (z : MlZ) : Prop := MlOk z.cs z.as z.ts.length
instance (z : MlZ) : Decidable z.Ok := inferInstanceAs (Decidable (MlOk _ _ _))
abbrev mailZ {d : Option Addr} (K : PySem.W.Frag) (C : Addr) (n : Nat) (Ts : List D) (cs : List Int) (as : List AcZ) : List (Str × Rp d) := [("actions", dat K (.t (as.map acD))), ("channels", dat K (tI cs)), ("net", insR C (netF K n Ts))]
abbrev spMlE (d : Option Addr) (K : PySem.W.Frag) (C CM : Addr) (c : Value) : Sp := spIE d CM (fun (z : {z : MlZ // z.B}) => [insR C (netF K z.1.n (z.1.ts.map Tr.d)), lst K (z.1.cs.map D.i), lsR (kdS (kdL d K)) z.1.la z.1.T]) (fun z => mailZ K C z.1.n (z.1.ts.map Tr.d) z.1.cs z.1.as) (fun z => z.1.Ok) (fun z => ¬ z.1.Ok) c
section
variable {d : Option Addr} {P : Program} {w : World} {K : PySem.W.Frag} {mg : Str → Option Value} {base : Heap}
theorem ok_mailnetE {f fC fP C CM CI : Addr} {fd fdC fdP : FuncData} {tk1 tk2 : Tok} (F : Fun K "__init__" "MailNet.__init__" s_MailNet_init f fd) (T : NetTxt K mg C) (TM : MailTxt K mg CM) (TI : ErrTxt K mg CI "InvalidNet") (FC : Fun K "_checked" "_checked" s_checked_mail fC fdC) (bC : Binds K fdC ["action", "channels"] []) (gC : mg "checked_mail" = some (.ref fC))
    (FP : Fun K "_checked_pairs" "_checked_pairs" s_checked_pairs fP fdP) (bP : Binds K fdP ["pairs", "channels"] []) (gP : mg "_checked_pairs" = some (.ref fP)) (g2 : mg "MOST_CHANNELS" = some (.int 2 tk1)) (g4 : mg "MOST_LETTERS" = some (.int 4 tk2)) (ml : mg "len" = none) (mt : mg "tuple" = none) :
    FnOk P w K mg base (L2.CX P w) 3 f fd ["self", "net", "channels", "actions"] (spMlE d K C CM (.ref CI)) := by
  have GC : FnOk P w K mg base (L2.CX P w) 2 fC fdC ["action", "channels"] (spAcE d K (.ref CI)) := ok_checked_mailE FC TI FP bP gP ml mt
  refine fn_okX F sc_MailNet_init (fun vs H Q E ⟨z, x, dx, us, h1, h2, h3, _⟩ => by rw [h1, List.length_cons, h3.len]; rfl) fun vs H Q E hsp cdv A outer s hr => ?_
  obtain ⟨⟨⟨n, ts, cs, la, T3, as⟩, bc, bM, ba, bb⟩, x, dx, us, rfl, hx, hus, hdr, q, qE, _⟩ := hsp
  dsimp only at bc bM ba bb hus q qE
  have hM1 := bM.1
  have hxd : some x ≠ d := fun e => by
    obtain ⟨ns, _, h⟩ := hdr x e.symm
    rw [hx] at h; cases h
  obtain ⟨u1, us1, rfl, hu1, hus1⟩ : ∃ u1 us1, us = u1 :: us1 ∧ (insR (d := d) C (netF K n (ts.map Tr.d))).p u1 (del H x) ∧ RsH (d := d) [lst K (cs.map D.i), lsR (kdS (kdL d K)) la T3] us1 (del H x) := by
    match us, hus with
    | u :: us1, hus => exact ⟨u, us1, rfl, hus.1, hus.2⟩
  obtain ⟨u2, u3, rfl, hu2, hu3⟩ := hus1.two
  have xE := del_ext (H := H) (x := x) hxd
  have iN : ∀ p ∈ netF (d := d) K n (ts.map Tr.d), IndO x p.2 := fun p hp => by
    rcases List.mem_cons.mp hp with rfl | hp
    · exact io_dat
    · rw [List.mem_singleton.mp hp]; exact io_I
  have iB : IndO x (insB (d := d) (del H x) C (netF K n (ts.map Tr.d))) := io_insB del_same iN
  have iL : IndO x (lsR (kdS (kdL d K)) la T3) := io_lsR fun t => io_lsR fun s => io_own
  refine ⟨St (d := d) (del H x) [some (insA CM x []), some (insB (del H x) C (netF K n (ts.map Tr.d))), some (lst K (cs.map D.i)), some (lsR (kdS (kdL d K)) la T3), none, none], { nx := fun _ H' => MlOk cs as ts.length ∧ Ext d (del H x) H' ∧ (insA (d := d) CM x (mailZ K C n (ts.map Tr.d) cs as)).p (.ref x) H', rt := fun _ _ => False }, ?_, ?_, ?_⟩
  · refine ⟨xE, hdr, rfl, fun i R e => ?_⟩
    match i, e with
    | 0, e => cases e; exact ⟨_, rfl, rfl, dx, [], hx, Nat.le_refl _, fun i f R k => by cases k⟩
    | 1, e => cases e; exact ⟨_, rfl, (insB (del H x) C (netF K n (ts.map Tr.d))).st xE (insB_of hu1)⟩
    | 2, e => cases e; exact ⟨_, rfl, (lst K (cs.map D.i)).st xE hu2⟩
    | 3, e => cases e; exact ⟨_, rfl, (lsR (kdS (kdL d K)) la T3).st xE hu3⟩
    | 4, e => cases e
    | 5, e => cases e
    | i + 6, e => cases e
  · have hr1 : Room 2 _ := hr.mono (by decide)
    refine bx_open 2 rfl fun l2 _ => ?_
    refine bx_ifret (t_gt (x_len_l rfl ml (x_var 2 rfl)) (x_globI rfl g2)) (fun h => ?_) (fun h => ?_)
    · refine bx_raiseF (E := E) (W := fun cls d' _ H => E cls d' H) TI (takes_of rfl rfl rfl rfl) (fun _ _ h => h) (x_f3 (x_globI rfl g2) (hn := by decide)) (qE fun o => ?_)
      have h1 : (2 : Int) < ((cs.map D.i).length : Nat) := of_decide_eq_true h.symm
      have h2 : cs.length ≤ 2 := o.1
      rw [List.length_map] at h1
      omega
    have h2 : cs.length ≤ 2 := by
      have h1 : ¬ (2 : Int) < ((cs.map D.i).length : Nat) := of_decide_eq_false h.symm
      rw [List.length_map] at h1
      omega
    clear h
    refine bx_forL 4 (fun i (_ : Unit) => ∀ (k : Nat) c, k < i → cs[k]? = some c → 1 ≤ c ∧ c ≤ 4) (fun _ _ => [some (insA CM x []), some (insB (del H x) C (netF K n (ts.map Tr.d))), some (lstA K l2 (cs.map D.i)), some (lsR (kdS (kdL d K)) la T3), none, none]) (x_var 2 rfl) (fun σ H s => ⟨(), fun _ _ h => absurd h (Nat.not_lt_zero _), s.sub (by (repeat (first | exact Sub.nil | refine Sub.same ?_ | refine Sub.drop ?_)))⟩) (fun _ _ _ => ⟨2, _, rfl, fun v H h => h⟩) (fun i w z hw hz => ?_) (bx_ex fun _ hz => ?_) sc_MailNet_init.nd (passes_of rfl)
    · obtain ⟨c, hc, rfl⟩ := getI hw
      refine bx_ifret (t_not (t_chainLe x_int (x_dI (x_var 4 rfl)) (x_globI rfl g4))) (fun h => ?_) (fun h => bx_nil fun σ H s => ⟨(), fun k y hk hy => ?_, s.sub (by (repeat (first | exact Sub.nil | refine Sub.same ?_ | refine Sub.drop ?_)))⟩)
      · refine bx_raiseF (E := E) (W := fun cls d' _ H => E cls d' H) TI (takes_of rfl rfl rfl rfl) (fun _ _ h => h) (x_f3 (x_globI rfl g4) (hn := by decide)) (qE fun o => ?_)
        have h2 := o.2.2.1 c (List.mem_of_getElem? hc)
        rw [decide_eq_true h2.1, decide_eq_true h2.2] at h
        cases h
      · by_cases hki : k = i
        · subst hki
          rw [hc] at hy; cases hy
          simp [is] at h
          exact h
        · exact hz k y (by omega) hy
    have hcs : ∀ c ∈ cs, 1 ≤ c ∧ c ≤ 4 := fun c hc => by
      obtain ⟨k, hk⟩ := List.getElem?_of_mem hc
      exact hz k c (by simp; exact (List.getElem?_eq_some_iff.mp hk).1) hk
    refine bx_ifret (t_ne (x_lenS (k := kdS (kdL d K)) rfl ml (x_var 3 rfl)) (x_len_t rfl ml (x_fld 0 T.cl T.nT (x_insB (x_var 1 rfl))))) (fun h => ?_) (fun h => ?_)
    · refine bx_raiseC (E := E) (W := fun cls d' _ H => E cls d' H) TI (takes_of rfl rfl rfl rfl) (fun _ _ h => h) (qE fun o => ?_)
      have h1 : as.length = ts.length := o.2.1
      rw [List.length_map] at h
      simp [is] at h
      omega
    have hal : as.length = ts.length := by
      rw [List.length_map] at h
      simp [is] at h
      omega
    clear h
    refine bx_setfld 0 (R := insB (del H x) C (netF K n (ts.map Tr.d))) rfl (by simp) TM.cl TM.nN (x_var 1 rfl) del_same (io_here (io_some iB (io_some io_lstA (io_some iL (io_none (io_none io_nil)))))) iB (by simp) ?_
    refine bx_setfld 0 (R := dat K (tI cs)) rfl (by simp) TM.cl TM.nC (x_tuple_l rfl mt (x_var 2 rfl)) del_same (io_here (io_some iB (io_some io_lstA (io_some iL (io_none (io_none io_nil)))))) io_dat (fun p hp => ?_) ?_
    · rw [List.mem_singleton.mp hp]
      exact ⟨iB, show ¬ (("net" : Str) = "channels") by decide +kernel⟩
    refine bx_setfld 0 (R := dE K fun u => u = .t (as.map acD) ∧ ∀ a ∈ as, AcOk cs a) rfl (by simp) TM.cl TM.nA (x_dE (x_tuple_lE rfl mt (x_lcSX (k := kdS (kdL d K)) (EK := fun cls d' H' => cls = .ref CI ∧ d' = none ∧ ¬ MlOk cs as ts.length ∧ Ext d (del H x) H') 5 (fun i w => ∃ a : AcZ, as[i]? = some a ∧ w = acD a ∧ AcOk cs a) ((takes_of rfl rfl rfl rfl).imp fun c d' σ H' o => ?_) (x_var 3 rfl) (by omega) sc_MailNet_init.nd (blkOk_by (N := ["self", "net", "channels", "actions", "letters", "action"]) (sc := defScope s_MailNet_init) (by decide +kernel)) (fun _ _ _ _ _ => pg_name (i := 5) sc_MailNet_init.nd rfl (Or.inl rfl))
      (fun s H C cl fp xe hx i t ht => ?_))) fun w hw => ?_) del_same (io_here (io_some iB (io_some io_lstA (io_some iL (io_none (io_none io_nil)))))) (io_ex fun _ => io_dat) (fun p hp => ?_) ?_
    · obtain ⟨rfl, rfl, nb, e1⟩ := o
      exact qE nb _ e1
    · have hi := (List.getElem?_eq_some_iff.mp ht).1
      have ha : as[i]? = some (as[i]'(by omega)) := List.getElem?_eq_getElem _
      generalize as[i]'(by omega) = a at ha
      have hm := List.mem_of_getElem? ha
      have em : AcOk cs a ∨ ¬ AcOk cs a := by by_cases h : AcOk cs a; exact .inl h; exact .inr h
      exact x_sub (x_callE (R := dE K fun w => ∃ a' : AcZ, some a = some a' ∧ w = acD a' ∧ AcOk cs a') GC hr1 rfl gC FC.kp bC hx ⟨(cs, t, a), by dsimp only; omega, bM.2 i t a ht ha, bb a hm⟩ (a_cons (x_sub (R := (kdS (kdL d K)).R t) (x_var 5 rfl) fun v H h => h) (a_cons (x_sub (x_var 2 rfl) fun v H hv => ⟨_, trivial, hv⟩) a_nil)) em (fun o v H hv => ⟨_, ⟨a, rfl, rfl, o⟩, hv⟩) fun nb H' e1 => ⟨rfl, rfl, fun o => nb (o.2.2.2 a hm), e1⟩) fun v H ⟨w, hw, hv⟩ => ⟨w, by rw [ha]; exact hw, hv⟩
    · obtain ⟨ds, ⟨h1, h3⟩, rfl⟩ := hw
      refine ⟨?_, fun a ha => ?_⟩
      · congr 1
        apply List.ext_getElem?
        intro i
        rw [List.getElem?_map]
        by_cases hi : i < as.length
        · obtain ⟨a, ha, hw, _⟩ := h3 i _ (List.getElem?_eq_getElem (show i < ds.length by omega))
          rw [List.getElem?_eq_getElem (show i < ds.length by omega), hw, ha]
          rfl
        · rw [List.getElem?_eq_none (by omega), List.getElem?_eq_none (by omega)]
          rfl
      · obtain ⟨i, hi⟩ := List.getElem?_of_mem ha
        have hlt := (List.getElem?_eq_some_iff.mp hi).1
        obtain ⟨a', ha', _, o⟩ := h3 i _ (List.getElem?_eq_getElem (show i < ds.length by omega))
        rw [hi] at ha'; cases ha'
        exact o
    · rcases List.mem_cons.mp hp with rfl | hp
      · exact ⟨io_dat, show ¬ (("channels" : Str) = "actions") by decide +kernel⟩
      · rw [List.mem_singleton.mp hp]
        exact ⟨iB, show ¬ (("net" : Str) = "actions") by decide +kernel⟩
    · refine bx_nil fun σ H' s => ?_
      obtain ⟨v, _, hv⟩ := s.good.get (i := 0) rfl
      obtain rfl : v = .ref x := hv.1
      obtain ⟨h0, dy, fs, h1, h4, h3⟩ := hv
      obtain ⟨u, hu, _, ⟨rfl, has⟩, hd⟩ := h3 0 _ _ rfl
      refine ⟨⟨h2, hal, hcs, has⟩, s.ext, h0, dy, fs, h1, h4, fun i f R k => ?_⟩
      match i, k with
      | 0, k => cases k; exact ⟨u, hu, hd⟩
      | 1, k => exact h3 1 f R k
      | 2, k =>
        cases k
        obtain ⟨u, a, b⟩ := h3 2 "net" _ rfl
        exact ⟨u, a, insR_of b⟩
      | i + 3, k => cases k
  · exact ⟨fun σ' H' _ ⟨o, e1, h1⟩ => q o H' e1 h1, fun v H' _ h => h.elim, fun _ _ _ h => h.elim, fun _ _ _ h => h.elim⟩
end

end Cv

namespace Cv
open PySem PySem.Spec PyProof.Rows L2 RZ
section
variable {d : Option Addr} {X : Cx} {B : Hp} {ρ : Ro d} {a b c e : Expr} {pos : Pos}
/-- z in xs, ints -/
theorem t_inLI {l : Addr} {ns : List Int} {z : Int} (ha : EX X B ρ a (rI z)) (hb : EX X B ρ b (lstA X.K l (ns.map D.i))) (hm : behindInMarks CmpOp.In b = false := by rfl) : TX X B ρ (.Compare a [.In] [b] pos) (is (decide (z ∈ ns))) :=
  t_cmp op_in_seq hm ha hb fun x y H σ Q _ hx hy q => by
    obtain rfl : x = .int z := hx
    obtain ⟨rfl, _, us, h1, h2⟩ := hy
    obtain rfl := h2.ints
    refine ⟨l, _, rfl, .inl h1.sq, rfl, ?_, ?_⟩
    · rw [List.all_eq_true]
      intro v hv
      obtain ⟨n, _, rfl⟩ := List.mem_map.mp hv
      rfl
    · show Q (V.bl (if false = true then !inV (.int z) (ns.map V.int) else inV (.int z) (ns.map V.int))) H
      rw [if_neg Bool.false_ne_true, inV_ints]
      exact q _ H (Ext.refl H) rfl
end
section
variable {d : Option Addr} {P : Program} {w : World} {K : PySem.W.Frag} {mg : Str → Option Value} {base : Heap}
theorem getAc {as : List AcZ} {i : Nat} {w : D} (h : (as.map acD)[i]? = some w) : ∃ a, as[i]? = some a ∧ w = acD a := by
  rw [List.getElem?_map] at h
  cases q : as[i]? with
  | none => rw [q] at h; cases h
  | some z => rw [q] at h; cases h; exact ⟨z, rfl, rfl⟩
theorem ok_lright {f : Addr} {fd : FuncData} (F : Fun K "_law_right" "_law_right" s_law_right f fd) (ml : mg "len" = none) : FnOk P w K mg base CX0 1 f fd ["channels", "actions", "count"]
    (spP d (fun (z : {z : List Int × List AcZ × Nat // z.1.length ≤ 100 ∧ z.2.1.length ≤ 100 ∧ ∀ a ∈ z.2.1, AcB 100 a}) => [lst K (z.1.1.map D.i), lst K (z.1.2.1.map acD), rI (z.1.2.2 : Int)]) (fun z _ => rB (decide (MlOk z.1.1 z.1.2.1 z.1.2.2)))) := by
  refine fn_okB F sc_law_right (fun _ => rfl) (by decide) (fun z H => [some (lstY H K (z.1.1.map D.i)), some (lstY H K (z.1.2.1.map acD)), some (rI (z.1.2.2 : Int)), none, none, none, none, none]) (fun z H σ s => (st_toY 1 rfl (st_toY 0 rfl s)).sub (by (repeat (first | exact Sub.nil | refine Sub.same ?_ | refine Sub.drop ?_)))) fun z H cdv A outer s E hr => ?_
  obtain ⟨⟨cs, as, m⟩, hcl, hal, hab⟩ := z
  dsimp only at hcl hal hab ⊢
  have no : ¬ MlOk cs as m → ∀ {v : V} {σ : L2.St} {H' : Hp} {ρ : Ro d}, St (d := d) H ρ σ H' → (rB (d := d) false).p v H' → Ext d H H' ∧ (rB (d := d) (decide (MlOk cs as m))).p v H' := fun h {v σ H' ρ} s hv => ⟨s.ext, by rw [decide_eq_false h]; exact hv⟩
  refine bx_open 0 rfl fun lc _ => ?_
  refine bx_open 1 rfl fun la _ => ?_
  refine bx_ifret (t_w (w_or (t_gt (x_len_l rfl ml (x_lstB (x_var 0 rfl))) x_int) fun _ => w_or1 (t_ne (x_len_l rfl ml (x_lstB (x_var 1 rfl))) (x_var 2 rfl)))) (fun h => bx_ret x_bl fun v σ H' s hv => no (fun o => ?_) s hv) (fun h => ?_)
  · have o1 : cs.length ≤ 2 := o.1
    have o2 : as.length = m := o.2.1
    rw [List.length_map, List.length_map] at h
    simp [is] at h
    omega
  have h12 : cs.length ≤ 2 ∧ as.length = m := by
    rw [List.length_map, List.length_map] at h
    simp [is] at h
    omega
  clear h
  refine bx_forL 3 (fun i (_ : Unit) => ∀ (k : Nat) c, k < i → cs[k]? = some c → 1 ≤ c ∧ c ≤ 4) (fun _ _ => [some (lstB H K lc (cs.map D.i)), some (lstB H K la (as.map acD)), some (rI (m : Int)), none, none, none, none, none]) (x_lstB (x_var 0 rfl)) (fun σ H s => ⟨(), fun _ _ h => absurd h (Nat.not_lt_zero _), s.sub (by (repeat (first | exact Sub.nil | refine Sub.same ?_ | refine Sub.drop ?_)))⟩) (fun _ _ _ => ⟨0, _, rfl, fun v H h => lstB_A h⟩) (fun i w z hw hz => ?_) (bx_ex fun _ hz => ?_) sc_law_right.nd PassesOwn.never
  · obtain ⟨c, hc, rfl⟩ := getI hw
    refine bx_ifret (t_w (w_or (t_lt (x_dI (x_var 3 rfl)) x_int) fun _ => w_or1 (t_gt (x_dI (x_var 3 rfl)) x_int))) (fun h => bx_ret x_bl fun v σ H' s hv => no (fun o => ?_) s hv) (fun h => bx_nil fun σ H s => ⟨(), fun k y hk hy => ?_, s.sub (by (repeat (first | exact Sub.nil | refine Sub.same ?_ | refine Sub.drop ?_)))⟩)
    · have o1 := o.2.2.1 c (List.mem_of_getElem? hc)
      simp [is] at h
      omega
    · by_cases hki : k = i
      · subst hki
        rw [hc] at hy; cases hy
        simp [is] at h
        omega
      · exact hz k y (by omega) hy
  have hcs : ∀ c ∈ cs, 1 ≤ c ∧ c ≤ 4 := fun c hc => by
    obtain ⟨k, hk⟩ := List.getElem?_of_mem hc
    exact hz k c (by simp; exact (List.getElem?_eq_some_iff.mp hk).1) hk
  clear hz
  refine bx_forL 4 (fun i (_ : Unit) => ∀ (k : Nat) a, k < i → as[k]? = some a → AcOk cs a) (fun _ _ => [some (lstB H K lc (cs.map D.i)), some (lstB H K la (as.map acD)), some (rI (m : Int)), none, none, none, none, none]) (x_lstB (x_var 1 rfl)) (fun σ H s => ⟨(), fun _ _ h => absurd h (Nat.not_lt_zero _), s.sub (by (repeat (first | exact Sub.nil | refine Sub.same ?_ | refine Sub.drop ?_)))⟩) (fun _ _ _ => ⟨1, _, rfl, fun v H h => lstB_A h⟩) (fun i w z hw hz => ?_) (bx_ex fun _ hz => ?_) sc_law_right.nd PassesOwn.never
  · obtain ⟨a, ha, rfl⟩ := getAc hw
    have hm := List.mem_of_getElem? ha
    have hb := hab a hm
    refine bx_forT 5 (fun i (_ : Unit) => ∀ (k : Nat) ps, k < i → [a.1, a.2][k]? = some ps → PzOk cs ps) (fun _ _ => [some (lstB H K lc (cs.map D.i)), some (lstB H K la (as.map acD)), some (rI (m : Int)), none, some (dat K (acD a)), none, none, none]) (x_var 4 rfl) (fun σ H s => ⟨(), fun _ _ h => absurd h (Nat.not_lt_zero _), s.sub (by (repeat (first | exact Sub.nil | refine Sub.same ?_ | refine Sub.drop ?_)))⟩) (fun j w z2 hw hz2 => ?_) (bx_ex fun _ hz2 => ?_) sc_law_right.nd PassesOwn.never
    · obtain ⟨ps, hps, rfl, hpl, hpo⟩ : ∃ ps, [a.1, a.2][j]? = some ps ∧ w = pzsD ps ∧ ps.length ≤ 100 ∧ (AcOk cs a → PzOk cs ps) := by
        match j, hw with
        | 0, hw => cases hw; exact ⟨_, rfl, rfl, hb.h, fun o => o.1⟩
        | 1, hw => cases hw; exact ⟨_, rfl, rfl, hb.s, fun o => o.2⟩
        | j + 2, hw => cases hw
      refine bx_new 6 [] (by simp) (fun B' => x_lst (ds := []) a_nil) (fun lu hlu _ => ?_) sc_law_right.nd
      refine bx_forT 7 (fun i (_ : Unit) => PzOk cs (ps.take i)) (fun i _ => [some (lstB H K lc (cs.map D.i)), some (lstB H K la (as.map acD)), some (rI (m : Int)), none, some (dat K (acD a)), some (dat K (pzsD ps)), some (own K lu (((ps.take i).map (·.1)).map D.i)), none]) (x_var 5 rfl) (fun σ H s => ⟨(), ⟨fun p hp => by simp at hp, by simp⟩, s.sub (by (repeat (first | exact Sub.nil | refine Sub.same ?_ | refine Sub.drop ?_)))⟩) (fun q w z3 hw hz3 => ?_) (bx_ex fun _ hz3 => bx_nil fun σ H s => ⟨(), fun k y hk hy => ?_, s.sub (by (repeat (first | exact Sub.nil | refine Sub.same ?_ | refine Sub.drop ?_)))⟩) sc_law_right.nd PassesOwn.never
      · obtain ⟨p, hp, rfl⟩ := getPz hw
        have hql := (List.getElem?_eq_some_iff.mp hp).1
        have bad : ¬ (PzIn cs p ∧ p.1 ∉ (ps.take q).map (·.1)) → ¬ MlOk cs as m := fun h o => h (pz_at (hpo (o.2.2.2 a hm)) hp)
        have p0 : ∀ {X : Cx} {ρ : Ro d} {pos p1 p2 : Pos} {j1 : Nat}, X.K = K → EX X H ρ (.Name "pair" p1) (dat K (pzD p)) → EX X H ρ (.Subscript (.Name "pair" p1) (.Constant (.int 0) j1 p2) pos) (rI p.1) := fun hK h => by subst hK; exact x_ixtI (ns := [p.1, p.2]) (k := 0) h x_int rfl
        have p1 : ∀ {X : Cx} {ρ : Ro d} {pos p1 p2 : Pos} {j1 : Nat}, X.K = K → EX X H ρ (.Name "pair" p1) (dat K (pzD p)) → EX X H ρ (.Subscript (.Name "pair" p1) (.Constant (.int 1) j1 p2) pos) (rI p.2) := fun hK h => by subst hK; exact x_ixtI (ns := [p.1, p.2]) (k := 1) h x_int rfl
        refine bx_ifret (t_w (w_or (t_lt (p0 rfl (x_var 7 rfl)) x_int) fun _ => w_or (t_ge (p0 rfl (x_var 7 rfl)) (x_len_l rfl ml (x_lstB (x_var 0 rfl)))) fun _ => w_or1 (t_inLI (p0 rfl (x_var 7 rfl)) (x_lstA (x_var 6 rfl))))) (fun h => bx_ret x_bl fun v σ H' s hv => no (bad fun o => ?_) s hv) (fun h => ?_)
        · have o1 := o.1.1
          have o2 := o.1.lt
          rw [List.length_map] at h
          rcases h with ⟨_, ⟨_, h⟩ | ⟨h, _⟩⟩ | ⟨h, _⟩
          · exact o.2 (of_decide_eq_true h.symm)
          · have := of_decide_eq_true h.symm
            omega
          · have := of_decide_eq_true h.symm
            omega
        obtain ⟨h1, h2, h3⟩ : 0 ≤ p.1 ∧ p.1 < cs.length ∧ p.1 ∉ (ps.take q).map (·.1) := by
          rw [List.length_map] at h
          rcases h with ⟨h1, ⟨h2, h3⟩ | ⟨_, h⟩⟩ | ⟨_, h⟩
          · have h1 := of_decide_eq_false h1.symm
            have h2 := of_decide_eq_false h2.symm
            exact ⟨by omega, by omega, of_decide_eq_false h3.symm⟩
          · cases h
          · cases h
        clear h
        refine bx_ifret (t_w (w_or (t_lt (p1 rfl (x_var 7 rfl)) x_int) fun _ => w_or1 (t_ge (p1 rfl (x_var 7 rfl)) (x_ixlZ (x_lstB (x_var 0 rfl)) (p0 rfl (x_var 7 rfl)) h1 h2)))) (fun h => bx_ret x_bl fun v σ H' s hv => no (bad fun o => ?_) s hv) (fun h => ?_)
        · obtain ⟨⟨o1, o2, o3⟩, _⟩ := o
          rcases h with ⟨_, h⟩ | ⟨h, _⟩
          · have := of_decide_eq_true h.symm
            omega
          · have := of_decide_eq_true h.symm
            omega
        have hin : PzIn cs p := by
          rcases h with ⟨h4, h5⟩ | ⟨_, h⟩
          · have h4 := of_decide_eq_false h4.symm
            have h5 := of_decide_eq_false h5.symm
            exact ⟨h1, by omega, by omega⟩
          · cases h
        clear h
        refine bx_append 6 (w := .i p.1) rfl rfl (x_Id (p0 rfl (x_var 7 rfl))) hlu (by (repeat' (first | exact ia_nil | refine ia_none ?_ | refine ia_some ?_ ?_ | refine ib_here ?_ | refine ib_none ?_ | refine ib_some ?_ ?_ | exact ind_I | exact ind_B | exact ind_dat | exact ind_any | exact ind_drw | exact ind_net | exact ind_dct | exact ind_dcT | exact ind_mail | exact ind_xB | exact ind_lstB (by assumption) | exact ind_own (by assumption) | exact ind_lstA (by assumption) | exact ind_own (Ne.symm (by assumption)) | exact ind_lstA (Ne.symm (by assumption)) | exact ind_tpl | exact ind_ownT (by assumption) | exact ind_ownT (Ne.symm (by assumption)) | exact ind_ll (by assumption) (by assumption) | exact ind_rwsV (by assumption) | exact ind_rowV (by assumption) | exact ind_wlk (by assumption) (by assumption) | exact ind_wlk (by assumption) (Ne.symm (by assumption)) | exact ind_ll (Ne.symm (by assumption)) (by assumption)))) (by rw [List.length_map, List.length_map, List.length_take]; omega) ?_
        refine bx_nil fun σ H s => ⟨(), ?_, s.sub ?_⟩
        · rw [takeSnoc hp]
          exact pz_snoc.mpr ⟨hz3, hin, h3⟩
        show Sub _ [_, _, _, _, _, _, _, _]
        rw [takeSnoc hp, List.map_append, List.map_append]
        (repeat (first | exact Sub.nil | refine Sub.same ?_ | refine Sub.drop ?_))
      · by_cases hkj : k = j
        · subst hkj
          rw [hps] at hy; cases hy
          rw [List.length_map, List.take_length] at hz3
          exact hz3
        · exact hz2 k y (by omega) hy
    · refine bx_nil fun σ H s => ⟨(), fun k y hk hy => ?_, s.sub (by (repeat (first | exact Sub.nil | refine Sub.same ?_ | refine Sub.drop ?_)))⟩
      by_cases hki : k = i
      · subst hki
        rw [ha] at hy; cases hy
        exact ⟨hz2 0 _ (by simp) rfl, hz2 1 _ (by simp) rfl⟩
      · exact hz k y (by omega) hy
  have hok : MlOk cs as m := ⟨h12.1, h12.2, hcs, fun a ha => by
    obtain ⟨k, hk⟩ := List.getElem?_of_mem ha
    exact hz k a (by simp; exact (List.getElem?_eq_some_iff.mp hk).1) hk⟩
  exact bx_ret x_bl fun v σ H' s hv => ⟨s.ext, by rw [decide_eq_true hok]; exact hv⟩
noncomputable def outM' (K : PySem.W.Frag) (C CM : Addr) (z : MlZ) : Rp d := if z.Ok then insR CM (mailZ K C z.n (z.ts.map Tr.d) z.cs z.as) else dat K .n
theorem ok_loutcomeM {f fI C CM CI : Addr} {fd fdI : FuncData} (F : Fun K "_law_outcome" "_law_outcome" s_law_outcome f fd) (TI : ErrTxt K mg CI "InvalidNet") (M : Mk K CM fI) (GI : FnOk P w K mg base (L2.CX P w) 3 fI fdI ["self", "net", "channels", "actions"] (spMlE d K C CM (.ref CI))) (bI : Binds K fdI ["self", "net", "channels", "actions"] []) (gN : mg "MailNet" = some (.ref CM)) :
    FnOk P w K mg base CX0 5 f fd ["net", "channels", "actions"] (spP d (fun (z : {z : MlZ // z.B}) => [insR C (netF K z.1.n (z.1.ts.map Tr.d)), lst K (z.1.cs.map D.i), lsR (kdS (kdL d K)) z.1.la z.1.T]) (fun z _ => outM' K C CM z.1)) := by
  refine fn_ok F sc_law_outcome (fun _ => rfl) (by decide) fun z H cdv A outer s E hr => ?_
  obtain ⟨z, hz⟩ := z
  dsimp only at hz ⊢
  have hr4 : Room 4 _ := hr.mono (by decide)
  refine bx_pre (Pre' := St H [some (insR C (netF K z.n (z.ts.map Tr.d))), some (lst K (z.cs.map D.i)), some (lsR (kdS (kdL d K)) z.la z.T)]) ?_ (fun σ H s => s.sub (by (repeat (first | exact Sub.nil | refine Sub.same ?_ | refine Sub.drop ?_))))
  refine PSs_wk (t := ?tt) (pss_one ?h1) ?h2
  case h1 =>
    refine L2.ps_try_only (c := .ref CI)
      (tb := fun W => tRet (tMakeS CM (spMlE d K C CM (.ref CI)) (WE W) (fun σ H' Q => St (d := d) H [some (insR C (netF K z.n (z.ts.map Tr.d))), some (lst K (z.cs.map D.i)), some (lsR (kdS (kdL d K)) z.la z.T)] σ H' ∧ ∀ vs H2, Ext d H' H2 → RsH (d := d) [insR C (netF K z.n (z.ts.map Tr.d)), lst K (z.cs.map D.i), lsR (kdS (kdL d K)) z.la z.T] vs H2 → Q vs H2)))
      (ts := fun a cls d' => tRet (tC .non)) (Wout := fun _ _ _ _ => False) ?_ ?_ ?_ ?_ ?_ ?_
    · rfl
    · rfl
    · exact ⟨rfl, by decide, .inl TI.gC⟩
    · exact takes0
    · intro W pn xe tk _
      exact pss_one (ps_ret (pe_makeS M GI hr4 rfl gN bI (fun σ => passAt tk σ) (a_cons (x_var 0 rfl) (a_cons (x_var 1 rfl) (a_cons (x_var 2 rfl) a_nil)))))
    · intro a oe cls d' pn hz hf
      exact pss_one (ps_ret pe_non)
  case h2 =>
    intro D σ H' ⟨st, l⟩
    refine ⟨st, fun vs H1 e1 hvs => ?_⟩
    have s1 := st.mono e1
    intro x dx nx ndx hne
    have x1 : Ext d H1 (upd H1 dx (.own x)) := Ext.new ndx
    have n2 : (upd H1 dx (.own x)) x = none := by rw [upd_ne hne.symm]; exact nx
    have e2 : del (upd (upd H1 dx (.own x)) x (.ins CM dx [])) x = upd H1 dx (.own x) := by
      funext b
      by_cases hb : b = x
      · rw [hb, del_same, n2]
      · rw [del_ne hb, upd_ne hb]
    have s2 := s1.mono x1
    refine ⟨⟨z, hz⟩, x, dx, vs, rfl, upd_same, by rw [e2]; exact hvs.mono x1, (s2.mono (Ext.new n2)).dr, fun o H' e3 h3 => ⟨rfl, ?_⟩, fun nb H' e3 => ?_, ?_⟩
    · rw [e2] at e3
      refine l.rt _ H' (e1.tk.trans (x1.tk.trans e3.tk)) ⟨(s2.mono e3).ext, ?_⟩
      show (outM' K C CM z).p _ H'
      unfold outM'
      rw [if_pos o]
      exact ⟨x, trivial, h3⟩
    · rw [e2] at e3
      have s3 := s2.mono e3
      refine ⟨true, TI.te, fun _ a ha => ?_, fun q => nomatch q⟩
      refine l.rt .non H' (e1.tk.trans (x1.tk.trans e3.tk)) ⟨s3.ext, ?_⟩
      show (outM' K C CM z).p _ H'
      unfold outM'
      rw [if_neg nb]
      exact .n
    · by_cases h : z.Ok
      · exact .inl h
      · exact .inr h
end

end Cv

namespace Cv
open PySem PySem.Spec PyProof.Rows L2 RZ
/-! ### the law's lists of actions -/
section
variable {d : Option Addr} {K : PySem.W.Frag}
theorem adr2_put {c : Addr} {ds : List D} {t : Addr × List (Addr × List D)} : (kdS (kdL d K)).adr (put2 c ds t) = (kdS (kdL d K)).adr t := by
  show t.1 :: (t.2.map fun s => if s.1 = c then (s.1, ds) else s).flatMap (kdL d K).adr = t.1 :: t.2.flatMap (kdL d K).adr
  rw [List.flatMap_map]
  congr 1
  refine congrArg (fun f => t.2.flatMap f) (funext fun s => ?_)
  show [(if s.1 = c then (s.1, ds) else s).1] = [s.1]
  by_cases h : s.1 = c
  · rw [if_pos h]
  · rw [if_neg h]
theorem adr3_put {c la : Addr} {ds : List D} {T : T3} : (kdS (kdS (kdL d K))).adr (la, put3 c ds T) = (kdS (kdS (kdL d K))).adr (la, T) := by
  show la :: (T.map (put2 c ds)).flatMap (kdS (kdL d K)).adr = la :: T.flatMap (kdS (kdL d K)).adr
  rw [List.flatMap_map]
  congr 1
  exact congrArg (fun f => T.flatMap f) (funext fun t => adr2_put)
theorem lsok2_put {c : Addr} {ds : List D} {x : Addr × List (Addr × List D)} (h : LsOk (kdL d K) x) : LsOk (kdL d K) (put2 c ds x) := by
  have e : ∀ s : Addr × List D, (kdL d K).adr (if s.1 = c then (s.1, ds) else s) = (kdL d K).adr s := fun s => by
    show [(if s.1 = c then (s.1, ds) else s).1] = [s.1]
    by_cases h : s.1 = c
    · rw [if_pos h]
    · rw [if_neg h]
  refine ⟨fun t ht => ?_, List.pairwise_map.mpr (h.dj.imp fun {s s'} q => ?_)⟩
  · obtain ⟨s, hs, rfl⟩ := List.mem_map.mp ht
    rw [e]
    exact h.i s hs
  · rw [e, e]; exact q
theorem lsok3_put {c la : Addr} {ds : List D} {T : T3} (h : LsOk (kdS (kdL d K)) (la, T)) : LsOk (kdS (kdL d K)) (la, put3 c ds T) := by
  refine ⟨fun t ht => ?_, List.pairwise_map.mpr (h.dj.imp fun {s s'} q => ?_)⟩
  · obtain ⟨s, hs, rfl⟩ := List.mem_map.mp ht
    rw [adr2_put]
    exact h.i s hs
  · rw [adr2_put, adr2_put]; exact q
theorem acm_put {c : Addr} {qs : Pz} {m : Nat} {x : Addr × List (Addr × List D)} {a : AcZ} (h : AcM x a) (hb : AcB m a) (hq : qs.length ≤ m + 1) : ∃ a', AcM (put2 c (qs.map pzD) x) a' ∧ AcB (m + 1) a' := by
  obtain ⟨s1, s2, e, h1, h2⟩ := h.two
  refine ⟨(if s1.1 = c then qs else a.1, if s2.1 = c then qs else a.2), ?_, ⟨?_, ?_⟩⟩
  · show (x.2.map fun s => if s.1 = c then (s.1, qs.map pzD) else s).map (·.2) = _
    rw [e]
    simp only [List.map_cons, List.map_nil]
    congr 1
    · split
      · rfl
      · exact h1
    congr 1
    split
    · rfl
    · exact h2
  · have := hb.h
    show (if s1.1 = c then qs else a.1).length ≤ m + 1
    split <;> omega
  · have := hb.s
    show (if s2.1 = c then qs else a.2).length ≤ m + 1
    split <;> omega
/-- all that is known of the actions' lists at la: none stood at the start, none is in ls -/
structure JT (d : Option Addr) (K : PySem.W.Frag) (H : Hp) (ls : List Addr) (la : Addr) (T : T3) (m : Nat) : Prop where
  ok : LsOk (kdS (kdL d K)) (la, T)
  oki : ∀ x ∈ T, LsOk (kdL d K) x
  sh : ∀ x ∈ T, ∃ a, AcM x a ∧ AcB m a
  fr : ∀ c ∈ (kdS (kdS (kdL d K))).adr (la, T), H c = none ∧ c ∉ ls
variable {H : Hp} {ls : List Addr} {la : Addr} {T : T3} {m : Nat}
theorem JT.more (h : JT d K H ls la T m) {ls' : List Addr} (hl : ∀ c ∈ (kdS (kdS (kdL d K))).adr (la, T), c ∉ ls') : JT d K H ls' la T m := ⟨h.ok, h.oki, h.sh, fun c hc => ⟨(h.fr c hc).1, hl c hc⟩⟩
theorem JT.snoc (h : JT d K H ls la T m) {t : Addr × List (Addr × List D)} {a : AcZ} (ht : LsOk (kdL d K) t) (hM : AcM t a) (hB : AcB m a) (hf : ∀ c ∈ (kdS (kdL d K)).adr t, H c = none ∧ c ∉ ls ∧ c ∉ (kdS (kdS (kdL d K))).adr (la, T)) : JT d K H ls la (T ++ [t]) m := by
  refine ⟨lsok_snoc h.ok fun c hc => (hf c hc).2.2, fun x hx => ?_, fun x hx => ?_, fun c hc => ?_⟩
  · rcases List.mem_append.mp hx with hx | hx
    · exact h.oki x hx
    · rw [List.mem_singleton.mp hx]; exact ht
  · rcases List.mem_append.mp hx with hx | hx
    · exact h.sh x hx
    · rw [List.mem_singleton.mp hx]; exact ⟨a, hM, hB⟩
  · rcases List.mem_cons.mp hc with rfl | hc
    · exact h.fr _ List.mem_cons_self
    · obtain ⟨x, hx, hc2⟩ := List.mem_flatMap.mp hc
      rcases List.mem_append.mp hx with hx | hx
      · exact h.fr c (List.mem_cons_of_mem _ (List.mem_flatMap.mpr ⟨x, hx, hc2⟩))
      · rw [List.mem_singleton.mp hx] at hc2
        exact ⟨(hf c hc2).1, (hf c hc2).2.1⟩
theorem JT.pop (h : JT d K H ls la T m) : JT d K H ls la T.dropLast m := ⟨lsok_drop h.ok, fun x hx => h.oki x (List.dropLast_subset T hx), fun x hx => h.sh x (List.dropLast_subset T hx), fun c hc => by
  rcases List.mem_cons.mp hc with rfl | hc
  · exact h.fr _ List.mem_cons_self
  · obtain ⟨x, hx, hc2⟩ := List.mem_flatMap.mp hc
    exact h.fr c (List.mem_cons_of_mem _ (List.mem_flatMap.mpr ⟨x, List.dropLast_subset T hx, hc2⟩))⟩
theorem JT.put (h : JT d K H ls la T m) {c : Addr} {qs : Pz} (hq : qs.length ≤ m + 1) : JT d K H ls la (put3 c (qs.map pzD) T) (m + 1) := ⟨lsok3_put h.ok, fun x hx => by
    obtain ⟨y, hy, rfl⟩ := List.mem_map.mp hx
    exact lsok2_put (h.oki y hy), fun x hx => by
    obtain ⟨y, hy, rfl⟩ := List.mem_map.mp hx
    obtain ⟨a, h1, h2⟩ := h.sh y hy
    exact acm_put h1 h2 hq, fun c' hc => h.fr c' (by rw [adr3_put] at hc; exact hc)⟩
theorem JT.up (h : JT d K H ls la T m) {m' : Nat} (hm : m ≤ m') : JT d K H ls la T m' := ⟨h.ok, h.oki, fun x hx => let ⟨a, h1, h2⟩ := h.sh x hx; ⟨a, h1, ⟨Nat.le_trans h2.h hm, Nat.le_trans h2.s hm⟩⟩, h.fr⟩
theorem JT.ind (h : JT d K H ls la T m) {c : Addr} (hc : c ∈ ls) : Ind c (lsR (kdS (kdL d K)) la T) := ind_kd (k := kdS (kdS (kdL d K))) (t := (la, T)) fun z => (h.fr c z).2 hc
theorem JT.own0 (h : JT d K H ls la T m) : H la = none ∧ la ∉ ls := h.fr la List.mem_cons_self
theorem JT.acs (h : JT d K H ls la T m) : ∃ as, AcsM T as ∧ ∀ a ∈ as, AcB m a := by
  have sh := h.sh
  clear h
  induction T with
  | nil => exact ⟨[], ⟨rfl, fun i x t a => by cases a⟩, fun a h => by cases h⟩
  | cons x T ih =>
    obtain ⟨a, ha, hb⟩ := sh x List.mem_cons_self
    obtain ⟨as, ⟨h1, h2⟩, h3⟩ := ih fun y hy => sh y (List.mem_cons_of_mem _ hy)
    refine ⟨a :: as, ⟨by simp [h1], fun i y u p q => ?_⟩, fun u hu => ?_⟩
    · cases i with
      | zero => cases p; cases q; exact ha
      | succ i => exact h2 i y u p q
    · rcases List.mem_cons.mp hu with rfl | hu
      · exact hb
      · exact h3 u hu
theorem JT.sep (h : JT d K H ls la T m) {x : Addr × List (Addr × List D)} {s : Addr × List D} (hx : x ∈ T) (hs : s ∈ x.2) : la ≠ s.1 ∧ (∀ y ∈ T, y.1 ≠ s.1) ∧ H s.1 = none ∧ s.1 ∉ ls := by
  have sx : s.1 ∈ (kdS (kdL d K)).adr x := List.mem_cons_of_mem _ (List.mem_flatMap.mpr ⟨s, hs, List.mem_singleton.mpr rfl⟩)
  have hf := h.fr s.1 (List.mem_cons_of_mem _ (List.mem_flatMap.mpr ⟨x, hx, sx⟩))
  refine ⟨fun e => h.ok.i x hx (by rw [show ((la, T) : Addr × T3).1 = s.1 from e]; exact sx), fun y hy e => ?_, hf⟩
  by_cases hyx : y = x
  · subst hyx
    exact (h.oki y hy).i s hs (by rw [e]; exact List.mem_singleton.mpr rfl)
  · have yy : y.1 ∈ (kdS (kdL d K)).adr y := List.mem_cons_self
    have dj : ∀ {L : T3}, L.Pairwise (fun t t' => ∀ c ∈ (kdS (kdL d K)).adr t, c ∉ (kdS (kdL d K)).adr t') → x ∈ L → y ∈ L → False := fun {L} p hx hy => by
      induction p with
      | nil => cases hx
      | @cons a L ha _ ih =>
        rcases List.mem_cons.mp hx with rfl | hx'
        · rcases List.mem_cons.mp hy with e' | hy'
          · exact hyx e'
          · exact ha y hy' s.1 sx (by rw [← e]; exact yy)
        · rcases List.mem_cons.mp hy with rfl | hy'
          · exact ha x hx' y.1 yy (by rw [e]; exact sx)
          · exact ih hx' hy'
    exact dj h.ok.dj hx hy
theorem ind_mailZ {l C CM : Addr} {n : Nat} {Ts : List D} {cs : List Int} {as : List AcZ} : Ind l (insR (d := d) CM (mailZ K C n Ts cs as)) := ind_ex fun _ => ind_insA fun p hp => by
  rcases List.mem_cons.mp hp with rfl | hp
  · exact ind_dat
  · rcases List.mem_cons.mp hp with rfl | hp
    · exact ind_dat
    · rw [List.mem_singleton.mp hp]
      exact ind_ex fun _ => ind_insA fun p hp => by
        rcases List.mem_cons.mp hp with rfl | hp
        · exact ind_dat
        · rw [List.mem_singleton.mp hp]; exact ind_I
end
/-- a drawn action -/
def actZ (a : Act) : AcZ := (a.hs.map fun p => ((p.1 : Int), p.2), a.sd.map fun p => ((p.1 : Int), p.2))
theorem actZ_h {a : Act} : (actZ a).1.map pzD = a.hs.map pairD := by
  unfold actZ
  rw [List.map_map]
  rfl
theorem actZ_s {a : Act} : (actZ a).2.map pzD = a.sd.map pairD := by
  unfold actZ
  rw [List.map_map]
  rfl
theorem actZ_b {cs : List Int} {a : Act} (h : ActOk cs a) : AcB cs.length (actZ a) := ⟨by unfold actZ; rw [List.length_map]; exact nd_len h.h, by unfold actZ; rw [List.length_map]; exact nd_len h.s⟩
theorem shp_pz (ps : Pz) : Shp 2 (pzsD ps) := .t fun e he => by
  obtain ⟨p, _, rfl⟩ := List.mem_map.mp he
  refine .t fun e he => ?_
  rcases List.mem_cons.mp he with rfl | he
  · exact .i _
  · obtain rfl := List.mem_singleton.mp he
    exact .i _
theorem shp_acs (as : List AcZ) : Shp 4 (.t (as.map acD)) := .t fun e he => by
  obtain ⟨a, _, rfl⟩ := List.mem_map.mp he
  refine .t fun e he => ?_
  rcases List.mem_cons.mp he with rfl | he
  · exact shp_pz _
  · obtain rfl := List.mem_singleton.mp he
    exact shp_pz _
theorem st_rd {d : Option Addr} {B : Hp} {ρ : Ro d} {σ : L2.St} {H : Hp} {R R' : Rp d} (i : Nat) (hi : ρ[i]? = some (some R)) (w : ∀ v H, R.p v H → R'.p v H) (s : St B ρ σ H) : St B (ρ.set i (some R')) σ H := by
  refine ⟨s.ext, s.dr, by simp [s.good.1], fun j R0 e => ?_⟩
  by_cases hj : i = j
  · subst hj
    have hlt : i < ρ.length := (List.getElem?_eq_some_iff.mp hi).1
    rw [List.getElem?_set_self hlt] at e
    cases e
    obtain ⟨v, h1, h2⟩ := s.good.get hi
    exact ⟨v, h1, w v H h2⟩
  · rw [List.getElem?_set_ne hj] at e
    exact s.good.get e
theorem flat_rep {α β : Type} (f : α → β) (a : α) : ∀ k : Nat, (List.replicate k [f a]).flatten = (List.replicate k a).map f
  | 0 => rfl
  | k + 1 => by rw [List.replicate_succ, List.flatten_cons, flat_rep f a k, List.replicate_succ]; rfl
theorem shp_tr (t : Tr) : Shp 2 t.d := .t fun e he => by
  simp only [List.mem_cons, List.not_mem_nil, or_false] at he
  rcases he with rfl | rfl | rfl <;> exact shp_tI _
theorem shp_trs {ts : List Tr} : ∀ e ∈ ts.map Tr.d, Shp 2 e := fun e he => by
  obtain ⟨t, _, rfl⟩ := List.mem_map.mp he
  exact shp_tr t
section
variable {d : Option Addr} {K : PySem.W.Frag}
theorem ind_net {l C : Addr} {n : Nat} {Ts : List D} : Ind l (insR (d := d) C (netF K n Ts)) := ind_ex fun _ => ind_insA fun p hp => by
  rcases List.mem_cons.mp hp with rfl | hp
  · exact ind_dat
  · rw [List.mem_singleton.mp hp]; exact ind_I
end

end Cv

namespace Cv
open PySem PySem.Spec PyProof.Rows L2 RZ
section
variable {P : Program} {w : World} {K : PySem.W.Frag} {mg : Str → Option Value} {base : Heap}
structure LawTxt (K : PySem.W.Frag) (mg : Str → Option Value) (C CM CI : Addr) : Prop where
  net : NetTxt K mg C
  mail : MailTxt K mg CM
  e : ErrTxt K mg CI "InvalidNet"
  ml : mg "len" = none
  mi : mg "int" = none
  mt : mg "tuple" = none
  mL : mg "list" = none
  mr : mg "range" = none
  ms : mg "isinstance" = none
theorem ok_law {f C CM CI fNI fMI fCm fNum fChk fCp2 fDr fTk fTr fLn fLac fOut fRgt : Addr} {fd dNI dMI dCm dNum dChk dCp2 dDr dTk dTr dLn dLac dOut dRgt : FuncData} {t1 t2 t3 t4 t5 : Tok} (F : Fun K "law" "law" s_law f fd) (T : LawTxt K mg C CM CI)
    (FNum : Fun K "_numbers" "_numbers" s_numbers fNum dNum) (bNum : Binds K dNum ["row", "places", "least", "most"] []) (gNum : mg "_numbers" = some (.ref fNum))
    (FChk : Fun K "_checked" "_checked" s_checked_nets fChk dChk) (bChk : Binds K dChk ["transition", "places"] []) (gChk : mg "checked_nets" = some (.ref fChk))
    (FCp2 : Fun K "_checked_pairs" "_checked_pairs" s_checked_pairs fCp2 dCp2) (bCp2 : Binds K dCp2 ["pairs", "channels"] []) (gCp2 : mg "_checked_pairs" = some (.ref fCp2))
    (FDr : Fun K "_law_draws" "_law_draws" s_law_draws fDr dDr) (bDr : Binds K dDr ["script", "count"] []) (gDr : mg "_law_draws" = some (.ref fDr))
    (FTk : Fun K "_law_take" "_law_take" s_law_take fTk dTk) (bTk : Binds K dTk ["draws", "limit"] []) (gTk : mg "_law_take" = some (.ref fTk))
    (FTr : Fun K "_law_transition" "_law_transition" s_law_transition fTr dTr) (bTr : Binds K dTr ["draws", "places", "plain"] []) (gTr : mg "_law_transition" = some (.ref fTr))
    (FLn : Fun K "_law_net" "_law_net" s_law_net fLn dLn) (bLn : Binds K dLn ["draws", "places", "most", "plain"] []) (gLn : mg "_law_net" = some (.ref fLn))
    (FLac : Fun K "_law_action" "_law_action" s_law_action fLac dLac) (bLac : Binds K dLac ["draws", "channels"] []) (gLac : mg "_law_action" = some (.ref fLac))
    (FOut : Fun K "_law_outcome" "_law_outcome" s_law_outcome fOut dOut) (bOut : Binds K dOut ["net", "channels", "actions"] []) (gOut : mg "_law_outcome" = some (.ref fOut))
    (FRgt : Fun K "_law_right" "_law_right" s_law_right fRgt dRgt) (bRgt : Binds K dRgt ["channels", "actions", "count"] []) (gRgt : mg "_law_right" = some (.ref fRgt))
    (FCm : Fun K "_checked" "_checked" s_checked_mail fCm dCm) (bCm : Binds K dCm ["action", "channels"] []) (gCm : mg "checked_mail" = some (.ref fCm))
    (FNI : Fun K "__init__" "Net.__init__" s_Net_init fNI dNI) (bNI : Binds K dNI ["self", "places", "transitions"] []) (MNI : Mk K C fNI)
    (gP : mg "MOST_PLACES" = some (.int 12 t1)) (gT : mg "MOST_TRANSITIONS" = some (.int 24 t2)) (gM : mg "MOST_TOKENS" = some (.int 9 t3))
    (FMI : Fun K "__init__" "MailNet.__init__" s_MailNet_init fMI dMI) (bMI : Binds K dMI ["self", "net", "channels", "actions"] []) (MMI : Mk K CM fMI) (g2 : mg "MOST_CHANNELS" = some (.int 2 t4)) (g4 : mg "MOST_LETTERS" = some (.int 4 t5)) : FnOk P w K mg base CX0 6 f fd ["script"] (spLaw K) := by
  refine fn_okG F sc_law (fun vs H Q E ⟨a, ns, h, _⟩ => by rw [h]; rfl) fun vs H Q E hsp cdv A outer s hr => ?_
  obtain ⟨a, ns, rfl, hS, hlen, q⟩ := hsp
  have r1 : Room 1 _ := hr.mono (by decide)
  have r2 : Room 2 _ := hr.mono (by decide)
  have r3 : Room 3 _ := hr.mono (by decide)
  have r4 : Room 4 _ := hr.mono (by decide)
  refine ⟨St (d := none) H [some (lstB H K a (ns.map D.i)), none, none, none, none, none, none, none, none, none, none, none, none, none, none], { nx := fun _ _ => False, rt := fun v _ => v = .bl true }, ?_, ?_, ⟨fun _ _ _ h => h.elim, fun v H' _ h => by rw [h]; exact q H', fun _ _ _ h => h.elim, fun _ _ _ h => h.elim⟩⟩
  · refine (st_toB (ρ := [some (lstA K a (ns.map D.i)), none, none, none, none, none, none, none, none, none, none, none, none, none, none]) 0 rfl ⟨Ext.refl H, fun _ e => (by cases e), rfl, fun i R e => ?_⟩).sub (by (repeat (first | exact Sub.nil | refine Sub.same ?_ | refine Sub.drop ?_)))
    match i, e with
    | 0, e =>
      cases e
      refine ⟨_, rfl, rfl, trivial, _, ?_, DRl.of_ints ns⟩
      rcases hS with (h | ⟨o, h⟩) | h
      · exact .inl ⟨fun z => (by cases z), h⟩
      · exact .inr (.inl ⟨o, h⟩)
      · exact .inr (.inr h)
    | i + 1, e => match i, e with
      | 0, e => cases e
      | 1, e => cases e
      | 2, e => cases e
      | 3, e => cases e
      | 4, e => cases e
      | 5, e => cases e
      | 6, e => cases e
      | 7, e => cases e
      | 8, e => cases e
      | 9, e => cases e
      | 10, e => cases e
      | 11, e => cases e
      | 12, e => cases e
      | 13, e => cases e
      | i + 14, e => cases e
  -- the draws
  refine bx_newE 1 [] (by simp) (fun B' => x_call (E := E0) (ok_draws (P := P) (w := w) (base := base) FDr T.ml T.mL T.mr T.mi) r1 rfl gDr FDr.kp bDr pass0 ⟨(a, ns, 150), by simp, by simp, by dsimp only; omega⟩ (a_cons (x_lstB (x_var 0 rfl)) (a_cons x_int a_nil)) fun v H H' σ s _ h => newE_up s h) (fun l ds hds hl _ => ?_) sc_law.nd
  obtain ⟨dn, rfl, hdn⟩ := hds
  refine bx_pre (Pre' := St (d := some l) H [some (lstB H K a (ns.map D.i)), some drw, none, none, none, none, none, none, none, none, none, none, none, none, none]) ?_ (fun σ H' s => ?_)
  rotate_left
  · -- from here on the draws are at l
    obtain ⟨v1, h1, rfl, _, vs1, hv1, hd1⟩ := s.good.get (i := 1) rfl
    obtain ⟨v0, h0, hv0⟩ := s.good.get (i := 0) rfl
    refine ⟨⟨fun b o hb _ => s.ext.keep b o hb fun z => (by cases z), fun b hb ⟨ms, _, hm⟩ => by cases hb; rw [hl] at hm; cases hm⟩, fun b hb => ?_, s.good.1, fun i R e => ?_⟩
    · cases hb
      obtain rfl := hd1.ints
      exact ⟨dn, hdn, hv1⟩
    · match i, e with
      | 0, e => cases e; exact ⟨v0, h0, lstB_d (fun l' e => by cases e; exact hl) hv0⟩
      | 1, e => cases e; exact ⟨_, h1, l, rfl, rfl⟩
      | 2, e => cases e
      | 3, e => cases e
      | 4, e => cases e
      | 5, e => cases e
      | 6, e => cases e
      | 7, e => cases e
      | 8, e => cases e
      | 9, e => cases e
      | 10, e => cases e
      | 11, e => cases e
      | 12, e => cases e
      | 13, e => cases e
      | 14, e => cases e
      | i + 15, e => cases e
  have GTk : FnOk P w K mg base CX0 1 fTk dTk ["draws", "limit"] spTake := ok_take FTk T.ml T.mi
  have r5 : Room 5 _ := hr.mono (by decide)
  -- places
  refine bx_set 2 (x_addE (x_I x_int) (x_take (E := E0) GTk r1 rfl gTk FTk.kp bTk pass0 (x_var 1 rfl) x_int (by decide))) (bx_open 2 rfl fun n0 hn0 => ?_) sc_law.nd
  obtain ⟨n, rfl, hn1, hn2⟩ : ∃ n : Nat, n0 = (n : Int) ∧ 1 ≤ n ∧ n ≤ 3 := by
    obtain ⟨i, j, rfl, hj, rfl⟩ := hn0
    exact ⟨(1 + j).toNat, by omega, by omega, by omega⟩
  -- transitions
  refine bx_newE 3 [] (by simp) (fun B' => x_call (E := E0) (ok_lnet (P := P) (w := w) (base := base) FLn FTk bTk gTk FTr bTr gTr T.ml T.mi T.mt T.mL T.mr) r3 rfl gLn FLn.kp bLn pass0 ⟨(n, 3, false), hn1, by dsimp only; omega, by simp, by simp⟩ (a_cons (x_var 1 rfl) (a_cons (x_var 2 rfl) (a_cons x_int (a_cons x_bl a_nil)))) fun v H H' σ s _ h => newE_up s h) (fun l3 ds hds hl3 _ => ?_) sc_law.nd
  obtain ⟨hd1, hd4, hds⟩ := hds
  obtain ⟨ts, rfl, hts⟩ := trs_of hds
  rw [List.length_map] at hd1 hd4
  dsimp only at hd1 hd4 hts
  -- net
  have GN : FnOk P w K mg base CX0 3 fNI dNI ["self", "places", "transitions"] (spI (some l) C (fun (z : {z : Nat × List Tr // 1 ≤ z.1 ∧ z.1 ≤ 12 ∧ z.2.length ≤ 24 ∧ ∀ t ∈ z.2, TrOk z.1 t}) => [rI (z.1.1 : Int), lst K (z.1.2.map Tr.d)]) (fun z => netF K z.1.1 (z.1.2.map Tr.d))) :=
    ok_net FNI T.net FChk bChk gChk FNum bNum gNum gM gP gT T.ml T.mt
  refine bx_set 4 (R := insR C (netF K n (ts.map Tr.d))) (x_makeZ (E := E0) (F := fun (z : {z : Nat × List Tr // 1 ≤ z.1 ∧ z.1 ≤ 12 ∧ z.2.length ≤ 24 ∧ ∀ t ∈ z.2, TrOk z.1 t}) => netF K z.1.1 (z.1.2.map Tr.d)) ⟨(n, ts), hn1, by dsimp only; omega, by dsimp only; omega, hts⟩ MNI GN r4 rfl T.net.gC bNI pass0 (a_cons (x_var 2 rfl) (a_cons (x_sub (x_list_l rfl T.mL (x_lstA (x_var 3 rfl))) fun v H hv => newL_lst hv) a_nil)) rfl) ?_ sc_law.nd
  -- channels
  refine bx_newE 6 [l3] (by intro l' h'; rw [List.mem_singleton.mp h']; exact known_own 3 rfl) (fun B' => x_lcRE (S := fun z => 0 ≤ z ∧ z < 3) 5 (fun _ w => ∃ z : Int, (1 ≤ z ∧ z ≤ 4) ∧ w = .i z) rfl T.mr (x_take (E := E0) GTk r1 rfl gTk FTk.kp bTk pass0 (x_var 1 rfl) x_int (by decide)) (fun nn h => by omega) sc_law.nd (blkOk_by (N := ["script", "draws", "places", "transitions", "net", "k", "channels", "transition", "pairs", "actions", "spoilt", "action", "kept", "sizes", "found"]) (sc := defScope s_law) (by decide +kernel)) (fun _ _ _ _ _ => pg_name (i := 5) sc_law.nd rfl (Or.inl rfl))
    (fun s H C cl fp i => x_iEd (x_iE (x_addE (x_I x_int) (x_take (E := E0) GTk r1 rfl gTk FTk.kp bTk pass0 (x_var 1 rfl) x_int (by decide))) fun z ⟨i, j, h1, h2, h3⟩ => by omega))) (fun lc ds hds hlc hc3 => ?_) sc_law.nd
  obtain ⟨cs, rfl, hcl, hcs⟩ : ∃ cs : List Int, ds = cs.map D.i ∧ cs.length ≤ 2 ∧ ∀ c ∈ cs, 1 ≤ c ∧ c ≤ 4 := by
    obtain ⟨⟨nn, hnn, h4⟩, h5⟩ := hds
    obtain ⟨cs, rfl, h6⟩ := ints_of (P := fun _ z => 1 ≤ z ∧ z ≤ 4) fun k w hk => let ⟨z, a, b⟩ := h5 k w hk; ⟨z, b, a⟩
    refine ⟨cs, rfl, by rw [List.length_map] at h4; omega, fun c hc => ?_⟩
    obtain ⟨k, hk⟩ := List.getElem?_of_mem hc
    exact h6 k c hk
  replace hc3 : lc ≠ l3 := hc3 l3 (by simp)
  -- actions
  refine bx_newK (k := (kdS (kdS (kdL (some l) K)))) 9 [l3, lc] (by intro l' h'; simp only [List.mem_cons, List.not_mem_nil, or_false] at h'; rcases h' with rfl | rfl; exact known_own 3 rfl; exact known_own 6 rfl) (fun B' => as_sub (as_lcLK (k := (kdS (kdL (some l) K))) (P := fun i z => ∃ a : Act, ActOk cs a ∧ LsOk (kdL (some l) K) z ∧ AcM z (actZ a)) 9 7 (x_lstA (x_var 3 rfl)) (by rw [List.length_map]; omega) sc_law.nd (blkOk_by (N := ["script", "draws", "places", "transitions", "net", "k", "channels", "transition", "pairs", "actions", "spoilt", "action", "kept", "sizes", "found"]) (sc := defScope s_law) (by decide +kernel)) (fun _ _ _ _ _ => pg_name (i := 7) sc_law.nd rfl (Or.inl rfl))
    (fun s H C cl fp i w B' hw => ?_)) (R' := newK B' (kdS (kdS (kdL (some l) K))) fun z => LsOk (kdS (kdL (some l) K)) z ∧ z.2.length = ts.length ∧ ∀ x ∈ z.2, LsOk (kdL (some l) K) x ∧ ∃ a, AcM x a ∧ AcB 2 a) fun v H h => ?_) (fun z hz hadr => ?_)
  · refine x_sub (x_lcTK (k := (kdL (some l) K)) (S := fun src => ∃ a : Act, ActOk cs a ∧ src = [prsD a.hs, prsD a.sd]) 8 (fun src i s => src[i]? = some (.t s.2)) (x_sub (x_call (E := E0) (R := dE K fun w => ∃ a : Act, w = a.d ∧ ActOk cs a) (ok_laction (P := P) (w := _) (base := base) FLac FTk bTk gTk T.ml T.mi T.mt T.mr) r2 rfl gLac FLac.kp bLac pass0 ⟨(lc, cs), hcs, by dsimp only; omega⟩ (a_cons (x_var 1 rfl) (a_cons (x_lstA (x_var 6 rfl)) a_nil)) fun v H H' σ _ _ h => h) fun v H ⟨w, ⟨a, ea, ha⟩, h⟩ => ⟨w, ⟨[prsD a.hs, prsD a.sd], ⟨a, ha, rfl⟩, ea⟩, h⟩) (fun src ⟨a, _, h⟩ => by rw [h]; simp) sc_law.nd (blkOk_in (blkOk_by (N := ["script", "draws", "places", "transitions", "net", "k", "channels", "transition", "pairs", "actions", "spoilt", "action", "kept", "sizes", "found"]) (by decide +kernel))) (fun _ _ _ _ _ => pg_name (i := 8) sc_law.nd rfl (Or.inl rfl))
        (fun s H C cl fp src i w B' hS hw => ?_)) fun v H h => ?_
    · obtain ⟨a, _, rfl⟩ := hS
      obtain ⟨us, rfl⟩ : ∃ us, w = .t us := by
        match i, hw with
        | 0, hw => cases hw; exact ⟨_, rfl⟩
        | 1, hw => cases hw; exact ⟨_, rfl⟩
        | i + 2, hw => cases hw
      exact x_sub (x_list_t rfl T.mL (x_var 8 rfl)) fun v H ⟨a, ha, h⟩ => ⟨(a, us), ⟨fun c hc => by rw [List.mem_singleton.mp hc]; exact ha, hw⟩, h⟩
    · obtain ⟨z, ⟨h1, h2, src, ⟨a, ha, rfl⟩, h3, h4⟩, hv⟩ := h
      refine ⟨z, ⟨h1, a, ha, h2, ?_⟩, hv⟩
      match q : z.2, h3 with
      | [s1, s2], _ =>
        have q1 := h4 0 s1 (by rw [q]; rfl)
        have q2 := h4 1 s2 (by rw [q]; rfl)
        injection q1 with q1
        injection q2 with q2
        injection q1 with q1
        injection q2 with q2
        show z.2.map (·.2) = _
        rw [q, actZ_h, actZ_s, q1, q2]
        rfl
  · obtain ⟨z, ⟨h1, h2, h3, h4⟩, hv⟩ := h
    rw [List.length_map] at h3
    refine ⟨z, ⟨h1, h2, h3, fun x hx => ?_⟩, hv⟩
    obtain ⟨i, hi⟩ := List.getElem?_of_mem hx
    obtain ⟨a, q1, q2, q3⟩ := h4 i x hi
    exact ⟨q2, actZ a, q3, ⟨Nat.le_trans (actZ_b q1).h hcl, Nat.le_trans (actZ_b q1).s hcl⟩⟩
  obtain ⟨la, T0⟩ := z
  obtain ⟨hok, hTl, hT0⟩ := hz
  dsimp only at hok hTl hT0 hadr
  have j0 : JT (some l) K H [l3, lc] la T0 2 := ⟨hok, fun x hx => (hT0 x hx).1, fun x hx => (hT0 x hx).2, fun c hc => ⟨(hadr c hc).1, fun hm => (hadr c hc).2 c hm rfl⟩⟩
  clear hok hT0 hadr hcs
  have hT1 : 1 ≤ T0.length := by omega
  have hT3 : T0.length ≤ 3 := by omega
  -- spoilt
  refine bx_set 10 (x_take (E := E0) GTk r1 rfl gTk FTk.kp bTk pass0 (x_var 1 rfl) x_int (by decide)) (bx_open 10 rfl fun sp hsp => ?_) sc_law.nd
  refine bx_if (IS (d := some l) H (fun (z : Addr × List Int) => z.2.length ≤ 3 ∧ H z.1 = none ∧ z.1 ≠ l3 ∧ JT (some l) K H [l3, z.1] la T0 2) (fun z => [none, some drw, some (rI (n : Int)), some (own K l3 (ts.map Tr.d)), some (insR C (netF K n (ts.map Tr.d))), none, some (own K z.1 (z.2.map D.i)), none, none, some (lsR (kdS (kdL (some l) K)) la T0), some (rI sp), none, none, none, none])) (t_eq (x_var 10 rfl) x_int) (fun _ => ?_) (fun _ => bx_nil fun σ H' s => ⟨(lc, cs), ⟨by dsimp only; omega, hlc, hc3, j0⟩, s.sub (by (repeat (first | exact Sub.nil | refine Sub.same ?_ | refine Sub.drop ?_)))⟩) (bx_ex fun z hz => ?_)
  · refine bx_new 6 (l3 :: ((kdS (kdS (kdL (some l) K))).adr (la, T0))) (by intro l' h'; rcases List.mem_cons.mp h' with rfl | h'; exact known_own 3 rfl; exact known_kd (k := (kdS (kdS (kdL (some l) K)))) (t := (la, T0)) 9 rfl l' h') (fun B' => x_catD (ys := (List.replicate (3 - ((cs.map D.i).length : Int)).toNat [D.i 2]).flatten) (x_var 6 rfl) (x_sub (x_repE (S := fun ds => ∃ w, w = D.i 2 ∧ ds = [w]) (P := fun m => m = 3 - ((cs.map D.i).length : Int)) (x_lst1E (x_d (x_Id x_int))) (x_I (x_sub_ x_int (x_len_l rfl T.ml (x_lstA (x_var 6 rfl))))) (fun l0 m ⟨w, _, h1⟩ h2 => by subst h1 h2; rw [List.length_map]; simp only [List.length_singleton]; omega)) fun v H h => ?_) ?_) (fun lc2 hlc2 hne => ?_) sc_law.nd
    · obtain ⟨ds, ⟨l0, m, ⟨w, rfl, rfl⟩, rfl, rfl⟩, h⟩ := h
      exact h
    · rw [flat_rep, List.length_map, List.length_map, List.length_replicate]
      omega
    · rw [flat_rep, ← List.map_append]
      refine bx_nil fun σ H' s => ⟨(lc2, cs ++ List.replicate (3 - ((cs.map D.i).length : Int)).toNat 2), ⟨?_, hlc2, hne l3 List.mem_cons_self, j0.more fun c hc hm => ?_⟩, s.sub (by (repeat (first | exact Sub.nil | refine Sub.same ?_ | refine Sub.drop ?_)))⟩
      · dsimp only
        rw [List.length_append, List.length_replicate, List.length_map]
        omega
      · rcases List.mem_cons.mp hm with rfl | hm
        · exact (j0.fr _ hc).2 List.mem_cons_self
        · obtain rfl := List.mem_singleton.mp hm
          exact hne _ (List.mem_cons_of_mem _ hc) rfl
  clear hlc hc3 j0 hcl
  obtain ⟨lc, cs⟩ := z
  obtain ⟨hcl, hlc, hc3, j0⟩ := hz
  dsimp only at hcl hlc hc3 j0 ⊢
  refine bx_if (IS (d := some l) H (fun (z : List Int) => z.length ≤ 3) (fun z => [none, some drw, some (rI (n : Int)), some (own K l3 (ts.map Tr.d)), some (insR C (netF K n (ts.map Tr.d))), none, some (own K lc (z.map D.i)), none, none, some (lsR (kdS (kdL (some l) K)) la T0), some (rI sp), none, none, none, none])) (t_w (w_and (t_eq (x_var 10 rfl) x_int) fun _ => w_and1 (t_gt (x_len_l rfl T.ml (x_lstA (x_var 6 rfl))) x_int))) (fun hc => ?_) (fun _ => bx_nil fun σ H' s => ⟨cs, hcl, s.sub (by (repeat (first | exact Sub.nil | refine Sub.same ?_ | refine Sub.drop ?_)))⟩) (bx_ex fun cs2 hcl2 => ?_)
  · have hpos : (0 : Int) < (cs.map D.i).length := by
      rcases hc with ⟨_, h⟩ | ⟨_, h⟩
      · exact of_decide_eq_true h.symm
      · cases h
    have i9 := j0.ind (c := lc) (by simp)
    refine bx_setitemI 6 (S := fun w => ∃ z : Int, w = .i z) (P := fun z => 0 ≤ z ∧ z < ((cs.map D.i).length : Int)) rfl (x_dE (x_ixnE (x_lst (ds := [.i 0, .i 5, .i 4]) (a_cons (x_Id x_int) (a_cons (x_Id x_int) (a_cons (x_Id x_int) a_nil)))) (x_take (E := E0) GTk r1 rfl gTk FTk.kp bTk pass0 (x_var 1 rfl) x_int (by decide)) (fun j hj => by simp; exact hj)) fun w ⟨q, _, hq⟩ => ?_) (x_take (E := E0) GTk r1 rfl gTk FTk.kp bTk pass0 (x_var 1 rfl) (x_len_l rfl T.ml (x_lstA (x_var 6 rfl))) hpos) (fun j hj => hj) hlc (by (repeat' (first | exact ia_nil | refine ia_none ?_ | refine ia_some ?_ ?_ | refine ib_here ?_ | refine ib_none ?_ | refine ib_some ?_ ?_ | exact ind_I | exact ind_B | exact ind_dat | exact ind_any | exact ind_drw | exact ind_net | exact ind_dct | exact ind_dcT | exact ind_mail | exact ind_xB | exact ind_lstB (by assumption) | exact ind_own (by assumption) | exact ind_lstA (by assumption) | exact ind_own (Ne.symm (by assumption)) | exact ind_lstA (Ne.symm (by assumption)) | exact ind_tpl | exact ind_ownT (by assumption) | exact ind_ownT (Ne.symm (by assumption)) | exact ind_ll (by assumption) (by assumption) | exact ind_rwsV (by assumption) | exact ind_rowV (by assumption) | exact ind_wlk (by assumption) (by assumption) | exact ind_wlk (by assumption) (Ne.symm (by assumption)) | exact ind_ll (Ne.symm (by assumption)) (by assumption) | exact ind_mailZ | assumption))) (fun w k hw hk => ?_)
    · match q, hq with
      | 0, hq => cases hq; exact ⟨_, rfl⟩
      | 1, hq => cases hq; exact ⟨_, rfl⟩
      | 2, hq => cases hq; exact ⟨_, rfl⟩
      | q + 3, hq => cases hq
    · obtain ⟨z, rfl⟩ := hw
      refine bx_nil fun σ H' s => ⟨cs.set k z, by show (cs.set k z).length ≤ 3; rw [List.length_set]; exact hcl, s.sub ?_⟩
      show Sub _ [_, _, _, _, _, _, _, _, _, _, _, _, _, _, _]
      rw [List.map_set]
      (repeat (first | exact Sub.nil | refine Sub.same ?_ | refine Sub.drop ?_))
  have la3 : la ≠ l3 := fun e => j0.own0.2 (by rw [e]; exact List.mem_cons_self)
  have lac : la ≠ lc := fun e => j0.own0.2 (by rw [e]; exact List.mem_cons_of_mem _ List.mem_cons_self)
  -- one action more
  refine bx_if (IS (d := some l) H (fun (T : T3) => 1 ≤ T.length ∧ T.length ≤ 4 ∧ JT (some l) K H [l3, lc] la T 2) (fun T => [none, some drw, some (rI (n : Int)), some (own K l3 (ts.map Tr.d)), some (insR C (netF K n (ts.map Tr.d))), none, some (own K lc (cs2.map D.i)), none, none, some (lsR (kdS (kdL (some l) K)) la T), some (rI sp), none, none, none, none])) (t_eq (x_var 10 rfl) x_int) (fun _ => ?_) (fun _ => bx_nil fun σ H' s => ⟨T0, ⟨hT1, Nat.le_succ_of_le hT3, j0⟩, s.sub (by (repeat (first | exact Sub.nil | refine Sub.same ?_ | refine Sub.drop ?_)))⟩) (bx_ex fun T1 hT => ?_)
  · refine bx_appS 9 (k := (kdS (kdL (some l) K))) (P := fun z => LsOk (kdL (some l) K) z ∧ ∃ t1 t2, t1.2 = [] ∧ t2.2 = [] ∧ z.2 = [t1, t2]) (l3 :: lc :: ((kdS (kdS (kdL (some l) K))).adr (la, T0))) (by intro l' h'; rcases List.mem_cons.mp h' with rfl | h'; exact known_own 3 rfl; rcases List.mem_cons.mp h' with rfl | h'; exact known_own 6 rfl; exact known_kd (k := (kdS (kdS (kdL (some l) K)))) (t := (la, T0)) 9 rfl l' h') rfl (fun B' => x_lst2K (k := (kdL (some l) K)) x_nilK x_nilK) j0.own0.1 (fun t ht => j0.ok.i t ht) (List.mem_cons_of_mem _ (List.mem_cons_of_mem _ List.mem_cons_self)) (by (repeat' (first | exact ia_nil | refine ia_none ?_ | refine ia_some ?_ ?_ | refine ib_here ?_ | refine ib_none ?_ | refine ib_some ?_ ?_ | exact ind_I | exact ind_B | exact ind_dat | exact ind_any | exact ind_drw | exact ind_net | exact ind_dct | exact ind_dcT | exact ind_mail | exact ind_xB | exact ind_lstB (by assumption) | exact ind_own (by assumption) | exact ind_lstA (by assumption) | exact ind_own (Ne.symm (by assumption)) | exact ind_lstA (Ne.symm (by assumption)) | exact ind_tpl | exact ind_ownT (by assumption) | exact ind_ownT (Ne.symm (by assumption)) | exact ind_ll (by assumption) (by assumption) | exact ind_rwsV (by assumption) | exact ind_rowV (by assumption) | exact ind_wlk (by assumption) (by assumption) | exact ind_wlk (by assumption) (Ne.symm (by assumption)) | exact ind_ll (Ne.symm (by assumption)) (by assumption) | exact ind_mailZ | assumption))) (by omega) (fun t ht hf => ?_)
    obtain ⟨ht1, t1, t2, e1, e2, e3⟩ := ht
    refine bx_nil fun σ H' s => ⟨T0 ++ [t], ⟨by simp, by simp; omega, j0.snoc (a := ([], [])) ht1 ?_ ⟨Nat.zero_le _, Nat.zero_le _⟩ fun c hc => ⟨(hf c hc).1, fun hm => (hf c hc).2 ?_, fun hm => (hf c hc).2 (List.mem_cons_of_mem _ (List.mem_cons_of_mem _ hm))⟩⟩, s.sub (by (repeat (first | exact Sub.nil | refine Sub.same ?_ | refine Sub.drop ?_)))⟩
    · show t.2.map (·.2) = [[], []]
      rw [e3, List.map_cons, List.map_cons, e1, e2]; rfl
    · rcases List.mem_cons.mp hm with rfl | hm
      · exact List.mem_cons_self
      · rw [List.mem_singleton.mp hm]; exact List.mem_cons_of_mem _ List.mem_cons_self
  clear j0 hT1 hT3 hTl
  obtain ⟨hT1, hT4, j1⟩ := hT
  -- one action less
  refine bx_if (IS (d := some l) H (fun (T : T3) => T.length ≤ 4 ∧ JT (some l) K H [l3, lc] la T 2) (fun T => [none, some drw, some (rI (n : Int)), some (own K l3 (ts.map Tr.d)), some (insR C (netF K n (ts.map Tr.d))), none, some (own K lc (cs2.map D.i)), none, none, some (lsR (kdS (kdL (some l) K)) la T), some (rI sp), none, none, none, none])) (t_eq (x_var 10 rfl) x_int) (fun _ => ?_) (fun _ => bx_nil fun σ H' s => ⟨T1, ⟨hT4, j1⟩, s.sub (by (repeat (first | exact Sub.nil | refine Sub.same ?_ | refine Sub.drop ?_)))⟩) (bx_ex fun T2 hT => ?_)
  · refine bx_popS 9 (k := (kdS (kdL (some l) K))) (T := T1) rfl (fun e => by rw [e] at hT1; simp at hT1) j1.own0.1 (fun t ht => j1.ok.i t ht) (by (repeat' (first | exact ia_nil | refine ia_none ?_ | refine ia_some ?_ ?_ | refine ib_here ?_ | refine ib_none ?_ | refine ib_some ?_ ?_ | exact ind_I | exact ind_B | exact ind_dat | exact ind_any | exact ind_drw | exact ind_net | exact ind_dct | exact ind_dcT | exact ind_mail | exact ind_xB | exact ind_lstB (by assumption) | exact ind_own (by assumption) | exact ind_lstA (by assumption) | exact ind_own (Ne.symm (by assumption)) | exact ind_lstA (Ne.symm (by assumption)) | exact ind_tpl | exact ind_ownT (by assumption) | exact ind_ownT (Ne.symm (by assumption)) | exact ind_ll (by assumption) (by assumption) | exact ind_rwsV (by assumption) | exact ind_rowV (by assumption) | exact ind_wlk (by assumption) (by assumption) | exact ind_wlk (by assumption) (Ne.symm (by assumption)) | exact ind_ll (Ne.symm (by assumption)) (by assumption) | exact ind_mailZ | assumption))) (bx_nil fun σ H' s => ⟨T1.dropLast, ⟨?_, j1.pop⟩, s.sub (by (repeat (first | exact Sub.nil | refine Sub.same ?_ | refine Sub.drop ?_)))⟩)
    rw [List.length_dropLast]
    omega
  clear j1 hT1 hT4
  obtain ⟨hT4, j2⟩ := hT
  -- a pair more
  refine bx_if (IS (d := some l) H (fun (T : T3) => T.length ≤ 4 ∧ JT (some l) K H [l3, lc] la T 3) (fun T => [none, some drw, some (rI (n : Int)), some (own K l3 (ts.map Tr.d)), some (insR C (netF K n (ts.map Tr.d))), none, some (own K lc (cs2.map D.i)), none, none, some (lsR (kdS (kdL (some l) K)) la T), some (rI sp), none, none, none, none])) (t_w (w_and (t_inTI (ns := [4, 5]) (x_var 10 rfl) (x_tup (ds := [.i 4, .i 5]) (a_cons (x_Id x_int) (a_cons (x_Id x_int) a_nil)))) fun _ => w_and1 (t_gt (x_lenS (k := (kdS (kdL (some l) K))) rfl T.ml (x_var 9 rfl)) x_int))) (fun hc => ?_) (fun _ => bx_nil fun σ H' s => ⟨T2, ⟨hT4, j2.up (by decide)⟩, s.sub (by (repeat (first | exact Sub.nil | refine Sub.same ?_ | refine Sub.drop ?_)))⟩) (bx_ex fun T4 hT => ?_)
  · obtain ⟨hin, hpos⟩ : sp ∈ ([4, 5] : List Int) ∧ (0 : Int) < T2.length := by
      rcases hc with ⟨h1, h2⟩ | ⟨_, h⟩
      · exact ⟨of_decide_eq_true h1.symm, of_decide_eq_true h2.symm⟩
      · cases h
    have hsp : 4 ≤ sp ∧ sp ≤ 5 := by
      simp only [List.mem_cons, List.not_mem_nil, or_false] at hin
      omega
    have row2 : ∀ x ∈ T2, x.2.length = 2 := fun x hx => by
      obtain ⟨a, ha, _⟩ := j2.sh x hx
      obtain ⟨s1, s2, e, _⟩ := ha.two
      rw [e]; rfl
    refine bx_set 8 (x_ixSE (k := (kdL (some l) K)) (Q := fun t => t ∈ T2) (P := fun z => z = sp - 4) (x_sub (x_ixS (k := (kdS (kdL (some l) K))) (x_var 9 rfl) (x_take (E := E0) GTk r1 rfl gTk FTk.kp bTk pass0 (x_var 1 rfl) (x_lenS (k := (kdS (kdL (some l) K))) rfl T.ml (x_var 9 rfl)) hpos) (fun j hj => hj)) fun v H ⟨t, ⟨i, _, hi⟩, h⟩ => ⟨t, List.mem_of_getElem? hi, h⟩)
      (x_I (x_sub_ (x_var 10 rfl) x_int)) (fun t ht j hj => by rw [row2 t ht]; omega)) (bx_open 8 rfl fun s hs => ?_) sc_law.nd
    obtain ⟨x, hx, i, hi, hxs⟩ := hs
    obtain ⟨qs, hqs, hql⟩ : ∃ qs : Pz, s.2 = qs.map pzD ∧ qs.length ≤ 2 := by
      obtain ⟨a, ha, hb⟩ := j2.sh x hx
      obtain ⟨s1, s2, e, e1, e2⟩ := ha.two
      rw [e] at hxs
      match i, hxs with
      | 0, hxs => cases hxs; exact ⟨_, e1, hb.h⟩
      | 1, hxs => cases hxs; exact ⟨_, e2, hb.s⟩
      | i + 2, hxs => cases hxs
    obtain ⟨sla, slm, sB, sls⟩ := j2.sep hx (List.mem_of_getElem? hxs)
    have sl3 : s.1 ≠ l3 := fun e => sls (by rw [e]; exact List.mem_cons_self)
    have slc : s.1 ≠ lc := fun e => sls (by rw [e]; exact List.mem_cons_of_mem _ List.mem_cons_self)
    refine bx_appendM 8 (S := fun w => ∃ p : Int × Int, w = pzD p) (l := s.1) (ds := s.2) rfl (x_dE (x_ixnE (x_lst (ds := [.t [.i (-1), .i 0], .t [.i (((cs2.map D.i).length : Nat) : Int), .i 0], .t [.i 0, .i (-1)], .t [.i 0, .i 4], .t [.i 0, .i 0]]) (a_cons (x_tup (ds := [.i (-1), .i (0)]) (a_cons (x_Id (x_neg x_int)) (a_cons (x_Id x_int) a_nil))) (a_cons (x_tup (ds := [.i (((cs2.map D.i).length : Nat) : Int), .i (0)]) (a_cons (x_Id (x_len_l rfl T.ml (x_lstA (x_var 6 rfl)))) (a_cons (x_Id x_int) a_nil))) (a_cons (x_tup (ds := [.i (0), .i (-1)]) (a_cons (x_Id x_int) (a_cons (x_Id (x_neg x_int)) a_nil))) (a_cons (x_tup (ds := [.i (0), .i (4)]) (a_cons (x_Id x_int) (a_cons (x_Id x_int) a_nil))) (a_cons (x_tup (ds := [.i (0), .i (0)]) (a_cons (x_Id x_int) (a_cons (x_Id x_int) a_nil))) a_nil)))))) (x_take (E := E0) GTk r1 rfl gTk FTk.kp bTk pass0 (x_var 1 rfl) x_int (by decide)) (fun j hj => by simp; exact hj)) fun w ⟨q, _, hq⟩ => ?_) (by rw [hqs, List.length_map]; omega) (fun w σ H' vs' hw s0 hd => ?_) (bx_nil fun σ H' s => s)
    · match q, hq with
      | 0, hq => cases hq; exact ⟨(-1, 0), rfl⟩
      | 1, hq => cases hq; exact ⟨(_, 0), rfl⟩
      | 2, hq => cases hq; exact ⟨(0, -1), rfl⟩
      | 3, hq => cases hq; exact ⟨(0, 4), rfl⟩
      | 4, hq => cases hq; exact ⟨(0, 0), rfl⟩
      | q + 5, hq => cases hq
    · obtain ⟨p, rfl⟩ := hw
      obtain ⟨v, g1, g2, g3, us, g4, g5⟩ := s0.good.get (i := 8) rfl
      have hd' : DRl K H' ((qs ++ [p]).map pzD) vs' := by rw [List.map_append, ← hqs]; exact hd
      have s1 := st_put2 (p := 8) (i := 9) (Rp' := rAny) (Ri' := lsR (kdS (kdL (some l) K)) la (put3 s.1 ((qs ++ [p]).map pzD) T2)) s0 sB g3 g4 (by decide) (by simp) rfl (fun v _ => trivial) ⟨v, g1⟩ (fun v h => l3_put sla slm g4 hd' h) (fun j R h8 h9 hj => ?_)
      · exact ⟨put3 s.1 ((qs ++ [p]).map pzD) T2, ⟨by unfold put3; rw [List.length_map]; exact hT4, j2.put (by simp; omega)⟩, s1.sub (by (repeat (first | exact Sub.nil | refine Sub.same ?_ | refine Sub.drop ?_)))⟩
      · match j, hj with
        | 1, hj => cases hj; exact ind_drw
        | 2, hj => cases hj; exact ind_I
        | 3, hj => cases hj; exact ind_own (Ne.symm sl3)
        | 4, hj => cases hj; exact ind_net
        | 6, hj => cases hj; exact ind_own (Ne.symm slc)
        | 8, _ => exact absurd rfl h8
        | 9, _ => exact absurd rfl h9
        | 10, hj => cases hj; exact ind_I
        | 0, hj => cases hj
        | 5, hj => cases hj
        | 7, hj => cases hj
        | 11, hj => cases hj
        | 12, hj => cases hj
        | 13, hj => cases hj
        | 14, hj => cases hj
        | j + 15, hj => cases hj
  clear j2 hT4
  obtain ⟨hT4, j3⟩ := hT
  obtain ⟨as, hAM, hAB⟩ := j3.acs
  have hAl := hAM.1
  have row2 : ∀ x ∈ T4, x.2.length = 2 := fun x hx => by
    obtain ⟨a, ha, _⟩ := j3.sh x hx
    obtain ⟨s1, s2, e, _⟩ := ha.two
    rw [e]; rfl
  -- kept
  refine bx_newA 12 (l3 :: lc :: ((kdS (kdS (kdL (some l) K))).adr (la, T4))) (by intro l' h'; rcases List.mem_cons.mp h' with rfl | h'; exact known_own 3 rfl; rcases List.mem_cons.mp h' with rfl | h'; exact known_own 6 rfl; exact known_kd (k := (kdS (kdS (kdL (some l) K)))) (t := (la, T4)) 9 rfl l' h') (fun B' => as_lcSD (k := (kdS (kdL (some l) K))) 12 11 (fun i w => ∃ a, as[i]? = some a ∧ w = acD a) (x_var 9 rfl) (by omega) sc_law.nd (blkOk_by (N := ["script", "draws", "places", "transitions", "net", "k", "channels", "transition", "pairs", "actions", "spoilt", "action", "kept", "sizes", "found"]) (sc := defScope s_law) (by decide +kernel)) (fun _ _ _ _ _ => pg_name (i := 11) sc_law.nd rfl (Or.inl rfl))
    (fun s H C cl fp i x hx => x_dE (x_tuple_lE rfl T.mt (x_lcSD (k := (kdL (some l) K)) (l := x.1) (T := x.2) 8 (fun i w => ∃ s, x.2[i]? = some s ∧ w = .t s.2) (x_var 11 rfl) (by rw [row2 x (List.mem_of_getElem? hx)]; omega) sc_law.nd (blkOk_in (blkOk_by (N := ["script", "draws", "places", "transitions", "net", "k", "channels", "transition", "pairs", "actions", "spoilt", "action", "kept", "sizes", "found"]) (by decide +kernel))) (fun _ _ _ _ _ => pg_name (i := 8) sc_law.nd rfl (Or.inl rfl))
      (fun s H C cl fp i s1 hs1 => x_sub (x_tuple_l rfl T.mt (x_lstA (x_sub (R := (kdL (some l) K).R s1) (x_var 8 rfl) fun v H h => h))) fun v H h => ⟨_, ⟨s1, hs1, rfl⟩, h⟩))) fun w hw => ?_)) (fun l12 ds hds hl12 h12 => ?_)
  · obtain ⟨ds, ⟨h1, h2⟩, rfl⟩ := hw
    have h3 := (List.getElem?_eq_some_iff.mp hx).1
    have ht : as[i]? = some (as[i]'(by omega)) := List.getElem?_eq_getElem _
    refine ⟨_, ht, ?_⟩
    obtain ⟨s1, s2, e, e1, e2⟩ := (hAM.2 i x _ hx ht).two
    rw [e] at h1 h2
    match ds, h1, h2 with
    | [d1, d2], _, h2 =>
      obtain ⟨u1, v1, rfl⟩ := h2 0 d1 rfl
      obtain ⟨u2, v2, rfl⟩ := h2 1 d2 rfl
      cases v1; cases v2
      show D.t [.t s1.2, .t s2.2] = _
      rw [e1, e2]
  obtain ⟨hd1, hd2⟩ := hds
  obtain rfl : ds = as.map acD := List.ext_getElem? fun j => by
    rw [List.getElem?_map]
    by_cases hj : j < ds.length
    · obtain ⟨t, ht, hw⟩ := hd2 j _ (List.getElem?_eq_getElem hj)
      rw [List.getElem?_eq_getElem hj, ht, hw]; rfl
    · rw [List.getElem?_eq_none (by omega), List.getElem?_eq_none (by omega)]; rfl
  -- sizes
  refine bx_new 13 (l3 :: lc :: l12 :: ((kdS (kdS (kdL (some l) K))).adr (la, T4))) (by intro l' h'; rcases List.mem_cons.mp h' with rfl | h'; exact known_own 3 rfl; rcases List.mem_cons.mp h' with rfl | h'; exact known_own 6 rfl; rcases List.mem_cons.mp h' with rfl | h'; exact known_own 12 rfl; exact known_kd (k := (kdS (kdS (kdL (some l) K)))) (t := (la, T4)) 9 rfl l' h') (fun B' => x_list_l rfl T.mL (x_lstA (x_var 6 rfl))) (fun l13 hl13 h13 => ?_) sc_law.nd
  have j4 : JT (some l) K H [l3, lc, l12, l13] la T4 3 := j3.more fun c hc hm => by
    simp only [List.mem_cons, List.not_mem_nil, or_false] at hm
    rcases hm with rfl | rfl | rfl | rfl
    · exact (j3.fr _ hc).2 (by simp)
    · exact (j3.fr _ hc).2 (by simp)
    · exact h12 _ (List.mem_cons_of_mem _ (List.mem_cons_of_mem _ hc)) rfl
    · exact h13 _ (List.mem_cons_of_mem _ (List.mem_cons_of_mem _ (List.mem_cons_of_mem _ hc))) rfl
  have h12c : l12 ≠ lc := h12 lc (by simp)
  have h13c : l13 ≠ lc := h13 lc (by simp)
  clear j3 h12 h13
  -- found
  refine bx_set 14 (R := outM' K C CM ⟨n, ts, cs2, la, T4, as⟩) (x_call (E := E0) (R := outM' K C CM ⟨n, ts, cs2, la, T4, as⟩) (ok_loutcomeM FOut T.e MMI (ok_mailnetE FMI T.net T.mail T.e FCm bCm gCm FCp2 bCp2 gCp2 g2 g4 T.ml T.mt) bMI T.mail.gC) r5 rfl gOut FOut.kp bOut pass0 ⟨⟨n, ts, cs2, la, T4, as⟩, by show cs2.length ≤ 100; exact Nat.le_trans hcl2 (by decide), hAM, by show as.length ≤ 100; omega, fun a ha => ⟨Nat.le_trans (hAB a ha).h (by decide), Nat.le_trans (hAB a ha).s (by decide)⟩⟩ (a_cons (x_var 4 rfl) (a_cons (x_sub (x_var 6 rfl) fun v H h => ⟨lc, trivial, own_lstA h⟩) (a_cons (x_var 9 rfl) a_nil))) fun v H H' σ _ _ h => h) ?_ sc_law.nd
  have hcl3 : cs2.length ≤ 3 := hcl2
  refine bx_ifret (t_not (t_val (x_call (E := E0) (R := rB (decide (MlOk cs2 as ts.length))) (ok_lright (P := P) (w := w) (base := base) FRgt T.ml) r1 rfl gRgt FRgt.kp bRgt pass0 ⟨(cs2, as, ts.length), by dsimp only; omega, by dsimp only; omega, fun a ha => ⟨Nat.le_trans (hAB a ha).h (by decide), Nat.le_trans (hAB a ha).s (by decide)⟩⟩ (a_cons (x_sub (x_var 13 rfl) fun v H h => ⟨l13, trivial, own_lstA h⟩) (a_cons (x_sub (x_var 12 rfl) fun v H h => ⟨l12, trivial, own_lstA h⟩) (a_cons (x_sub (x_len_l rfl T.ml (x_lstA (x_var 3 rfl))) fun v H h => by rw [List.length_map] at h; exact h) a_nil))) fun v H H' σ _ _ h => h))) (fun h => ?_) (fun h => ?_)
  · have hOk : ¬ MlOk cs2 as ts.length := fun o => by rw [decide_eq_true o] at h; cases h
    have eN : outM' (d := some l) K C CM ⟨n, ts, cs2, la, T4, as⟩ = dat K .n := if_neg hOk
    rw [eN]
    refine bx_ret (x_isN (x_var 14 rfl)) fun v σ H s hv => ?_
    obtain ⟨q, hq, hv⟩ := hv
    rw [hq.mpr rfl] at hv
    exact hv
  have hOk : MlOk cs2 as ts.length := by
    by_cases o : MlOk cs2 as ts.length
    · exact o
    · rw [decide_eq_false o] at h; cases h
  have eN : outM' (d := some l) K C CM ⟨n, ts, cs2, la, T4, as⟩ = insR CM (mailZ K C n (ts.map Tr.d) cs2 as) := if_pos hOk
  rw [eN]
  -- later changes
  have i9 := j4.ind (c := lc) (by simp)
  refine bx_append 6 (w := .i 9) rfl rfl (x_Id x_int) hlc (by (repeat' (first | exact ia_nil | refine ia_none ?_ | refine ia_some ?_ ?_ | refine ib_here ?_ | refine ib_none ?_ | refine ib_some ?_ ?_ | exact ind_I | exact ind_B | exact ind_dat | exact ind_any | exact ind_drw | exact ind_net | exact ind_dct | exact ind_dcT | exact ind_mail | exact ind_xB | exact ind_lstB (by assumption) | exact ind_own (by assumption) | exact ind_lstA (by assumption) | exact ind_own (Ne.symm (by assumption)) | exact ind_lstA (Ne.symm (by assumption)) | exact ind_tpl | exact ind_ownT (by assumption) | exact ind_ownT (Ne.symm (by assumption)) | exact ind_ll (by assumption) (by assumption) | exact ind_rwsV (by assumption) | exact ind_rowV (by assumption) | exact ind_wlk (by assumption) (by assumption) | exact ind_wlk (by assumption) (Ne.symm (by assumption)) | exact ind_ll (Ne.symm (by assumption)) (by assumption) | exact ind_mailZ | assumption))) (by rw [List.length_map]; omega) ?_
  have hTl : (T4.map places2).length ≤ 4 := by rw [List.length_map]; exact hT4
  have hT5 : ∀ x ∈ T4, ∀ s ∈ x.2, s.2.length ≤ 3 := fun x hx s hs => by
    obtain ⟨a, ha, hb⟩ := j4.sh x hx
    obtain ⟨s1, s2, e, e1, e2⟩ := ha.two
    have b1 := hb.h
    have b2 := hb.s
    rw [e] at hs
    rcases List.mem_cons.mp hs with rfl | hs
    · rw [e1, List.length_map]; exact b1
    · rw [List.mem_singleton.mp hs, e2, List.length_map]; exact b2
  refine bx_pre (Pre' := St (d := some l) H [none, some drw, none, some (own K l3 (ts.map Tr.d)), none, none, none, none, none, some (lsR (kdA (some l) 3) la (T4.map places2)), none, none, some (own K l12 (as.map acD)), some (own K l13 (cs2.map D.i)), some (insR CM (mailZ K C n (ts.map Tr.d) cs2 as))]) ?_ (fun σ H' s => (st_rd (R' := lsR (kdA (some l) 3) la (T4.map places2)) 9 rfl (fun v H h => l3_A hT5 h) s).sub (by (repeat (first | exact Sub.nil | refine Sub.same ?_ | refine Sub.drop ?_))))
  refine bx_forS (k := kdA (some l) 1000) (T := T4.map places2) 11 (fun i (_ : Unit) => i ≤ 100) (fun i _ => [none, some drw, none, some (own K l3 (ts.map Tr.d)), none, none, none, none, none, some (lsR (kdA (some l) (3 + i)) la (T4.map places2)), none, none, some (own K l12 (as.map acD)), some (own K l13 (cs2.map D.i)), some (insR CM (mailZ K C n (ts.map Tr.d) cs2 as))]) (x_sub (x_var 9 rfl) fun v H h => lsA_up (by omega) h) (fun σ H s => ⟨(), Nat.zero_le _, s.sub (by (repeat (first | exact Sub.nil | refine Sub.same ?_ | refine Sub.drop ?_)))⟩) (fun i z hi => ⟨9, _, rfl, fun v H h => ⟨v, lsA_up (by omega) h⟩⟩) (fun i t z ht hz => ?_) (bx_ex fun _ _ => ?_) sc_law.nd PassesOwn.never
  · have hil := (List.getElem?_eq_some_iff.mp ht).1
    rw [List.getElem?_map] at ht
    cases hx : T4[i]? with
    | none => rw [hx] at ht; cases ht
    | some x =>
      rw [hx] at ht; cases ht
      have hxm := List.mem_of_getElem? hx
      obtain ⟨a, ha, _⟩ := j4.sh x hxm
      obtain ⟨s1, s2, e, _⟩ := ha.two
      obtain ⟨sla, slm, sB, sls⟩ := j4.sep (x := x) (s := s1) hxm (by rw [e]; exact List.mem_cons_self)
      simp only [List.mem_cons, List.not_mem_nil, or_false, not_or] at sls
      obtain ⟨q3, q6, q12, q13⟩ := sls
      refine bx_appendR (S := fun _ => True) (R := lenR (some l) s1.1 1000) (x_ixA (k := 0) (x_var 11 rfl) x_int (by show (x.2.map (·.1))[0]? = _; rw [e]; rfl)) (fun v H ⟨h1, h2, us, h3, h4⟩ => ⟨_, us, h1, h2, h3, h4⟩) (x_dE (x_d (x_tup (ds := [.i 9, .i 9]) (a_cons (x_Id x_int) (a_cons (x_Id x_int) a_nil)))) fun _ _ => trivial) (fun w σ H' c' vs y _ s0 hc hv hd => ?_) (bx_nil fun σ H' s => s)
      obtain ⟨rfl, hcd, _⟩ : c' = s1.1 ∧ some s1.1 ≠ some l ∧ True := ⟨by have := hc.1; injection this, hc.2.1, trivial⟩
      have hm : ∀ t ∈ T4.map places2, t.1 ≠ s1.1 := fun t ht => by
        obtain ⟨y, hy, rfl⟩ := List.mem_map.mp ht
        exact slm y hy
      exact ⟨(), by omega, (st_chg (R' := lsR (kdA (some l) (3 + i + 1)) la (T4.map places2)) (s0.sub (ρ' := [none, some drw, none, some (own K l3 (ts.map Tr.d)), none, none, none, none, none, some (lsR (kdA (some l) (3 + i)) la (T4.map places2)), none, none, some (own K l12 (as.map acD)), some (own K l13 (cs2.map D.i)), some (insR CM (mailZ K C n (ts.map Tr.d) cs2 as))]) (by (repeat (first | exact Sub.nil | refine Sub.same ?_ | refine Sub.drop ?_)))) (i := 9) rfl sB hcd hv (by (repeat' (first | exact ia_nil | refine ia_none ?_ | refine ia_some ?_ ?_ | refine ib_here ?_ | refine ib_none ?_ | refine ib_some ?_ ?_ | exact ind_I | exact ind_B | exact ind_dat | exact ind_any | exact ind_drw | exact ind_net | exact ind_dct | exact ind_dcT | exact ind_mail | exact ind_xB | exact ind_lstB (by assumption) | exact ind_own (by assumption) | exact ind_lstA (by assumption) | exact ind_own (Ne.symm (by assumption)) | exact ind_lstA (Ne.symm (by assumption)) | exact ind_tpl | exact ind_ownT (by assumption) | exact ind_ownT (Ne.symm (by assumption)) | exact ind_ll (by assumption) (by assumption) | exact ind_rwsV (by assumption) | exact ind_rowV (by assumption) | exact ind_wlk (by assumption) (by assumption) | exact ind_wlk (by assumption) (Ne.symm (by assumption)) | exact ind_ll (Ne.symm (by assumption)) (by assumption) | exact ind_mailZ | assumption))) (fun v h => lsA_put sla hm hv h)).sub (by (repeat (first | exact Sub.nil | refine Sub.same ?_ | refine Sub.drop ?_)))⟩
  refine bx_ifret (t_w (w_or (t_isNins (x_var 14 rfl)) fun _ => w_or (t_neD (k := 3) (j := 3) (Room.units r1) (x_fld 0 T.net.cl T.net.nT (x_fld 2 T.mail.cl T.mail.nN (x_var 14 rfl))) (x_tuple_l rfl T.mt (x_lstA (x_var 3 rfl))) (.t shp_trs) (.t shp_trs)) fun _ => w_or1 (t_neD (k := 1) (j := 1) (Room.units r1) (x_fld 1 T.mail.cl T.mail.nC (x_var 14 rfl)) (x_tuple_l rfl T.mt (x_lstA (x_var 13 rfl))) (shp_tI _) (shp_tI _)))) (fun h => ?_) (fun _ => ?_)
  · rcases h with ⟨_, ⟨_, h⟩ | ⟨h, _⟩⟩ | ⟨h, _⟩
    · have := h.mpr rfl
      cases this
    · have := h.mpr rfl
      cases this
    · cases h
  refine bx_ret (x_and (x_B (x_isi "tuple" "tuple" true rfl T.ms rfl T.mt (by decide +kernel) rfl (by decide +kernel) (x_fld 0 T.mail.cl T.mail.nA (x_var 14 rfl)))) fun _ => x_one (x_eqD (k := 4) (j := 4) (Room.units r1) (x_fld 0 T.mail.cl T.mail.nA (x_var 14 rfl)) (x_tuple_l rfl T.mt (x_lstA (x_var 12 rfl))) (shp_acs _) (shp_acs _))) fun v σ H s hv => ?_
  obtain ⟨q, hq, hv⟩ := hv
  have hv' : v = .bl q := hv
  rw [hv']
  show V.bl q = V.bl true
  rcases hq with ⟨_, h⟩ | ⟨h, _⟩
  · rw [h.mpr rfl]
  · cases h
end
end Cv

namespace Cv
open PySem PySem.Spec PyProof.Rows L2 RZ
/-- except S takes what is of S itself -/
theorem exm_own {K : PySem.W.Frag} {S : Addr} (h1 : PySem.W.subIn K (.ref S) (.type "BaseException") = some true) (h2 : PySem.W.isClsIn K S = true) (h3 : PySem.W.typeIn K (.ref S) = some (.type "type")) (h4 : PySem.W.subIn K (.ref S) (.ref S) = some true) : PySem.W.exmOne K (.ref S) (.ref S) = some true := by
  have e1 : (PySem.W.subIn K (.ref S) (.type "BaseException") == some true) = true := by rw [h1] <;> rfl
  have e2 : ((PySem.W.clsIn K S).isSome && PySem.W.typeIn K (.ref S) == some (.type "type")) = true := by
    have h2' : (PySem.W.clsIn K S).isSome = true := h2
    rw [h2', h3] <;> rfl
  show (if (PySem.W.subIn K (.ref S) (.type "BaseException") == some true) = true then (if ((PySem.W.clsIn K S).isSome && PySem.W.typeIn K (.ref S) == some (.type "type")) = true then PySem.W.subIn K (.ref S) (.ref S) else none) else none) = some true
  rw [if_pos e1, if_pos e2]
  exact h4
theorem exm_oth {K : PySem.W.Frag} {S S2 : Addr} (h1 : PySem.W.subIn K (.ref S) (.type "BaseException") = some true) (h2 : PySem.W.isClsIn K S = true) (h3 : PySem.W.typeIn K (.ref S) = some (.type "type")) (h4 : PySem.W.subIn K (.ref S2) (.ref S) = some false) : PySem.W.exmOne K (.ref S2) (.ref S) = some false := by
  have e1 : (PySem.W.subIn K (.ref S) (.type "BaseException") == some true) = true := by rw [h1] <;> rfl
  have e2 : ((PySem.W.clsIn K S).isSome && PySem.W.typeIn K (.ref S) == some (.type "type")) = true := by
    have h2' : (PySem.W.clsIn K S).isSome = true := h2
    rw [h2', h3] <;> rfl
  show (if (PySem.W.subIn K (.ref S) (.type "BaseException") == some true) = true then (if ((PySem.W.clsIn K S).isSome && PySem.W.typeIn K (.ref S) == some (.type "type")) = true then PySem.W.subIn K (.ref S2) (.ref S) else none) else none) = some false
  rw [if_pos e1, if_pos e2]
  exact h4
theorem all_mk {l : PySem.W.OpenLaw} {w : World} {K : PySem.W.Frag} {h : Heap} {mg : Str → Option Value} {fa C CM CI f_Net_init f_checked_nets f_numbers f_MailNet_init f_checked_mail f_checked_pairs f_law_draws f_law_take f_law_transition f_law_net f_law_action f_law_outcome f_law_right f_law : Addr} (X : K.In h) (G : h.Ns mainGlobals mg) (hfa : mg "law" = some (.ref fa))
    {od0 an0 : Option Addr} {sl0 : Array (Option Value)} {oc0 kV0 dc0 pm0 cd0 ct0 : Value}
    {od1 an1 : Option Addr} {sl1 : Array (Option Value)} {oc1 kV1 dc1 pm1 cd1 ct1 : Value}
    {od2 an2 : Option Addr} {sl2 : Array (Option Value)} {oc2 kV2 dc2 pm2 cd2 ct2 : Value}
    {od3 an3 : Option Addr} {sl3 : Array (Option Value)} {oc3 kV3 dc3 pm3 cd3 ct3 : Value}
    {od4 an4 : Option Addr} {sl4 : Array (Option Value)} {oc4 kV4 dc4 pm4 cd4 ct4 : Value}
    {od5 an5 : Option Addr} {sl5 : Array (Option Value)} {oc5 kV5 dc5 pm5 cd5 ct5 : Value}
    {od6 an6 : Option Addr} {sl6 : Array (Option Value)} {oc6 kV6 dc6 pm6 cd6 ct6 : Value}
    {od7 an7 : Option Addr} {sl7 : Array (Option Value)} {oc7 kV7 dc7 pm7 cd7 ct7 : Value}
    {od8 an8 : Option Addr} {sl8 : Array (Option Value)} {oc8 kV8 dc8 pm8 cd8 ct8 : Value}
    {od9 an9 : Option Addr} {sl9 : Array (Option Value)} {oc9 kV9 dc9 pm9 cd9 ct9 : Value}
    {od10 an10 : Option Addr} {sl10 : Array (Option Value)} {oc10 kV10 dc10 pm10 cd10 ct10 : Value}
    {od11 an11 : Option Addr} {sl11 : Array (Option Value)} {oc11 kV11 dc11 pm11 cd11 ct11 : Value}
    {od12 an12 : Option Addr} {sl12 : Array (Option Value)} {oc12 kV12 dc12 pm12 cd12 ct12 : Value}
    {od13 an13 : Option Addr} {sl13 : Array (Option Value)} {oc13 kV13 dc13 pm13 cd13 ct13 : Value}
    {tk_MOST_PLACES : Tok}
    {tk_MOST_TRANSITIONS : Tok}
    {tk_MOST_TOKENS : Tok}
    {tk_MOST_CHANNELS : Tok}
    {tk_MOST_LETTERS : Tok}
    (a_C : PySem.W.nsIn K mainGlobals "Net" = some (some (.ref C)))
    (a_CM : PySem.W.nsIn K mainGlobals "MailNet" = some (some (.ref CM)))
    (a_CI : PySem.W.nsIn K mainGlobals "InvalidNet" = some (some (.ref CI)))
    (x_CI : PySem.W.excIn K CI [Value.type "ValueError", Value.type "Exception", Value.type "BaseException", Value.type "object"] "ValueError.__new__" = true)
    (k_CI : PySem.W.keepIn K (.ref CI) = true)
    (s_CI : PySem.W.subIn K (.ref CI) (.type "BaseException") = some true)
    (t_CI : PySem.W.typeIn K (.ref CI) = some (.type "type"))
    (c_CI : PySem.W.isClsIn K CI = true)
    (o_CI : PySem.W.subIn K (.ref CI) (.ref CI) = some true)
    (a0 : PySem.W.findIn K (.ref C) "__init__" = some (some (.ref f_Net_init)))
    (i0 : PySem.W.isFn K (.ref f_Net_init) = true)
    (l0 : K.lookup f_Net_init = some ⟨oc0, od0, .func (PySem.W.fnOf "__init__" "Net.__init__" (defArgs s_Net_init) (defBody s_Net_init) (defScope s_Net_init) .none kV0 dc0 pm0 an0 cd0 ct0), sl0⟩)
    (c0 : PySem.W.codeIn K cd0 "Net.__init__" = true)
    (k0 : PySem.W.keepIn K (.ref f_Net_init) = true)
    (a1 : PySem.W.nsIn K mainGlobals "checked_nets" = some (some (.ref f_checked_nets)))
    (l1 : K.lookup f_checked_nets = some ⟨oc1, od1, .func (PySem.W.fnOf "_checked" "_checked" (defArgs s_checked_nets) (defBody s_checked_nets) (defScope s_checked_nets) .none kV1 dc1 pm1 an1 cd1 ct1), sl1⟩)
    (c1 : PySem.W.codeIn K cd1 "_checked" = true)
    (k1 : PySem.W.keepIn K (.ref f_checked_nets) = true)
    (a2 : PySem.W.nsIn K mainGlobals "_numbers" = some (some (.ref f_numbers)))
    (l2 : K.lookup f_numbers = some ⟨oc2, od2, .func (PySem.W.fnOf "_numbers" "_numbers" (defArgs s_numbers) (defBody s_numbers) (defScope s_numbers) .none kV2 dc2 pm2 an2 cd2 ct2), sl2⟩)
    (c2 : PySem.W.codeIn K cd2 "_numbers" = true)
    (k2 : PySem.W.keepIn K (.ref f_numbers) = true)
    (a3 : PySem.W.findIn K (.ref CM) "__init__" = some (some (.ref f_MailNet_init)))
    (i3 : PySem.W.isFn K (.ref f_MailNet_init) = true)
    (l3 : K.lookup f_MailNet_init = some ⟨oc3, od3, .func (PySem.W.fnOf "__init__" "MailNet.__init__" (defArgs s_MailNet_init) (defBody s_MailNet_init) (defScope s_MailNet_init) .none kV3 dc3 pm3 an3 cd3 ct3), sl3⟩)
    (c3 : PySem.W.codeIn K cd3 "MailNet.__init__" = true)
    (k3 : PySem.W.keepIn K (.ref f_MailNet_init) = true)
    (a4 : PySem.W.nsIn K mainGlobals "checked_mail" = some (some (.ref f_checked_mail)))
    (l4 : K.lookup f_checked_mail = some ⟨oc4, od4, .func (PySem.W.fnOf "_checked" "_checked" (defArgs s_checked_mail) (defBody s_checked_mail) (defScope s_checked_mail) .none kV4 dc4 pm4 an4 cd4 ct4), sl4⟩)
    (c4 : PySem.W.codeIn K cd4 "_checked" = true)
    (k4 : PySem.W.keepIn K (.ref f_checked_mail) = true)
    (a5 : PySem.W.nsIn K mainGlobals "_checked_pairs" = some (some (.ref f_checked_pairs)))
    (l5 : K.lookup f_checked_pairs = some ⟨oc5, od5, .func (PySem.W.fnOf "_checked_pairs" "_checked_pairs" (defArgs s_checked_pairs) (defBody s_checked_pairs) (defScope s_checked_pairs) .none kV5 dc5 pm5 an5 cd5 ct5), sl5⟩)
    (c5 : PySem.W.codeIn K cd5 "_checked_pairs" = true)
    (k5 : PySem.W.keepIn K (.ref f_checked_pairs) = true)
    (a6 : PySem.W.nsIn K mainGlobals "_law_draws" = some (some (.ref f_law_draws)))
    (l6 : K.lookup f_law_draws = some ⟨oc6, od6, .func (PySem.W.fnOf "_law_draws" "_law_draws" (defArgs s_law_draws) (defBody s_law_draws) (defScope s_law_draws) .none kV6 dc6 pm6 an6 cd6 ct6), sl6⟩)
    (c6 : PySem.W.codeIn K cd6 "_law_draws" = true)
    (k6 : PySem.W.keepIn K (.ref f_law_draws) = true)
    (a7 : PySem.W.nsIn K mainGlobals "_law_take" = some (some (.ref f_law_take)))
    (l7 : K.lookup f_law_take = some ⟨oc7, od7, .func (PySem.W.fnOf "_law_take" "_law_take" (defArgs s_law_take) (defBody s_law_take) (defScope s_law_take) .none kV7 dc7 pm7 an7 cd7 ct7), sl7⟩)
    (c7 : PySem.W.codeIn K cd7 "_law_take" = true)
    (k7 : PySem.W.keepIn K (.ref f_law_take) = true)
    (a8 : PySem.W.nsIn K mainGlobals "_law_transition" = some (some (.ref f_law_transition)))
    (l8 : K.lookup f_law_transition = some ⟨oc8, od8, .func (PySem.W.fnOf "_law_transition" "_law_transition" (defArgs s_law_transition) (defBody s_law_transition) (defScope s_law_transition) .none kV8 dc8 pm8 an8 cd8 ct8), sl8⟩)
    (c8 : PySem.W.codeIn K cd8 "_law_transition" = true)
    (k8 : PySem.W.keepIn K (.ref f_law_transition) = true)
    (a9 : PySem.W.nsIn K mainGlobals "_law_net" = some (some (.ref f_law_net)))
    (l9 : K.lookup f_law_net = some ⟨oc9, od9, .func (PySem.W.fnOf "_law_net" "_law_net" (defArgs s_law_net) (defBody s_law_net) (defScope s_law_net) .none kV9 dc9 pm9 an9 cd9 ct9), sl9⟩)
    (c9 : PySem.W.codeIn K cd9 "_law_net" = true)
    (k9 : PySem.W.keepIn K (.ref f_law_net) = true)
    (a10 : PySem.W.nsIn K mainGlobals "_law_action" = some (some (.ref f_law_action)))
    (l10 : K.lookup f_law_action = some ⟨oc10, od10, .func (PySem.W.fnOf "_law_action" "_law_action" (defArgs s_law_action) (defBody s_law_action) (defScope s_law_action) .none kV10 dc10 pm10 an10 cd10 ct10), sl10⟩)
    (c10 : PySem.W.codeIn K cd10 "_law_action" = true)
    (k10 : PySem.W.keepIn K (.ref f_law_action) = true)
    (a11 : PySem.W.nsIn K mainGlobals "_law_outcome" = some (some (.ref f_law_outcome)))
    (l11 : K.lookup f_law_outcome = some ⟨oc11, od11, .func (PySem.W.fnOf "_law_outcome" "_law_outcome" (defArgs s_law_outcome) (defBody s_law_outcome) (defScope s_law_outcome) .none kV11 dc11 pm11 an11 cd11 ct11), sl11⟩)
    (c11 : PySem.W.codeIn K cd11 "_law_outcome" = true)
    (k11 : PySem.W.keepIn K (.ref f_law_outcome) = true)
    (a12 : PySem.W.nsIn K mainGlobals "_law_right" = some (some (.ref f_law_right)))
    (l12 : K.lookup f_law_right = some ⟨oc12, od12, .func (PySem.W.fnOf "_law_right" "_law_right" (defArgs s_law_right) (defBody s_law_right) (defScope s_law_right) .none kV12 dc12 pm12 an12 cd12 ct12), sl12⟩)
    (c12 : PySem.W.codeIn K cd12 "_law_right" = true)
    (k12 : PySem.W.keepIn K (.ref f_law_right) = true)
    (a13 : PySem.W.nsIn K mainGlobals "law" = some (some (.ref f_law)))
    (l13 : K.lookup f_law = some ⟨oc13, od13, .func (PySem.W.fnOf "law" "law" (defArgs s_law) (defBody s_law) (defScope s_law) .none kV13 dc13 pm13 an13 cd13 ct13), sl13⟩)
    (c13 : PySem.W.codeIn K cd13 "law" = true)
    (k13 : PySem.W.keepIn K (.ref f_law) = true)
    (pg_C : PySem.W.plainGet K C Str.empty = true)
    (hd_C : PySem.W.hasDictIn K C = true)
    (po_C : PySem.W.plainOver K C = true)
    (sa_C : PySem.W.findIn K (.ref C) "__setattr__" = some (some (.builtin "object.__setattr__")))
    (mk_C : PySem.W.makesIn K C = true)
    (kc_C : PySem.W.keepIn K (.ref C) = true)
    (n_C_places : PySem.W.findIn K (.ref C) "places" = some none)
    (n_C_transitions : PySem.W.findIn K (.ref C) "transitions" = some none)
    (pg_CM : PySem.W.plainGet K CM Str.empty = true)
    (hd_CM : PySem.W.hasDictIn K CM = true)
    (po_CM : PySem.W.plainOver K CM = true)
    (sa_CM : PySem.W.findIn K (.ref CM) "__setattr__" = some (some (.builtin "object.__setattr__")))
    (mk_CM : PySem.W.makesIn K CM = true)
    (kc_CM : PySem.W.keepIn K (.ref CM) = true)
    (n_CM_net : PySem.W.findIn K (.ref CM) "net" = some none)
    (n_CM_channels : PySem.W.findIn K (.ref CM) "channels" = some none)
    (n_CM_actions : PySem.W.findIn K (.ref CM) "actions" = some none)
    (a_MOST_PLACES : PySem.W.nsIn K mainGlobals "MOST_PLACES" = some (some (.int 12 tk_MOST_PLACES)))
    (a_MOST_TRANSITIONS : PySem.W.nsIn K mainGlobals "MOST_TRANSITIONS" = some (some (.int 24 tk_MOST_TRANSITIONS)))
    (a_MOST_TOKENS : PySem.W.nsIn K mainGlobals "MOST_TOKENS" = some (some (.int 9 tk_MOST_TOKENS)))
    (a_MOST_CHANNELS : PySem.W.nsIn K mainGlobals "MOST_CHANNELS" = some (some (.int 2 tk_MOST_CHANNELS)))
    (a_MOST_LETTERS : PySem.W.nsIn K mainGlobals "MOST_LETTERS" = some (some (.int 4 tk_MOST_LETTERS)))
    (n_len : PySem.W.nsIn K mainGlobals "len" = some none)
    (n_int : PySem.W.nsIn K mainGlobals "int" = some none)
    (n_tuple : PySem.W.nsIn K mainGlobals "tuple" = some none)
    (n_list : PySem.W.nsIn K mainGlobals "list" = some none)
    (n_range : PySem.W.nsIn K mainGlobals "range" = some none)
    (n_isinstance : PySem.W.nsIn K mainGlobals "isinstance" = some none) :
    ∃ fd : FuncData, (∀ (s : Shared) (v : Value), BindsTo s fd ⟨[v], []⟩ [("script", v)]) ∧ ∀ base : Heap, K.In base → base.Ns mainGlobals mg → FnOk l.prog w K mg base CX0 6 fa fd ["script"] (spLaw K) := by
  have e := hfa.symm.trans (PySem.W.mg_of X G a13)
  cases e
  have cl_CM : Cls K CM := ⟨pg_CM, hd_CM, po_CM, sa_CM⟩
  have cl_C : Cls K C := ⟨pg_C, hd_C, po_C, sa_C⟩
  have e_CI : ErrTxt K mg CI "InvalidNet" := ⟨PySem.W.mg_of X G a_CI, x_CI, k_CI, s_CI, t_CI, exm_own s_CI c_CI t_CI o_CI⟩
  have F_Net_init := fun_mk (st := s_Net_init) l0 c0 k0
  have b_Net_init := F_Net_init.binds (ps := ["self", "places", "transitions"]) fun _ _ _ _ _ _ us hl => match us, hl with | [_, _, _], _ => rfl
  have M_Net : Mk K C f_Net_init := ⟨mk_C, a0, i0, kc_C⟩
  have F_checked_nets := fun_mk (st := s_checked_nets) l1 c1 k1
  have b_checked_nets := F_checked_nets.binds (ps := ["transition", "places"]) fun _ _ _ _ _ _ us hl => match us, hl with | [_, _], _ => rfl
  have g_checked_nets := PySem.W.mg_of X G a1
  have F_numbers := fun_mk (st := s_numbers) l2 c2 k2
  have b_numbers := F_numbers.binds (ps := ["row", "places", "least", "most"]) fun _ _ _ _ _ _ us hl => match us, hl with | [_, _, _, _], _ => rfl
  have g_numbers := PySem.W.mg_of X G a2
  have F_MailNet_init := fun_mk (st := s_MailNet_init) l3 c3 k3
  have b_MailNet_init := F_MailNet_init.binds (ps := ["self", "net", "channels", "actions"]) fun _ _ _ _ _ _ us hl => match us, hl with | [_, _, _, _], _ => rfl
  have M_MailNet : Mk K CM f_MailNet_init := ⟨mk_CM, a3, i3, kc_CM⟩
  have F_checked_mail := fun_mk (st := s_checked_mail) l4 c4 k4
  have b_checked_mail := F_checked_mail.binds (ps := ["action", "channels"]) fun _ _ _ _ _ _ us hl => match us, hl with | [_, _], _ => rfl
  have g_checked_mail := PySem.W.mg_of X G a4
  have F_checked_pairs := fun_mk (st := s_checked_pairs) l5 c5 k5
  have b_checked_pairs := F_checked_pairs.binds (ps := ["pairs", "channels"]) fun _ _ _ _ _ _ us hl => match us, hl with | [_, _], _ => rfl
  have g_checked_pairs := PySem.W.mg_of X G a5
  have F_law_draws := fun_mk (st := s_law_draws) l6 c6 k6
  have b_law_draws := F_law_draws.binds (ps := ["script", "count"]) fun _ _ _ _ _ _ us hl => match us, hl with | [_, _], _ => rfl
  have g_law_draws := PySem.W.mg_of X G a6
  have F_law_take := fun_mk (st := s_law_take) l7 c7 k7
  have b_law_take := F_law_take.binds (ps := ["draws", "limit"]) fun _ _ _ _ _ _ us hl => match us, hl with | [_, _], _ => rfl
  have g_law_take := PySem.W.mg_of X G a7
  have F_law_transition := fun_mk (st := s_law_transition) l8 c8 k8
  have b_law_transition := F_law_transition.binds (ps := ["draws", "places", "plain"]) fun _ _ _ _ _ _ us hl => match us, hl with | [_, _, _], _ => rfl
  have g_law_transition := PySem.W.mg_of X G a8
  have F_law_net := fun_mk (st := s_law_net) l9 c9 k9
  have b_law_net := F_law_net.binds (ps := ["draws", "places", "most", "plain"]) fun _ _ _ _ _ _ us hl => match us, hl with | [_, _, _, _], _ => rfl
  have g_law_net := PySem.W.mg_of X G a9
  have F_law_action := fun_mk (st := s_law_action) l10 c10 k10
  have b_law_action := F_law_action.binds (ps := ["draws", "channels"]) fun _ _ _ _ _ _ us hl => match us, hl with | [_, _], _ => rfl
  have g_law_action := PySem.W.mg_of X G a10
  have F_law_outcome := fun_mk (st := s_law_outcome) l11 c11 k11
  have b_law_outcome := F_law_outcome.binds (ps := ["net", "channels", "actions"]) fun _ _ _ _ _ _ us hl => match us, hl with | [_, _, _], _ => rfl
  have g_law_outcome := PySem.W.mg_of X G a11
  have F_law_right := fun_mk (st := s_law_right) l12 c12 k12
  have b_law_right := F_law_right.binds (ps := ["channels", "actions", "count"]) fun _ _ _ _ _ _ us hl => match us, hl with | [_, _, _], _ => rfl
  have g_law_right := PySem.W.mg_of X G a12
  have F_law := fun_mk (st := s_law) l13 c13 k13
  have g_MOST_PLACES := PySem.W.mg_of X G a_MOST_PLACES
  have g_MOST_TRANSITIONS := PySem.W.mg_of X G a_MOST_TRANSITIONS
  have g_MOST_TOKENS := PySem.W.mg_of X G a_MOST_TOKENS
  have g_MOST_CHANNELS := PySem.W.mg_of X G a_MOST_CHANNELS
  have g_MOST_LETTERS := PySem.W.mg_of X G a_MOST_LETTERS
  have g_len := PySem.W.mg_none_of X G n_len
  have g_int := PySem.W.mg_none_of X G n_int
  have g_tuple := PySem.W.mg_none_of X G n_tuple
  have g_list := PySem.W.mg_none_of X G n_list
  have g_range := PySem.W.mg_none_of X G n_range
  have g_isinstance := PySem.W.mg_none_of X G n_isinstance
  have T : LawTxt K mg C CM CI := ⟨⟨cl_C, n_C_places, n_C_transitions, PySem.W.mg_of X G a_C⟩, ⟨cl_CM, n_CM_net, n_CM_channels, n_CM_actions, PySem.W.mg_of X G a_CM⟩, e_CI, g_len, g_int, g_tuple, g_list, g_range, g_isinstance⟩
  exact ⟨PySem.W.fnOf "law" "law" (defArgs s_law) (defBody s_law) (defScope s_law) .none kV13 dc13 pm13 an13 cd13 ct13, fun s v => .of_eq rfl, fun base _ _ =>
    ok_law F_law T F_numbers b_numbers g_numbers F_checked_nets b_checked_nets g_checked_nets F_checked_pairs b_checked_pairs g_checked_pairs F_law_draws b_law_draws g_law_draws F_law_take b_law_take g_law_take F_law_transition b_law_transition g_law_transition F_law_net b_law_net g_law_net F_law_action b_law_action g_law_action F_law_outcome b_law_outcome g_law_outcome F_law_right b_law_right g_law_right F_checked_mail b_checked_mail g_checked_mail F_Net_init b_Net_init M_Net g_MOST_PLACES g_MOST_TRANSITIONS g_MOST_TOKENS F_MailNet_init b_MailNet_init M_MailNet g_MOST_CHANNELS g_MOST_LETTERS⟩
end Cv
open PySem PySem.W PyProof.Rows
set_option maxRecDepth 100000 in
set_option maxHeartbeats 0 in
theorem PySem.Challenge.cw_covernets_k39_mail_nets_holds : PySem.Challenge.rw_covernets_k39_mail_nets.Holds := by
  w_on; o_law; k_head; (case hw => w_witness2)
  k_fill
  refine L2.walk_of (n := 63) (k := 6) (x := "script") (CX := fun _ => L2.CX0) (sp := fun w => Cv.spLaw _) rfl (by decide) rfl ⟨rfl, by decide, by decide⟩ (fun w h Y => PySem.W.kIn_of Y) ?F (fun _ _ a ns hl _ hS => ⟨a, ns, rfl, hS, hl, fun _ => rfl⟩) fun _ _ _ _ _ z => z
  case F =>
    intro w mg fa h KX G hmg
    refine' Cv.all_mk (l := PySem.Challenge.rw_covernets_k39_mail_nets) KX G hmg ?a_C ?a_CM ?a_CI ?x_CI ?k_CI ?s_CI ?t_CI ?c_CI ?o_CI ?a0 ?i0 ?l0 ?c0 ?k0 ?a1 ?l1 ?c1 ?k1 ?a2 ?l2 ?c2 ?k2 ?a3 ?i3 ?l3 ?c3 ?k3 ?a4 ?l4 ?c4 ?k4 ?a5 ?l5 ?c5 ?k5 ?a6 ?l6 ?c6 ?k6 ?a7 ?l7 ?c7 ?k7 ?a8 ?l8 ?c8 ?k8 ?a9 ?l9 ?c9 ?k9 ?a10 ?l10 ?c10 ?k10 ?a11 ?l11 ?c11 ?k11 ?a12 ?l12 ?c12 ?k12 ?a13 ?l13 ?c13 ?k13 ?pg_C ?hd_C ?po_C ?sa_C ?mk_C ?kc_C ?n_C_places ?n_C_transitions ?pg_CM ?hd_CM ?po_CM ?sa_CM ?mk_CM ?kc_CM ?n_CM_net ?n_CM_channels ?n_CM_actions ?a_MOST_PLACES ?a_MOST_TRANSITIONS ?a_MOST_TOKENS ?a_MOST_CHANNELS ?a_MOST_LETTERS ?n_len ?n_int ?n_tuple ?n_list ?n_range ?n_isinstance
    (case a_C => k_is)
    (case a_CM => k_is)
    (case a_CI => k_is)
    (case x_CI => k_exc)
    (case k_CI => k_is)
    (case s_CI => k_is)
    (case t_CI => k_is)
    (case c_CI => k_is)
    (case o_CI => first | rfl | k_is)
    (case a0 => k_is)
    (case i0 => k_is)
    (case l0 => k_is)
    (case c0 => k_is)
    (case k0 => k_is)
    (case a1 => k_is)
    (case l1 => k_is)
    (case c1 => k_is)
    (case k1 => k_is)
    (case a2 => k_is)
    (case l2 => k_is)
    (case c2 => k_is)
    (case k2 => k_is)
    (case a3 => k_is)
    (case i3 => k_is)
    (case l3 => k_is)
    (case c3 => k_is)
    (case k3 => k_is)
    (case a4 => k_is)
    (case l4 => k_is)
    (case c4 => k_is)
    (case k4 => k_is)
    (case a5 => k_is)
    (case l5 => k_is)
    (case c5 => k_is)
    (case k5 => k_is)
    (case a6 => k_is)
    (case l6 => k_is)
    (case c6 => k_is)
    (case k6 => k_is)
    (case a7 => k_is)
    (case l7 => k_is)
    (case c7 => k_is)
    (case k7 => k_is)
    (case a8 => k_is)
    (case l8 => k_is)
    (case c8 => k_is)
    (case k8 => k_is)
    (case a9 => k_is)
    (case l9 => k_is)
    (case c9 => k_is)
    (case k9 => k_is)
    (case a10 => k_is)
    (case l10 => k_is)
    (case c10 => k_is)
    (case k10 => k_is)
    (case a11 => k_is)
    (case l11 => k_is)
    (case c11 => k_is)
    (case k11 => k_is)
    (case a12 => k_is)
    (case l12 => k_is)
    (case c12 => k_is)
    (case k12 => k_is)
    (case a13 => k_is)
    (case l13 => k_is)
    (case c13 => k_is)
    (case k13 => k_is)
    (case pg_C => k_is)
    (case hd_C => k_is)
    (case po_C => k_is)
    (case sa_C => k_is)
    (case mk_C => k_is)
    (case kc_C => k_is)
    (case n_C_places => k_is)
    (case n_C_transitions => k_is)
    (case pg_CM => k_is)
    (case hd_CM => k_is)
    (case po_CM => k_is)
    (case sa_CM => k_is)
    (case mk_CM => k_is)
    (case kc_CM => k_is)
    (case n_CM_net => k_is)
    (case n_CM_channels => k_is)
    (case n_CM_actions => k_is)
    (case a_MOST_PLACES => k_is)
    (case a_MOST_TRANSITIONS => k_is)
    (case a_MOST_TOKENS => k_is)
    (case a_MOST_CHANNELS => k_is)
    (case a_MOST_LETTERS => k_is)
    (case n_len => k_is)
    (case n_int => k_is)
    (case n_tuple => k_is)
    (case n_list => k_is)
    (case n_range => k_is)
    (case n_isinstance => k_is)
#print axioms PySem.Challenge.cw_covernets_k39_mail_nets_holds

