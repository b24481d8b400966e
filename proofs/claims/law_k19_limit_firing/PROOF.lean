import PyProof.Rows.All
import Wide.All
import OpenK.AllK
import Wide.FinOn
import PyProof.EqAt
import PyProof.EqKinds
import PyProof.TupleCall
import HandS.ForMost
import HandS.Zip
import HandS.IsInst
import HandS.Exc
import HandS.TryMany
import HandS.ExcOwn
import HandS.WordsExc
import HandS.Conv
import KE.GoesMore
import HandS.TupAny
import HandS.TryOnly
import KE.GoesNew
import KE.GoesEnum
import HandS.ExcCtx
import HandS.ForSpec
import HandS.HotCalls
import PySem.Challenge.RW_covernets_k19_limit_firing
set_option Elab.async false
set_option linter.all false
set_option maxRecDepth 100000
set_option maxHeartbeats 2000000
namespace Cv
open PySem PySem.Spec PyProof.Rows L2

/-! ### heaps -/
/-- tuples and locked objects stand -/
structure Tk (H H' : Hp) : Prop where
  tup : ∀ a xs, H a = some (.tup xs) → H' a = some (.tup xs)
  frz : ∀ a o u, H a = some (.frz o u) → H' a = some (.frz o u)
theorem Tk.refl (H : Hp) : Tk H H := ⟨fun _ _ h => h, fun _ _ _ h => h⟩
theorem Tk.trans {H H1 H2 : Hp} (a : Tk H H1) (b : Tk H1 H2) : Tk H H2 := ⟨fun c x h => b.tup c x (a.tup c x h), fun c o u h => b.frz c o u (a.frz c o u h)⟩
theorem Tk.sqT {K : PySem.W.Frag} {H H' : Hp} {a : Addr} {xs : List V} (e : Tk H H') (h : SqT K H a xs) : SqT K H' a xs := by
  rcases h with (h | ⟨o, h⟩) | h
  · exact .inl (.inl (e.tup _ _ h))
  · exact .inl (.inr ⟨o, e.frz _ _ _ h⟩)
  · exact .inr h
theorem Tk.lst {H : Hp} {l : Addr} {xs : List V} {ys : List V} (h : H l = some (.lst xs)) : Tk H (upd H l (.lst ys)) := by
  refine ⟨fun a zs e => ?_, fun a o u e => ?_⟩
  · have : a ≠ l := fun q => by rw [q, h] at e; cases e
    rw [upd_ne this]; exact e
  · have : a ≠ l := fun q => by rw [q, h] at e; cases e
    rw [upd_ne this]; exact e
/-- the list of draws at a -/
def Drw (H : Hp) (a : Addr) : Prop := ∃ ns : List Int, ns.length ≤ 1000 ∧ H a = some (.lst (ns.map V.int))
/-- all stands but the draws -/
structure Ext (d : Option Addr) (H H' : Hp) : Prop where
  keep : ∀ a o, H a = some o → (some a = d → ∀ xs, o ≠ .lst xs) → H' a = some o
  draw : ∀ a, d = some a → Drw H a → Drw H' a
section
variable {d : Option Addr} {H H1 H2 B : Hp} {p a : Addr} {o : HO} {K : PySem.W.Frag}
theorem Ext.refl (H : Hp) : Ext d H H := ⟨fun _ _ h _ => h, fun _ _ h => h⟩
theorem Ext.trans (a : Ext d H H1) (b : Ext d H1 H2) : Ext d H H2 := ⟨fun c x h k => b.keep c x (a.keep c x h k) k, fun c e h => b.draw c e (a.draw c e h)⟩
theorem Ext.tk (e : Ext d H H1) : Tk H H1 := ⟨fun _ _ h => e.keep _ _ h fun _ _ q => (by cases q), fun _ _ _ h => e.keep _ _ h fun _ _ q => (by cases q)⟩
theorem Ext.new (h : H p = none) : Ext d H (upd H p o) := ⟨fun a u e _ => by rw [upd_ne (ne_of_none e h)]; exact e, fun a _ ⟨ns, hl, e⟩ => ⟨ns, hl, by rw [upd_ne (ne_of_none e h)]; exact e⟩⟩
theorem Ext.mut (e : Ext d B H) (h : B p = none) (hd : some p ≠ d) : Ext d B (upd H p o) := ⟨fun a u ea k => by
    rw [upd_ne (ne_of_none ea h)]; exact e.keep a u ea k,
  fun a ed hb => by
    obtain ⟨ns, hl, q⟩ := e.draw a ed hb
    have : a ≠ p := fun z => hd (by rw [ed, z])
    exact ⟨ns, hl, by rw [upd_ne this]; exact q⟩⟩
theorem Ext.at (e : Ext d H H1) (h : H a = some o) (hd : some a ≠ d) : H1 a = some o := e.keep a o h fun z => absurd z hd
theorem Ext.of_same (e : Same H H1) : Ext d H H1 := ⟨fun a o h _ => e a o h, fun a _ ⟨ns, hl, h⟩ => ⟨ns, hl, e _ _ h⟩⟩
theorem Ext.sqL {xs : List V} (e : Ext d H H1) (hd : some a ≠ d) (h : SqL K H a xs) : SqL K H1 a xs := by
  rcases h with (h | ⟨o, h⟩) | h
  · exact .inl (.inl (e.at h hd))
  · exact .inl (.inr ⟨o, e.tk.frz _ _ _ h⟩)
  · exact .inr h
end

/-! ### data -/
inductive D where
  | i (n : Int) | b (k : Bool) | n | s (x : Str) | t (xs : List D)
inductive DR (K : PySem.W.Frag) (H : Hp) : D → V → Prop
  | i (n : Int) : DR K H (.i n) (.int n)
  | b (k : Bool) : DR K H (.b k) (.bl k)
  | n : DR K H .n .non
  | s (x : Str) : DR K H (.s x) (.str x)
  | t {a : Addr} {vs : List V} {ds : List D} (h : SqT K H a vs) (hl : ds.length = vs.length) (hv : ∀ (i : Nat) (e : D) (v : V), ds[i]? = some e → vs[i]? = some v → DR K H e v) : DR K H (.t ds) (.ref a)
theorem DR.tk {K : PySem.W.Frag} {H H' : Hp} {e : D} {v : V} (k : Tk H H') (h : DR K H e v) : DR K H' e v := by
  induction h with
  | i n => exact .i n
  | b n => exact .b n
  | n => exact .n
  | s n => exact .s n
  | t h hl _ ih => exact .t (k.sqT h) hl ih
/-- the items of a list of data -/
def DRl (K : PySem.W.Frag) (H : Hp) (ds : List D) (vs : List V) : Prop := ds.length = vs.length ∧ ∀ (i : Nat) (e : D) (v : V), ds[i]? = some e → vs[i]? = some v → DR K H e v
theorem DRl.tk {K : PySem.W.Frag} {H H' : Hp} {ds : List D} {vs : List V} (k : Tk H H') (h : DRl K H ds vs) : DRl K H' ds vs := ⟨h.1, fun i e v a b => (h.2 i e v a b).tk k⟩
theorem DRl.nil {K : PySem.W.Frag} {H : Hp} : DRl K H [] [] := ⟨rfl, fun i e v a _ => by cases a⟩
theorem DRl.snoc {K : PySem.W.Frag} {H : Hp} {ds : List D} {vs : List V} {e : D} {v : V} (h : DRl K H ds vs) (hv : DR K H e v) : DRl K H (ds ++ [e]) (vs ++ [v]) := by
  refine ⟨by simp [h.1], fun i e' v' a b => ?_⟩
  by_cases hi : i < ds.length
  · rw [List.getElem?_append_left hi] at a
    rw [List.getElem?_append_left (by rw [← h.1]; exact hi)] at b
    exact h.2 i e' v' a b
  · rw [List.getElem?_append_right (by omega)] at a
    rw [List.getElem?_append_right (by rw [← h.1]; omega)] at b
    rw [← h.1] at b
    have : i - ds.length = 0 := by
      cases q : i - ds.length with
      | zero => rfl
      | succ m => rw [q] at a; simp at a
    rw [this] at a b
    cases a; cases b; exact hv
theorem DRl.get {K : PySem.W.Frag} {H : Hp} {ds : List D} {vs : List V} {i : Nat} {e : D} (h : DRl K H ds vs) (a : ds[i]? = some e) : ∃ v, vs[i]? = some v ∧ DR K H e v := by
  have hi : i < ds.length := (List.getElem?_eq_some_iff.mp a).1
  have hv : i < vs.length := by rw [← h.1]; exact hi
  exact ⟨vs[i], List.getElem?_eq_getElem hv, h.2 i e _ a (List.getElem?_eq_getElem hv)⟩
theorem DRl.getV {K : PySem.W.Frag} {H : Hp} {ds : List D} {vs : List V} {i : Nat} {v : V} (h : DRl K H ds vs) (a : vs[i]? = some v) : ∃ e, ds[i]? = some e ∧ DR K H e v := by
  have hv : i < vs.length := (List.getElem?_eq_some_iff.mp a).1
  have hi : i < ds.length := by rw [h.1]; exact hv
  exact ⟨ds[i], List.getElem?_eq_getElem hi, h.2 i _ v (List.getElem?_eq_getElem hi) a⟩
theorem DRl.ints {K : PySem.W.Frag} {H : Hp} : ∀ {ns : List Int} {vs : List V}, DRl K H (ns.map D.i) vs → vs = ns.map V.int
  | [], [], _ => rfl
  | [], _ :: _, h => by have := h.1; simp at this
  | _ :: _, [], h => by have := h.1; simp at this
  | n :: ns, v :: vs, h => by
    have h0 := h.2 0 (.i n) v rfl rfl
    cases h0
    have ih := DRl.ints (ns := ns) (vs := vs) ⟨by have := h.1; simpa using this, fun i e v a b => h.2 (i + 1) e v a b⟩
    rw [ih]; rfl
theorem DRl.of_ints {K : PySem.W.Frag} {H : Hp} (ns : List Int) : DRl K H (ns.map D.i) (ns.map V.int) := by
  refine ⟨by simp, fun i e v a b => ?_⟩
  rw [List.getElem?_map] at a b
  cases q : ns[i]? with
  | none => rw [q] at a; cases a
  | some z => rw [q] at a b; cases a; cases b; exact .i z
theorem DR.tup {K : PySem.W.Frag} {H : Hp} {ds : List D} {v : V} (h : DR K H (.t ds) v) : ∃ a vs, v = .ref a ∧ SqT K H a vs ∧ DRl K H ds vs := by
  cases h with
  | t h hl hv => exact ⟨_, _, rfl, h, hl, hv⟩
theorem DR.of_tup {K : PySem.W.Frag} {H : Hp} {ds : List D} {a : Addr} {vs : List V} (h : SqT K H a vs) (hd : DRl K H ds vs) : DR K H (.t ds) (.ref a) := .t h hd.1 hd.2
/-- a tuple of ints -/
abbrev tI (ns : List Int) : D := .t (ns.map D.i)
theorem DR.tupI {K : PySem.W.Frag} {H : Hp} {ns : List Int} {v : V} (h : DR K H (tI ns) v) : ∃ a, v = .ref a ∧ SqT K H a (ns.map V.int) := by
  obtain ⟨a, vs, e, h1, h2⟩ := h.tup
  have := h2.ints
  subst this
  exact ⟨a, e, h1⟩

/-! ### what a slot holds -/
structure Rp (d : Option Addr) where
  p : V → Hp → Prop
  st : ∀ {v : V} {H H' : Hp}, Ext d H H' → p v H → p v H'
section
variable {d : Option Addr}
def rI (n : Int) : Rp d := ⟨fun v _ => v = .int n, fun _ h => h⟩
def rB (b : Bool) : Rp d := ⟨fun v _ => v = .bl b, fun _ h => h⟩
def rAny : Rp d := ⟨fun _ _ => True, fun _ h => h⟩
def dat (K : PySem.W.Frag) (e : D) : Rp d := ⟨fun v H => DR K H e v, fun e h => h.tk e.tk⟩
def exR {α : Type} (P : α → Prop) (R : α → Rp d) : Rp d := ⟨fun v H => ∃ z, P z ∧ (R z).p v H, fun e ⟨z, hz, h⟩ => ⟨z, hz, (R z).st e h⟩⟩
abbrev iE (P : Int → Prop) : Rp d := exR P rI
abbrev dE (K : PySem.W.Frag) (P : D → Prop) : Rp d := exR P (dat K)
/-- a list of the def's own (or any other that is tracked) at a -/
def own (K : PySem.W.Frag) (a : Addr) (ds : List D) : Rp d := ⟨fun v H => v = .ref a ∧ some a ≠ d ∧ ∃ vs, H a = some (.lst vs) ∧ DRl K H ds vs, fun e ⟨h1, h2, vs, h3, h4⟩ => ⟨h1, h2, vs, e.at h3 h2, h4.tk e.tk⟩⟩
/-- a list of the written part -/
def KL (K : PySem.W.Frag) (a : Addr) (xs : List V) : Prop := ∃ (o : Obj) (its : Array Value) (n : Nat), K.lookup a = some o ∧ o.cls = .type "list" ∧ o.dict = none ∧ o.data = .seq its n ∧ its.size ≤ sizeLine ∧ Vals xs its.toList
/-- a list that is read: tracked (and not the draws), locked, or written -/
def SqX (d : Option Addr) (K : PySem.W.Frag) (H : Hp) (a : Addr) (xs : List V) : Prop := (some a ≠ d ∧ H a = some (.lst xs)) ∨ (∃ o, H a = some (.frz o (.lst xs))) ∨ KL K a xs
theorem SqX.sq {K : PySem.W.Frag} {H : Hp} {a : Addr} {xs : List V} (h : SqX d K H a xs) : SqL K H a xs := by
  rcases h with ⟨_, h⟩ | ⟨o, h⟩ | h
  · exact .inl (.inl h)
  · exact .inl (.inr ⟨o, h⟩)
  · exact .inr h
theorem SqX.ext {K : PySem.W.Frag} {H H' : Hp} {a : Addr} {xs : List V} (h : SqX d K H a xs) (e : Ext d H H') : SqX d K H' a xs := by
  rcases h with ⟨h1, h⟩ | ⟨o, h⟩ | h
  · exact .inl ⟨h1, e.at h h1⟩
  · exact .inr (.inl ⟨o, e.tk.frz _ _ _ h⟩)
  · exact .inr (.inr h)
/-- a list that is only read, at a -/
def lstA (K : PySem.W.Frag) (a : Addr) (ds : List D) : Rp d := ⟨fun v H => v = .ref a ∧ True ∧ ∃ vs, SqX d K H a vs ∧ DRl K H ds vs, fun e ⟨h1, h2, vs, h3, h4⟩ => ⟨h1, h2, vs, h3.ext e, h4.tk e.tk⟩⟩
def lst (K : PySem.W.Frag) (ds : List D) : Rp d := exR (fun _ => True) fun a => lstA K a ds
/-- a new list: not in B -/
def newL (B : Hp) (K : PySem.W.Frag) (ds : List D) : Rp d := exR (fun a => B a = none) fun a => own K a ds
/-- a new list, its items told by P -/
def newE (B : Hp) (K : PySem.W.Frag) (P : List D → Prop) : Rp d := exR (fun ds => P ds) fun ds => newL B K ds
def drw : Rp d := ⟨fun v H => ∃ a, v = .ref a ∧ d = some a, fun _ h => h⟩
theorem own_lstA {K : PySem.W.Frag} {a : Addr} {ds : List D} {v : V} {H : Hp} (h : (own (d := d) K a ds).p v H) : (lstA (d := d) K a ds).p v H := by
  obtain ⟨h1, h2, vs, h3, h4⟩ := h
  exact ⟨h1, trivial, vs, .inl ⟨h2, h3⟩, h4⟩
theorem newL_lst {B : Hp} {K : PySem.W.Frag} {ds : List D} {v : V} {H : Hp} (h : (newL (d := d) B K ds).p v H) : (lst (d := d) K ds).p v H := by
  obtain ⟨a, _, h⟩ := h
  exact ⟨a, trivial, own_lstA h⟩

/-! ### states -/
abbrev Ro (d : Option Addr) := List (Option (Rp d))
def Good (ρ : Ro d) (σ : L2.St) (H : Hp) : Prop := σ.length = ρ.length ∧ ∀ (i : Nat) (R : Rp d), ρ[i]? = some (some R) → ∃ v, σ[i]? = some (some v) ∧ R.p v H
structure St (B : Hp) (ρ : Ro d) (σ : L2.St) (H : Hp) : Prop where
  ext : Ext d B H
  dr : ∀ a, d = some a → Drw H a
  good : Good ρ σ H
theorem Good.mono {ρ : Ro d} {σ : L2.St} {H H' : Hp} (g : Good ρ σ H) (e : Ext d H H') : Good ρ σ H' := ⟨g.1, fun i R h => let ⟨v, a, b⟩ := g.2 i R h; ⟨v, a, R.st e b⟩⟩
theorem St.mono {B : Hp} {ρ : Ro d} {σ : L2.St} {H H' : Hp} (s : St B ρ σ H) (e : Ext d H H') : St B ρ σ H' := ⟨s.ext.trans e, fun a h => e.draw a h (s.dr a h), s.good.mono e⟩
theorem Good.set {ρ : Ro d} {σ : L2.St} {H : Hp} (g : Good ρ σ H) (i : Nat) {v : V} {R : Rp d} (h : R.p v H) : Good (ρ.set i (some R)) (σ.set i (some v)) H := by
  refine ⟨by simp [g.1], fun j R' hj => ?_⟩
  by_cases hij : i = j
  · subst hij
    have hlt : i < ρ.length := by
      have := (List.getElem?_eq_some_iff.mp hj).1
      simpa using this
    rw [List.getElem?_set_self hlt] at hj
    cases hj
    exact ⟨v, List.getElem?_set_self (by rw [g.1]; exact hlt), h⟩
  · rw [List.getElem?_set_ne hij] at hj
    obtain ⟨w, a, b⟩ := g.2 j R' hj
    exact ⟨w, by rw [List.getElem?_set_ne hij]; exact a, b⟩
theorem Good.get {ρ : Ro d} {σ : L2.St} {H : Hp} {i : Nat} {R : Rp d} (g : Good ρ σ H) (h : ρ[i]? = some (some R)) : ∃ v, σ[i]? = some (some v) ∧ R.p v H := g.2 i R h
/-- an address that is new now was not in B, and is not the draws' -/
theorem St.fresh {B : Hp} {ρ : Ro d} {σ : L2.St} {H : Hp} {p : Addr} (s : St B ρ σ H) (h : H p = none) : B p = none ∧ some p ≠ d := by
  have hd : some p ≠ d := fun e => by
    obtain ⟨ns, _, q⟩ := s.dr p e.symm
    rw [h] at q; cases q
  refine ⟨?_, hd⟩
  cases e : B p with
  | none => rfl
  | some o =>
    have := s.ext.at e hd
    rw [h] at this; cases this

/-! ### the judgements -/
variable {X : Cx}
def EX (X : Cx) (B : Hp) (ρ : Ro d) (e : Expr) (R : Rp d) : Prop := PE X e fun σ H Q => St B ρ σ H ∧ ∀ v H', Ext d H H' → R.p v H' → Q v H'
def TX (X : Cx) (B : Hp) (ρ : Ro d) (e : Expr) (P : Bool → Prop) : Prop := PT X e fun σ H Q => St B ρ σ H ∧ ∀ b H', Ext d H H' → P b → Q b H'
def WX (X : Cx) (B : Hp) (ρ : Ro d) (e : Expr) (P : Bool → Prop) : Prop := PW X e fun σ H Q => St B ρ σ H ∧ ∀ b H', Ext d H H' → P b → Q b H'
def RsH : List (Rp d) → List V → Hp → Prop
  | [], [], _ => True
  | R :: Rs, v :: vs, H => R.p v H ∧ RsH Rs vs H
  | _, _, _ => False
theorem RsH.mono : ∀ {Rs : List (Rp d)} {vs : List V} {H H' : Hp}, Ext d H H' → RsH Rs vs H → RsH Rs vs H'
  | [], [], _, _, _, _ => trivial
  | R :: Rs, v :: vs, _, _, e, h => ⟨R.st e h.1, RsH.mono e h.2⟩
  | [], _ :: _, _, _, _, h => h.elim
  | _ :: _, [], _, _, _, h => h.elim
def AX (X : Cx) (B : Hp) (ρ : Ro d) (es : List Expr) (Rs : List (Rp d)) : Prop := PA X es fun σ H Q => St B ρ σ H ∧ ∀ vs H', Ext d H H' → RsH Rs vs H' → Q vs H'
structure Le (H : Hp) (Po E : Ends) : Prop where
  nx : ∀ σ' H', Tk H H' → Po.nx σ' H' → E.nx σ' H'
  rt : ∀ v H', Tk H H' → Po.rt v H' → E.rt v H'
  bk : ∀ σ' H', Tk H H' → Po.bk σ' H' → E.bk σ' H'
  ct : ∀ σ' H', Tk H H' → Po.ct σ' H' → E.ct σ' H'
def SX (X : Cx) (s : Stmt) (Pre : L2.St → Hp → Prop) (Po : Ends) : Prop := PS X s fun E σ H => Pre σ H ∧ Le H Po E
def BX (X : Cx) (s : List Stmt) (Pre : L2.St → Hp → Prop) (Po : Ends) : Prop := PSs X s fun E σ H => Pre σ H ∧ Le H Po E
theorem PE_wk {e : Expr} {t t' : TE} (h : PE X e t) (w : ∀ σ H Q, t' σ H Q → t σ H Q) : PE X e t' := ⟨fun pins s σ H Q I q => h.run pins s σ H Q I (w σ H Q q)⟩
theorem PT_wk {e : Expr} {t t' : TT} (h : PT X e t) (w : ∀ σ H Q, t' σ H Q → t σ H Q) : PT X e t' := ⟨fun pins s σ H Q I q => h.run pins s σ H Q I (w σ H Q q)⟩
theorem PW_wk {e : Expr} {t t' : TT} (h : PW X e t) (w : ∀ σ H Q, t' σ H Q → t σ H Q) : PW X e t' := ⟨fun wh pins s σ H Q I q => h.run wh pins s σ H Q I (w σ H Q q)⟩
theorem PA_wk {e : List Expr} {t t' : TA} (h : PA X e t) (w : ∀ σ H Q, t' σ H Q → t σ H Q) : PA X e t' := ⟨fun pos pins s σ H Q I q => h.run pos pins s σ H Q I (w σ H Q q)⟩
theorem PS_wk {e : Stmt} {t t' : TS} (h : PS X e t) (w : ∀ E σ H, t' E σ H → t E σ H) : PS X e t' := ⟨fun pins s σ H E I q => h.run pins s σ H E I (w E σ H q)⟩
theorem PSs_wk {e : List Stmt} {t t' : TS} (h : PSs X e t) (w : ∀ E σ H, t' E σ H → t E σ H) : PSs X e t' := ⟨fun pins s σ H E I q => h.run pins s σ H E I (w E σ H q)⟩
theorem Le.next {H H1 : Hp} {Po E : Ends} (l : Le H Po E) (k : Tk H H1) : Le H1 Po E := ⟨fun σ' H' a => l.nx σ' H' (k.trans a), fun σ' H' a => l.rt σ' H' (k.trans a), fun σ' H' a => l.bk σ' H' (k.trans a), fun σ' H' a => l.ct σ' H' (k.trans a)⟩

/-! ### expressions -/
variable {B : Hp} {ρ : Ro d} {a b c e : Expr} {es : List Expr} {R R' Ra Rb : Rp d} {Rs : List (Rp d)} {pos : Pos} {m n : Int}
theorem x_sub (h : EX X B ρ e R) (w : ∀ v H, R.p v H → R'.p v H) : EX X B ρ e R' := PE_wk h fun σ H Q ⟨s, q⟩ => ⟨s, fun v H' e1 hv => q v H' e1 (w v H' hv)⟩
theorem x_var (i : Nat) {x : Str} (h : ρ[i]? = some (some R)) (hN : X.N[i]? = some x := by rfl) (hv : Vis X.env.scope x := by first | exact Or.inl rfl | exact Or.inr (Or.inl rfl) | exact Or.inr (Or.inr rfl)) (hd : (x == ("__debug__" : Str)) = false := by decide)
    (hcd : (x == ("__classdict__" : Str)) = false := by decide) : EX X B ρ (.Name x pos) R :=
  PE_wk (pe_var hN hv hd hcd) fun σ H Q ⟨s, q⟩ => by
    obtain ⟨v, h1, h2⟩ := s.good.get h
    exact ⟨v, h1, q v H (Ext.refl H) h2⟩
theorem x_int {j : Nat} : EX X B ρ (.Constant (.int n) j pos) (rI n) := PE_wk pe_int fun σ H Q ⟨s, q⟩ => q _ H (Ext.refl H) rfl
theorem x_bl {k : Bool} {j : Nat} : EX X B ρ (.Constant (.bool k) j pos) (rB k) := PE_wk pe_bl fun σ H Q ⟨s, q⟩ => q _ H (Ext.refl H) rfl
theorem x_non {K : PySem.W.Frag} {j : Nat} : EX X B ρ (.Constant .none j pos) (dat K .n) := PE_wk pe_non fun σ H Q ⟨s, q⟩ => q _ H (Ext.refl H) .n
theorem x_op2 {op : Operator} {r : R2} (ho : OpR X (binaryOp op) r) (ha : EX X B ρ a Ra) (hb : EX X B ρ b Rb) (h : ∀ x y H σ Q, St B ρ σ H → Ra.p x H → Rb.p y H → (∀ v H', Ext d H H' → R.p v H' → Q v H') → r x y H Q) : EX X B ρ (.BinOp a op b pos) R :=
  PE_wk (pe_op ho ha hb) fun σ H Q ⟨s, q⟩ => ⟨s, fun x H1 e1 hx => ⟨s.mono e1, fun y H2 e2 hy => h x y H2 σ Q ((s.mono e1).mono e2) (Ra.st e2 hx) hy fun v H' e' hv => q v H' (e1.trans (e2.trans e')) hv⟩⟩
theorem x_add (ha : EX X B ρ a (rI m)) (hb : EX X B ρ b (rI n)) : EX X B ρ (.BinOp a .Add b pos) (rI (m + n)) := x_op2 op_add ha hb fun x y H σ Q _ hx hy q => ⟨m, n, hx, hy, q _ H (Ext.refl H) rfl⟩
theorem x_sub_ (ha : EX X B ρ a (rI m)) (hb : EX X B ρ b (rI n)) : EX X B ρ (.BinOp a .Sub b pos) (rI (m - n)) := x_op2 op_sub ha hb fun x y H σ Q _ hx hy q => ⟨m, n, hx, hy, q _ H (Ext.refl H) rfl⟩
theorem x_addE {P S : Int → Prop} (ha : EX X B ρ a (iE P)) (hb : EX X B ρ b (iE S)) : EX X B ρ (.BinOp a .Add b pos) (iE fun z => ∃ i j, P i ∧ S j ∧ z = i + j) := x_op2 op_add ha hb fun x y H σ Q _ ⟨i, hi, hx⟩ ⟨j, hj, hy⟩ q => ⟨i, j, hx, hy, q _ H (Ext.refl H) ⟨_, ⟨i, j, hi, hj, rfl⟩, rfl⟩⟩
theorem x_subE {P S : Int → Prop} (ha : EX X B ρ a (iE P)) (hb : EX X B ρ b (iE S)) : EX X B ρ (.BinOp a .Sub b pos) (iE fun z => ∃ i j, P i ∧ S j ∧ z = i - j) := x_op2 op_sub ha hb fun x y H σ Q _ ⟨i, hi, hx⟩ ⟨j, hj, hy⟩ q => ⟨i, j, hx, hy, q _ H (Ext.refl H) ⟨_, ⟨i, j, hi, hj, rfl⟩, rfl⟩⟩
theorem x_mulE {P S : Int → Prop} (ha : EX X B ρ a (iE P)) (hb : EX X B ρ b (iE S)) (hc : ∀ i j, P i → S j → CMul i j) : EX X B ρ (.BinOp a .Mult b pos) (iE fun z => ∃ i j, P i ∧ S j ∧ z = i * j) := x_op2 op_mul ha hb fun x y H σ Q _ ⟨i, hi, hx⟩ ⟨j, hj, hy⟩ q => ⟨i, j, hx, hy, hc i j hi hj, q _ H (Ext.refl H) ⟨_, ⟨i, j, hi, hj, rfl⟩, rfl⟩⟩
theorem x_modE {P S : Int → Prop} (ha : EX X B ρ a (iE P)) (hb : EX X B ρ b (iE S)) (hc : ∀ j, S j → 0 < j) : EX X B ρ (.BinOp a .Mod b pos) (iE fun z => ∃ i j, P i ∧ S j ∧ z = i % j) := x_op2 op_mod ha hb fun x y H σ Q _ ⟨i, hi, hx⟩ ⟨j, hj, hy⟩ q => ⟨i, j, hx, hy, hc j hj, q _ H (Ext.refl H) ⟨_, ⟨i, j, hi, hj, rfl⟩, rfl⟩⟩
theorem x_mod (ha : EX X B ρ a (rI m)) (hb : EX X B ρ b (rI n)) (hc : 0 < n) : EX X B ρ (.BinOp a .Mod b pos) (rI (m % n)) := x_op2 op_mod ha hb fun x y H σ Q _ hx hy q => ⟨m, n, hx, hy, hc, q _ H (Ext.refl H) rfl⟩
theorem x_mul (ha : EX X B ρ a (rI m)) (hb : EX X B ρ b (rI n)) (hc : CMul m n) : EX X B ρ (.BinOp a .Mult b pos) (rI (m * n)) := x_op2 op_mul ha hb fun x y H σ Q _ hx hy q => ⟨m, n, hx, hy, hc, q _ H (Ext.refl H) rfl⟩
theorem x_fdiv (ha : EX X B ρ a (rI m)) (hb : EX X B ρ b (rI n)) (hc : CDiv m n) : EX X B ρ (.BinOp a .FloorDiv b pos) (rI (m / n)) := x_op2 op_fdiv ha hb fun x y H σ Q _ hx hy q => ⟨m, n, hx, hy, hc, q _ H (Ext.refl H) rfl⟩
theorem x_pow (ha : EX X B ρ a (rI m)) (hb : EX X B ρ b (rI n)) (hc : CPow m n) : EX X B ρ (.BinOp a .Pow b pos) (rI (m ^ n.toNat)) := x_op2 op_pow ha hb fun x y H σ Q _ hx hy q => ⟨m, n, hx, hy, hc, q _ H (Ext.refl H) rfl⟩
theorem x_neg (ha : EX X B ρ a (rI m)) : EX X B ρ (.UnaryOp .USub a pos) (rI (-m)) :=
  PE_wk (pe_un un_neg ha) fun σ H Q ⟨s, q⟩ => ⟨s, fun x H1 e1 hx => ⟨m, hx, q _ H1 e1 rfl⟩⟩
theorem x_I (h : EX X B ρ e (rI n)) : EX X B ρ e (iE fun z => z = n) := x_sub h fun v H hv => ⟨n, rfl, hv⟩
theorem x_iE {P S : Int → Prop} (h : EX X B ρ e (iE P)) (w : ∀ z, P z → S z) : EX X B ρ e (iE S) := x_sub h fun v H ⟨z, hz, hv⟩ => ⟨z, w z hz, hv⟩
/-! ### tests and comparisons -/
theorem x_cmp {op : CmpOp} {r : R2} (ho : OpR X (compareOp op) r) (hm : behindInMarks op b = false) (ha : EX X B ρ a Ra) (hb : EX X B ρ b Rb) (h : ∀ x y H σ Q, St B ρ σ H → Ra.p x H → Rb.p y H → (∀ v H', Ext d H H' → R.p v H' → Q v H') → r x y H Q) : EX X B ρ (.Compare a [op] [b] pos) R :=
  PE_wk (pe_cmpR ho ha hb hm) fun σ H Q ⟨s, q⟩ => ⟨s, fun x H1 e1 hx => ⟨s.mono e1, fun y H2 e2 hy => h x y H2 σ Q ((s.mono e1).mono e2) (Ra.st e2 hx) hy fun v H' e' hv => q v H' (e1.trans (e2.trans e')) hv⟩⟩
theorem t_cmp {op : CmpOp} {r : R2} {P : Bool → Prop} (ho : OpR X (compareOp op) r) (hm : behindInMarks op b = false) (ha : EX X B ρ a Ra) (hb : EX X B ρ b Rb) (h : ∀ x y H σ Q, St B ρ σ H → Ra.p x H → Rb.p y H → (∀ k H', Ext d H H' → P k → Q (.bl k) H') → r x y H Q) : TX X B ρ (.Compare a [op] [b] pos) P :=
  PT_wk (pt_cmpR ho ha hb hm) fun σ H Q ⟨s, q⟩ => ⟨s, fun x H1 e1 hx => ⟨s.mono e1, fun y H2 e2 hy => h x y H2 σ _ ((s.mono e1).mono e2) (Ra.st e2 hx) hy fun k H' e' hk => ⟨k, rfl, q k H' (e1.trans (e2.trans e')) hk⟩⟩⟩
abbrev is (k : Bool) : Bool → Prop := fun b => b = k
theorem t_lt (ha : EX X B ρ a (rI m)) (hb : EX X B ρ b (rI n)) : TX X B ρ (.Compare a [.Lt] [b] pos) (is (decide (m < n))) := t_cmp op_lt (nomark _) ha hb fun x y H σ Q _ hx hy q => ⟨m, n, hx, hy, q _ H (Ext.refl H) rfl⟩
theorem t_le (ha : EX X B ρ a (rI m)) (hb : EX X B ρ b (rI n)) : TX X B ρ (.Compare a [.LtE] [b] pos) (is (decide (m ≤ n))) := t_cmp op_le (nomark _) ha hb fun x y H σ Q _ hx hy q => ⟨m, n, hx, hy, q _ H (Ext.refl H) rfl⟩
theorem t_gt (ha : EX X B ρ a (rI m)) (hb : EX X B ρ b (rI n)) : TX X B ρ (.Compare a [.Gt] [b] pos) (is (decide (n < m))) := t_cmp op_gt (nomark _) ha hb fun x y H σ Q _ hx hy q => ⟨m, n, hx, hy, q _ H (Ext.refl H) rfl⟩
theorem t_ge (ha : EX X B ρ a (rI m)) (hb : EX X B ρ b (rI n)) : TX X B ρ (.Compare a [.GtE] [b] pos) (is (decide (n ≤ m))) := t_cmp op_ge (nomark _) ha hb fun x y H σ Q _ hx hy q => ⟨m, n, hx, hy, q _ H (Ext.refl H) rfl⟩
theorem t_eq (ha : EX X B ρ a (rI m)) (hb : EX X B ρ b (rI n)) : TX X B ρ (.Compare a [.Eq] [b] pos) (is (decide (m = n))) := t_cmp op_eq (nomark _) ha hb fun x y H σ Q _ hx hy q => by
  subst hx; subst hy
  exact ⟨rfl, q _ H (Ext.refl H) (by rw [dec_int, Bool.beq_eq_decide_eq])⟩
theorem t_ne (ha : EX X B ρ a (rI m)) (hb : EX X B ρ b (rI n)) : TX X B ρ (.Compare a [.NotEq] [b] pos) (is (!decide (m = n))) := t_cmp op_ne (nomark _) ha hb fun x y H σ Q _ hx hy q => by
  subst hx; subst hy
  exact ⟨rfl, q _ H (Ext.refl H) (by show (!decide (V.int m = V.int n)) = _; rw [dec_int, Bool.beq_eq_decide_eq])⟩
theorem t_val {k : Bool} (h : EX X B ρ e (rB k)) (he : ∀ whole, isTrue e X.env whole = (do let v ← whole; standAt e.pos; holding [v] (truthy v)) := by intro _; rfl) : TX X B ρ e (is k) :=
  PT_wk (pt_val h he) fun σ H Q ⟨s, q⟩ => ⟨s, fun v H' e1 hv => ⟨k, hv, q k H' e1 rfl⟩⟩
theorem t_not {P : Bool → Prop} (h : TX X B ρ e P) : TX X B ρ (.UnaryOp .Not e pos) (fun k => P (!k)) :=
  PT_wk (pt_not h) fun σ H Q ⟨s, q⟩ => ⟨s, fun k H' e1 hk => q (!k) H' e1 (by show P (!!k); rw [Bool.not_not]; exact hk)⟩
theorem t_sub {P S : Bool → Prop} (h : TX X B ρ e P) (w : ∀ k, P k → S k) : TX X B ρ e S := PT_wk h fun σ H Q ⟨s, q⟩ => ⟨s, fun k H' e1 hk => q k H' e1 (w k hk)⟩
theorem w_and1 {P : Bool → Prop} (h : TX X B ρ e P) : WX X B ρ (.BoolOp .And [e] pos) P := pw_and1 h
theorem w_or1 {P : Bool → Prop} (h : TX X B ρ e P) : WX X B ρ (.BoolOp .Or [e] pos) P := pw_or1 h
theorem w_and {P S : Bool → Prop} (h : TX X B ρ a P) (hb : P true → WX X B ρ (.BoolOp .And (b :: es) pos) S) : WX X B ρ (.BoolOp .And (a :: b :: es) pos) (fun k => (P true ∧ S k) ∨ (P false ∧ k = false)) := by
  by_cases hp : P true
  · exact PW_wk (pw_and h (hb hp)) fun σ H Q ⟨s, q⟩ => ⟨s, fun k H' e1 hk => by
      cases k with
      | true => exact iteT ⟨s.mono e1, fun k2 H2 e2 h2 => q k2 H2 (e1.trans e2) (.inl ⟨hp, h2⟩)⟩
      | false => exact iteF (q false H' e1 (.inr ⟨hk, rfl⟩))⟩
  · refine ⟨fun wh pins s σ H Q I ⟨st, q⟩ => ?_⟩
    refine isTrue_and (thn (h.run pins s σ H (fun k H' => k = false ∧ Q k H') I ⟨st, fun k H' e1 hk => ?_⟩) fun k s1 ⟨H1, I1, q1⟩ => ?_)
    · cases k with
      | true => exact absurd hk hp
      | false => exact ⟨rfl, q false H' e1 (.inr ⟨hk, rfl⟩)⟩
    · obtain ⟨rfl, q1⟩ := q1
      exact ⟨H1, I1, q1⟩
theorem w_or {P S : Bool → Prop} (h : TX X B ρ a P) (hb : P false → WX X B ρ (.BoolOp .Or (b :: es) pos) S) : WX X B ρ (.BoolOp .Or (a :: b :: es) pos) (fun k => (P false ∧ S k) ∨ (P true ∧ k = true)) := by
  by_cases hp : P false
  · exact PW_wk (pw_or h (hb hp)) fun σ H Q ⟨s, q⟩ => ⟨s, fun k H' e1 hk => by
      cases k with
      | true => exact iteT (q true H' e1 (.inr ⟨hk, rfl⟩))
      | false => exact iteF ⟨s.mono e1, fun k2 H2 e2 h2 => q k2 H2 (e1.trans e2) (.inl ⟨hp, h2⟩)⟩⟩
  · refine ⟨fun wh pins s σ H Q I ⟨st, q⟩ => ?_⟩
    refine isTrue_or (thn (h.run pins s σ H (fun k H' => k = true ∧ Q k H') I ⟨st, fun k H' e1 hk => ?_⟩) fun k s1 ⟨H1, I1, q1⟩ => ?_)
    · cases k with
      | false => exact absurd hk hp
      | true => exact ⟨rfl, q true H' e1 (.inr ⟨hk, rfl⟩)⟩
    · obtain ⟨rfl, q1⟩ := q1
      exact ⟨H1, I1, q1⟩
theorem t_w {P : Bool → Prop} (h : WX X B ρ e P) : TX X B ρ e P := PW.pt h
end
end Cv

namespace Cv
open PySem PySem.Spec PyProof.Rows L2
section
variable {d : Option Addr} {X : Cx} {B : Hp} {ρ : Ro d} {a b c e : Expr} {es : List Expr} {R R' Ra Rb : Rp d} {Rs : List (Rp d)} {pos : Pos} {m n : Int}
/-! ### arguments, calls -/
theorem a_nil : AX X B ρ [] [] := PA_wk pa_nil fun σ H Q ⟨s, q⟩ => q [] H (Ext.refl H) trivial
theorem a_cons (ha : EX X B ρ e R) (hr : AX X B ρ es Rs) (hs : starEach (e :: es) X.env = (false, eval e X.env) :: starEach es X.env := by rfl) : AX X B ρ (e :: es) (R :: Rs) :=
  PA_wk (pa_cons ha hr hs) fun σ H Q ⟨s, q⟩ => ⟨s, fun v H1 e1 hv => ⟨s.mono e1, fun vs H2 e2 hvs => q (v :: vs) H2 (e1.trans e2) ⟨R.st e2 hv, hvs⟩⟩⟩
/-- a promise: arguments as told by As z, then a result as told by R z (H: the heap at the call) -/
def spP {α : Type} (d : Option Addr) (As : α → List (Rp d)) (R : α → Hp → Rp d) : Sp := fun vs H Q _ => ∃ z : α, RsH (As z) vs H ∧ (∀ a, d = some a → Drw H a) ∧ ∀ v H', Ext d H H' → (R z H).p v H' → Q v H'
theorem x_call {α : Type} {As : α → List (Rp d)} {Rz : α → Hp → Rp d} {x : Str} {p : Pos} {f : Addr} {fd : FuncData} {ps : List Str} {k : Nat} {CX : CXT} {E : XK} (F : FnOk X.prog X.w X.K X.mg X.base CX k f fd ps (spP d As Rz)) (hr : Room k X.A) (hg : Gl X x) (hm : X.mg x = some (.ref f)) (hk : PySem.W.keepIn X.K (.ref f) = true) (hb : Binds X.K fd ps []) (hx : Passes CX X E)
    (z : α) (ha : AX X B ρ (e :: es) (As z)) (hR : ∀ v H H' σ, St B ρ σ H → Ext d H H' → (Rz z H).p v H' → R.p v H')
    (hdb : (x == ("__debug__" : Str)) = false := by decide) (he : starEach (e :: es) X.env = (false, eval e X.env) :: starEach es X.env := by rfl) (hpl : (backTo pos (starEach es X.env)).any (·.1) = false := by rfl) : EX X B ρ (.Call (.Name x p) (e :: es) [] pos) R :=
  PE_wk (pe_call (dvs := []) (E := E) F hr hg hm hk hb .nil hx ha (hdb := hdb) (he := he) (hpl := hpl)) fun σ H Q ⟨s, q⟩ => ⟨s, fun vs H1 e1 hvs => by
    show spP d As Rz (vs ++ []) H1 Q E
    rw [List.append_nil]
    exact ⟨z, hvs, (s.mono e1).dr, fun v H' e2 hv => q v H' (e1.trans e2) (hR v H1 H' σ (s.mono e1) e2 hv)⟩⟩
/-- a built-in by its name -/
theorem x_callB {id : String} {r : List V → Hp → VK → Prop} {x : Str} {p : Pos} (hc : CallR X (.builtin id) r) (hg : Gl X x) (hm : X.mg x = none) (hv : bootBuiltins x = some (.builtin id)) (ha : AX X B ρ (e :: es) Rs)
    (h : ∀ vs H σ Q, St B ρ σ H → RsH Rs vs H → (∀ v H', Ext d H H' → R.p v H' → Q v H') → r vs H Q)
    (hn : x ≠ "__name__" := by decide) (hdb : (x == ("__debug__" : Str)) = false := by decide) (he : starEach (e :: es) X.env = (false, eval e X.env) :: starEach es X.env := by rfl) (hpl : (backTo pos (starEach es X.env)).any (·.1) = false := by rfl) : EX X B ρ (.Call (.Name x p) (e :: es) [] pos) R :=
  PE_wk (pe_callB hc hg hm hv ha hn hdb he hpl) fun σ H Q ⟨s, q⟩ => ⟨s, fun vs H1 e1 hvs => h vs H1 σ Q (s.mono e1) hvs fun v H' e2 hv => q v H' (e1.trans e2) hv⟩
theorem x_callT {T : String} {r : List V → Hp → VK → Prop} {x : Str} {p : Pos} (hc : CallR X (.type T) r) (hg : Gl X x) (hm : X.mg x = none) (hv : bootBuiltins x = some (.type T)) (ha : AX X B ρ (e :: es) Rs)
    (h : ∀ vs H σ Q, St B ρ σ H → RsH Rs vs H → (∀ v H', Ext d H H' → R.p v H' → Q v H') → r vs H Q)
    (hn : x ≠ "__name__" := by decide) (hdb : (x == ("__debug__" : Str)) = false := by decide) (he : starEach (e :: es) X.env = (false, eval e X.env) :: starEach es X.env := by rfl) (hpl : (backTo pos (starEach es X.env)).any (·.1) = false := by rfl) : EX X B ρ (.Call (.Name x p) (e :: es) [] pos) R :=
  PE_wk (pe_callTy hc hg hm hv ha hn hdb he hpl) fun σ H Q ⟨s, q⟩ => ⟨s, fun vs H1 e1 hvs => h vs H1 σ Q (s.mono e1) hvs fun v H' e2 hv => q v H' (e1.trans e2) hv⟩
/-! ### lists and tuples -/
theorem RsH.one {v : List V} {H : Hp} (h : RsH [R] v H) : ∃ x, v = [x] ∧ R.p x H := by
  match v, h with
  | [x], h => exact ⟨x, rfl, h.1⟩
theorem RsH.two {v : List V} {H : Hp} (h : RsH [Ra, Rb] v H) : ∃ x y, v = [x, y] ∧ Ra.p x H ∧ Rb.p y H := by
  match v, h with
  | [x, y], h => exact ⟨x, y, rfl, h.1, h.2.1⟩
theorem x_len_t {ds : List D} {p : Pos} (hg : Gl X "len") (hm : X.mg "len" = none) (h : EX X B ρ e (dat X.K (.t ds))) (he : starEach [e] X.env = (false, eval e X.env) :: starEach [] X.env := by rfl) (hpl : (backTo pos (starEach [] X.env)).any (·.1) = false := by rfl) : EX X B ρ (.Call (.Name "len" p) [e] [] pos) (rI ds.length) :=
  x_callB call_len_seq hg hm PySem.boot_len (a_cons h a_nil he) (fun vs H σ Q s hv q => by
    obtain ⟨x, rfl, hx⟩ := hv.one
    obtain ⟨a, us, rfl, h1, h2⟩ := DR.tup hx
    exact ⟨a, us, rfl, .inr h1, q _ H (Ext.refl H) (by show V.int _ = V.int _; rw [h2.1])⟩) (he := he) (hpl := hpl)
theorem x_len_l {ds : List D} {l : Addr} {p : Pos} (hg : Gl X "len") (hm : X.mg "len" = none) (h : EX X B ρ e (lstA X.K l ds)) (he : starEach [e] X.env = (false, eval e X.env) :: starEach [] X.env := by rfl) (hpl : (backTo pos (starEach [] X.env)).any (·.1) = false := by rfl) : EX X B ρ (.Call (.Name "len" p) [e] [] pos) (rI ds.length) :=
  x_callB call_len_seq hg hm PySem.boot_len (a_cons h a_nil he) (fun vs H σ Q s hv q => by
    obtain ⟨x, rfl, hx⟩ := hv.one
    obtain ⟨rfl, _, us, h1, h2⟩ := hx
    exact ⟨l, us, rfl, .inl h1.sq, q _ H (Ext.refl H) (by show V.int _ = V.int _; rw [h2.1])⟩) (he := he) (hpl := hpl)
/-- the draws' length: some number -/
theorem x_len_d {p : Pos} (hg : Gl X "len") (hm : X.mg "len" = none) (h : EX X B ρ e drw) (he : starEach [e] X.env = (false, eval e X.env) :: starEach [] X.env := by rfl) (hpl : (backTo pos (starEach [] X.env)).any (·.1) = false := by rfl) : EX X B ρ (.Call (.Name "len" p) [e] [] pos) (iE fun _ => True) :=
  x_callB call_len_seq hg hm PySem.boot_len (a_cons h a_nil he) (fun vs H σ Q s hv q => by
    obtain ⟨x, rfl, a, rfl, e⟩ := hv.one
    obtain ⟨ns, _, hn⟩ := s.dr a e
    exact ⟨a, _, rfl, .inl (SqL.of hn), q _ H (Ext.refl H) ⟨_, trivial, rfl⟩⟩) (he := he) (hpl := hpl)
theorem x_lstA {l : Addr} {ds : List D} {K : PySem.W.Frag} (h : EX X B ρ e (own K l ds)) : EX X B ρ e (lstA K l ds) := x_sub h fun v H hv => own_lstA hv
/-- t[i] -/
theorem x_ixt {ds : List D} {j : Int} {w : D} (ha : EX X B ρ a (dat X.K (.t ds))) (hb : EX X B ρ b (rI j)) (hw : atI ds j = some w) (hs : PlainIx b := by exact (fun _ _ => rfl)) : EX X B ρ (.Subscript a b pos) (dat X.K w) :=
  PE_wk (pe_ix ix_tup ha hb hs) fun σ H Q ⟨s, q⟩ => ⟨s, fun x H1 e1 hx => ⟨s.mono e1, fun y H2 e2 hy => by
    obtain ⟨p, us, rfl, h1, h2⟩ := DR.tup hx
    obtain ⟨k, hk, hkw⟩ : ∃ k : Nat, ixN ds.length j = some k ∧ ds[k]? = some w := by
      unfold atI at hw
      cases q' : ixN ds.length j with
      | none => rw [q'] at hw; cases hw
      | some k => rw [q'] at hw; exact ⟨k, rfl, hw⟩
    obtain ⟨v, hv, hr⟩ := h2.get hkw
    refine ⟨p, us, j, v, rfl, hy, e2.tk.sqT h1, ?_, q v H2 (e1.trans e2) (hr.tk e2.tk)⟩
    unfold atI
    rw [← h2.1, hk]
    exact hv⟩⟩
theorem x_ixl {l : Addr} {ds : List D} {j : Int} {w : D} (ha : EX X B ρ a (lstA X.K l ds)) (hb : EX X B ρ b (rI j)) (hw : atI ds j = some w) (hs : PlainIx b := by exact (fun _ _ => rfl)) : EX X B ρ (.Subscript a b pos) (dat X.K w) :=
  PE_wk (pe_ix ix_list ha hb hs) fun σ H Q ⟨s, q⟩ => ⟨s, fun x H1 e1 hx => ⟨s.mono e1, fun y H2 e2 hy => by
    obtain ⟨rfl, hd, us, h1, h2⟩ := hx
    obtain ⟨k, hk, hkw⟩ : ∃ k : Nat, ixN ds.length j = some k ∧ ds[k]? = some w := by
      unfold atI at hw
      cases q' : ixN ds.length j with
      | none => rw [q'] at hw; cases hw
      | some k => rw [q'] at hw; exact ⟨k, rfl, hw⟩
    obtain ⟨v, hv, hr⟩ := h2.get hkw
    refine ⟨l, us, j, v, rfl, hy, (h1.ext e2).sq, ?_, q v H2 (e1.trans e2) (hr.tk e2.tk)⟩
    unfold atI
    rw [← h2.1, hk]
    exact hv⟩⟩
/-- t[i], xs[i], the place only told by P -/
theorem x_ixlE {l : Addr} {ds : List D} {P : Int → Prop} (ha : EX X B ρ a (lstA X.K l ds)) (hb : EX X B ρ b (iE P)) (hw : ∀ j, P j → 0 ≤ j ∧ j < ds.length) (hs : PlainIx b := by exact (fun _ _ => rfl)) : EX X B ρ (.Subscript a b pos) (dE X.K fun w => ∃ k : Nat, P k ∧ ds[k]? = some w) :=
  PE_wk (pe_ix ix_list ha hb hs) fun σ H Q ⟨s, q⟩ => ⟨s, fun x H1 e1 hx => ⟨s.mono e1, fun y H2 e2 hy => by
    obtain ⟨rfl, hd, us, h1, h2⟩ := hx
    obtain ⟨j, hj, hy⟩ := hy
    obtain ⟨h0, hl⟩ := hw j hj
    obtain ⟨k, rfl⟩ : ∃ k : Nat, j = (k : Int) := ⟨j.toNat, by omega⟩
    have hk : k < ds.length := by omega
    obtain ⟨v, hv, hr⟩ := h2.get (List.getElem?_eq_getElem hk)
    exact ⟨l, us, _, v, rfl, hy, (h1.ext e2).sq, atI_nat hv, q v H2 (e1.trans e2) ⟨_, ⟨k, hj, List.getElem?_eq_getElem hk⟩, hr.tk e2.tk⟩⟩⟩⟩
/-- data that is an int, a bool -/
theorem x_dI {K : PySem.W.Frag} (h : EX X B ρ e (dat K (.i n))) : EX X B ρ e (rI n) := x_sub h fun v H hv => by cases hv; rfl
theorem x_dB {K : PySem.W.Frag} {k : Bool} (h : EX X B ρ e (dat K (.b k))) : EX X B ρ e (rB k) := x_sub h fun v H hv => by cases hv; rfl
theorem x_Id {K : PySem.W.Frag} (h : EX X B ρ e (rI n)) : EX X B ρ e (dat K (.i n)) := x_sub h fun v H hv => by cases hv; exact .i n
theorem x_Bd {K : PySem.W.Frag} {k : Bool} (h : EX X B ρ e (rB k)) : EX X B ρ e (dat K (.b k)) := x_sub h fun v H hv => by cases hv; exact .b k
theorem x_dEi {K : PySem.W.Frag} {P : Int → Prop} {S : D → Prop} (h : EX X B ρ e (dE K S)) (w : ∀ z, S z → ∃ n, z = .i n ∧ P n) : EX X B ρ e (iE P) := x_sub h fun v H ⟨z, hz, hv⟩ => by
  obtain ⟨n, rfl, hn⟩ := w z hz
  cases hv
  exact ⟨n, hn, rfl⟩
/-- (a, b, ..) of data -/
def DsH (K : PySem.W.Frag) : List D → List (Rp d)
  | [] => []
  | e :: es => dat K e :: DsH K es
theorem DsH.drl {K : PySem.W.Frag} : ∀ {ds : List D} {vs : List V} {H : Hp}, RsH (DsH (d := d) K ds) vs H → DRl K H ds vs
  | [], [], _, _ => DRl.nil
  | [], _ :: _, _, h => h.elim
  | _ :: _, [], _, h => h.elim
  | e :: ds, v :: vs, H, h => by
    have ih := DsH.drl (ds := ds) (vs := vs) (H := H) h.2
    refine ⟨by simp [ih.1], fun i e' v' a b => ?_⟩
    cases i with
    | zero => cases a; cases b; exact h.1
    | succ i => exact ih.2 i e' v' a b
theorem x_tup {ds : List D} {x1} (h : AX X B ρ es (DsH X.K ds)) (hl : ds.length ≤ 1000 := by first | decide | simp) : EX X B ρ (.Tuple es x1 pos) (dat X.K (.t ds)) :=
  PE_wk (pe_tup h) fun σ H Q ⟨s, q⟩ => ⟨s, fun vs H1 e1 hv => by
    have hd := DsH.drl hv
    refine ⟨by rw [← hd.1]; exact Nat.le_of_lt (small1000 hl), fun p hp => q _ _ (e1.trans (Ext.new hp)) ?_⟩
    exact DR.of_tup (SqT.of upd_same) (hd.tk (Ext.new (d := d) hp).tk)⟩
/-- [a, b, ..] -/
theorem x_lst {ds : List D} (h : AX X B ρ es (DsH X.K ds)) (hl : ds.length ≤ 1000 := by first | decide | simp) : EX X B ρ (.List es pos) (newL B X.K ds) :=
  PE_wk (pe_lst h) fun σ H Q ⟨s, q⟩ => ⟨s, fun vs H1 e1 hv => by
    have hd := DsH.drl hv
    refine ⟨by rw [← hd.1]; exact Nat.le_of_lt (small1000 hl), fun p hp => q _ _ (e1.trans (Ext.new hp)) ?_⟩
    obtain ⟨hB, hpd⟩ := (s.mono e1).fresh hp
    exact ⟨p, hB, rfl, hpd, vs, upd_same, hd.tk (Ext.new (d := d) hp).tk⟩⟩
/-- tuple(xs), list(xs), list(t) -/
theorem x_tuple_l {l : Addr} {ds : List D} {p : Pos} (hg : Gl X "tuple") (hm : X.mg "tuple" = none) (h : EX X B ρ e (lstA X.K l ds)) (he : starEach [e] X.env = (false, eval e X.env) :: starEach [] X.env := by rfl) (hpl : (backTo pos (starEach [] X.env)).any (·.1) = false := by rfl) : EX X B ρ (.Call (.Name "tuple" p) [e] [] pos) (dat X.K (.t ds)) :=
  x_callT call_tuple_of hg hm (by decide +kernel) (a_cons h a_nil he) (fun vs H σ Q s hv q => by
    obtain ⟨x, rfl, hx⟩ := hv.one
    obtain ⟨rfl, _, us, h1, h2⟩ := hx
    exact ⟨l, us, rfl, .inl ⟨h1.sq, fun r hr => q _ _ (Ext.new hr) (DR.of_tup (SqT.of upd_same) (h2.tk (Ext.new (d := d) hr).tk))⟩⟩) (he := he) (hpl := hpl)
theorem x_tuple_lE {S : List D → Prop} {p : Pos} (hg : Gl X "tuple") (hm : X.mg "tuple" = none) (h : EX X B ρ e (newE B X.K S)) (he : starEach [e] X.env = (false, eval e X.env) :: starEach [] X.env := by rfl) (hpl : (backTo pos (starEach [] X.env)).any (·.1) = false := by rfl) : EX X B ρ (.Call (.Name "tuple" p) [e] [] pos) (dE X.K fun w => ∃ ds, S ds ∧ w = .t ds) :=
  x_callT call_tuple_of hg hm (by decide +kernel) (a_cons h a_nil he) (fun vs H σ Q s hv q => by
    obtain ⟨x, rfl, hx⟩ := hv.one
    obtain ⟨ds, hS, l, _, rfl, _, us, h1, h2⟩ := hx
    exact ⟨l, us, rfl, .inl ⟨SqL.of h1, fun r hr => q _ _ (Ext.new hr) ⟨_, ⟨ds, hS, rfl⟩, DR.of_tup (SqT.of upd_same) (h2.tk (Ext.new (d := d) hr).tk)⟩⟩⟩) (he := he) (hpl := hpl)
theorem x_tuple_t {ds : List D} {p : Pos} (hg : Gl X "tuple") (hm : X.mg "tuple" = none) (h : EX X B ρ e (dat X.K (.t ds))) (he : starEach [e] X.env = (false, eval e X.env) :: starEach [] X.env := by rfl) (hpl : (backTo pos (starEach [] X.env)).any (·.1) = false := by rfl) : EX X B ρ (.Call (.Name "tuple" p) [e] [] pos) (dat X.K (.t ds)) :=
  x_callT call_tuple_of hg hm (by decide +kernel) (a_cons h a_nil he) (fun vs H σ Q s hv q => by
    obtain ⟨x, rfl, hx⟩ := hv.one
    obtain ⟨l, us, rfl, h1, h2⟩ := DR.tup hx
    exact ⟨l, us, rfl, .inr ⟨h1, q _ H (Ext.refl H) (DR.of_tup h1 h2)⟩⟩) (he := he) (hpl := hpl)
theorem x_list_l {l : Addr} {ds : List D} {p : Pos} (hg : Gl X "list") (hm : X.mg "list" = none) (h : EX X B ρ e (lstA X.K l ds)) (he : starEach [e] X.env = (false, eval e X.env) :: starEach [] X.env := by rfl) (hpl : (backTo pos (starEach [] X.env)).any (·.1) = false := by rfl) : EX X B ρ (.Call (.Name "list" p) [e] [] pos) (newL B X.K ds) :=
  x_callT call_list_of hg hm (by decide +kernel) (a_cons h a_nil he) (fun vs H σ Q s hv q => by
    obtain ⟨x, rfl, hx⟩ := hv.one
    obtain ⟨rfl, _, us, h1, h2⟩ := hx
    refine ⟨l, us, rfl, .inl h1.sq, fun r hr => q _ _ (Ext.new hr) ?_⟩
    obtain ⟨hB, hpd⟩ := s.fresh hr
    exact ⟨r, hB, rfl, hpd, us, upd_same, h2.tk (Ext.new (d := d) hr).tk⟩) (he := he) (hpl := hpl)
theorem x_list_t {ds : List D} {p : Pos} (hg : Gl X "list") (hm : X.mg "list" = none) (h : EX X B ρ e (dat X.K (.t ds))) (he : starEach [e] X.env = (false, eval e X.env) :: starEach [] X.env := by rfl) (hpl : (backTo pos (starEach [] X.env)).any (·.1) = false := by rfl) : EX X B ρ (.Call (.Name "list" p) [e] [] pos) (newL B X.K ds) :=
  x_callT call_list_of hg hm (by decide +kernel) (a_cons h a_nil he) (fun vs H σ Q s hv q => by
    obtain ⟨x, rfl, hx⟩ := hv.one
    obtain ⟨l, us, rfl, h1, h2⟩ := DR.tup hx
    refine ⟨l, us, rfl, .inr h1, fun r hr => q _ _ (Ext.new hr) ?_⟩
    obtain ⟨hB, hpd⟩ := s.fresh hr
    exact ⟨r, hB, rfl, hpd, us, upd_same, h2.tk (Ext.new (d := d) hr).tk⟩) (he := he) (hpl := hpl)
/-- int(e) -/
theorem x_intE {P : Int → Prop} {p : Pos} (hg : Gl X "int") (hm : X.mg "int" = none) (h : EX X B ρ e (iE P)) (he : starEach [e] X.env = (false, eval e X.env) :: starEach [] X.env := by rfl) (hpl : (backTo pos (starEach [] X.env)).any (·.1) = false := by rfl) : EX X B ρ (.Call (.Name "int" p) [e] [] pos) (iE P) :=
  x_callT call_int1 hg hm (by decide +kernel) (a_cons h a_nil he) (fun vs H σ Q s hv q => by
    obtain ⟨x, rfl, n, hn, rfl⟩ := hv.one
    exact .inl ⟨n, rfl, q _ H (Ext.refl H) ⟨n, hn, rfl⟩⟩) (he := he) (hpl := hpl)
theorem x_int_ {p : Pos} (hg : Gl X "int") (hm : X.mg "int" = none) (h : EX X B ρ e (rI n)) (he : starEach [e] X.env = (false, eval e X.env) :: starEach [] X.env := by rfl) (hpl : (backTo pos (starEach [] X.env)).any (·.1) = false := by rfl) : EX X B ρ (.Call (.Name "int" p) [e] [] pos) (rI n) :=
  x_callT call_int1 hg hm (by decide +kernel) (a_cons h a_nil he) (fun vs H σ Q s hv q => by
    obtain ⟨x, rfl, rfl⟩ := hv.one
    exact .inl ⟨n, rfl, q _ H (Ext.refl H) rfl⟩) (he := he) (hpl := hpl)
/-- a module's constant -/
theorem x_globI {x : Str} {t : Tok} (hg : Gl X x) (hm : X.mg x = some (.int n t)) (hd : (x == ("__debug__" : Str)) = false := by decide) : EX X B ρ (.Name x pos) (rI n) := PE_wk (pe_glob (v := .int n) hg hm ⟨_, rfl⟩ hd) fun σ H Q ⟨s, q⟩ => q _ H (Ext.refl H) rfl
end
end Cv

namespace Cv
open PySem PySem.Spec PyProof.Rows L2
section
variable {d : Option Addr} {X : Cx} {B : Hp} {ρ ρ' : Ro d} {a b c e : Expr} {es : List Expr} {R R' Ra Rb : Rp d} {Rs : List (Rp d)} {pos : Pos} {m n : Int} {st : Stmt} {rest body orelse : List Stmt} {Pre Mid : L2.St → Hp → Prop} {Po : Ends}
/-! ### slots that tell less -/
inductive Sub : Ro d → Ro d → Prop
  | nil : Sub [] []
  | drop {o : Option (Rp d)} {r r' : Ro d} (h : Sub r r') : Sub (o :: r) (none :: r')
  | same {o : Option (Rp d)} {r r' : Ro d} (h : Sub r r') : Sub (o :: r) (o :: r')
  | cons {R R' : Rp d} {r r' : Ro d} (w : ∀ v H, R.p v H → R'.p v H) (h : Sub r r') : Sub (some R :: r) (some R' :: r')
theorem Sub.len {r r' : Ro d} (h : Sub r r') : r.length = r'.length := by
  induction h with
  | nil => rfl
  | drop _ ih => simp [ih]
  | same _ ih => simp [ih]
  | cons _ _ ih => simp [ih]
theorem Sub.get {r r' : Ro d} (h : Sub r r') : ∀ (i : Nat) (R' : Rp d), r'[i]? = some (some R') → ∃ R : Rp d, r[i]? = some (some R) ∧ ∀ v H, R.p v H → R'.p v H := by
  induction h with
  | nil => intro i R' h; cases h
  | drop _ ih =>
    intro i R' h
    cases i with
    | zero => cases h
    | succ i => exact ih i R' h
  | same _ ih =>
    intro i R' h
    cases i with
    | zero => exact ⟨R', h, fun _ _ q => q⟩
    | succ i => exact ih i R' h
  | cons w _ ih =>
    intro i R' h
    cases i with
    | zero => cases h; exact ⟨_, rfl, w⟩
    | succ i => exact ih i R' h
theorem St.sub {σ : L2.St} {H : Hp} (s : St B ρ σ H) (w : Sub ρ ρ') : St B ρ' σ H := ⟨s.ext, s.dr, by rw [s.good.1, w.len], fun i R' h => by
  obtain ⟨R, h1, h2⟩ := w.get i R' h
  obtain ⟨v, h3, h4⟩ := s.good.2 i R h1
  exact ⟨v, h3, h2 v H h4⟩⟩
/-! ### blocks -/
theorem bx_nil (h : ∀ σ H, Pre σ H → Po.nx σ H) : BX X [] Pre Po := PSs_wk pss_nil fun E σ H ⟨p, l⟩ => l.nx σ H (Tk.refl H) (h σ H p)
theorem bx_cons (h1 : SX X st Pre { Po with nx := Mid }) (h2 : BX X rest Mid Po) : BX X (st :: rest) Pre Po :=
  PSs_wk (pss_cons h1 h2) fun E σ H ⟨p, l⟩ => ⟨p, fun σ' H' k q => ⟨q, l.next k⟩, l.rt, l.bk, l.ct⟩
theorem bx_one (h1 : SX X st Pre Po) : BX X [st] Pre Po := pss_one h1
theorem bx_pre {Pre' : L2.St → Hp → Prop} (h : BX X rest Pre' Po) (w : ∀ σ H, Pre σ H → Pre' σ H) : BX X rest Pre Po := PSs_wk h fun E σ H ⟨p, l⟩ => ⟨w σ H p, l⟩
theorem bx_sub (w : Sub ρ ρ') (h : BX X rest (St B ρ') Po) : BX X rest (St B ρ) Po := bx_pre h fun σ H s => s.sub w
theorem bx_ex {α : Type} {P : α → Prop} {Pr : α → L2.St → Hp → Prop} (h : ∀ z, P z → BX X rest (Pr z) Po) : BX X rest (fun σ H => ∃ z, P z ∧ Pr z σ H) Po :=
  ⟨fun pins s σ H E I ⟨⟨z, hz, p⟩, l⟩ => (h z hz).run pins s σ H E I ⟨p, l⟩⟩
theorem bx_and {P : Prop} (h : P → BX X rest Pre Po) : BX X rest (fun σ H => P ∧ Pre σ H) Po := ⟨fun pins s σ H E I ⟨⟨hp, p⟩, l⟩ => (h hp).run pins s σ H E I ⟨p, l⟩⟩
theorem bx_false : BX X rest (fun _ _ => False) Po := ⟨fun pins s σ H E I ⟨p, l⟩ => p.elim⟩
/-- a slot's existential opened -/
theorem bx_open {α : Type} {P : α → Prop} {Rz : α → Rp d} (i : Nat) (hi : ρ[i]? = some (some (exR P Rz))) (h : ∀ z, P z → BX X rest (St B (ρ.set i (some (Rz z)))) Po) : BX X rest (St B ρ) Po := by
  refine ⟨fun pins s σ H E I ⟨p, l⟩ => ?_⟩
  obtain ⟨v, h1, z, hz, h2⟩ := p.good.get hi
  refine (h z hz).run pins s σ H E I ⟨⟨p.ext, p.dr, ?_⟩, l⟩
  have g := p.good.set i (R := Rz z) h2
  have e : σ.set i (some v) = σ := by
    apply List.ext_getElem?
    intro j
    by_cases hij : i = j
    · subst hij
      rw [List.getElem?_set_self (List.getElem?_eq_some_iff.mp h1).1, h1]
    · rw [List.getElem?_set_ne hij]
  rw [e] at g
  exact g
/-- a fact that a slot's reading holds -/
theorem bx_fact {i : Nat} {P : Prop} (hi : ρ[i]? = some (some R)) (w : ∀ v H, R.p v H → P) (h : P → BX X rest (St B ρ) Po) : BX X rest (St B ρ) Po := by
  refine ⟨fun pins s σ H E I ⟨p, l⟩ => ?_⟩
  obtain ⟨v, h1, h2⟩ := p.good.get hi
  exact (h (w v H h2)).run pins s σ H E I ⟨p, l⟩
/-! ### statements -/
theorem s_set (i : Nat) {x : Str} {pos' : Pos} (he : EX X B ρ e R) (hN : X.N.Nodup) (hi : X.N[i]? = some x := by rfl) (hx : Loc X.env.scope x := by first | exact Or.inl rfl | exact Or.inr rfl) (hs : swapsWith e (some (.Name x pos')) pos.line X.env = pure false := by rfl)
    (hf : X.fn x = true ∨ X.env.scope.names.lookup x = some .local := by first | exact .inl rfl | exact .inr rfl | assumption) : SX X (.Assign [.Name x pos'] e pos) (St B ρ) { Po with nx := St B (ρ.set i (some R)) } :=
  PS_wk (ps_set hN hi hx he hs hf) fun E σ H ⟨s, l⟩ => ⟨s, fun v H' e1 hv => l.nx _ H' e1.tk ⟨s.ext.trans e1, (s.mono e1).dr, (s.mono e1).good.set i hv⟩⟩
theorem bx_set (i : Nat) {x : Str} {pos' : Pos} (he : EX X B ρ e R) (h : BX X rest (St B (ρ.set i (some R))) Po) (hN : X.N.Nodup) (hi : X.N[i]? = some x := by rfl) (hx : Loc X.env.scope x := by first | exact Or.inl rfl | exact Or.inr rfl) (hs : swapsWith e (some (.Name x pos')) pos.line X.env = pure false := by rfl)
    (hf : X.fn x = true ∨ X.env.scope.names.lookup x = some .local := by first | exact .inl rfl | exact .inr rfl | assumption) : BX X (.Assign [.Name x pos'] e pos :: rest) (St B ρ) Po := bx_cons (s_set i he hN hi hx hs hf) h
theorem bx_setLast (i : Nat) {x : Str} {pos' : Pos} (he : EX X B ρ e R) (h : ∀ σ H, St B (ρ.set i (some R)) σ H → Po.nx σ H) (hN : X.N.Nodup) (hi : X.N[i]? = some x := by rfl) (hx : Loc X.env.scope x := by first | exact Or.inl rfl | exact Or.inr rfl) (hs : swapsWith e (some (.Name x pos')) pos.line X.env = pure false := by rfl)
    (hf : X.fn x = true ∨ X.env.scope.names.lookup x = some .local := by first | exact .inl rfl | exact .inr rfl | assumption) : BX X [.Assign [.Name x pos'] e pos] (St B ρ) Po := bx_set i he (bx_nil h) hN hi hx hs hf
theorem bx_expr (he : EX X B ρ e R) (h : BX X rest (St B ρ) Po) (hs : swapsWith e none pos.line X.env = pure false := by rfl) : BX X (.Expr e pos :: rest) (St B ρ) Po :=
  bx_cons (PS_wk (ps_expr he hs) fun E σ H ⟨s, l⟩ => ⟨s, fun v H' e1 hv => l.nx σ H' e1.tk (s.mono e1)⟩) h
theorem bx_ret (he : EX X B ρ e R) (h : ∀ v σ H, St B ρ σ H → R.p v H → Po.rt v H) : BX X (.Return (some e) pos :: rest) (St B ρ) Po :=
  bx_cons (Mid := fun _ _ => False) (PS_wk (ps_ret he) fun E σ H ⟨s, l⟩ => ⟨s, fun v H' e1 hv => l.rt v H' e1.tk (h v σ H' (s.mono e1) hv)⟩) bx_false
/-- if c: body (that leaves); then the rest -/
theorem bx_ifret {P : Bool → Prop} (hc : TX X B ρ c P) (h1 : P true → BX X body (St B ρ) { Po with nx := fun _ _ => False }) (h2 : P false → BX X rest (St B ρ) Po) : BX X (.If c body [] pos :: rest) (St B ρ) Po := by
  refine bx_cons (Mid := fun σ H => P false ∧ St B ρ σ H) ?_ (bx_and h2)
  by_cases hp : P true
  · refine PS_wk (ps_if hc (h1 hp) pss_nil) fun E σ H ⟨s, l⟩ => ⟨s, fun k H' e1 hk => ?_⟩
    cases k with
    | true => exact iteT ⟨s.mono e1, ⟨fun _ _ _ q => q.elim, fun v H2 k2 q => l.rt v H2 (e1.tk.trans k2) q, fun σ2 H2 k2 q => l.bk σ2 H2 (e1.tk.trans k2) q, fun σ2 H2 k2 q => l.ct σ2 H2 (e1.tk.trans k2) q⟩⟩
    | false => exact iteF (l.nx σ H' e1.tk ⟨hk, s.mono e1⟩)
  · refine PS_wk (ps_if (PT_wk hc (t' := fun σ H Q => St B ρ σ H ∧ ∀ H', Ext d H H' → P false → Q false H') fun σ H Q ⟨s, q⟩ => ⟨s, fun k H' e1 hk => by
      cases k with
      | true => exact absurd hk hp
      | false => exact q H' e1 hk⟩) (pss_never (X := X)) pss_nil) fun E σ H ⟨s, l⟩ => ⟨s, fun H' e1 hk => iteF (l.nx σ H' e1.tk ⟨hk, s.mono e1⟩)⟩
/-- if c: body else: orelse, both to Mid -/
theorem bx_if {P : Bool → Prop} (Mid : L2.St → Hp → Prop) (hc : TX X B ρ c P) (h1 : P true → BX X body (St B ρ) { Po with nx := Mid }) (h2 : P false → BX X orelse (St B ρ) { Po with nx := Mid }) (h3 : BX X rest Mid Po) : BX X (.If c body orelse pos :: rest) (St B ρ) Po := by
  refine bx_cons (Mid := Mid) ?_ h3
  refine ⟨fun pins s σ H E I ⟨st, l⟩ => ?_⟩
  refine wpAny_If (thn (hc.run pins s σ H (fun k H' => Ext d H H' ∧ P k) I ⟨st, fun k H' e1 hk => ⟨e1, hk⟩⟩) fun k s1 ⟨H1, I1, e1, hk⟩ => ?_)
  have l1 : Le H1 { Po with nx := Mid } E := l.next e1.tk
  cases k with
  | true => exact (h1 hk).run pins s1 σ H1 E I1 ⟨st.mono e1, l1⟩
  | false => exact (h2 hk).run pins s1 σ H1 E I1 ⟨st.mono e1, l1⟩
/-! ### a def -/
def Rt (B : Hp) (R : Rp d) : Ends := { nx := fun _ H => Ext d B H ∧ R.p .non H, rt := fun v H => Ext d B H ∧ R.p v H }
theorem bx_retR (he : EX X B ρ e R) (hp : Po.rt = fun v H => Ext d B H ∧ R.p v H) : BX X (.Return (some e) pos :: rest) (St B ρ) Po := bx_ret he fun v σ H s hv => by rw [hp]; exact ⟨s.ext, hv⟩
def ro (Rs : List (Rp d)) (k : Nat) : Ro d := Rs.map some ++ List.replicate k none
theorem RsH.len : ∀ {Rs : List (Rp d)} {vs : List V} {H : Hp}, RsH Rs vs H → vs.length = Rs.length
  | [], [], _, _ => rfl
  | [], _ :: _, _, h => h.elim
  | _ :: _, [], _, h => h.elim
  | _ :: _, _ :: _, _, h => by simp [RsH.len h.2]
theorem RsH.get : ∀ {Rs : List (Rp d)} {vs : List V} {H : Hp} {i : Nat} {R : Rp d}, RsH Rs vs H → Rs[i]? = some R → ∃ v, vs[i]? = some v ∧ R.p v H
  | [], _, _, _, _, _, h => by simp at h
  | _ :: _, [], _, _, _, h, _ => h.elim
  | R :: Rs, v :: vs, H, 0, R', h, e => by cases e; exact ⟨v, rfl, h.1⟩
  | R :: Rs, v :: vs, H, i + 1, R', h, e => RsH.get (Rs := Rs) (vs := vs) h.2 e
theorem st_start {N : List Str} {vs : List V} {H : Hp} (h : RsH Rs vs H) (hl : Rs.length ≤ N.length) (dr : ∀ a, d = some a → Drw H a) : St H (ro Rs (N.length - Rs.length)) (L2.start N vs) H := by
  refine ⟨Ext.refl H, dr, ?_, fun i R e => ?_⟩
  · unfold L2.start ro
    rw [List.length_append, List.length_append, List.length_map, List.length_map, List.length_replicate, List.length_replicate, h.len]
  · unfold ro at e
    by_cases hi : i < Rs.length
    · rw [List.getElem?_append_left (by simpa using hi), List.getElem?_map] at e
      cases q : Rs[i]? with
      | none => rw [q] at e; cases e
      | some R0 =>
        rw [q] at e
        have e' : R0 = R := Option.some.inj (Option.some.inj e)
        subst e'
        obtain ⟨v, h1, h2⟩ := h.get q
        refine ⟨v, ?_, h2⟩
        unfold L2.start
        rw [List.getElem?_append_left (by rw [List.length_map, h.len]; exact hi), List.getElem?_map, h1]
        rfl
    · rw [List.getElem?_append_right (by simpa using Nat.le_of_not_lt hi), List.getElem?_replicate] at e
      split at e <;> cases e
variable {Pg : Program} {w : World} {K : PySem.W.Frag} {mg : Str → Option Value} {base : Heap}
theorem fn_ok {α : Type} {As : α → List (Rp d)} {Rz : α → Hp → Rp d} {x qual : Str} {sd : Stmt} {f : Addr} {fd : FuncData} {N ps : List Str} {k : Nat} (F : Fun K x qual sd f fd) (S : FnScope N ps (defScope sd)) (hl : ∀ z, (As z).length = ps.length) (hN : ps.length ≤ N.length)
    (body : ∀ (z : α) (H : Hp) (cdv : Value) (A : Around) (outer : List Env) (s : Shared) (E : XK), Room k (A.deeper (envOfC qual (defScope sd) s.heap.objs.size f cdv)) →
      BX (cxOf CX0 Pg w K mg base N qual (defScope sd) f cdv A outer s H E).nox (defBody sd) (St H (ro (As z) (N.length - (As z).length))) (Rt H (Rz z H))) : FnOk Pg w K mg base CX0 (k + 1) f fd ps (spP d As Rz) := by
  refine F.ok S (fun vs H Q E ⟨z, h, _⟩ => by rw [h.len, hl]) (fun cdv A outer s H vs Q E hr h => ?_)
  obtain ⟨z, hz, dr, q⟩ := h
  refine ⟨_, body z H cdv A outer s E hr, st_start hz (by rw [hl]; exact hN) dr, ?_⟩
  exact ⟨fun σ' H' _ ⟨e1, h1⟩ => q _ H' e1 h1, fun v H' _ ⟨e1, h1⟩ => q v H' e1 h1, fun _ _ _ h => h.elim, fun _ _ _ h => h.elim⟩
end
end Cv

namespace Cv
open PySem PySem.Spec PyProof.Rows L2 RZ
section
variable {d : Option Addr} {X : Cx} {B : Hp} {ρ ρ' : Ro d} {a b c e iter : Expr} {es : List Expr} {R R' Ra Rb : Rp d} {Rs : List (Rp d)} {pos : Pos} {m n : Int} {st : Stmt} {rest body orelse : List Stmt} {Pre Mid : L2.St → Hp → Prop} {Po : Ends}
/-! ### loops -/
/-- the state between two turns: some z with P z, the slots as r z -/
def IS {α : Type} (B : Hp) (P : α → Prop) (r : α → Ro d) : L2.St → Hp → Prop := fun σ H => ∃ z, P z ∧ St B (r z) σ H
def Lp (Po : Ends) (I : L2.St → Hp → Prop) (M : L2.St → Hp → Prop) : Ends := { nx := I, rt := Po.rt, bk := M, ct := I }
def tBody {Z : Type} (B : Hp) (pr : Z → Ro d) (S : Z → Prop) (po : Z → Ends) : TS := fun E σ H => ∃ z, S z ∧ St B (pr z) σ H ∧ Le H (po z) E
theorem bx_forT {α : Type} {ds : List D} (j : Nat) {x : Str} {tpos : Pos} (P : Nat → α → Prop) (r : Nat → α → Ro d) (hi : EX X B ρ iter (dat X.K (.t ds))) (h0 : ∀ σ H, St B ρ σ H → IS B (P 0) (r 0) σ H)
    (hb : ∀ i w z, ds[i]? = some w → P i z → BX X body (St B ((r i z).set j (some (dat X.K w)))) (Lp Po (IS B (P (i + 1)) (r (i + 1))) (IS B (P ds.length) (r ds.length)))) (h : BX X rest (IS B (P ds.length) (r ds.length)) Po)
    (hN : X.N.Nodup) (hp : PassesOwn (model X.prog X.w) X.A X.env X.xe) (hj : X.N[j]? = some x := by rfl) (hc : X.calm = true := by rfl) (hx : Loc X.env.scope x := by first | exact Or.inl rfl | exact Or.inr rfl)
    (hf : X.fn x = true ∨ X.env.scope.names.lookup x = some .local := by first | exact .inl rfl | exact .inr rfl | assumption) (hs : ∀ x, foldedSetIterable iter X.env x = pure x := by intro _; rfl) : BX X (.For (.Name x tpos) iter body [] pos :: rest) (St B ρ) Po := by
  refine bx_cons (Mid := IS B (P ds.length) (r ds.length)) ?_ h
  refine PS_wk (t := tFor (iTup X.K fun σ H Q => St B ρ σ H ∧ ∀ v H', Ext d H H' → (dat X.K (.t ds)).p v H' → Q v H') (gName j) (tBody (Z := Nat × D × α) B (fun z => (r z.1 z.2.2).set j (some (dat X.K z.2.1))) (fun z => ds[z.1]? = some z.2.1 ∧ P z.1 z.2.2) (fun z => Lp Po (IS B (P (z.1 + 1)) (r (z.1 + 1))) (IS B (P ds.length) (r ds.length)))))
    (ps_for hp hc (pi_tup hi) (pg_name hN hj hx hf) ⟨fun pins s σ H E I ⟨⟨i, w, z⟩, ⟨hw, hz⟩, q, l⟩ => (hb i w z hw hz).run pins s σ H E I ⟨q, l⟩⟩ hs) fun E σ H ⟨s, l⟩ => ⟨s, fun v H1 e1 hv => ?_⟩
  obtain ⟨t, us, rfl, h1, h2⟩ := DR.tup hv
  refine ⟨t, rfl, ⟨us, h1⟩, for_tup (K := X.K) (a := t) (xs := us) (g := gName j) (tb := tBody (Z := Nat × D × α) B (fun z => (r z.1 z.2.2).set j (some (dat X.K z.2.1))) (fun z => ds[z.1]? = some z.2.1 ∧ P z.1 z.2.2) (fun z => Lp Po (IS B (P (z.1 + 1)) (r (z.1 + 1))) (IS B (P ds.length) (r ds.length)))) (fun i σ H => Tk H1 H ∧ IS B (P i) (r i) σ H) ⟨Tk.refl _, h0 _ _ (s.mono e1)⟩ (fun i σ H _ q => q.1.sqT h1) (fun i x σ H hx ⟨k, z, hz, q⟩ => ?_) (fun σ H ⟨k, q⟩ => l.nx σ H (e1.tk.trans k) (by rw [h2.1]; exact q))⟩
  obtain ⟨w, hw, hr⟩ := h2.getV hx
  refine ⟨(i, w, z), ⟨hw, hz⟩, ⟨q.ext, q.dr, q.good.set j (hr.tk k)⟩, ?_⟩
  refine ⟨fun σ' H' k' q' => ⟨k.trans k', q'⟩, fun v H' k' q' => l.rt v H' ((e1.tk.trans k).trans k') q', fun σ' H' k' q' => l.nx σ' H' ((e1.tk.trans k).trans k') q', fun σ' H' k' q' => ⟨k.trans k', q'⟩⟩
/-- over a list at l that the body leaves (the slots tell so: SqL) -/
theorem bx_forL {α : Type} {ds : List D} {la : Addr} (j : Nat) {x : Str} {tpos : Pos} (P : Nat → α → Prop) (r : Nat → α → Ro d) (hi : EX X B ρ iter (lstA X.K la ds)) (h0 : ∀ σ H, St B ρ σ H → IS B (P 0) (r 0) σ H)
    (hl : ∀ i z, P i z → ∃ (k : Nat) (R : Rp d), (r i z)[k]? = some (some R) ∧ ∀ v H, R.p v H → (lstA (d := d) X.K la ds).p v H)
    (hb : ∀ i w z, ds[i]? = some w → P i z → BX X body (St B ((r i z).set j (some (dat X.K w)))) (Lp Po (IS B (P (i + 1)) (r (i + 1))) (IS B (P ds.length) (r ds.length)))) (h : BX X rest (IS B (P ds.length) (r ds.length)) Po)
    (hN : X.N.Nodup) (hp : PassesOwn (model X.prog X.w) X.A X.env X.xe) (hj : X.N[j]? = some x := by rfl) (hc : X.calm = true := by rfl) (hx : Loc X.env.scope x := by first | exact Or.inl rfl | exact Or.inr rfl)
    (hf : X.fn x = true ∨ X.env.scope.names.lookup x = some .local := by first | exact .inl rfl | exact .inr rfl | assumption) (hs : ∀ x, foldedSetIterable iter X.env x = pure x := by intro _; rfl) : BX X (.For (.Name x tpos) iter body [] pos :: rest) (St B ρ) Po := by
  refine bx_cons (Mid := IS B (P ds.length) (r ds.length)) ?_ h
  refine PS_wk (t := tFor (iList X.K fun σ H Q => St B ρ σ H ∧ ∀ v H', Ext d H H' → (lstA X.K la ds).p v H' → Q v H') (gName j) (tBody (Z := Nat × D × α) B (fun z => (r z.1 z.2.2).set j (some (dat X.K z.2.1))) (fun z => ds[z.1]? = some z.2.1 ∧ P z.1 z.2.2) (fun z => Lp Po (IS B (P (z.1 + 1)) (r (z.1 + 1))) (IS B (P ds.length) (r ds.length)))))
    (ps_for hp hc (pi_list hi) (pg_name hN hj hx hf) ⟨fun pins s σ H E I ⟨⟨i, w, z⟩, ⟨hw, hz⟩, q, l⟩ => (hb i w z hw hz).run pins s σ H E I ⟨q, l⟩⟩ hs) fun E σ H ⟨s, l⟩ => ⟨s, fun v H1 e1 hv => ?_⟩
  obtain ⟨rfl, hld, us, h1, h2⟩ := hv
  have still : ∀ i σ H, Tk H1 H ∧ IS B (P i) (r i) σ H ∧ SqL X.K H la us → SqL X.K H la us := fun i σ H q => q.2.2
  -- the list as the slots tell it is the same list: its items are those of us
  refine ⟨la, rfl, ⟨us, h1.sq⟩, ?_⟩
  have key : ∀ i σ H, IS B (P i) (r i) σ H → ∃ vs, SqL X.K H la vs ∧ DRl X.K H ds vs := fun i σ H ⟨z, hz, q⟩ => by
    obtain ⟨k, R, hk, hR⟩ := hl i z hz
    obtain ⟨v, _, g⟩ := q.good.get hk
    obtain ⟨_, _, vs, a1, a2⟩ := hR v H g
    exact ⟨vs, a1.sq, a2⟩
  refine ⟨fun i m σ H => m = ds.length - i ∧ i ≤ ds.length ∧ Tk H1 H ∧ IS B (P i) (r i) σ H, ⟨ds.length, rfl, Nat.zero_le _, Tk.refl _, h0 _ _ (s.mono e1)⟩, ?_⟩
  rintro i m σ H ⟨rfl, hi', k, q⟩
  obtain ⟨vs, a1, a2⟩ := key i σ H q
  by_cases hlt : i < ds.length
  · have hv : i < vs.length := by rw [← a2.1]; exact hlt
    refine .inr ⟨⟨vs, vs[i], a1, List.getElem?_eq_getElem hv⟩, fun σ' H' => Tk H1 H' ∧ IS B (P (i + 1)) (r (i + 1)) σ' H', fun σ' H' p' => ⟨ds.length - (i + 1), by omega, rfl, hlt, p'.1, p'.2⟩, fun x H' y => ?_⟩
    obtain ⟨rfl, y⟩ := y
    obtain ⟨w, hw, hr⟩ := a2.getV (y vs a1)
    obtain ⟨z, hz, q⟩ := q
    refine ⟨(i, w, z), ⟨hw, hz⟩, ⟨q.ext, q.dr, q.good.set j hr⟩, ?_⟩
    exact ⟨fun σ' H' k' q' => ⟨k.trans k', q'⟩, fun v H' k' q' => l.rt v H' ((e1.tk.trans k).trans k') q', fun σ' H' k' q' => l.nx σ' H' ((e1.tk.trans k).trans k') q', fun σ' H' k' q' => ⟨k.trans k', q'⟩⟩
  · have e : i = ds.length := by omega
    subst e
    exact .inl ⟨⟨vs, a1, by rw [← a2.1]; exact Nat.le_refl _⟩, l.nx σ H (e1.tk.trans k) q⟩
/-- for x in range(n) -/
theorem bx_forR {α : Type} {nn : Int} (j : Nat) {x : Str} {tpos p p2 : Pos} (P : Nat → α → Prop) (r : Nat → α → Ro d) (hg : Gl X "range") (hm : X.mg "range" = none) (hi : EX X B ρ e (rI nn)) (hn : nn < 2 ^ 62 ∧ -(2 ^ 62) ≤ nn) (h0 : ∀ σ H, St B ρ σ H → IS B (P 0) (r 0) σ H)
    (hb : ∀ (i : Nat) z, (i : Int) < nn → P i z → BX X body (St B ((r i z).set j (some (rI (i : Int))))) (Lp Po (IS B (P (i + 1)) (r (i + 1))) (IS B (P nn.toNat) (r nn.toNat)))) (h : BX X rest (IS B (P nn.toNat) (r nn.toNat)) Po)
    (hN : X.N.Nodup) (hp : PassesOwn (model X.prog X.w) X.A X.env X.xe) (hj : X.N[j]? = some x := by rfl) (hc : X.calm = true := by rfl) (hx : Loc X.env.scope x := by first | exact Or.inl rfl | exact Or.inr rfl)
    (hf : X.fn x = true ∨ X.env.scope.names.lookup x = some .local := by first | exact .inl rfl | exact .inr rfl | assumption) (he : starEach [e] X.env = [(false, eval e X.env)] := by rfl) (hs : ∀ x, foldedSetIterable (.Call (.Name "range" p) [e] [] p2) X.env x = pure x := by intro _; rfl) :
    BX X (.For (.Name x tpos) (.Call (.Name "range" p) [e] [] p2) body [] pos :: rest) (St B ρ) Po := by
  refine bx_cons (Mid := IS B (P nn.toNat) (r nn.toNat)) ?_ h
  refine PS_wk (t := tFor (iRng1 fun σ H Q => St B ρ σ H ∧ ∀ vs H', Ext d H H' → RsH [rI nn] vs H' → Q vs H') (gName j) (tBody (Z := Nat × α) B (fun z => (r z.1 z.2).set j (some (rI (z.1 : Int)))) (fun z => (z.1 : Int) < nn ∧ P z.1 z.2) (fun z => Lp Po (IS B (P (z.1 + 1)) (r (z.1 + 1))) (IS B (P nn.toNat) (r nn.toNat)))))
    (ps_for hp hc (pi_range1 hg hm (a_cons hi a_nil he) he) (pg_name hN hj hx hf) ⟨fun pins s σ H E I ⟨⟨i, z⟩, ⟨hw, hz⟩, q, l⟩ => (hb i z hw hz).run pins s σ H E I ⟨q, l⟩⟩ hs) fun E σ H ⟨s, l⟩ => ⟨s, fun vs H1 e1 hv => ?_⟩
  obtain ⟨v, rfl, hv'⟩ := hv.one
  obtain rfl : v = .int nn := hv'
  refine ⟨nn, rfl, hn.2, hn.1, for_range (lo := 0) (n := nn.toNat) (g := gName j) (tb := tBody (Z := Nat × α) B (fun z => (r z.1 z.2).set j (some (rI (z.1 : Int)))) (fun z => (z.1 : Int) < nn ∧ P z.1 z.2) (fun z => Lp Po (IS B (P (z.1 + 1)) (r (z.1 + 1))) (IS B (P nn.toNat) (r nn.toNat)))) (fun i σ H => Tk H1 H ∧ IS B (P i) (r i) σ H) ⟨Tk.refl _, h0 _ _ (s.mono e1)⟩ (fun i σ H hlt ⟨k, z, hz, q⟩ => ?_) (fun σ H ⟨k, q⟩ => l.nx σ H (e1.tk.trans k) q)⟩
  refine ⟨(i, z), ⟨(by show (i : Int) < nn; omega), hz⟩, ⟨q.ext, q.dr, ?_⟩, ?_⟩
  · rw [Int.zero_add]
    exact q.good.set j (R := rI (i : Int)) (v := .int (i : Int)) rfl
  · exact ⟨fun σ' H' k' q' => ⟨k.trans k', q'⟩, fun v H' k' q' => l.rt v H' ((e1.tk.trans k).trans k') q', fun σ' H' k' q' => l.nx σ' H' ((e1.tk.trans k).trans k') q', fun σ' H' k' q' => ⟨k.trans k', q'⟩⟩
/-- for x, y in zip(t, u), two tuples of one length -/
theorem bx_forZ {α : Type} {ds es' : List D} (j k : Nat) {x y : Str} {kk : Nat} {tpos p1 p2 p p3 : Pos} (P : Nat → α → Prop) (r : Nat → α → Ro d) (hg : Gl X "zip") (hm : X.mg "zip" = none) (ha : EX X B ρ a (dat X.K (.t ds))) (hb' : EX X B ρ b (dat X.K (.t es'))) (hlen : ds.length = es'.length) (h0 : ∀ σ H, St B ρ σ H → IS B (P 0) (r 0) σ H)
    (hb : ∀ (i : Nat) w u z, ds[i]? = some w → es'[i]? = some u → P i z → BX X body (St B (((r i z).set j (some (dat X.K w))).set k (some (dat X.K u)))) (Lp Po (IS B (P (i + 1)) (r (i + 1))) (IS B (P ds.length) (r ds.length)))) (h : BX X rest (IS B (P ds.length) (r ds.length)) Po)
    (hN : X.N.Nodup) (hp : PassesOwn (model X.prog X.w) X.A X.env X.xe) (hj : X.N[j]? = some x := by rfl) (hk : X.N[k]? = some y := by rfl) (hc : X.calm = true := by rfl) (hx : Loc X.env.scope x := by first | exact Or.inl rfl | exact Or.inr rfl) (hy : Loc X.env.scope y := by first | exact Or.inl rfl | exact Or.inr rfl)
    (hf : X.fn x = true ∨ X.env.scope.names.lookup x = some .local := by first | exact .inl rfl | exact .inr rfl | assumption) (hfy : X.fn y = true ∨ X.env.scope.names.lookup y = some .local := by first | exact .inl rfl | exact .inr rfl | assumption)
    (he : starEach [a, b] X.env = (false, eval a X.env) :: starEach [b] X.env := by rfl) (he2 : starEach [b] X.env = (false, eval b X.env) :: starEach [] X.env := by rfl) (hpl : (backTo p3 (starEach [b] X.env)).any (·.1) = false := by rfl)
    (hs : ∀ x, foldedSetIterable (.Call (.Name "zip" p) [a, b] [] p3) X.env x = pure x := by intro _; rfl) :
    BX X (.For (.Tuple [.Name x p1, .Name y p2] kk tpos) (.Call (.Name "zip" p) [a, b] [] p3) body [] pos :: rest) (St B ρ) Po := by
  refine bx_cons (Mid := IS B (P ds.length) (r ds.length)) ?_ h
  refine PS_wk (t := tFor (iZipA X.K fun σ H Q => St B ρ σ H ∧ ∀ vs H', Ext d H H' → RsH [dat X.K (.t ds), dat X.K (.t es')] vs H' → Q vs H') (gTup X.K 2 (gCons (gName j) (gCons (gName k) gNil))) (tBody (Z := Nat × D × D × α) B (fun z => ((r z.1 z.2.2.2).set j (some (dat X.K z.2.1))).set k (some (dat X.K z.2.2.1))) (fun z => ds[z.1]? = some z.2.1 ∧ es'[z.1]? = some z.2.2.1 ∧ P z.1 z.2.2.2) (fun z => Lp Po (IS B (P (z.1 + 1)) (r (z.1 + 1))) (IS B (P ds.length) (r ds.length)))))
    (ps_for hp hc (pi_zipA hg hm (a_cons ha (a_cons hb' a_nil he2) he) he hpl) (pg_tup hc (pgs_cons (pg_name hN hj hx hf) (pgs_cons (pg_name hN hk hy hfy) pgs_nil))) ⟨fun pins s σ H E I ⟨⟨i, w, u, z⟩, ⟨hw, hu, hz⟩, q, l⟩ => (hb i w u z hw hu hz).run pins s σ H E I ⟨q, l⟩⟩ hs) fun E σ H ⟨s, l⟩ => ⟨s, fun vs H1 e1 hv => ?_⟩
  obtain ⟨v, v2, rfl, hv', hv2⟩ := hv.two
  obtain ⟨t, us, rfl, h1, h2⟩ := DR.tup hv'
  obtain ⟨t2, us2, rfl, h3, h4⟩ := DR.tup hv2
  have hl : us.length = us2.length := by rw [← h2.1, ← h4.1]; exact hlen
  refine ⟨t, t2, us, us2, rfl, .inr ⟨h1, h3, for_zipT (K := X.K) (a := t) (b := t2) (xs := us) (ys := us2) (g := gTup X.K 2 (gCons (gName j) (gCons (gName k) gNil))) (tb := tBody (Z := Nat × D × D × α) B (fun z => ((r z.1 z.2.2.2).set j (some (dat X.K z.2.1))).set k (some (dat X.K z.2.2.1))) (fun z => ds[z.1]? = some z.2.1 ∧ es'[z.1]? = some z.2.2.1 ∧ P z.1 z.2.2.2) (fun z => Lp Po (IS B (P (z.1 + 1)) (r (z.1 + 1))) (IS B (P ds.length) (r ds.length)))) hl (fun i σ H => Tk H1 H ∧ IS B (P i) (r i) σ H) ⟨Tk.refl _, h0 _ _ (s.mono e1)⟩ (fun i σ H q => ⟨q.1.sqT h1, q.1.sqT h3⟩) (fun i x' y' T σ H hx hy ⟨kk, z, hz, q⟩ hT => ?_) (fun σ H ⟨kk, q⟩ => l.nx σ H (e1.tk.trans kk) (by rw [h2.1]; exact q))⟩⟩
  obtain ⟨w, hw, hr⟩ := h2.getV hx
  obtain ⟨u, hu, hr2⟩ := h4.getV hy
  have eT : Ext d H (upd H T (.tup [x', y'])) := Ext.new hT
  have kT := kk.trans eT.tk
  refine ⟨T, [x', y'], rfl, SqT.of upd_same, rfl, x', [y'], rfl, y', [], rfl, rfl, (i, w, u, z), ⟨hw, hu, hz⟩, ⟨(q.mono eT).ext, (q.mono eT).dr, ((q.mono eT).good.set j (R := dat X.K w) (hr.tk kT)).set k (R := dat X.K u) (hr2.tk kT)⟩, ?_⟩
  exact ⟨fun σ' H' k' q' => ⟨kT.trans k', q'⟩, fun v H' k' q' => l.rt v H' ((e1.tk.trans kT).trans k') q', fun σ' H' k' q' => l.nx σ' H' ((e1.tk.trans kT).trans k') q', fun σ' H' k' q' => ⟨kT.trans k', q'⟩⟩
end
end Cv

namespace Cv
open PySem PySem.Spec PyProof.Rows L2 RZ
open AutoSeq1 (wpAny_loadPart')
/-! ### xs[i] by values -/
theorem get_list {X : Cx} : PGet X (rIxL X.K) := by
  intro pins s σ H o i ov iv Q I ro ri h
  obtain ⟨p, xs, k, z, rfl, rfl, hq, he, q⟩ := h
  cases ro
  obtain ⟨t, rfl⟩ := ri
  obtain ⟨its, r, pl, hz⟩ := I.list hq
  obtain ⟨j, h1, h2, h3, h4, h5⟩ := atI_get he
  obtain ⟨y, ey, ry⟩ := r.get h2
  have hl := r.length
  have hn := line63
  have fin : EP X pins σ Q y s := ⟨z, H, I, ry, q⟩
  by_cases h0 : 0 ≤ k
  · have hj : k.toNat = j := by
      rw [seqIndex_of h0 h5] at h1
      exact Option.some.inj h1
    exact wpAny_getItem_list pl.isList h0 (by omega) (by rw [hj]; simpa using ey) fin
  · have hj : (k + (its.toArray.size : Int)).toNat = j := by
      rw [seqIndex_neg (by omega) h4] at h1
      rw [List.size_toArray, ← hl]
      exact Option.some.inj h1
    exact wpAny_getItem_list_neg pl.isList (by omega) (by rw [List.size_toArray] <;> omega) (by omega) (by rw [hj]; simpa using ey) fin
/-! ### enumerate(t), t a tuple -/
theorem meets_enumT (l : Addr) (its : Array Value) (n : Nat) (dc : Option Addr) (sl : Array (Option Value)) :
    Meets (Builtin.«enumerate.__new__» ⟨[.type "enumerate", .ref l], []⟩) (fun _ R s => s.heap.get? l = some { cls := .type "tuple", dict := dc, data := .seq its n, slots := sl } ∧
      R (.ok (.ret (.ref (s.heap.push { cls := .type "tuple_iterator", data := .fields #[.ref l, .int 0 0] }).objs.size)))
        { s with heap := (s.heap.push { cls := .type "tuple_iterator", data := .fields #[.ref l, .int 0 0] }).push { cls := .type "enumerate", data := .fields #[.none, .bool false, .ref s.heap.objs.size, rawInt 0, .none, .none] } }) :=
  .of_wp fun prog w A R s h => by
    obtain ⟨hp, gs, dr, tk, os⟩ := s
    obtain ⟨hl, h⟩ := h
    have hsub := sub_enumerate
    have hT : Heap.IsTuple (Shared.heap ⟨hp, gs, dr, tk, os⟩) l its := ⟨_, hl, rfl, n, rfl⟩
    wp_walk using wpAny_loadPart' hl
    refine wpAny_stack_any fun st => wpAny_pure ?_
    split
    · rename_i c _ _ _ _ _
      cases (c == Value.type "enumerate") <;> (wp_walk using wpAny_loadPart' hl, wpAny_pyIter_tuple hT; exact ⟨_, rfl, h⟩)
    · wp_walk using wpAny_loadPart' hl, wpAny_pyIter_tuple hT
      exact ⟨_, rfl, h⟩
section
variable {prog : Program} {w : World} {A : Around} {E : Value → Shared → Prop} {s : Shared}
theorem call_enumT {l : Addr} {its : Array Value} {Q : Value → Shared → Prop} (hL : s.heap.IsTuple l its)
    (h : ∀ h', IsEnum h' (s.heap.objs.size + 1) s.heap.objs.size 0 .none → h'.IsTupleIter s.heap.objs.size l 0 → h'.objs.size = s.heap.objs.size + 2 →
      (∀ b o, s.heap.get? b = some o → h'.get? b = some o) → Q (.ref (s.heap.objs.size + 1)) { s with heap := h' }) :
    wpAny (model prog w) A (call (.type "enumerate") [.ref l]) Q E s := by
  obtain ⟨⟨c, dct, dt, sl⟩, hl, hc, n, hd⟩ := hL
  obtain rfl : c = .type "tuple" := hc
  obtain rfl : dt = .seq its n := hd
  refine callType_new F.called_enumerate (by decide) (F.typeCall_enumerate_1 _) (F.newCall_enumerate_1 _) (fun obj => F.args_object_init_2 obj _) F.entry_enumerate_new (meets_enumT l its n dct sl) ⟨hl, ?_⟩
  have hz : (s.heap.push { cls := .type "tuple_iterator", data := .fields #[.ref l, .int 0 0] }).objs.size = s.heap.objs.size + 1 := Heap.size_push ..
  show _ ∧ _
  rw [hz]
  have he : IsEnum ((s.heap.push { cls := .type "tuple_iterator", data := .fields #[.ref l, .int 0 0] }).push
      { cls := .type "enumerate", data := .fields #[.none, .bool false, .ref s.heap.objs.size, rawInt 0, .none, .none] }) (s.heap.objs.size + 1) s.heap.objs.size 0 .none := by
    have := Heap.get?_push_size (s.heap.push { cls := .type "tuple_iterator", data := .fields #[.ref l, .int 0 0] })
      (o := { cls := .type "enumerate", data := .fields #[.none, .bool false, .ref s.heap.objs.size, rawInt 0, .none, .none] }) rfl
    rw [hz] at this; exact this
  exact ⟨⟨_, he, rfl⟩, h _ he ⟨_, Heap.get?_push_of_some _ (Heap.get?_push_size _ rfl), rfl, rfl⟩ (by rw [Heap.size_push, hz]) fun b o x => Heap.get?_push_of_some _ (Heap.get?_push_of_some _ x)⟩
end
/-- the tuple at a as it stands at each turn, each item in a new pair -/
def IteT (K : PySem.W.Frag) (a : Addr) : It :=
  ⟨fun i H => ∃ (xs : List V) (x : V), SqT K H a xs ∧ xs[i]? = some x, fun i H v H' => ∃ T x, v = .ref T ∧ H T = none ∧ H' = upd H T (.tup [.int (i : Nat), x]) ∧ ∀ xs, SqT K H a xs → xs[i]? = some x, fun i H => ∃ xs : List V, SqT K H a xs ∧ xs.length ≤ i⟩
theorem turn_enumT {P : Program} {w : World} {K : PySem.W.Frag} {elts : List Expr} {kk : Nat} {tpos : Pos} (a e it : Addr) (hai : a ≠ it) :
    Turn P w K (.Tuple elts kk tpos) (IteT K a) [e, it] e (fun i h => (∃ old, IsEnum h e it ((i : Nat) : Int) old) ∧ h.IsTupleIter it a i ∧ e ≠ it) where
  mem := by simp
  obj := fun i h st b hb => by
    obtain ⟨⟨old, he⟩, ⟨o, ho, hc, hd⟩, _⟩ := st
    have e' : b = e ∨ b = it := by simpa using hb
    rcases e' with z | z
    · subst z; exact ⟨_, he, fun v q => nomatch q⟩
    · subst z; exact ⟨o, ho, fun v q => by rw [hd] at q; cases q⟩
  keep := fun i h h' st k => let ⟨⟨old, he⟩, hi, hne⟩ := st; ⟨⟨old, k e (by simp) _ he⟩, hi.at fun o q => k it (by simp) o q, hne⟩
  item := by
    intro X hP hw hK hc i pins s σ H E I hf st hg
    subst hP hw hK
    obtain ⟨⟨old, he⟩, hit, hne⟩ := st
    obtain ⟨xs, x, hq, hx⟩ := hg
    obtain ⟨its, rv, pt, hz⟩ := I.tuple hq
    obtain ⟨u, hu, ru⟩ := rv.get hx
    have hel : e < s.heap.objs.size := Heap.lt_size he
    have hil : it < s.heap.objs.size := by obtain ⟨_, q, _⟩ := hit; exact Heap.lt_size q
    have hlt : i < its.toArray.size := by
      rw [List.size_toArray, ← rv.length]
      exact (List.getElem?_eq_some_iff.mp hx).1
    have hea : e ≠ a := fun z => by
      obtain ⟨o, ho, hc1, _⟩ := pt
      have he' : s.heap.get? e = some _ := he
      rw [z, ho] at he'
      cases he'
      have q1 : Value.type "enumerate" = Value.type "tuple" := hc1
      injection q1 with q2
      exact absurd q2 (by decide)
    refine wpAny_pyNext_enum_itemD (Draws.tuple (A := X.A.in1) (by exact I.ok.hd hc) it a hai its.toArray) he ⟨hit, pt⟩ hlt hne (by simp only [List.mem_cons, List.not_mem_nil, or_false, not_or]; exact ⟨hne, hea⟩) fun y h' tk hy ho st' hT hsz hk => ?_
    obtain ⟨hit', _⟩ := st'
    have eyu : y = u := by
      have h1 : its.toArray[i]? = some u := by simpa using hu
      exact Option.some.inj (hy.symm.trans h1)
    subst eyu
    refine ⟨_, rfl, wpAny_letOwnedTupleGo_enum (s := { s with heap := h', toks := tk + 1 }) ho fun h'' he' sb => ?_⟩
    have hT2 : h''.get? s.heap.objs.size = some { cls := .type "tuple", data := .seq #[.int i tk, y] } := (sb.2 _ (Nat.ne_of_gt hel)).trans hT
    have new : ObjOk X.prog X.w (upd H s.heap.objs.size (.tup [.int (i : Nat), x])) h'' s.heap.objs.size (.tup [.int (i : Nat), x]) :=
      ⟨by show 2 ≤ sizeLine; decide, [.int i tk, y], .cons ⟨_, rfl⟩ (.cons ru .nil), ⟨_, hT2, rfl, _, rfl⟩⟩
    have I1 : Inv X pins σ (upd H s.heap.objs.size (.tup [.int (i : Nat), x])) { s with heap := h'', toks := tk + 1 } :=
      I.turnedNew (ch := [e, it]) (fun b ob hb q => (sb.2 b (fun z => hb (by simp [z]))).trans (hk b ob (fun z => hb (by simp [z])) (fun z => hb (by simp [z])) q)) hf (Nat.le_refl _) new
    refine ⟨.ref s.heap.objs.size, _, I1, rfl, ⟨_, x, rfl, I.hok.fresh (Nat.le_refl _), rfl, fun ys hy => by rw [I.tuple_inj hy hq]; exact hx⟩, ⟨⟨y, ?_⟩, hit'.at fun o q => (sb.2 it (Ne.symm hne)).trans q, hne⟩, fun b hb => ?_⟩
    · have e1 : ((i + 1 : Nat) : Int) = (i : Int) + 1 := by omega
      rw [e1]; exact he'
    · have hb' : b < s.heap.objs.size := by
        have e' : b = e ∨ b = it := by simpa using hb
        rcases e' with z | z
        · subst z; exact hel
        · subst z; exact hil
      rw [upd_ne (Nat.ne_of_lt hb')]
      exact (hf b hb).1
  done := by
    intro X hP hw hK hc i pins s σ H E I hf st hg
    subst hP hw hK
    obtain ⟨⟨old, he⟩, hit, hne⟩ := st
    obtain ⟨xs, hq, hx⟩ := hg
    obtain ⟨its, rv, pt, hz⟩ := I.tuple hq
    obtain ⟨f0, f1, f2, f3, f4, f5⟩ := hf it (by simp)
    have hl := rv.length
    have hD := Draws.tuple (prog := X.prog) (w := X.w) (A := X.A.in1) (by exact I.ok.hd hc) it a hai its.toArray
    have hT : s.TypeIs (.ref e) "enumerate" := ⟨_, he, rfl⟩
    unfold pyNext
    refine wpAny_bind (wpAny_attempt (wpAny_callSpecial?_slot (name := Str.ofString "__next__") hT F.slot_enumerate_next (wpAny_call_entry F.slot_enumerate_next hT F.entry_enumerate_next ?_ (F.args_enumerate_next_1 _))))
    show wpAny _ _ (field (.ref e) 2 >>= _) _ _ _
    refine wpAny_bind (wpAny_field he rfl (x := .ref it) rfl ?_)
    refine wpAny_bind (wpAny_nextOf_tuple_end (by exact I.ok.hd hc) hit pt (by simp; omega) fun h' x he' hx' => ?_)
    obtain ⟨o, ho, hc'⟩ := hx'
    refine wpAny_bind (wpAny_isInstance (T := "StopIteration") (b := true) ⟨o, ho, hc'⟩ isSubtype_stop ?_)
    exact wpAny_pure ⟨rfl, I.turned (t' := s.toks) (fun b o hb q => he' b o hb q) f0 f1 f3 f4 f5⟩
  self := fun A i s Q E st h => let ⟨⟨_, he⟩, _⟩ := st; wpAny_pyIter_enum he h
def iEnumT (K : PySem.W.Frag) (ta : TA) : TI := fun σ H R => ta σ H fun vs H1 => ∃ a xs, vs = [.ref a] ∧ SqT K H1 a xs ∧ R (IteT K a) H1
theorem pi_enumT {X : Cx} {e : Expr} {ta : TA} {p pos tpos : Pos} {elts : List Expr} {kk : Nat} (hg : Gl X "enumerate") (hm : X.mg "enumerate" = none) (ha : PA X [e] ta) (hs : starEach [e] X.env = [(false, eval e X.env)] := by rfl) :
    PI X (.Tuple elts kk tpos) (.Call (.Name "enumerate" p) [e] [] pos) (iEnumT X.K ta) := by
  refine ⟨fun pins s σ H R I h => ?_⟩
  refine Call_ (ld_blt I hg hm boot_enumerate (PyProof.Rows.callWith_type1 (thn (ha.run pos pins s σ H _ I h) fun us s1 ⟨vs, H1, I1, r1, q1⟩ => ?_) hs rfl))
  obtain ⟨a, xs, ex, hq, q⟩ := q1
  subst ex
  cases r1 with
  | cons r rr =>
    cases rr
    cases r
    obtain ⟨its, rv, pt, hz⟩ := I1.tuple hq
    refine call_enumT (show s1.heap.IsTuple a its.toArray from pt) fun h' he hit hsz hk => wpAny_pyIter_enum he ?_
    have I2 : Inv X pins σ H1 { s1 with heap := h' } := I1.kept (t' := s1.toks) hk
    have hlt : a < s1.heap.objs.size := by obtain ⟨o, ho, _⟩ := pt; exact Heap.lt_size ho
    refine ⟨s1.heap.objs.size + 1, [s1.heap.objs.size + 1, s1.heap.objs.size], _, _, H1, rfl, I2, turn_enumT a (s1.heap.objs.size + 1) s1.heap.objs.size (Nat.ne_of_lt hlt), ⟨⟨.none, he⟩, hit, Nat.succ_ne_self _⟩, fun b hb => ?_, q⟩
    have hle : s1.heap.objs.size ≤ b := by
      have e' : b = s1.heap.objs.size + 1 ∨ b = s1.heap.objs.size := by simpa using hb
      rcases e' with z | z
      · rw [z]; exact Nat.le_succ _
      · rw [z]; exact Nat.le_refl _
    exact I1.fpOk hle (I1.hok.fresh hle)
end Cv

namespace Cv
open PySem PySem.Spec PyProof.Rows L2 RZ
section
variable {d : Option Addr} {X : Cx} {B : Hp} {ρ ρ' : Ro d} {a b c e iter elt : Expr} {es : List Expr} {R R' Ra Rb : Rp d} {Rs : List (Rp d)} {pos : Pos} {m n : Int} {st : Stmt} {rest body orelse : List Stmt} {Pre Mid : L2.St → Hp → Prop} {Po : Ends}
/-- for x, y in enumerate(t) -/
theorem bx_forE {α : Type} {ds : List D} (j k : Nat) {x y : Str} {kk : Nat} {tpos p1 p2 p p3 : Pos} (P : Nat → α → Prop) (r : Nat → α → Ro d) (hg : Gl X "enumerate") (hm : X.mg "enumerate" = none) (ha : EX X B ρ a (dat X.K (.t ds))) (h0 : ∀ σ H, St B ρ σ H → IS B (P 0) (r 0) σ H)
    (hb : ∀ (i : Nat) w z, ds[i]? = some w → P i z → BX X body (St B (((r i z).set j (some (rI (i : Int)))).set k (some (dat X.K w)))) (Lp Po (IS B (P (i + 1)) (r (i + 1))) (IS B (P ds.length) (r ds.length)))) (h : BX X rest (IS B (P ds.length) (r ds.length)) Po)
    (hN : X.N.Nodup) (hp : PassesOwn (model X.prog X.w) X.A X.env X.xe) (hj : X.N[j]? = some x := by rfl) (hk : X.N[k]? = some y := by rfl) (hc : X.calm = true := by rfl) (hx : Loc X.env.scope x := by first | exact Or.inl rfl | exact Or.inr rfl) (hy : Loc X.env.scope y := by first | exact Or.inl rfl | exact Or.inr rfl)
    (hf : X.fn x = true ∨ X.env.scope.names.lookup x = some .local := by first | exact .inl rfl | exact .inr rfl | assumption) (hfy : X.fn y = true ∨ X.env.scope.names.lookup y = some .local := by first | exact .inl rfl | exact .inr rfl | assumption)
    (he : starEach [a] X.env = [(false, eval a X.env)] := by rfl) (hs : ∀ x, foldedSetIterable (.Call (.Name "enumerate" p) [a] [] p3) X.env x = pure x := by intro _; rfl) :
    BX X (.For (.Tuple [.Name x p1, .Name y p2] kk tpos) (.Call (.Name "enumerate" p) [a] [] p3) body [] pos :: rest) (St B ρ) Po := by
  refine bx_cons (Mid := IS B (P ds.length) (r ds.length)) ?_ h
  refine PS_wk (t := tFor (iEnumT X.K fun σ H Q => St B ρ σ H ∧ ∀ vs H', Ext d H H' → RsH [dat X.K (.t ds)] vs H' → Q vs H') (gTup X.K 2 (gCons (gName j) (gCons (gName k) gNil))) (tBody (Z := Nat × D × α) B (fun z => ((r z.1 z.2.2).set j (some (rI (z.1 : Int)))).set k (some (dat X.K z.2.1))) (fun z => ds[z.1]? = some z.2.1 ∧ P z.1 z.2.2) (fun z => Lp Po (IS B (P (z.1 + 1)) (r (z.1 + 1))) (IS B (P ds.length) (r ds.length)))))
    (ps_for hp hc (pi_enumT hg hm (a_cons ha a_nil he) he) (pg_tup hc (pgs_cons (pg_name hN hj hx hf) (pgs_cons (pg_name hN hk hy hfy) pgs_nil))) ⟨fun pins s σ H E I ⟨⟨i, w, z⟩, ⟨hw, hz⟩, q, l⟩ => (hb i w z hw hz).run pins s σ H E I ⟨q, l⟩⟩ hs) fun E σ H ⟨s, l⟩ => ⟨s, fun vs H1 e1 hv => ?_⟩
  obtain ⟨v, rfl, hv'⟩ := hv.one
  obtain ⟨t, us, rfl, h1, h2⟩ := DR.tup hv'
  refine ⟨t, us, rfl, h1, fun i m σ H => m = us.length - i ∧ i ≤ us.length ∧ Tk H1 H ∧ IS B (P i) (r i) σ H, ⟨us.length, rfl, Nat.zero_le _, Tk.refl _, h0 _ _ (s.mono e1)⟩, ?_⟩
  rintro i m σ H ⟨rfl, hi, kk, q⟩
  have a1 := kk.sqT h1
  by_cases hlt : i < us.length
  · refine .inr ⟨⟨us, us[i], a1, List.getElem?_eq_getElem hlt⟩, fun σ' H' => Tk H1 H' ∧ IS B (P (i + 1)) (r (i + 1)) σ' H', fun σ' H' p' => ⟨us.length - (i + 1), by omega, rfl, hlt, p'.1, p'.2⟩, fun v H' yl => ?_⟩
    obtain ⟨T, x', rfl, hT, rfl, f1⟩ := yl
    obtain ⟨w, hw, hr⟩ := h2.getV (f1 us a1)
    obtain ⟨z, hz, q⟩ := q
    have eT : Ext d H (upd H T (.tup [.int (i : Nat), x'])) := Ext.new hT
    have kT := kk.trans eT.tk
    refine ⟨T, [.int (i : Nat), x'], rfl, SqT.of upd_same, rfl, .int (i : Nat), [x'], rfl, x', [], rfl, rfl, (i, w, z), ⟨hw, hz⟩, ⟨(q.mono eT).ext, (q.mono eT).dr, ((q.mono eT).good.set j (R := rI (i : Int)) rfl).set k (R := dat X.K w) (hr.tk kT)⟩, ?_⟩
    exact ⟨fun σ' H' k' q' => ⟨kT.trans k', q'⟩, fun v H' k' q' => l.rt v H' ((e1.tk.trans kT).trans k') q', fun σ' H' k' q' => l.nx σ' H' ((e1.tk.trans kT).trans k') q', fun σ' H' k' q' => ⟨kT.trans k', q'⟩⟩
  · have e' : i = us.length := by omega
    subst e'
    exact .inl ⟨⟨us, a1, Nat.le_refl _⟩, l.nx σ H (e1.tk.trans kk) (by rw [h2.1]; exact q)⟩
/-! ### unpacking -/
theorem bx_unp3 {A1 A2 A3 : D} (i1 i2 i3 : Nat) {x1 x2 x3 : Str} {q1 q2 q3 q4 : Pos} {kk : Nat} (he : EX X B ρ e (dat X.K (.t [A1, A2, A3]))) (h : BX X rest (St B (((ρ.set i1 (some (dat X.K A1))).set i2 (some (dat X.K A2))).set i3 (some (dat X.K A3)))) Po)
    (hN : X.N.Nodup) (h1 : X.N[i1]? = some x1 := by rfl) (h2 : X.N[i2]? = some x2 := by rfl) (h3 : X.N[i3]? = some x3 := by rfl) (hc : X.calm = true := by rfl) (l1 : Loc X.env.scope x1 := by first | exact Or.inl rfl | exact Or.inr rfl) (l2 : Loc X.env.scope x2 := by first | exact Or.inl rfl | exact Or.inr rfl) (l3 : Loc X.env.scope x3 := by first | exact Or.inl rfl | exact Or.inr rfl)
    (f1 : X.fn x1 = true ∨ X.env.scope.names.lookup x1 = some .local := by first | exact .inl rfl | exact .inr rfl | assumption) (f2 : X.fn x2 = true ∨ X.env.scope.names.lookup x2 = some .local := by first | exact .inl rfl | exact .inr rfl | assumption) (f3 : X.fn x3 = true ∨ X.env.scope.names.lookup x3 = some .local := by first | exact .inl rfl | exact .inr rfl | assumption)
    (hs : swapsWithSole [.Tuple [.Name x1 q1, .Name x2 q2, .Name x3 q3] kk q4] e pos.line X.env = pure false := by rfl) (hw : swappedStores [.Tuple [.Name x1 q1, .Name x2 q2, .Name x3 q3] kk q4] e X.env = pure none := by rfl) :
    BX X (.Assign [.Tuple [.Name x1 q1, .Name x2 q2, .Name x3 q3] kk q4] e pos :: rest) (St B ρ) Po := by
  refine bx_cons (Mid := St B (((ρ.set i1 (some (dat X.K A1))).set i2 (some (dat X.K A2))).set i3 (some (dat X.K A3)))) ?_ h
  refine PS_wk (ps_asg he (pg_tup hc (pgs_cons (pg_name hN h1 l1 f1) (pgs_cons (pg_name hN h2 l2 f2) (pgs_cons (pg_name hN h3 l3 f3) pgs_nil)))) hs hw) fun E σ H ⟨s, l⟩ => ⟨s, fun v H' e1 hv => ?_⟩
  obtain ⟨t, us, rfl, g1, g2⟩ := DR.tup hv
  match us, g2 with
  | [v1, v2, v3], g2 =>
    refine ⟨t, [v1, v2, v3], rfl, g1, rfl, v1, [v2, v3], rfl, v2, [v3], rfl, v3, [], rfl, rfl, ?_⟩
    exact l.nx _ H' e1.tk ⟨(s.mono e1).ext, (s.mono e1).dr, (((s.mono e1).good.set i1 (R := dat X.K A1) (g2.2 0 A1 v1 rfl rfl)).set i2 (R := dat X.K A2) (g2.2 1 A2 v2 rfl rfl)).set i3 (R := dat X.K A3) (g2.2 2 A3 v3 rfl rfl)⟩
  | [], g2 => exact absurd g2.1 (by simp)
  | [_], g2 => exact absurd g2.1 (by simp)
  | [_, _], g2 => exact absurd g2.1 (by simp)
  | _ :: _ :: _ :: _ :: _, g2 => exact absurd g2.1 (by simp)
/-! ### own lists changed -/
/-- what stands when the list at l changes -/
def Ind (l : Addr) (R : Rp d) : Prop := ∀ v H xs ys, H l = some (.lst xs) → R.p v H → R.p v (upd H l (.lst ys))
theorem ind_I {l : Addr} {n : Int} : Ind l (rI (d := d) n) := fun _ _ _ _ _ h => h
theorem ind_B {l : Addr} {n : Bool} : Ind l (rB (d := d) n) := fun _ _ _ _ _ h => h
theorem ind_any {l : Addr} : Ind l (rAny (d := d)) := fun _ _ _ _ _ h => h
theorem ind_drw {l : Addr} : Ind l (drw (d := d)) := fun _ _ _ _ _ h => h
theorem ind_dat {l : Addr} {K : PySem.W.Frag} {w : D} : Ind l (dat (d := d) K w) := fun _ _ _ _ hl h => h.tk (Tk.lst hl)
theorem ind_ex {l : Addr} {α : Type} {P : α → Prop} {Rz : α → Rp d} (h : ∀ z, Ind l (Rz z)) : Ind l (exR P Rz) := fun v H xs ys hl ⟨z, hz, q⟩ => ⟨z, hz, h z v H xs ys hl q⟩
theorem ind_own {l l' : Addr} {K : PySem.W.Frag} {ds : List D} (hne : l' ≠ l) : Ind l (own (d := d) K l' ds) := fun v H xs ys hl ⟨h1, h2, us, h3, h4⟩ => ⟨h1, h2, us, by rw [upd_ne hne]; exact h3, h4.tk (Tk.lst hl)⟩
theorem ind_lstA {l l' : Addr} {K : PySem.W.Frag} {ds : List D} (hne : l' ≠ l) : Ind l (lstA (d := d) K l' ds) := fun v H xs ys hl ⟨h1, h2, us, h3, h4⟩ => ⟨h1, h2, us, by
  rcases h3 with ⟨k, h⟩ | ⟨o, h⟩ | h
  · exact .inl ⟨k, by rw [upd_ne hne]; exact h⟩
  · exact .inr (.inl ⟨o, by rw [upd_ne hne]; exact h⟩)
  · exact .inr (.inr h), h4.tk (Tk.lst hl)⟩
/-- every slot (but i) stands -/
def IndA (l : Addr) (r : Ro d) : Prop := ∀ (j : Nat) (R : Rp d), r[j]? = some (some R) → Ind l R
def IndBut (l : Addr) (i : Nat) (r : Ro d) : Prop := ∀ (j : Nat) (R : Rp d), j ≠ i → r[j]? = some (some R) → Ind l R
theorem ia_nil {l : Addr} : IndA l ([] : Ro d) := fun j R h => by cases h
theorem ia_none {l : Addr} {r : Ro d} (h : IndA l r) : IndA l (none :: r) := fun j R e => by
  cases j with
  | zero => cases e
  | succ j => exact h j R e
theorem ia_some {l : Addr} {r : Ro d} {R : Rp d} (w : Ind l R) (h : IndA l r) : IndA l (some R :: r) := fun j R' e => by
  cases j with
  | zero => cases e; exact w
  | succ j => exact h j R' e
theorem ib_here {l : Addr} {o : Option (Rp d)} {r : Ro d} (h : IndA l r) : IndBut l 0 (o :: r) := fun j R hj e => by
  cases j with
  | zero => exact absurd rfl hj
  | succ j => exact h j R e
theorem ib_none {l : Addr} {i : Nat} {r : Ro d} (h : IndBut l i r) : IndBut l (i + 1) (none :: r) := fun j R hj e => by
  cases j with
  | zero => cases e
  | succ j => exact h j R (fun z => hj (by rw [z])) e
theorem ib_some {l : Addr} {i : Nat} {r : Ro d} {R : Rp d} (w : Ind l R) (h : IndBut l i r) : IndBut l (i + 1) (some R :: r) := fun j R' hj e => by
  cases j with
  | zero => cases e; exact w
  | succ j => exact h j R' (fun z => hj (by rw [z])) e
theorem st_own {K : PySem.W.Frag} {l : Addr} {ds ds' : List D} {vs' : List V} {i : Nat} {σ : L2.St} {H : Hp} (s : St B ρ σ H) (hi : ρ[i]? = some (some (own K l ds))) (hB : B l = none) (hb : IndBut l i ρ) (hd : DRl K H ds' vs') : St B (ρ.set i (some (own K l ds'))) σ (upd H l (.lst vs')) := by
  obtain ⟨v, h1, rfl, hl, vs, h2, h3⟩ := s.good.get hi
  refine ⟨s.ext.mut hB hl, fun a e => ?_, by simp [s.good.1], fun j R e => ?_⟩
  · obtain ⟨ns, hn, q⟩ := s.dr a e
    have : a ≠ l := fun z => hl (by rw [e, z])
    exact ⟨ns, hn, by rw [upd_ne this]; exact q⟩
  · by_cases hj : j = i
    · subst hj
      have hlt : j < ρ.length := (List.getElem?_eq_some_iff.mp hi).1
      rw [List.getElem?_set_self hlt] at e
      cases e
      exact ⟨_, h1, rfl, hl, vs', upd_same, hd.tk (Tk.lst h2)⟩
    · rw [List.getElem?_set_ne (fun z => hj z.symm)] at e
      obtain ⟨v', a1, a2⟩ := s.good.get e
      exact ⟨v', a1, hb j R hj e v' H vs vs' h2 a2⟩
/-- x.append(e), x in slot i -/
theorem bx_append (i : Nat) {x : Str} {p1 p2 p3 p4 : Pos} {K : PySem.W.Frag} {l : Addr} {ds : List D} {w : D} (hi : ρ[i]? = some (some (own K l ds))) (hK : X.K = K) (he : EX X B ρ e (dat K w)) (hB : B l = none) (hb : IndBut l i ρ) (hz : ds.length ≤ 1000) (h : BX X rest (St B (ρ.set i (some (own K l (ds ++ [w]))))) Po)
    (hN : X.N[i]? = some x := by rfl) (hv : Vis X.env.scope x := by first | exact Or.inl rfl | exact Or.inr (Or.inl rfl) | exact Or.inr (Or.inr rfl)) (hd : (x == ("__debug__" : Str)) = false := by decide) (hcd : (x == ("__classdict__" : Str)) = false := by decide)
    (hbase : attributeBase (.Name x p1) "append" X.env (eval (.Name x p1) X.env) = eval (.Name x p1) X.env := by rfl)
    (hfew : ((backTo p3 (starEach (e :: []) X.env)).all (fun x => !x.1) && (backToKw p3 (keywordEach [] X.env)).all (fun x => x.1.isSome)
      && decide ((e :: []).length + ([] : List Keyword).length + (if ([] : List Keyword).isEmpty then 0 else 1) < 30)) = true := by rfl)
    (hline : (p2.endLine == p3.line) = true := by rfl) (hs : starEach (e :: []) X.env = (false, eval e X.env) :: starEach [] X.env := by rfl) (hplain : (backTo p3 (starEach [] X.env)).any (·.1) = false := by rfl)
    (hsw : swapsWith (.Call (.Attribute (.Name x p1) "append" p2) [e] [] p3) none p4.line X.env = pure false := by rfl) :
    BX X (.Expr (.Call (.Attribute (.Name x p1) "append" p2) [e] [] p3) p4 :: rest) (St B ρ) Po := by
  subst hK
  refine bx_cons (Mid := St B (ρ.set i (some (own X.K l (ds ++ [w]))))) ?_ h
  refine PS_wk (ps_expr (pe_bm PySem.F.plainAttrs_list PySem.F.slot_list_append PySem.F.type_list_append mt_append (pe_var hN hv hd hcd) (a_cons he a_nil hs) hbase hfew hline hs hplain) hsw) fun E σ H ⟨s, q⟩ => ?_
  obtain ⟨v, h1, rfl, hl, vs, h2, h3⟩ := s.good.get hi
  refine ⟨_, h1, Or.inl ⟨rfl, _, SqL.of h2⟩, s, fun us H1 e1 hus => ?_⟩
  obtain ⟨y, rfl, hy⟩ := hus.one
  have s1 := s.mono e1
  have g2 := e1.at h2 hl
  refine ⟨l, vs, y, rfl, rfl, g2, small1000 (by rw [← h3.1]; exact hz), ?_⟩
  exact q.nx σ _ (e1.tk.trans (Tk.lst g2)) (st_own s1 hi hB hb ((h3.tk e1.tk).snoc hy))
/-- x[k] = e, x in slot i -/
theorem bx_setitem (i : Nat) {x : Str} {p1 p2 p3 : Pos} {K : PySem.W.Frag} {l : Addr} {ds : List D} {w : D} {k : Nat} (hi : ρ[i]? = some (some (own K l ds))) (hK : X.K = K) (he : EX X B ρ e (dat K w)) (hk : EX X B ρ b (rI (k : Int))) (hkl : k < ds.length) (hB : B l = none) (hb : IndBut l i ρ) (h : BX X rest (St B (ρ.set i (some (own K l (ds.set k w))))) Po)
    (hN : X.N[i]? = some x := by rfl) (hv : Vis X.env.scope x := by first | exact Or.inl rfl | exact Or.inr (Or.inl rfl) | exact Or.inr (Or.inr rfl)) (hd : (x == ("__debug__" : Str)) = false := by decide) (hcd : (x == ("__classdict__" : Str)) = false := by decide)
    (ha : ∀ v, assign (.Subscript (.Name x p1) b p2) X.env v = (do
      let ov ← holding [v] (eval (.Name x p1) X.env)
      let iv ← holding [v, ov] (eval b X.env)
      standAt p2
      holding [v, ov, iv] (setItem ov iv v)
      release [v, ov, iv] []) := by intro _; rfl)
    (hs : swapsWithSole [.Subscript (.Name x p1) b p2] e p3.line X.env = pure false := by rfl) (hw : swappedStores [.Subscript (.Name x p1) b p2] e X.env = pure none := by rfl) (h1 : (assignEach [.Subscript (.Name x p1) b p2] X.env).map (·.2) = [assign (.Subscript (.Name x p1) b p2) X.env] := by rfl) :
    BX X (.Assign [.Subscript (.Name x p1) b p2] e p3 :: rest) (St B ρ) Po := by
  subst hK
  refine bx_cons (Mid := St B (ρ.set i (some (own X.K l (ds.set k w))))) ?_ h
  refine PS_wk (ps_asg he (pg_sub (pe_var hN hv hd hcd) hk set_list ha) hs hw h1) fun E σ H ⟨s, q⟩ => ⟨s, fun y H1 e1 hy => ?_⟩
  have s1 := s.mono e1
  obtain ⟨v, a1, rfl, hl, vs, a2, a3⟩ := s1.good.get hi
  refine ⟨_, a1, s1, fun iv H2 e2 hiv => ?_⟩
  have s2 := s1.mono e2
  have g2 := e2.at a2 hl
  have a3' := a3.tk e2.tk
  have hkv : k < vs.length := by rw [← a3.1]; exact hkl
  refine ⟨l, vs, k, k, rfl, hiv, g2, by unfold ixN; rw [if_pos (by omega), if_pos (by omega)]; simp, ?_⟩
  refine q.nx σ _ ((e1.tk.trans e2.tk).trans (Tk.lst g2)) (st_own s2 hi hB hb ⟨by simp [a3.1], fun j e' v' b1 b2 => ?_⟩)
  by_cases hj : k = j
  · subst hj
    rw [List.getElem?_set_self hkl] at b1
    rw [List.getElem?_set_self hkv] at b2
    cases b1; cases b2
    exact DR.tk e2.tk hy
  · rw [List.getElem?_set_ne hj] at b1 b2
    exact a3'.2 j e' v' b1 b2
/-- x[k] += e, a list of ints, the place and the number told by P and S -/
theorem bx_augitem (i : Nat) {x : Str} {p1 p2 p3 : Pos} {K : PySem.W.Frag} {l : Addr} {ns : List Int} {P : Int → Prop} (hi : ρ[i]? = some (some (own K l (ns.map D.i)))) (hK : X.K = K) (hk : EX X B ρ b (iE P)) (hP : ∀ k, P k → 0 ≤ k ∧ k < ns.length) (he : EX X B ρ e (rI n)) (hB : B l = none) (hb : IndBut l i ρ)
    (h : ∀ (k : Nat) (z : Int), P k → ns[k]? = some z → BX X rest (St B (ρ.set i (some (own K l ((ns.set k (z + n)).map D.i))))) Po)
    (hN : X.N[i]? = some x := by rfl) (hv : Vis X.env.scope x := by first | exact Or.inl rfl | exact Or.inr (Or.inl rfl) | exact Or.inr (Or.inr rfl)) (hd : (x == ("__debug__" : Str)) = false := by decide) (hcd : (x == ("__classdict__" : Str)) = false := by decide)
    (ha : ∀ ov iv new, augStore b ov iv new = (do holding [new, ov, iv] (setItem ov iv new); release [new, ov, iv] []; pure .next) := by intros; rfl) :
    BX X (.AugAssign (.Subscript (.Name x p1) b p2) .Add e p3 :: rest) (St B ρ) Po := by
  subst hK
  refine bx_cons (Mid := fun σ H => ∃ kz : Nat × Int, (P kz.1 ∧ ns[kz.1]? = some kz.2) ∧ St B (ρ.set i (some (own X.K l ((ns.set kz.1 (kz.2 + n)).map D.i)))) σ H) ?_ (bx_ex fun kz hkz => h kz.1 kz.2 hkz.1 hkz.2)
  refine PS_wk (ps_augS (pe_var hN hv hd hcd) hk get_list he ip_add set_list ha) fun E σ H ⟨s, q⟩ => ?_
  obtain ⟨v, a1, rfl, hl, vs, a2, a3⟩ := s.good.get hi
  refine ⟨_, a1, s, fun iv H1 e1 ⟨k, hPk, hiv⟩ => ?_⟩
  obtain ⟨h0, hkl⟩ := hP k hPk
  obtain ⟨j, rfl⟩ : ∃ j : Nat, k = (j : Int) := ⟨k.toNat, by omega⟩
  have hj : j < ns.length := by omega
  obtain rfl := a3.ints
  have g2 := e1.at a2 hl
  obtain rfl : iv = .int (j : Int) := hiv
  have hz : (ns.map V.int)[j]? = some (.int ns[j]) := by rw [List.getElem?_map, List.getElem?_eq_getElem hj]; rfl
  refine ⟨l, ns.map V.int, j, .int ns[j], rfl, rfl, SqL.of g2, atI_nat hz, s.mono e1, fun y H2 e2 hy => ?_⟩
  obtain rfl : y = .int n := hy
  have g3 := e2.at g2 hl
  refine ⟨ns[j], n, rfl, rfl, l, ns.map V.int, j, j, rfl, rfl, g3, by unfold ixN; rw [if_pos (by omega), if_pos (by rw [List.length_map]; omega)]; simp, ?_⟩
  refine q.nx σ _ ((e1.tk.trans e2.tk).trans (Tk.lst g3)) ⟨(j, ns[j]), ⟨hPk, List.getElem?_eq_getElem hj⟩, ?_⟩
  refine st_own ((s.mono e1).mono e2) hi hB hb ?_
  have eq : (ns.map V.int).set j (.int (ns[j] + n)) = (ns.set j (ns[j] + n)).map V.int := by rw [List.map_set]
  rw [eq]
  exact DRl.of_ints _
end
end Cv

namespace Cv
open PySem PySem.Spec PyProof.Rows L2 RZ
section
variable {d : Option Addr} {X : Cx} {B : Hp} {ρ ρ' : Ro d} {a b c e iter elt : Expr} {es : List Expr} {R R' Ra Rb : Rp d} {Rs : List (Rp d)} {pos : Pos} {m n : Int} {st : Stmt} {rest body orelse : List Stmt} {Pre Mid : L2.St → Hp → Prop} {Po : Ends}
/-! ### comprehensions -/
theorem wipe1 (σ : L2.St) (j : Nat) (x : V) : wipe ((wipe σ [j]).set j (some x)) [j] = wipe σ [j] := by
  show ((σ.set j none).set j (some x)).set j none = σ.set j none
  rw [List.set_set, List.set_set]
/-- the items so far, in the new list at D -/
def Lc (H1 : Hp) (K : PySem.W.Frag) (Dl : Addr) (d : Option Addr) (P : Nat → D → Prop) (i : Nat) (H : Hp) : Prop :=
  Ext d H1 H ∧ ∃ vs ds, H Dl = some (.lst vs) ∧ DRl K H ds vs ∧ ds.length = i ∧ ∀ k w, ds[k]? = some w → P k w
theorem lc_step {H1 H H2 : Hp} {K : PySem.W.Frag} {Dl : Addr} {P : Nat → D → Prop} {i : Nat} {y : V} (hn : H1 Dl = none) (hd : some Dl ≠ d) (h : Lc H1 K Dl d P i H) (e : Ext d H H2) (hy : ∃ w, P i w ∧ DR K H2 w y) (hi : i < 2000) :
    ∃ acc, H2 Dl = some (.lst acc) ∧ acc.length < sizeLine ∧ Lc H1 K Dl d P (i + 1) (upd H2 Dl (.lst (acc ++ [y]))) := by
  obtain ⟨h0, vs, ds, h1, h2, h3, h4⟩ := h
  obtain ⟨w, hw, hr⟩ := hy
  have g := e.at h1 hd
  refine ⟨vs, g, Nat.lt_of_lt_of_le (show vs.length < 2000 by rw [← h2.1, h3]; exact hi) (by decide), (h0.trans e).mut hn hd, _, ds ++ [w], upd_same, ((h2.tk e.tk).snoc hr).tk (Tk.lst g), by simp [h3], fun k u hk => ?_⟩
  by_cases hlt : k < ds.length
  · rw [List.getElem?_append_left hlt] at hk
    exact h4 k u hk
  · rw [List.getElem?_append_right (by omega)] at hk
    have : k - ds.length = 0 := by
      cases q : k - ds.length with
      | zero => rfl
      | succ z => rw [q] at hk; simp at hk
    rw [this] at hk
    cases hk
    have : k = i := by omega
    subst this
    exact hw
def tElt {Z : Type} (B : Hp) (K : PySem.W.Frag) (pr : Z → Ro d) (S : Z → Prop) (P : Z → D → Prop) : TE := fun σ H Q => ∃ z, S z ∧ St B (pr z) σ H ∧ ∀ v H', Ext d H H' → (∃ w, P z w ∧ DR K H' w v) → Q v H'
theorem elt_of {Z : Type} {K : PySem.W.Frag} {pr : Z → Ro d} {S : Z → Prop} {P : Z → D → Prop} {Y : Cx} (h : ∀ z, S z → EX Y B (pr z) elt (dE K (P z))) : PE Y elt (tElt B K pr S P) := ⟨fun pins s σ H Q I ⟨z, hz, st, q⟩ => (h z hz).run pins s σ H Q I ⟨st, fun v H' e1 hv => q v H' e1 hv⟩⟩
theorem st_wipe {σ : L2.St} {H : Hp} {j : Nat} {v : V} (s : St B ρ σ H) (h : R.p v H) : St B (ρ.set j (some R)) ((wipe σ [j]).set j (some v)) H := by
  have e : (wipe σ [j]).set j (some v) = σ.set j (some v) := by show (σ.set j none).set j (some v) = _; rw [List.set_set]
  rw [e]
  exact ⟨s.ext, s.dr, s.good.set j h⟩
/-- [elt for x in range(e)] -/
theorem x_lcR {nn : Int} (j : Nat) {x : Str} {scope : Scope} {tpos p p2 : Pos} (P : Nat → D → Prop) (hg : Gl X "range") (hm : X.mg "range" = none) (hi : EX X B ρ e (rI nn)) (hn : nn < 2000 ∧ -(2 ^ 62) ≤ nn) (hN : X.N.Nodup) (hok : BlkOk X.N X.env.scope scope [(x, j)])
    (hgn : ∀ (s : Shared) (H : Hp) (C : Addr) (cl : List (Str × Addr)) (fp : List Addr), PG (X.blk s H scope (compEnvC scope cl C X.env) fp) (.Name x tpos) (gName j))
    (hb : ∀ (s : Shared) (H : Hp) (C : Addr) (cl : List (Str × Addr)) (fp : List Addr) (i : Nat), (i : Int) < nn → EX (X.blk s H scope (compEnvC scope cl C X.env) fp) B (ρ.set j (some (rI (i : Int)))) elt (dE X.K (P i)))
    (hc : X.calm = true := by rfl) (he : starEach [e] X.env = [(false, eval e X.env)] := by rfl) (hs : ∀ x, foldedSetIterable (.Call (.Name "range" p) [e] [] p2) X.env x = pure x := by intro _; rfl) :
    EX X B ρ (.ListComp elt [⟨.Name x tpos, .Call (.Name "range" p) [e] [] p2, [], 0⟩] scope pos) (newE B X.K fun ds => ds.length = nn.toNat ∧ ∀ k w, ds[k]? = some w → P k w) := by
  refine PE_wk (pe_lc (own := [(x, j)]) (g := gName j) (tt := tYes) (te := tElt (Z := Nat) B X.K (fun i => ρ.set j (some (rI (i : Int)))) (fun i => (i : Int) < nn) P) hc hN (pi_range1 hg hm (a_cons hi a_nil he) he) hok hgn (fun _ _ _ _ _ => pts_nil) (fun s H C cl fp => elt_of fun i hi' => hb s H C cl fp i hi') hs) fun σ H Q ⟨s, q⟩ => ⟨s, fun vs H1 e1 hv => ?_⟩
  obtain ⟨v, rfl, hv'⟩ := hv.one
  obtain rfl : v = .int nn := hv'
  have s1 := s.mono e1
  refine ⟨nn, rfl, hn.2, by have := hn.1; omega, fun Dl hD => ?_⟩
  obtain ⟨hB, hDd⟩ := s1.fresh hD
  refine lc_range (lo := 0) (n := nn.toNat) (Lc H1 X.K Dl d P) ⟨Ext.new hD, [], [], upd_same, DRl.nil, rfl, fun k w h => by cases h⟩ (fun i H' hlt L => ?_) (fun H' L => ?_)
  · refine ⟨wipe1 _ _ _, ?_⟩
    refine ⟨i, by omega, ?_, fun y H2 e2 hy => lc_step hD hDd L e2 hy (by have := hn.1; omega)⟩
    rw [Int.zero_add]
    exact st_wipe (s1.mono L.1) (R := rI (i : Int)) rfl
  · obtain ⟨h0, us, ds, h1, h2, h3, h4⟩ := L
    exact q _ H' (e1.trans h0) ⟨ds, ⟨h3, h4⟩, Dl, hB, rfl, hDd, us, h1, h2⟩
/-- [elt for x in t] -/
theorem x_lcT {src : List D} (j : Nat) {x : Str} {scope : Scope} {tpos : Pos} (P : Nat → D → Prop) (hi : EX X B ρ iter (dat X.K (.t src))) (hn : src.length < 2000) (hN : X.N.Nodup) (hok : BlkOk X.N X.env.scope scope [(x, j)])
    (hgn : ∀ (s : Shared) (H : Hp) (C : Addr) (cl : List (Str × Addr)) (fp : List Addr), PG (X.blk s H scope (compEnvC scope cl C X.env) fp) (.Name x tpos) (gName j))
    (hb : ∀ (s : Shared) (H : Hp) (C : Addr) (cl : List (Str × Addr)) (fp : List Addr) (i : Nat) (w : D), src[i]? = some w → EX (X.blk s H scope (compEnvC scope cl C X.env) fp) B (ρ.set j (some (dat X.K w))) elt (dE X.K (P i)))
    (hc : X.calm = true := by rfl) (hs : ∀ x, foldedSetIterable iter X.env x = pure x := by intro _; rfl) :
    EX X B ρ (.ListComp elt [⟨.Name x tpos, iter, [], 0⟩] scope pos) (newE B X.K fun ds => ds.length = src.length ∧ ∀ k w, ds[k]? = some w → P k w) := by
  refine PE_wk (pe_lc (own := [(x, j)]) (g := gName j) (tt := tYes) (te := tElt (Z := Nat × D) B X.K (fun z => ρ.set j (some (dat X.K z.2))) (fun z => src[z.1]? = some z.2) (fun z => P z.1)) hc hN (pi_tup hi) hok hgn (fun _ _ _ _ _ => pts_nil) (fun s H C cl fp => elt_of fun z hz => hb s H C cl fp z.1 z.2 hz) hs) fun σ H Q ⟨s, q⟩ => ⟨s, fun v H1 e1 hv => ?_⟩
  obtain ⟨t, us, rfl, g1, g2⟩ := DR.tup hv
  have s1 := s.mono e1
  refine ⟨t, rfl, ⟨us, g1⟩, fun Dl hD => ?_⟩
  obtain ⟨hB, hDd⟩ := s1.fresh hD
  refine lc_tup (K := X.K) (a := t) (xs := us) (Lc H1 X.K Dl d P) ⟨Ext.new hD, [], [], upd_same, DRl.nil, rfl, fun k w h => by cases h⟩ (fun i H' _ L => L.1.tk.sqT g1) (fun i y H' hy L => ?_) (fun H' L => ?_)
  · obtain ⟨w, hw, hr⟩ := g2.getV hy
    refine ⟨wipe1 _ _ _, ?_⟩
    exact ⟨(i, w), hw, st_wipe (s1.mono L.1) (R := dat X.K w) (hr.tk L.1.tk), fun y H2 e2 hy => lc_step hD hDd L e2 hy (Nat.lt_trans (List.getElem?_eq_some_iff.mp hw).1 hn)⟩
  · obtain ⟨h0, vs, ds, h1, h2, h3, h4⟩ := L
    exact q _ H' (e1.trans h0) ⟨ds, ⟨by rw [h3, g2.1], h4⟩, Dl, hB, rfl, hDd, vs, h1, h2⟩
/-- [elt for x in xs], xs a list at l -/
theorem x_lcL {src : List D} {l : Addr} (j : Nat) {x : Str} {scope : Scope} {tpos : Pos} (P : Nat → D → Prop) (hi : EX X B ρ iter (lstA X.K l src)) (hn : src.length < 2000) (hN : X.N.Nodup) (hok : BlkOk X.N X.env.scope scope [(x, j)])
    (hgn : ∀ (s : Shared) (H : Hp) (C : Addr) (cl : List (Str × Addr)) (fp : List Addr), PG (X.blk s H scope (compEnvC scope cl C X.env) fp) (.Name x tpos) (gName j))
    (hb : ∀ (s : Shared) (H : Hp) (C : Addr) (cl : List (Str × Addr)) (fp : List Addr) (i : Nat) (w : D), src[i]? = some w → EX (X.blk s H scope (compEnvC scope cl C X.env) fp) B (ρ.set j (some (dat X.K w))) elt (dE X.K (P i)))
    (hc : X.calm = true := by rfl) (hs : ∀ x, foldedSetIterable iter X.env x = pure x := by intro _; rfl) :
    EX X B ρ (.ListComp elt [⟨.Name x tpos, iter, [], 0⟩] scope pos) (newE B X.K fun ds => ds.length = src.length ∧ ∀ k w, ds[k]? = some w → P k w) := by
  refine PE_wk (pe_lc (own := [(x, j)]) (g := gName j) (tt := tYes) (te := tElt (Z := Nat × D) B X.K (fun z => ρ.set j (some (dat X.K z.2))) (fun z => src[z.1]? = some z.2) (fun z => P z.1)) hc hN (pi_list hi) hok hgn (fun _ _ _ _ _ => pts_nil) (fun s H C cl fp => elt_of fun z hz => hb s H C cl fp z.1 z.2 hz) hs) fun σ H Q ⟨s, q⟩ => ⟨s, fun v H1 e1 hv => ?_⟩
  obtain ⟨rfl, hld, us, g1, g2⟩ := hv
  have s1 := s.mono e1
  refine ⟨l, rfl, ⟨us, g1.sq⟩, fun Dl hD => ?_⟩
  obtain ⟨hB, hDd⟩ := s1.fresh hD
  refine lc_list (K := X.K) (a := l) (xs := us) (Lc H1 X.K Dl d P) ⟨Ext.new hD, [], [], upd_same, DRl.nil, rfl, fun k w h => by cases h⟩ (fun i H' _ L => (g1.ext L.1).sq) (fun i y H' hy L => ?_) (fun H' L => ?_)
  · obtain ⟨w, hw, hr⟩ := g2.getV hy
    refine ⟨wipe1 _ _ _, ?_⟩
    exact ⟨(i, w), hw, st_wipe (s1.mono L.1) (R := dat X.K w) (hr.tk L.1.tk), fun y H2 e2 hy => lc_step hD hDd L e2 hy (Nat.lt_trans (List.getElem?_eq_some_iff.mp hw).1 hn)⟩
  · obtain ⟨h0, vs, ds, h1, h2, h3, h4⟩ := L
    exact q _ H' (e1.trans h0) ⟨ds, ⟨by rw [h3, g2.1], h4⟩, Dl, hB, rfl, hDd, vs, h1, h2⟩
/-- what is told of each item makes the list, where it is one thing -/
theorem ds_of {F : Nat → D} : ∀ {ds : List D} {n : Nat}, ds.length = n → (∀ k w, ds[k]? = some w → w = F k) → ds = (List.range n).map F := fun {ds n} h1 h2 => by
  apply List.ext_getElem?
  intro i
  rw [List.getElem?_map, ]
  by_cases hi : i < n
  · rw [List.getElem?_range hi, List.getElem?_eq_getElem (by rw [h1]; exact hi)]
    show _ = some (F i)
    rw [← h2 i _ (List.getElem?_eq_getElem (by rw [h1]; exact hi))]
  · rw [List.getElem?_eq_none (by rw [h1]; exact Nat.le_of_not_lt hi), List.getElem?_eq_none (by rw [List.length_range]; exact Nat.le_of_not_lt hi)]
    rfl
theorem ints_of {P : Nat → Int → Prop} : ∀ {ds : List D}, (∀ k w, ds[k]? = some w → ∃ z, w = .i z ∧ P k z) → ∃ ns : List Int, ds = ns.map D.i ∧ ∀ k z, ns[k]? = some z → P k z := fun {ds} => by
  induction ds generalizing P with
  | nil => exact fun _ => ⟨[], rfl, fun k z h => by cases h⟩
  | cons e ds ih =>
    intro h
    obtain ⟨z, rfl, hz⟩ := h 0 e rfl
    obtain ⟨ns, rfl, hns⟩ := ih (P := fun k => P (k + 1)) fun k w hk => h (k + 1) w hk
    refine ⟨z :: ns, rfl, fun k y hk => ?_⟩
    cases k with
    | zero => cases hk; exact hz
    | succ k => exact hns k y hk
/-! ### a list times a number; a range's list; reverse -/
theorem x_rep {l0 : List D} (ha : EX X B ρ a (newL B X.K l0)) (hb : EX X B ρ b (rI n)) (hn : l0.length * n.toNat ≤ 1000) (h1 : -(2 ^ 62) ≤ n ∧ n < 2 ^ 62) : EX X B ρ (.BinOp a .Mult b pos) (newL B X.K (List.replicate n.toNat l0).flatten) :=
  x_op2 op_rep ha hb fun x y H σ Q s hx hy q => by
    obtain ⟨l, _, rfl, hl, vs, g1, g2⟩ := hx
    refine ⟨l, n, vs, rfl, hy, g1, by omega, by omega, by rw [← g2.1]; exact Nat.le_of_lt (small1000 hn), fun p hp => q _ _ (Ext.new hp) ?_⟩
    obtain ⟨hB, hpd⟩ := s.fresh hp
    refine ⟨p, hB, rfl, hpd, _, upd_same, DRl.tk (Ext.new (d := d) hp).tk ?_⟩
    have key : ∀ k : Nat, DRl X.K H (List.replicate k l0).flatten (List.replicate k vs).flatten := fun k => by
      induction k with
      | zero => exact DRl.nil
      | succ k ih =>
        rw [List.replicate_succ, List.replicate_succ, List.flatten_cons, List.flatten_cons]
        refine ⟨by rw [List.length_append, List.length_append, g2.1, ih.1], fun i e' v' h1 h2 => ?_⟩
        by_cases hi : i < l0.length
        · rw [List.getElem?_append_left hi] at h1
          rw [List.getElem?_append_left (by rw [← g2.1]; exact hi)] at h2
          exact g2.2 i e' v' h1 h2
        · rw [List.getElem?_append_right (by omega)] at h1
          rw [List.getElem?_append_right (by rw [← g2.1]; omega), ← g2.1] at h2
          exact ih.2 _ e' v' h1 h2
    exact key n.toNat
theorem x_listR {p p2 p3 : Pos} (hg : Gl X "list") (hm : X.mg "list" = none) (hg2 : Gl X "range") (hm2 : X.mg "range" = none) (hi : EX X B ρ e (rI n)) (hn : 0 ≤ n ∧ n ≤ 1000) (hc : X.calm = true := by rfl) (na : starEach [e] X.env = (false, eval e X.env) :: starEach [] X.env := by rfl)
    (na2 : starEach [.Call (.Name "range" p2) [e] [] p3] X.env = (false, eval (.Call (.Name "range" p2) [e] [] p3) X.env) :: starEach [] X.env := by rfl) : EX X B ρ (.Call (.Name "list" p) [.Call (.Name "range" p2) [e] [] p3] [] pos) (newL B X.K ((List.range n.toNat).map fun (i : Nat) => D.i (i : Int))) :=
  PE_wk (pe_listRg hc hg hm (prg_1 hg2 hm2 hi na) na2) fun σ H Q ⟨s, q⟩ => ⟨s, fun v H1 e1 hv => by
    obtain rfl : v = .int n := hv
    refine ⟨n, rfl, RgOk.of_le (by omega) (by omega) (by omega) (by omega), fun r hr => q _ _ (e1.trans (Ext.new hr)) ?_⟩
    obtain ⟨hB, hpd⟩ := (s.mono e1).fresh hr
    refine ⟨r, hB, rfl, hpd, _, upd_same, ?_⟩
    have e0 : rgV 0 n = ((List.range n.toNat).map fun (i : Nat) => (i : Int)).map V.int := by
      unfold rgV
      rw [List.map_map, Int.sub_zero]
      apply List.map_congr_left
      intro i _
      show V.int ((0 : Int) + (i : Nat)) = V.int (i : Int)
      rw [Int.zero_add]
    have e2 : ((List.range n.toNat).map fun (i : Nat) => D.i (i : Int)) = ((List.range n.toNat).map fun (i : Nat) => (i : Int)).map D.i := by rw [List.map_map]; rfl
    rw [e0, e2]
    exact DRl.of_ints _⟩
theorem x_tupR {p p2 p3 : Pos} (hg : Gl X "tuple") (hm : X.mg "tuple" = none) (hg2 : Gl X "range") (hm2 : X.mg "range" = none) (hi : EX X B ρ e (rI n)) (hn : 0 ≤ n ∧ n ≤ 1000) (hc : X.calm = true := by rfl) (na : starEach [e] X.env = (false, eval e X.env) :: starEach [] X.env := by rfl)
    (na2 : starEach [.Call (.Name "range" p2) [e] [] p3] X.env = (false, eval (.Call (.Name "range" p2) [e] [] p3) X.env) :: starEach [] X.env := by rfl) : EX X B ρ (.Call (.Name "tuple" p) [.Call (.Name "range" p2) [e] [] p3] [] pos) (dat X.K (tI ((List.range n.toNat).map fun (i : Nat) => (i : Int)))) :=
  PE_wk (pe_tupRg hc hg hm (prg_1 hg2 hm2 hi na) na2) fun σ H Q ⟨s, q⟩ => ⟨s, fun v H1 e1 hv => by
    obtain rfl : v = .int n := hv
    refine ⟨n, rfl, RgOk.of_le (by omega) (by omega) (by omega) (by omega), fun r hr => q _ _ (e1.trans (Ext.new hr)) ?_⟩
    have e0 : rgV 0 n = ((List.range n.toNat).map fun (i : Nat) => (i : Int)).map V.int := by
      unfold rgV
      rw [List.map_map, Int.sub_zero]
      apply List.map_congr_left
      intro i _
      show V.int ((0 : Int) + (i : Nat)) = V.int (i : Int)
      rw [Int.zero_add]
    rw [e0]
    exact DR.of_tup (SqT.of upd_same) (DRl.of_ints _)⟩
/-- x.reverse(), x in slot i -/
theorem bx_reverse (i : Nat) {x : Str} {p1 p2 p3 p4 : Pos} {K : PySem.W.Frag} {l : Addr} {ds : List D} (hi : ρ[i]? = some (some (own K l ds))) (hK : X.K = K) (hB : B l = none) (hb : IndBut l i ρ) (h : BX X rest (St B (ρ.set i (some (own K l ds.reverse)))) Po)
    (hN : X.N[i]? = some x := by rfl) (hv : Vis X.env.scope x := by first | exact Or.inl rfl | exact Or.inr (Or.inl rfl) | exact Or.inr (Or.inr rfl)) (hd : (x == ("__debug__" : Str)) = false := by decide) (hcd : (x == ("__classdict__" : Str)) = false := by decide)
    (hbase : attributeBase (.Name x p1) "reverse" X.env (eval (.Name x p1) X.env) = eval (.Name x p1) X.env := by rfl) (hline : (p2.endLine == p3.line) = true := by rfl)
    (hsw : swapsWith (.Call (.Attribute (.Name x p1) "reverse" p2) [] [] p3) none p4.line X.env = pure false := by rfl) :
    BX X (.Expr (.Call (.Attribute (.Name x p1) "reverse" p2) [] [] p3) p4 :: rest) (St B ρ) Po := by
  subst hK
  refine bx_cons (Mid := St B (ρ.set i (some (own X.K l ds.reverse)))) ?_ h
  refine PS_wk (ps_expr (pe_bm0 PySem.F.plainAttrs_list PySem.F.slot_list_reverse PySem.F.type_list_reverse mt_reverse (pe_var hN hv hd hcd) hbase hline) hsw) fun E σ H ⟨s, q⟩ => ?_
  obtain ⟨v, h1, rfl, hl, vs, h2, h3⟩ := s.good.get hi
  refine ⟨_, h1, Or.inl ⟨rfl, _, SqL.of h2⟩, l, vs, rfl, rfl, h2, ?_⟩
  refine q.nx σ _ (Tk.lst h2) (st_own s hi hB hb ⟨by simp [h3.1], fun j e' v' b1 b2 => ?_⟩)
  have hj : j < ds.length := by
    have := (List.getElem?_eq_some_iff.mp b1).1
    simpa using this
  rw [List.getElem?_reverse hj] at b1
  rw [List.getElem?_reverse (by rw [← h3.1]; exact hj), ← h3.1] at b2
  exact h3.2 _ e' v' b1 b2
end
end Cv

namespace Cv
open PySem PySem.Spec PyProof.Rows L2 RZ
/-! ### data compared -/
mutual
def D.py : D → PyData
  | .i n => .int n
  | .b k => .bool k
  | .n => .none
  | .s x => .str x
  | .t xs => .tuple (pyL xs)
def pyL : List D → List PyData
  | [] => []
  | e :: r => e.py :: pyL r
end
theorem dpAll_of {K : PySem.W.Frag} {H : Hp} : ∀ {ds : List D} {vs : List V}, ds.length = vs.length → (∀ (i : Nat) (e : D) (v : V), ds[i]? = some e → vs[i]? = some v → Dp K H v e.py) → DpAll K H vs (pyL ds)
  | [], [], _, _ => .nil
  | [], _ :: _, h, _ => absurd h (by simp)
  | _ :: _, [], h, _ => absurd h (by simp)
  | e :: ds, v :: vs, h, g => .cons (g 0 e v rfl rfl) (dpAll_of (by simpa using h) fun i e' v' a b => g (i + 1) e' v' a b)
theorem dp_of {K : PySem.W.Frag} {H : Hp} {e : D} {v : V} (h : DR K H e v) : Dp K H v e.py := by
  induction h with
  | i n => exact .int n
  | b k => exact .bl k
  | n => exact .non
  | s x => exact .str x
  | t h hl _ ih => exact .tup h (dpAll_of hl ih)
/-- plain data (no bools) of a depth -/
inductive Shp : Nat → D → Prop
  | i {k : Nat} (n : Int) : Shp k (.i n)
  | n {k : Nat} : Shp k .n
  | s {k : Nat} (x : Str) (h : PyData.strOk x = true) : Shp k (.s x)
  | t {k : Nat} {xs : List D} (h : ∀ e ∈ xs, Shp k e) : Shp (k + 1) (.t xs)
theorem shpL {k : Nat} : ∀ {xs : List D}, (∀ e ∈ xs, e.py.canLay0 = true ∧ e.py.depth ≤ k) → PyData.canLayAll0 (pyL xs) = true ∧ PyData.depthAll (pyL xs) ≤ k
  | [], _ => ⟨by simp [pyL, PyData.canLayAll0], by simp [pyL, PyData.depthAll]⟩
  | e :: r, h => by
    obtain ⟨h1, h2⟩ := h e List.mem_cons_self
    obtain ⟨h3, h4⟩ := shpL (xs := r) fun e' he => h e' (List.mem_cons_of_mem _ he)
    refine ⟨?_, ?_⟩
    · simp only [pyL, PyData.canLayAll0, h1, h3, Bool.and_self]
    · simp only [pyL, PyData.depthAll]
      exact Nat.max_le.mpr ⟨h2, h4⟩
theorem Shp.lay {k : Nat} {e : D} (h : Shp k e) : e.py.canLay0 = true ∧ e.py.depth ≤ k := by
  induction h with
  | i n => exact ⟨by simp [D.py, PyData.canLay0], by simp [D.py, PyData.depth]⟩
  | n => exact ⟨by simp [D.py, PyData.canLay0], by simp [D.py, PyData.depth]⟩
  | s x h => exact ⟨by simpa [D.py, PyData.canLay0] using h, by simp [D.py, PyData.depth]⟩
  | t _ ih =>
    obtain ⟨h1, h2⟩ := shpL ih
    exact ⟨by simpa [D.py, PyData.canLay0] using h1, by simpa [D.py, PyData.depth] using h2⟩
theorem Shp.shaped {k : Nat} {e : D} (h : Shp k e) (hk : k ≤ 64) : SeqAt.shaped e.py = true := by
  obtain ⟨h1, h2⟩ := h.lay
  unfold SeqAt.shaped
  rw [h1, Bool.true_and]
  exact decide_eq_true (Nat.le_trans h2 hk)
theorem eqvL : ∀ {xs ys : List D}, (∀ e ∈ xs, ∀ {f : D}, (∃ k, Shp k f) → (PyData.eqv e.py f.py = true ↔ e = f)) → (∀ f ∈ ys, ∃ k, Shp k f) → (PyData.eqvAll (pyL xs) (pyL ys) = true ↔ xs = ys)
  | [], [], _, _ => by simp [pyL, PyData.eqvAll]
  | [], _ :: _, _, _ => by simp [pyL, PyData.eqvAll]
  | _ :: _, [], _, _ => by simp [pyL, PyData.eqvAll]
  | x :: xs, y :: ys, h, g => by
    have h1 := h x List.mem_cons_self (f := y) (g y List.mem_cons_self)
    have h2 := eqvL (xs := xs) (ys := ys) (fun e he => h e (List.mem_cons_of_mem _ he)) fun f hf => g f (List.mem_cons_of_mem _ hf)
    simp only [pyL, PyData.eqvAll, Bool.and_eq_true, h1, h2, List.cons.injEq]
theorem Shp.eqv {k : Nat} {e : D} (h : Shp k e) : ∀ {f : D}, (∃ j, Shp j f) → (PyData.eqv e.py f.py = true ↔ e = f) := by
  induction h with
  | i n =>
    rintro f ⟨j, hf⟩
    cases hf with
    | i m => simp [D.py, PyData.eqv]
    | n => simp [D.py, PyData.eqv]
    | s y _ => simp [D.py, PyData.eqv]
    | t _ => simp [D.py, PyData.eqv]
  | n =>
    rintro f ⟨j, hf⟩
    cases hf with
    | i m => simp [D.py, PyData.eqv]
    | n => simp [D.py, PyData.eqv]
    | s y _ => simp [D.py, PyData.eqv]
    | t _ => simp [D.py, PyData.eqv]
  | s x _ =>
    rintro f ⟨j, hf⟩
    cases hf with
    | i m => simp [D.py, PyData.eqv]
    | n => simp [D.py, PyData.eqv]
    | s y _ => simp [D.py, PyData.eqv]
    | t _ => simp [D.py, PyData.eqv]
  | @t k xs _ ih =>
    rintro f ⟨j, hf⟩
    cases hf with
    | i m => simp [D.py, PyData.eqv]
    | n => simp [D.py, PyData.eqv]
    | s y _ => simp [D.py, PyData.eqv]
    | @t j' ys g =>
      have := eqvL (xs := xs) (ys := ys) (fun e he {f} hf => ih e he hf) fun f hf => ⟨_, g f hf⟩
      simpa [D.py, PyData.eqv] using this
theorem shp_tI {k : Nat} (ns : List Int) : Shp (k + 1) (tI ns) := .t fun e he => by
  obtain ⟨n, _, rfl⟩ := List.mem_map.mp he
  exact .i n
section
variable {d : Option Addr} {X : Cx} {B : Hp} {ρ ρ' : Ro d} {a b c e iter elt : Expr} {es : List Expr} {R R' Ra Rb : Rp d} {Rs : List (Rp d)} {pos : Pos} {m n : Int} {st : Stmt} {rest body orelse : List Stmt} {Pre Mid : L2.St → Hp → Prop} {Po : Ends}
theorem bool_iff {k : Bool} {P : Prop} [Decidable P] (h : k = true ↔ P) : k = decide P := by
  by_cases hp : P
  · rw [decide_eq_true hp]; exact h.mpr hp
  · rw [decide_eq_false hp]
    cases k with
    | true => exact absurd (h.mp rfl) hp
    | false => rfl
theorem t_eqD {x y : D} {k j : Nat} (hu : X.A.units + 64 < cLine) (ha : EX X B ρ a (dat X.K x)) (hb : EX X B ρ b (dat X.K y)) (hx : Shp k x) (hy : Shp j y) (hk : k ≤ 64 := by decide) (hj : j ≤ 64 := by decide) : TX X B ρ (.Compare a [.Eq] [b] pos) (fun q => q = true ↔ x = y) :=
  t_cmp (op_eqD hu) (nomark _) ha hb fun u v H σ Q _ hx' hy' q => ⟨x.py, y.py, dp_of hx', dp_of hy', hx.shaped hk, hy.shaped hj, q _ H (Ext.refl H) (hx.eqv ⟨_, hy⟩)⟩
theorem t_neD {x y : D} {k j : Nat} (hu : X.A.units + 64 < cLine) (ha : EX X B ρ a (dat X.K x)) (hb : EX X B ρ b (dat X.K y)) (hx : Shp k x) (hy : Shp j y) (hk : k ≤ 64 := by decide) (hj : j ≤ 64 := by decide) : TX X B ρ (.Compare a [.NotEq] [b] pos) (fun q => q = false ↔ x = y) :=
  t_cmp (op_neD hu) (nomark _) ha hb fun u v H σ Q _ hx' hy' q => ⟨x.py, y.py, dp_of hx', dp_of hy', hx.shaped hk, hy.shaped hj, q _ H (Ext.refl H) (by have := hx.eqv ⟨_, hy⟩; rw [← this]; cases PyData.eqv x.py y.py <;> simp)⟩
theorem x_eqD {x y : D} {k j : Nat} (hu : X.A.units + 64 < cLine) (ha : EX X B ρ a (dat X.K x)) (hb : EX X B ρ b (dat X.K y)) (hx : Shp k x) (hy : Shp j y) (hk : k ≤ 64 := by decide) (hj : j ≤ 64 := by decide) : EX X B ρ (.Compare a [.Eq] [b] pos) (exR (fun q => q = true ↔ x = y) rB) :=
  x_cmp (op_eqD hu) (nomark _) ha hb fun u v H σ Q _ hx' hy' q => ⟨x.py, y.py, dp_of hx', dp_of hy', hx.shaped hk, hy.shaped hj, q _ H (Ext.refl H) ⟨_, hx.eqv ⟨_, hy⟩, rfl⟩⟩
theorem t_isN {x : D} {K : PySem.W.Frag} {j : Nat} {p2 : Pos} (ha : EX X B ρ a (dat K x)) : TX X B ρ (.Compare a [.Is] [.Constant .none j p2] pos) (fun q => q = true ↔ x = .n) :=
  t_cmp op_isN (nomark _) ha (x_non (K := K)) fun u v H σ Q _ hx' hy' q => by
    cases hy'
    refine ⟨rfl, q _ H (Ext.refl H) ?_⟩
    cases hx' <;> simp
theorem x_isN {x : D} {K : PySem.W.Frag} {j : Nat} {p2 : Pos} (ha : EX X B ρ a (dat K x)) : EX X B ρ (.Compare a [.Is] [.Constant .none j p2] pos) (exR (fun q => q = true ↔ x = .n) rB) :=
  x_cmp op_isN (nomark _) ha (x_non (K := K)) fun u v H σ Q _ hx' hy' q => by
    cases hy'
    refine ⟨rfl, q _ H (Ext.refl H) ⟨_, ?_, rfl⟩⟩
    cases hx' <;> simp
theorem t_notN {x : D} {K : PySem.W.Frag} {j : Nat} {p2 : Pos} (ha : EX X B ρ a (dat K x)) : TX X B ρ (.Compare a [.IsNot] [.Constant .none j p2] pos) (fun q => q = false ↔ x = .n) :=
  t_cmp op_notN (nomark _) ha (x_non (K := K)) fun u v H σ Q _ hx' hy' q => by
    cases hy'
    refine ⟨rfl, q _ H (Ext.refl H) ?_⟩
    cases hx' <;> simp
theorem x_notN {x : D} {K : PySem.W.Frag} {j : Nat} {p2 : Pos} (ha : EX X B ρ a (dat K x)) : EX X B ρ (.Compare a [.IsNot] [.Constant .none j p2] pos) (exR (fun q => q = false ↔ x = .n) rB) :=
  x_cmp op_notN (nomark _) ha (x_non (K := K)) fun u v H σ Q _ hx' hy' q => by
    cases hy'
    refine ⟨rfl, q _ H (Ext.refl H) ⟨_, ?_, rfl⟩⟩
    cases hx' <;> simp
theorem t_neB {p q : Bool} (ha : EX X B ρ a (rB p)) (hb : EX X B ρ b (rB q)) : TX X B ρ (.Compare a [.NotEq] [b] pos) (is (!decide (p = q))) := t_cmp op_ne (nomark _) ha hb fun x y H σ Q _ hx hy k => by
  subst hx; subst hy
  exact ⟨rfl, k _ H (Ext.refl H) (by show (!decide (V.bl p = V.bl q)) = _; rw [dec_bl, Bool.beq_eq_decide_eq])⟩
theorem t_neBE {P S : Bool → Prop} (ha : EX X B ρ a (exR P rB)) (hb : EX X B ρ b (exR S rB)) : TX X B ρ (.Compare a [.NotEq] [b] pos) (fun k => ∃ p q, P p ∧ S q ∧ k = !decide (p = q)) := t_cmp op_ne (nomark _) ha hb fun x y H σ Q _ hx hy k => by
  obtain ⟨p, hp, hx⟩ := hx
  obtain ⟨q, hq, hy⟩ := hy
  subst hx; subst hy
  exact ⟨rfl, k _ H (Ext.refl H) ⟨p, q, hp, hq, by show (!decide (V.bl p = V.bl q)) = _; rw [dec_bl, Bool.beq_eq_decide_eq]⟩⟩
theorem t_eqBE {P S : Bool → Prop} (ha : EX X B ρ a (exR P rB)) (hb : EX X B ρ b (exR S rB)) : TX X B ρ (.Compare a [.Eq] [b] pos) (fun k => ∃ p q, P p ∧ S q ∧ k = decide (p = q)) := t_cmp op_eq (nomark _) ha hb fun x y H σ Q _ hx hy k => by
  obtain ⟨p, hp, hx⟩ := hx
  obtain ⟨q, hq, hy⟩ := hy
  subst hx; subst hy
  exact ⟨rfl, k _ H (Ext.refl H) ⟨p, q, hp, hq, by rw [dec_bl, Bool.beq_eq_decide_eq]⟩⟩
theorem x_B {k : Bool} (h : EX X B ρ e (rB k)) : EX X B ρ e (exR (is k) rB) := x_sub h fun v H hv => ⟨k, rfl, hv⟩
theorem t_valE {P : Bool → Prop} (h : EX X B ρ e (exR P rB)) (he : ∀ whole, isTrue e X.env whole = (do let v ← whole; standAt e.pos; holding [v] (truthy v)) := by intro _; rfl) : TX X B ρ e P :=
  PT_wk (pt_val h he) fun σ H Q ⟨s, q⟩ => ⟨s, fun v H' e1 ⟨k, hk, hv⟩ => ⟨k, hv, q k H' e1 hk⟩⟩
theorem t_eqE {P S : Int → Prop} (ha : EX X B ρ a (iE P)) (hb : EX X B ρ b (iE S)) : TX X B ρ (.Compare a [.Eq] [b] pos) (fun k => ∃ i j, P i ∧ S j ∧ k = decide (i = j)) := t_cmp op_eq (nomark _) ha hb fun x y H σ Q _ hx hy q => by
  obtain ⟨i, hi, hx⟩ := hx
  obtain ⟨j, hj, hy⟩ := hy
  subst hx; subst hy
  exact ⟨rfl, q _ H (Ext.refl H) ⟨i, j, hi, hj, by rw [dec_int, Bool.beq_eq_decide_eq]⟩⟩
/-! ### isinstance of data -/
def tyD : D → String
  | .i _ => "int"
  | .b _ => "bool"
  | .n => "NoneType"
  | .s _ => "str"
  | .t _ => "tuple"
theorem tyX_of {K : PySem.W.Frag} {H : Hp} {x : D} {v : V} (h : DR K H x v) : TyX K H v (.type (tyD x)) := by
  cases h with
  | i n => exact .base (.int n)
  | b k => exact .base (.bl k)
  | n => exact .base .non
  | s z => exact .base (.str z)
  | t h _ _ =>
    rcases h with (h | ⟨o, h⟩) | ⟨o, its, n, h1, h2, _⟩
    · exact .base (.tup h)
    · exact .fTuple h
    · exact .kTuple h1 h2
theorem x_isi {x : D} {T : Str} (t ty0 : String) (r : Bool) {p p2 : Pos} (hg : Gl X "isinstance") (hm : X.mg "isinstance" = none) (hgT : Gl X T) (hmT : X.mg T = none) (hT : bootBuiltins T = some (.type t)) (hty : tyD x = ty0) (hk : kitB ty0 t = some r) (h : EX X B ρ e (dat X.K x)) (hn : T ≠ "__name__" := by decide) (hdb : (T == ("__debug__" : Str)) = false := by decide)
    (he : starEach [e, .Name T p2] X.env = (false, eval e X.env) :: starEach [.Name T p2] X.env := by rfl) (he2 : starEach [.Name T p2] X.env = (false, eval (.Name T p2) X.env) :: starEach [] X.env := by rfl) (hpl : (backTo pos (starEach [.Name T p2] X.env)).any (·.1) = false := by rfl) : EX X B ρ (.Call (.Name "isinstance" p) [e, .Name T p2] [] pos) (rB r) :=
  x_callB (Rs := [dat X.K x, ⟨fun v _ => v = .ty t, fun _ h => h⟩]) call_isi hg hm (by decide +kernel) (a_cons h (a_cons (PE_wk (pe_bltn (v := .ty t) hgT hmT hT rfl hn hdb) fun σ H Q ⟨s, q⟩ => q _ H (Ext.refl H) rfl) a_nil he2) he) (fun vs H σ Q s hv q => by
    obtain ⟨u, w, rfl, h1, h2⟩ := hv.two
    subst hty
    exact ⟨u, w, .type (tyD x), .type t, r, rfl, by rw [show w = .ty t from h2]; exact .ty t, tyX_of h1, kit_ty hk, q _ H (Ext.refl H) rfl⟩) (he := he) (hpl := hpl)
/-! ### and, or, not as values (bools) -/
theorem x_one {op : BoolOp} (h : EX X B ρ a R) : EX X B ρ (.BoolOp op [a] pos) R := pe_one h
theorem x_and {P S : Bool → Prop} (ha : EX X B ρ a (exR P rB)) (hb : P true → EX X B ρ (.BoolOp .And (b :: es) pos) (exR S rB)) : EX X B ρ (.BoolOp .And (a :: b :: es) pos) (exR (fun k => (P true ∧ S k) ∨ (P false ∧ k = false)) rB) := by
  by_cases hp : P true
  · exact PE_wk (pe_and ha (hb hp)) fun σ H Q ⟨s, q⟩ => ⟨s, fun v H1 e1 ⟨k, hk, hv⟩ => ⟨k, hv, by
      cases k with
      | true => exact iteT ⟨s.mono e1, fun v2 H2 e2 ⟨k2, hk2, hv2⟩ => q v2 H2 (e1.trans e2) ⟨k2, .inl ⟨hp, hk2⟩, hv2⟩⟩
      | false => exact iteF (q _ H1 e1 ⟨false, .inr ⟨hk, rfl⟩, rfl⟩)⟩⟩
  · refine ⟨fun pins s σ H Q I ⟨st, q⟩ => ?_⟩
    refine BoolOp_and (thn (ha.run pins s σ H (fun v H' => v = .bl false ∧ Q v H') I ⟨st, fun v H' e1 ⟨k, hk, hv⟩ => ?_⟩) fun v s1 ⟨x, H1, I1, r1, q1⟩ => ?_)
    · cases k with
      | true => exact absurd hk hp
      | false => exact ⟨hv, q v H' e1 ⟨false, .inr ⟨hk, rfl⟩, hv⟩⟩
    · obtain ⟨rfl, q1⟩ := q1
      cases r1
      exact wpAny_truthy_bool ⟨.bl false, H1, I1, rfl, q1⟩
theorem x_or {P S : Bool → Prop} (ha : EX X B ρ a (exR P rB)) (hb : P false → EX X B ρ (.BoolOp .Or (b :: es) pos) (exR S rB)) : EX X B ρ (.BoolOp .Or (a :: b :: es) pos) (exR (fun k => (P false ∧ S k) ∨ (P true ∧ k = true)) rB) := by
  by_cases hp : P false
  · exact PE_wk (pe_or ha (hb hp)) fun σ H Q ⟨s, q⟩ => ⟨s, fun v H1 e1 ⟨k, hk, hv⟩ => ⟨k, hv, by
      cases k with
      | true => exact iteT (q _ H1 e1 ⟨true, .inr ⟨hk, rfl⟩, rfl⟩)
      | false => exact iteF ⟨s.mono e1, fun v2 H2 e2 ⟨k2, hk2, hv2⟩ => q v2 H2 (e1.trans e2) ⟨k2, .inl ⟨hp, hk2⟩, hv2⟩⟩⟩⟩
  · refine ⟨fun pins s σ H Q I ⟨st, q⟩ => ?_⟩
    refine BoolOp_or (thn (ha.run pins s σ H (fun v H' => v = .bl true ∧ Q v H') I ⟨st, fun v H' e1 ⟨k, hk, hv⟩ => ?_⟩) fun v s1 ⟨x, H1, I1, r1, q1⟩ => ?_)
    · cases k with
      | false => exact absurd hk hp
      | true => exact ⟨hv, q v H' e1 ⟨true, .inr ⟨hk, rfl⟩, hv⟩⟩
    · obtain ⟨rfl, q1⟩ := q1
      cases r1
      exact wpAny_truthy_bool ⟨.bl true, H1, I1, rfl, q1⟩
theorem x_not {P : Bool → Prop} (h : EX X B ρ a (exR P rB)) : EX X B ρ (.UnaryOp .Not a pos) (exR (fun k => P (!k)) rB) :=
  PE_wk (pe_not h) fun σ H Q ⟨s, q⟩ => ⟨s, fun v H1 e1 ⟨k, hk, hv⟩ => ⟨k, hv, q _ H1 e1 ⟨!k, by show P (!!k); rw [Bool.not_not]; exact hk, rfl⟩⟩⟩
theorem x_bE {P S : Bool → Prop} (h : EX X B ρ e (exR P rB)) (w : ∀ k, P k → S k) : EX X B ρ e (exR S rB) := x_sub h fun v H ⟨k, hk, hv⟩ => ⟨k, w k hk, hv⟩
theorem x_bIs {P : Bool → Prop} {k : Bool} (h : EX X B ρ e (exR P rB)) (w : ∀ q, P q → q = k) : EX X B ρ e (rB k) := x_sub h fun v H ⟨q, hq, hv⟩ => by rw [w q hq] at hv; exact hv
end
end Cv

namespace Cv
open PySem PySem.Spec PyProof.Rows L2 RZ
section
variable {d : Option Addr} {X : Cx} {B : Hp} {ρ ρ' : Ro d} {a b c e iter elt : Expr} {es : List Expr} {R R' Ra Rb : Rp d} {Rs : List (Rp d)} {pos : Pos} {m n : Int} {st : Stmt} {rest body orelse : List Stmt} {Pre Mid : L2.St → Hp → Prop} {Po : Ends}
/-! ### instances -/
def FsH (F : List (Str × Rp d)) (fs : List (Str × V)) (H : Hp) : Prop := ∀ (i : Nat) (f : Str) (R : Rp d), F[i]? = some (f, R) → ∃ v, fs.lookup f = some v ∧ R.p v H
theorem FsH.mono {F : List (Str × Rp d)} {fs : List (Str × V)} {H H' : Hp} (e : Ext d H H') (h : FsH F fs H) : FsH F fs H' := fun i f R k => let ⟨v, a, b⟩ := h i f R k; ⟨v, a, R.st e b⟩
/-- an instance of the class at C, at x -/
def insA (C x : Addr) (F : List (Str × Rp d)) : Rp d := ⟨fun v H => v = .ref x ∧ ∃ dx fs, H x = some (.ins C dx fs) ∧ fs.length ≤ F.length ∧ FsH F fs H, fun e ⟨h0, dx, fs, h1, h2, h3⟩ => ⟨h0, dx, fs, e.keep _ _ h1 fun _ _ q => (by cases q), h2, h3.mono e⟩⟩
def insR (C : Addr) (F : List (Str × Rp d)) : Rp d := exR (fun _ => True) fun x => insA C x F
theorem x_insR {C x : Addr} {F : List (Str × Rp d)} (h : EX X B ρ e (insA C x F)) : EX X B ρ e (insR C F) := x_sub h fun v H hv => ⟨x, trivial, hv⟩
theorem x_fld {C : Addr} {F : List (Str × Rp d)} {f : Str} (i : Nat) (cl : Cls X.K C) (na : NoAttr X.K C f) (h : EX X B ρ e (insR C F)) (hi : F[i]? = some (f, R) := by rfl) (hb : attributeBase e f X.env (eval e X.env) = eval e X.env := by rfl) : EX X B ρ (.Attribute e f pos) R :=
  PE_wk (pe_fld h hb) fun σ H Q ⟨s, q⟩ => ⟨s, fun v H1 e1 hv => by
    obtain ⟨x, _, rfl, dx, fs, h1, h2, h3⟩ := hv
    obtain ⟨u, hu, hr⟩ := h3 i f R hi
    exact ⟨x, C, dx, fs, u, rfl, h1, cl, na, hu, q u H1 e1 hr⟩⟩
def IndO (x : Addr) (R : Rp d) : Prop := ∀ v H C dx fs fs', H x = some (.ins C dx fs) → R.p v H → R.p v (upd H x (.ins C dx fs'))
theorem tk_ins {H : Hp} {x C dx : Addr} {fs fs' : List (Str × V)} (h : H x = some (.ins C dx fs)) : Tk H (upd H x (.ins C dx fs')) := by
  refine ⟨fun a zs e => ?_, fun a o u e => ?_⟩
  · have : a ≠ x := fun q => by rw [q, h] at e; cases e
    rw [upd_ne this]; exact e
  · have : a ≠ x := fun q => by rw [q, h] at e; cases e
    rw [upd_ne this]; exact e
theorem io_I {x : Addr} {n : Int} : IndO x (rI (d := d) n) := fun _ _ _ _ _ _ _ h => h
theorem io_any {x : Addr} : IndO x (rAny (d := d)) := fun _ _ _ _ _ _ _ h => h
theorem io_dat {x : Addr} {K : PySem.W.Frag} {w : D} : IndO x (dat (d := d) K w) := fun _ _ _ _ _ _ hx h => h.tk (tk_ins hx)
theorem io_own {x l : Addr} {K : PySem.W.Frag} {ds : List D} : IndO x (own (d := d) K l ds) := fun _ H _ _ _ _ hx ⟨h1, h2, us, h3, h4⟩ => ⟨h1, h2, us, by rw [upd_ne (show l ≠ x from fun z => by rw [z, hx] at h3; cases h3)]; exact h3, h4.tk (tk_ins hx)⟩
theorem io_lstA {x l : Addr} {K : PySem.W.Frag} {ds : List D} : IndO x (lstA (d := d) K l ds) := fun _ H _ _ _ _ hx ⟨h1, h2, us, h3, h4⟩ => ⟨h1, h2, us, by
  rcases h3 with ⟨k, h⟩ | ⟨o, h⟩ | h
  · exact .inl ⟨k, by rw [upd_ne (show l ≠ x from fun z => by rw [z, hx] at h; cases h)]; exact h⟩
  · exact .inr (.inl ⟨o, by rw [upd_ne (show l ≠ x from fun z => by rw [z, hx] at h; cases h)]; exact h⟩)
  · exact .inr (.inr h), h4.tk (tk_ins hx)⟩
theorem io_ex {x : Addr} {α : Type} {P : α → Prop} {Rz : α → Rp d} (h : ∀ z, IndO x (Rz z)) : IndO x (exR P Rz) := fun v H C dx fs fs' hx ⟨z, hz, q⟩ => ⟨z, hz, h z v H C dx fs fs' hx q⟩
def IoBut (x : Addr) (i : Nat) (r : Ro d) : Prop := ∀ (j : Nat) (R : Rp d), j ≠ i → r[j]? = some (some R) → IndO x R
/-- self.f = e (self in slot i) -/
theorem bx_setfld (i : Nat) {x : Str} {p1 p2 : Pos} {C y : Addr} {F : List (Str × Rp d)} {f : Str} (hi : ρ[i]? = some (some (insA C y F))) (hF : F.length ≤ 50) (cl : Cls X.K C) (na : NoAttr X.K C f) (he : EX X B ρ e R) (hB : B y = none) (hb : IoBut y i ρ) (hR : IndO y R) (hFs : ∀ p ∈ F, IndO y p.2 ∧ p.1 ≠ f)
    (h : BX X rest (St B (ρ.set i (some (insA C y ((f, R) :: F))))) Po)
    (hN : X.N[i]? = some x := by rfl) (hv : Vis X.env.scope x := by first | exact Or.inl rfl | exact Or.inr (Or.inl rfl) | exact Or.inr (Or.inr rfl)) (hd : (x == ("__debug__" : Str)) = false := by decide) (hcd : (x == ("__classdict__" : Str)) = false := by decide)
    (hs : swapsWith e (some (.Attribute (.Name x p1) f p2)) pos.line X.env = pure false := by rfl) :
    BX X (.Assign [.Attribute (.Name x p1) f p2] e pos :: rest) (St B ρ) Po := by
  refine bx_cons (Mid := St B (ρ.set i (some (insA C y ((f, R) :: F))))) ?_ h
  refine PS_wk (ps_fld (pe_var hN hv hd hcd) he hs) fun E σ H ⟨s, q⟩ => ⟨s, fun v H1 e1 hvv => ?_⟩
  have s1 := s.mono e1
  obtain ⟨u, a1, rfl, dx, fs, a2, a3, a4⟩ := s1.good.get hi
  refine ⟨_, a1, y, C, dx, fs, rfl, a2, cl, na, by omega, ?_⟩
  have hyd : some y ≠ d := fun z => by
    obtain ⟨ns, _, q'⟩ := s1.dr y z.symm
    rw [a2] at q'; cases q'
  refine q.nx σ _ (e1.tk.trans (tk_ins a2)) ⟨s1.ext.mut hB hyd, fun a' z => ?_, by simp [s1.good.1], fun j R' hj => ?_⟩
  · obtain ⟨ns, hn, q'⟩ := s1.dr a' z
    have : a' ≠ y := fun w => hyd (by rw [z, w])
    exact ⟨ns, hn, by rw [upd_ne this]; exact q'⟩
  · by_cases hij : j = i
    · subst hij
      have hlt : j < ρ.length := (List.getElem?_eq_some_iff.mp hi).1
      rw [List.getElem?_set_self hlt] at hj
      cases hj
      refine ⟨_, a1, rfl, dx, _, upd_same, ?_, fun k g R'' hk => ?_⟩
      · exact Nat.le_trans (length_putF f v fs) (by simpa using a3)
      · rw [lookup_putF]
        cases k with
        | zero => cases hk; rw [if_pos rfl]; exact ⟨v, rfl, hR v H1 C dx fs _ a2 hvv⟩
        | succ k =>
          have hm : (g, R'') ∈ F := List.mem_of_getElem? hk
          obtain ⟨w1, w2⟩ := hFs _ hm
          rw [if_neg w2]
          obtain ⟨v', b1, b2⟩ := a4 k g R'' hk
          exact ⟨v', b1, w1 v' H1 C dx fs _ a2 b2⟩
    · rw [List.getElem?_set_ne (fun z => hij z.symm)] at hj
      obtain ⟨v', b1, b2⟩ := s1.good.get hj
      exact ⟨v', b1, hb j R' hij hj v' H1 C dx fs _ a2 b2⟩
theorem io_insA {x y C' : Addr} {F : List (Str × Rp d)} (hne : y ≠ x) (h : ∀ p ∈ F, IndO x p.2) : IndO x (insA C' y F) := fun v H C dx fs fs' hx ⟨h0, dy, gs, h1, h2, h3⟩ => ⟨h0, dy, gs, by rw [upd_ne hne]; exact h1, h2, fun i f R k => let ⟨u, p, q⟩ := h3 i f R k; ⟨u, p, h _ (List.mem_of_getElem? k) u H C dx fs fs' hx q⟩⟩
theorem ib_all {x : Addr} {i : Nat} {r : Ro d} (h : ∀ (j : Nat) (R : Rp d), j ≠ i → r[j]? = some (some R) → IndO x R) : IoBut x i r := h
theorem io_nil {x : Addr} : ∀ (j : Nat) (R : Rp d), ([] : Ro d)[j]? = some (some R) → IndO x R := fun j R h => by cases h
theorem io_none {x : Addr} {r : Ro d} (h : ∀ (j : Nat) (R : Rp d), r[j]? = some (some R) → IndO x R) : ∀ (j : Nat) (R : Rp d), ((none :: r : Ro d))[j]? = some (some R) → IndO x R := fun j R e => by
  cases j with
  | zero => cases e
  | succ j => exact h j R e
theorem io_some {x : Addr} {r : Ro d} {R : Rp d} (w : IndO x R) (h : ∀ (j : Nat) (R : Rp d), r[j]? = some (some R) → IndO x R) : ∀ (j : Nat) (R' : Rp d), ((some R :: r : Ro d))[j]? = some (some R') → IndO x R' := fun j R' e => by
  cases j with
  | zero => cases e; exact w
  | succ j => exact h j R' e
theorem io_here {x : Addr} {o : Option (Rp d)} {r : Ro d} (h : ∀ (j : Nat) (R : Rp d), r[j]? = some (some R) → IndO x R) : IoBut x 0 (o :: r) := fun j R hj e => by
  cases j with
  | zero => exact absurd rfl hj
  | succ j => exact h j R e
theorem ind_insA {l C y : Addr} {F : List (Str × Rp d)} (h : ∀ p ∈ F, Ind l p.2) : Ind l (insA C y F) := fun v H xs ys hl ⟨h0, dy, gs, h1, h2, h3⟩ => ⟨h0, dy, gs, by rw [upd_ne (show y ≠ l from fun z => by rw [z, hl] at h1; cases h1)]; exact h1, h2, fun i f R k => let ⟨u, p, q⟩ := h3 i f R k; ⟨u, p, h _ (List.mem_of_getElem? k) u H xs ys hl q⟩⟩
/-! ### defs with any promise -/
variable {Pg : Program} {w : World} {K : PySem.W.Frag} {mg : Str → Option Value} {base : Heap}
theorem fn_okG {x qual : Str} {sd : Stmt} {f : Addr} {fd : FuncData} {N ps : List Str} {k : Nat} {sp : Sp} (F : Fun K x qual sd f fd) (S : FnScope N ps (defScope sd)) (len : ∀ vs H Q E, sp vs H Q E → vs.length = ps.length)
    (body : ∀ (vs : List V) (H : Hp) (Q : VK) (E : XK), sp vs H Q E → ∀ (cdv : Value) (A : Around) (outer : List Env) (s : Shared), Room k (A.deeper (envOfC qual (defScope sd) s.heap.objs.size f cdv)) →
      ∃ (Pre : L2.St → Hp → Prop) (Po : Ends), Pre (L2.start N vs) H ∧ BX (cxOf CX0 Pg w K mg base N qual (defScope sd) f cdv A outer s H E).nox (defBody sd) Pre Po ∧ Le H Po { nx := fun _ H' => Q .non H', rt := Q }) : FnOk Pg w K mg base CX0 (k + 1) f fd ps sp := by
  refine F.ok S len (fun cdv A outer s H vs Q E hr h => ?_)
  obtain ⟨Pre, Po, h1, h2, h3⟩ := body vs H Q E h cdv A outer s hr
  exact ⟨_, h2, h1, h3⟩
theorem fn_okX {x qual : Str} {sd : Stmt} {f : Addr} {fd : FuncData} {N ps : List Str} {k : Nat} {sp : Sp} (F : Fun K x qual sd f fd) (S : FnScope N ps (defScope sd)) (len : ∀ vs H Q E, sp vs H Q E → vs.length = ps.length)
    (body : ∀ (vs : List V) (H : Hp) (Q : VK) (E : XK), sp vs H Q E → ∀ (cdv : Value) (A : Around) (outer : List Env) (s : Shared), Room k (A.deeper (envOfC qual (defScope sd) s.heap.objs.size f cdv)) →
      ∃ (Pre : L2.St → Hp → Prop) (Po : Ends), Pre (L2.start N vs) H ∧ BX (cxOf (L2.CX Pg w) Pg w K mg base N qual (defScope sd) f cdv A outer s H E) (defBody sd) Pre Po ∧ Le H Po { nx := fun _ H' => Q .non H', rt := Q }) : FnOk Pg w K mg base (L2.CX Pg w) (k + 1) f fd ps sp := by
  refine F.okX S len (fun cdv A outer s H vs Q E hr h => ?_)
  obtain ⟨Pre, Po, h1, h2, h3⟩ := body vs H Q E h cdv A outer s hr
  exact ⟨_, h2, h1, h3⟩
/-- the heap without x -/
def del (H : Hp) (x : Addr) : Hp := fun b => if b = x then none else H b
theorem del_same {H : Hp} {x : Addr} : del H x x = none := if_pos rfl
theorem del_ne {H : Hp} {x b : Addr} (h : b ≠ x) : del H x b = H b := if_neg h
theorem del_ext {H : Hp} {x : Addr} (hx : some x ≠ d) : Ext d (del H x) H := ⟨fun a o h _ => by
    by_cases z : a = x
    · rw [z, del_same] at h; cases h
    · rw [del_ne z] at h; exact h,
  fun a e ⟨ns, hn, h⟩ => ⟨ns, hn, by rw [del_ne (fun z => hx (by rw [e, z]))] at h; exact h⟩⟩
/-- an __init__'s promise: the new instance at x gets the fields told by F z -/
def spI {α : Type} (d : Option Addr) (C : Addr) (As : α → List (Rp d)) (F : α → List (Str × Rp d)) : Sp := fun vs H Q _ => ∃ (z : α) (x dx : Addr) (us : List V), vs = .ref x :: us ∧ H x = some (.ins C dx []) ∧ RsH (As z) us (del H x) ∧ (∀ a, d = some a → Drw H a) ∧ ∀ H', Ext d (del H x) H' → (insA C x (F z)).p (.ref x) H' → Q .non H'
/-- C(e, ..) -/
theorem x_make {α : Type} {C : Addr} {As : α → List (Rp d)} {F : α → List (Str × Rp d)} {x : Str} {p : Pos} {f : Addr} {fd : FuncData} {ps : List Str} {k : Nat} {CX : CXT} {E : XK} (M : Mk X.K C f) (G : FnOk X.prog X.w X.K X.mg X.base CX k f fd ps (spI d C As F)) (hr : Room (k + 1) X.A) (hg : Gl X x) (hm : X.mg x = some (.ref C)) (hb : Binds X.K fd ps []) (hx : Passes CX X E)
    (z : α) (ha : AX X B ρ (e :: es) (As z))
    (hdb : (x == ("__debug__" : Str)) = false := by decide) (he : starEach (e :: es) X.env = (false, eval e X.env) :: starEach es X.env := by rfl) (hpl : (backTo pos (starEach es X.env)).any (·.1) = false := by rfl) : EX X B ρ (.Call (.Name x p) (e :: es) [] pos) (insR C (F z)) :=
  PE_wk (pe_make (dvs := []) (E := E) M G hr hg hm hb .nil hx ha (hdb := hdb) (he := he) (hpl := hpl)) fun σ H Q ⟨s, q⟩ => ⟨s, fun vs H1 e1 hvs y dy ny ndy hne => by
    rw [List.append_nil]
    have s1 := s.mono e1
    have hyd : some y ≠ d := (s1.fresh ny).2
    have n2 : (upd H1 dy (.own y)) y = none := by rw [upd_ne hne.symm]; exact ny
    have x1 : Ext d H1 (upd H1 dy (.own y)) := Ext.new ndy
    have e2 : del (upd (upd H1 dy (.own y)) y (.ins C dy [])) y = upd H1 dy (.own y) := by
      funext b
      by_cases hb : b = y
      · rw [hb, del_same, n2]
      · rw [del_ne hb, upd_ne hb]
    refine ⟨z, y, dy, vs, rfl, upd_same, by rw [e2]; exact hvs.mono x1, ((s1.mono x1).mono (Ext.new n2)).dr, fun H' e3 h3 => ⟨rfl, ?_⟩⟩
    rw [e2] at e3
    exact q _ H' (e1.trans (x1.trans e3)) ⟨y, trivial, h3⟩⟩
/-! ### draws -/
/-- _law_take(draws, limit) -/
def spTake : Sp := fun vs H Q _ => ∃ (a : Addr) (ns : List Int) (n : Int), vs = [.ref a, .int n] ∧ H a = some (.lst (ns.map V.int)) ∧ ns.length ≤ 1000 ∧ 0 < n ∧
  ∀ (z : Int) (ms : List Int) H', 0 ≤ z → z < n → H' a = some (.lst (ms.map V.int)) → ms.length ≤ 1000 → (∀ b o, b ≠ a → H b = some o → H' b = some o) → Q (.int z) H'
theorem x_take {x : Str} {p : Pos} {f : Addr} {fd : FuncData} {ps : List Str} {k : Nat} {E : XK} {CX : CXT} (F : FnOk X.prog X.w X.K X.mg X.base CX k f fd ps spTake) (hr : Room k X.A) (hg : Gl X x) (hm : X.mg x = some (.ref f)) (hk : PySem.W.keepIn X.K (.ref f) = true) (hb : Binds X.K fd ps []) (hx : Passes CX X E)
    (ha : EX X B ρ a drw) (hn : EX X B ρ b (rI n)) (h0 : 0 < n)
    (hdb : (x == ("__debug__" : Str)) = false := by decide) (he : starEach [a, b] X.env = (false, eval a X.env) :: starEach [b] X.env := by rfl) (he2 : starEach [b] X.env = (false, eval b X.env) :: starEach [] X.env := by rfl) (hpl : (backTo pos (starEach [b] X.env)).any (·.1) = false := by rfl) : EX X B ρ (.Call (.Name x p) [a, b] [] pos) (iE fun z => 0 ≤ z ∧ z < n) :=
  PE_wk (pe_call (dvs := []) (E := E) F hr hg hm hk hb .nil hx (a_cons ha (a_cons hn a_nil he2) he) (hdb := hdb) (he := he) (hpl := hpl)) fun σ H Q ⟨s, q⟩ => ⟨s, fun vs H1 e1 hvs => by
    obtain ⟨u, v, rfl, ⟨t, rfl, hd⟩, rfl⟩ := hvs.two
    obtain ⟨ns, hl, hns⟩ := (s.mono e1).dr t hd
    refine ⟨t, ns, n, rfl, hns, hl, h0, fun z ms H' z0 z1 hm hml hk => q _ H' (e1.trans ⟨fun c o hc hq => ?_, fun c hc _ => ?_⟩) ⟨z, ⟨z0, z1⟩, rfl⟩⟩
    · by_cases hct : c = t
      · subst hct
        rw [hns] at hc
        cases hc
        exact absurd rfl (hq hd.symm _)
      · exact hk c o hct hc
    · rw [hd] at hc
      cases hc
      exact ⟨ms, hml, hm⟩⟩
end
end Cv

namespace Cv
open PySem PySem.Spec PyProof.Rows L2 RZ
section
variable {d : Option Addr} {X : Cx} {B : Hp} {ρ ρ' : Ro d} {a b c e iter elt : Expr} {es : List Expr} {R R' Ra Rb : Rp d} {Rs : List (Rp d)} {pos : Pos} {m n : Int} {st : Stmt} {rest body orelse : List Stmt} {Pre Mid : L2.St → Hp → Prop} {Po : Ends}
/-! ### a list that was there at the start -/
def lstB (B : Hp) (K : PySem.W.Frag) (a : Addr) (ds : List D) : Rp d := ⟨fun v H => v = .ref a ∧ ∃ vs, ((B a ≠ none ∧ SqX d K H a vs) ∨ KL K a vs) ∧ DRl K H ds vs,
  fun e ⟨h1, vs, h2, h3⟩ => ⟨h1, vs, h2.imp (fun h => ⟨h.1, h.2.ext e⟩) id, h3.tk e.tk⟩⟩
theorem lstB_A {B : Hp} {K : PySem.W.Frag} {a : Addr} {ds : List D} {v : V} {H : Hp} (h : (lstB (d := d) B K a ds).p v H) : (lstA (d := d) K a ds).p v H := by
  obtain ⟨h1, vs, h2 | h2, h3⟩ := h
  · exact ⟨h1, trivial, vs, h2.2, h3⟩
  · exact ⟨h1, trivial, vs, .inr (.inr h2), h3⟩
theorem x_lstB {B' : Hp} {K : PySem.W.Frag} {l : Addr} {ds : List D} (h : EX X B ρ e (lstB B' K l ds)) : EX X B ρ e (lstA K l ds) := x_sub h fun v H hv => lstB_A hv
theorem ind_lstB {l a' : Addr} {K : PySem.W.Frag} {ds : List D} (hB : B l = none) : Ind l (lstB (d := d) B K a' ds) := fun v H xs ys hl ⟨h1, us, h2, h3⟩ => by
  refine ⟨h1, us, ?_, h3.tk (Tk.lst hl)⟩
  rcases h2 with ⟨hb, h⟩ | h
  · have hne : a' ≠ l := fun z => hb (by rw [z]; exact hB)
    refine .inl ⟨hb, ?_⟩
    rcases h with ⟨k, h⟩ | ⟨o, h⟩ | h
    · exact .inl ⟨k, by rw [upd_ne hne]; exact h⟩
    · exact .inr (.inl ⟨o, by rw [upd_ne hne]; exact h⟩)
    · exact .inr (.inr h)
  · exact .inr h
theorem io_lstB {x l : Addr} {K : PySem.W.Frag} {ds : List D} : IndO x (lstB (d := d) B K l ds) := fun v H C dx fs fs' hx ⟨h1, us, h2, h3⟩ => by
  refine ⟨h1, us, ?_, h3.tk (tk_ins hx)⟩
  rcases h2 with ⟨hb, h⟩ | h
  · refine .inl ⟨hb, ?_⟩
    rcases h with ⟨k, h⟩ | ⟨o, h⟩ | h
    · exact .inl ⟨k, by rw [upd_ne (show l ≠ x from fun z => by rw [z, hx] at h; cases h)]; exact h⟩
    · exact .inr (.inl ⟨o, by rw [upd_ne (show l ≠ x from fun z => by rw [z, hx] at h; cases h)]; exact h⟩)
    · exact .inr (.inr h)
  · exact .inr h
theorem st_toB {K : PySem.W.Frag} {l : Addr} {ds : List D} {σ : L2.St} {H : Hp} (i : Nat) (hi : ρ[i]? = some (some (lstA K l ds))) (s : St H ρ σ H) : St H (ρ.set i (some (lstB H K l ds))) σ H := by
  refine ⟨s.ext, s.dr, by simp [s.good.1], fun j R e => ?_⟩
  by_cases hj : i = j
  · subst hj
    have hlt : i < ρ.length := (List.getElem?_eq_some_iff.mp hi).1
    rw [List.getElem?_set_self hlt] at e
    cases e
    obtain ⟨v, h1, rfl, _, us, h3, h4⟩ := s.good.get hi
    refine ⟨_, h1, rfl, us, ?_, h4⟩
    rcases h3 with ⟨k, h⟩ | ⟨o, h⟩ | h
    · exact .inl ⟨by rw [h]; exact fun z => (by cases z), .inl ⟨k, h⟩⟩
    · exact .inl ⟨by rw [h]; exact fun z => (by cases z), .inr (.inl ⟨o, h⟩)⟩
    · exact .inr h
  · rw [List.getElem?_set_ne hj] at e
    exact s.good.get e
/-- the draws' address becomes known -/
theorem lstB_d {d' : Option Addr} {B : Hp} {K : PySem.W.Frag} {a : Addr} {ds : List D} {v : V} {H : Hp} (hd : ∀ l, d' = some l → B l = none) (h : (lstB (d := none) B K a ds).p v H) : (lstB (d := d') B K a ds).p v H := by
  obtain ⟨h1, vs, h2, h3⟩ := h
  refine ⟨h1, vs, ?_, h3⟩
  rcases h2 with ⟨hb, h⟩ | h
  · refine .inl ⟨hb, ?_⟩
    rcases h with ⟨k, h⟩ | ⟨o, h⟩ | h
    · exact .inl ⟨fun z => hb (hd a z.symm), h⟩
    · exact .inr (.inl ⟨o, h⟩)
    · exact .inr (.inr h)
  · exact .inr h
theorem newE_up {ρ1 : Ro d} {K : PySem.W.Frag} {S : List D → Prop} {σ : L2.St} {H H' : Hp} {v : V} (s : St B ρ1 σ H) (h : (newE (d := d) H K S).p v H') : (newE (d := d) B K S).p v H' := by
  obtain ⟨ds, hS, l, hl, h⟩ := h
  exact ⟨ds, hS, l, (s.fresh hl).1, h⟩
/-- a list that a new one can't be -/
def Known (l : Addr) (ρ : Ro d) : Prop := ∃ (k : Nat) (R : Rp d), ρ[k]? = some (some R) ∧ ∀ v H, R.p v H → H l ≠ none
theorem known_own {K : PySem.W.Frag} {l : Addr} {ds : List D} (k : Nat) (h : ρ[k]? = some (some (own K l ds))) : Known l ρ := ⟨k, _, h, fun v H ⟨_, _, us, q, _⟩ => by rw [q]; exact fun z => by cases z⟩
/-- x = a new list: it is none of those that are known -/
theorem bx_new (i : Nat) {x : Str} {pos' : Pos} {K : PySem.W.Frag} {ds : List D} (ls : List Addr) (hls : ∀ l ∈ ls, Known l ρ) (he : ∀ B' : Hp, EX X B' ρ e (newL B' K ds)) (h : ∀ l, B l = none → (∀ l' ∈ ls, l ≠ l') → BX X rest (St B (ρ.set i (some (own K l ds)))) Po) (hN : X.N.Nodup) (hi : X.N[i]? = some x := by rfl) (hx : Loc X.env.scope x := by first | exact Or.inl rfl | exact Or.inr rfl) (hs : swapsWith e (some (.Name x pos')) pos.line X.env = pure false := by rfl)
    (hf : X.fn x = true ∨ X.env.scope.names.lookup x = some .local := by first | exact .inl rfl | exact .inr rfl | assumption) : BX X (.Assign [.Name x pos'] e pos :: rest) (St B ρ) Po := by
  refine bx_cons (Mid := fun σ H => ∃ l, (B l = none ∧ ∀ l' ∈ ls, l ≠ l') ∧ St B (ρ.set i (some (own K l ds))) σ H) ?_ (bx_ex fun l hl => h l hl.1 hl.2)
  refine ⟨fun pins s σ H E I ⟨st, q⟩ => ?_⟩
  have hE := ps_set (X := X) (pos := pos) (pos' := pos') hN hi hx (he H) hs hf
  refine hE.run pins s σ H E I ⟨⟨Ext.refl H, st.dr, st.good⟩, fun v H' e1 hv => ?_⟩
  obtain ⟨l, hl, hv⟩ := hv
  have hld : some l ≠ d := hv.2.1
  refine q.nx _ H' e1.tk ⟨l, ⟨?_, fun l' hl' z => ?_⟩, st.ext.trans e1, (st.mono e1).dr, (st.mono e1).good.set i hv⟩
  · cases e2 : B l with
    | none => rfl
    | some o =>
      have := st.ext.at e2 hld
      rw [hl] at this; cases this
  · obtain ⟨k, R, h1, h2⟩ := hls l' hl'
    obtain ⟨w, _, h3⟩ := st.good.get h1
    exact h2 w H h3 (by rw [← z]; exact hl)
theorem bx_newE (i : Nat) {x : Str} {pos' : Pos} {K : PySem.W.Frag} {S : List D → Prop} (ls : List Addr) (hls : ∀ l ∈ ls, Known l ρ) (he : ∀ B' : Hp, EX X B' ρ e (newE B' K S)) (h : ∀ l ds, S ds → B l = none → (∀ l' ∈ ls, l ≠ l') → BX X rest (St B (ρ.set i (some (own K l ds)))) Po) (hN : X.N.Nodup) (hi : X.N[i]? = some x := by rfl) (hx : Loc X.env.scope x := by first | exact Or.inl rfl | exact Or.inr rfl) (hs : swapsWith e (some (.Name x pos')) pos.line X.env = pure false := by rfl)
    (hf : X.fn x = true ∨ X.env.scope.names.lookup x = some .local := by first | exact .inl rfl | exact .inr rfl | assumption) : BX X (.Assign [.Name x pos'] e pos :: rest) (St B ρ) Po := by
  refine bx_cons (Mid := fun σ H => ∃ z : Addr × List D, (S z.2 ∧ B z.1 = none ∧ ∀ l' ∈ ls, z.1 ≠ l') ∧ St B (ρ.set i (some (own K z.1 z.2))) σ H) ?_ (bx_ex fun z hz => h z.1 z.2 hz.1 hz.2.1 hz.2.2)
  refine ⟨fun pins s σ H E I ⟨st, q⟩ => ?_⟩
  have hE := ps_set (X := X) (pos := pos) (pos' := pos') hN hi hx (he H) hs hf
  refine hE.run pins s σ H E I ⟨⟨Ext.refl H, st.dr, st.good⟩, fun v H' e1 hv => ?_⟩
  obtain ⟨ds, hS, l, hl, hv⟩ := hv
  have hld : some l ≠ d := hv.2.1
  refine q.nx _ H' e1.tk ⟨(l, ds), ⟨hS, ?_, fun l' hl' z => ?_⟩, st.ext.trans e1, (st.mono e1).dr, (st.mono e1).good.set i hv⟩
  · cases e2 : B l with
    | none => rfl
    | some o =>
      have := st.ext.at e2 hld
      rw [hl] at this; cases this
  · obtain ⟨k, R, h1, h2⟩ := hls l' hl'
    obtain ⟨w, _, h3⟩ := st.good.get h1
    exact h2 w H h3 (by have z' : l = l' := z; rw [← z']; exact hl)
variable {Pg : Program} {w : World} {K : PySem.W.Frag} {mg : Str → Option Value} {base : Heap}
/-- a def, its slots at the start told anew -/
theorem fn_okB {α : Type} {As : α → List (Rp d)} {Rz : α → Hp → Rp d} {x qual : Str} {sd : Stmt} {f : Addr} {fd : FuncData} {N ps : List Str} {k : Nat} (F : Fun K x qual sd f fd) (S : FnScope N ps (defScope sd)) (hl : ∀ z, (As z).length = ps.length) (hN : ps.length ≤ N.length) (r0 : α → Hp → Ro d) (h0 : ∀ z H σ, St H (ro (As z) (N.length - (As z).length)) σ H → St H (r0 z H) σ H)
    (body : ∀ (z : α) (H : Hp) (cdv : Value) (A : Around) (outer : List Env) (s : Shared) (E : XK), Room k (A.deeper (envOfC qual (defScope sd) s.heap.objs.size f cdv)) →
      BX (cxOf CX0 Pg w K mg base N qual (defScope sd) f cdv A outer s H E).nox (defBody sd) (St H (r0 z H)) (Rt H (Rz z H))) : FnOk Pg w K mg base CX0 (k + 1) f fd ps (spP d As Rz) := by
  refine F.ok S (fun vs H Q E ⟨z, h, _⟩ => by rw [h.len, hl]) (fun cdv A outer s H vs Q E hr h => ?_)
  obtain ⟨z, hz, dr, q⟩ := h
  refine ⟨_, body z H cdv A outer s E hr, h0 z H _ (st_start hz (by rw [hl]; exact hN) dr), ?_⟩
  exact ⟨fun σ' H' _ ⟨e1, h1⟩ => q _ H' e1 h1, fun v H' _ ⟨e1, h1⟩ => q v H' e1 h1, fun _ _ _ h => h.elim, fun _ _ _ h => h.elim⟩
end
section
variable {d : Option Addr} {X : Cx} {B : Hp} {ρ ρ' : Ro d} {a b c e iter elt : Expr} {es : List Expr} {R R' Ra Rb : Rp d} {Rs : List (Rp d)} {pos : Pos} {m n : Int} {st : Stmt} {rest body orelse : List Stmt} {Pre Mid : L2.St → Hp → Prop} {Po : Ends}
/-- for x in range(n), n only told by S -/
theorem bx_forRE {α : Type} {S : Int → Prop} (j : Nat) {x : Str} {tpos p p2 : Pos} (P : Nat → α → Prop) (r : Nat → α → Ro d) (hg : Gl X "range") (hm : X.mg "range" = none) (hi : EX X B ρ e (iE S)) (hn : ∀ nn, S nn → nn < 2 ^ 62 ∧ -(2 ^ 62) ≤ nn) (h0 : ∀ σ H, St B ρ σ H → IS B (P 0) (r 0) σ H)
    (hb : ∀ (nn : Int), S nn → ∀ (i : Nat) z, (i : Int) < nn → P i z → BX X body (St B ((r i z).set j (some (rI (i : Int))))) (Lp Po (IS B (P (i + 1)) (r (i + 1))) (fun σ H => ∃ nn : Int, S nn ∧ IS B (P nn.toNat) (r nn.toNat) σ H))) (h : ∀ nn : Int, S nn → BX X rest (IS B (P nn.toNat) (r nn.toNat)) Po)
    (hN : X.N.Nodup) (hp : PassesOwn (model X.prog X.w) X.A X.env X.xe) (hj : X.N[j]? = some x := by rfl) (hc : X.calm = true := by rfl) (hx : Loc X.env.scope x := by first | exact Or.inl rfl | exact Or.inr rfl)
    (hf : X.fn x = true ∨ X.env.scope.names.lookup x = some .local := by first | exact .inl rfl | exact .inr rfl | assumption) (he : starEach [e] X.env = [(false, eval e X.env)] := by rfl) (hs : ∀ x, foldedSetIterable (.Call (.Name "range" p) [e] [] p2) X.env x = pure x := by intro _; rfl) :
    BX X (.For (.Name x tpos) (.Call (.Name "range" p) [e] [] p2) body [] pos :: rest) (St B ρ) Po := by
  refine bx_cons (Mid := fun σ H => ∃ nn : Int, S nn ∧ IS B (P nn.toNat) (r nn.toNat) σ H) ?_ (bx_ex h)
  refine PS_wk (t := tFor (iRng1 fun σ H Q => St B ρ σ H ∧ ∀ vs H', Ext d H H' → RsH [iE S] vs H' → Q vs H') (gName j) (tBody (Z := Int × Nat × α) B (fun z => (r z.2.1 z.2.2).set j (some (rI (z.2.1 : Int)))) (fun z => S z.1 ∧ (z.2.1 : Int) < z.1 ∧ P z.2.1 z.2.2) (fun z => Lp Po (IS B (P (z.2.1 + 1)) (r (z.2.1 + 1))) (fun σ H => ∃ nn : Int, S nn ∧ IS B (P nn.toNat) (r nn.toNat) σ H))))
    (ps_for hp hc (pi_range1 hg hm (a_cons hi a_nil he) he) (pg_name hN hj hx hf) ⟨fun pins s σ H E I ⟨⟨nn, i, z⟩, ⟨hnn, hw, hz⟩, q, l⟩ => (hb nn hnn i z hw hz).run pins s σ H E I ⟨q, l⟩⟩ hs) fun E σ H ⟨s, l⟩ => ⟨s, fun vs H1 e1 hv => ?_⟩
  obtain ⟨v, rfl, hv'⟩ := hv.one
  obtain ⟨nn, hnn, hv'⟩ := hv'
  obtain rfl : v = .int nn := hv'
  refine ⟨nn, rfl, (hn nn hnn).2, (hn nn hnn).1, for_range (lo := 0) (n := nn.toNat) (g := gName j) (tb := tBody (Z := Int × Nat × α) B (fun z => (r z.2.1 z.2.2).set j (some (rI (z.2.1 : Int)))) (fun z => S z.1 ∧ (z.2.1 : Int) < z.1 ∧ P z.2.1 z.2.2) (fun z => Lp Po (IS B (P (z.2.1 + 1)) (r (z.2.1 + 1))) (fun σ H => ∃ nn : Int, S nn ∧ IS B (P nn.toNat) (r nn.toNat) σ H))) (fun i σ H => Tk H1 H ∧ IS B (P i) (r i) σ H) ⟨Tk.refl _, h0 _ _ (s.mono e1)⟩ (fun i σ H hlt ⟨k, z, hz, q⟩ => ?_) (fun σ H ⟨k, q⟩ => l.nx σ H (e1.tk.trans k) ⟨nn, hnn, q⟩)⟩
  refine ⟨(nn, i, z), ⟨hnn, (by show (i : Int) < nn; omega), hz⟩, ⟨q.ext, q.dr, ?_⟩, ?_⟩
  · rw [Int.zero_add]
    exact q.good.set j (R := rI (i : Int)) (v := .int (i : Int)) rfl
  · exact ⟨fun σ' H' k' q' => ⟨k.trans k', q'⟩, fun v H' k' q' => l.rt v H' ((e1.tk.trans k).trans k') q', fun σ' H' k' q' => l.nx σ' H' ((e1.tk.trans k).trans k') q', fun σ' H' k' q' => ⟨k.trans k', q'⟩⟩
/-- x[k] = e, the value told by S -/
theorem bx_setitemE (i : Nat) {x : Str} {p1 p2 p3 : Pos} {K : PySem.W.Frag} {l : Addr} {ds : List D} {S : D → Prop} {k : Nat} (hi : ρ[i]? = some (some (own K l ds))) (hK : X.K = K) (he : EX X B ρ e (dE K S)) (hk : EX X B ρ b (rI (k : Int))) (hkl : k < ds.length) (hB : B l = none) (hb : IndBut l i ρ) (h : ∀ w, S w → BX X rest (St B (ρ.set i (some (own K l (ds.set k w))))) Po)
    (hN : X.N[i]? = some x := by rfl) (hv : Vis X.env.scope x := by first | exact Or.inl rfl | exact Or.inr (Or.inl rfl) | exact Or.inr (Or.inr rfl)) (hd : (x == ("__debug__" : Str)) = false := by decide) (hcd : (x == ("__classdict__" : Str)) = false := by decide)
    (ha : ∀ v, assign (.Subscript (.Name x p1) b p2) X.env v = (do
      let ov ← holding [v] (eval (.Name x p1) X.env)
      let iv ← holding [v, ov] (eval b X.env)
      standAt p2
      holding [v, ov, iv] (setItem ov iv v)
      release [v, ov, iv] []) := by intro _; rfl)
    (hs : swapsWithSole [.Subscript (.Name x p1) b p2] e p3.line X.env = pure false := by rfl) (hw : swappedStores [.Subscript (.Name x p1) b p2] e X.env = pure none := by rfl) (h1 : (assignEach [.Subscript (.Name x p1) b p2] X.env).map (·.2) = [assign (.Subscript (.Name x p1) b p2) X.env] := by rfl) :
    BX X (.Assign [.Subscript (.Name x p1) b p2] e p3 :: rest) (St B ρ) Po := by
  subst hK
  refine bx_cons (Mid := fun σ H => ∃ w, S w ∧ St B (ρ.set i (some (own X.K l (ds.set k w)))) σ H) ?_ (bx_ex h)
  refine PS_wk (ps_asg he (pg_sub (pe_var hN hv hd hcd) hk set_list ha) hs hw h1) fun E σ H ⟨s, q⟩ => ⟨s, fun y H1 e1 ⟨w, hSw, hy⟩ => ?_⟩
  have s1 := s.mono e1
  obtain ⟨v, a1, rfl, hl, vs, a2, a3⟩ := s1.good.get hi
  refine ⟨_, a1, s1, fun iv H2 e2 hiv => ?_⟩
  have s2 := s1.mono e2
  have g2 := e2.at a2 hl
  have a3' := a3.tk e2.tk
  have hkv : k < vs.length := by rw [← a3.1]; exact hkl
  refine ⟨l, vs, k, k, rfl, hiv, g2, by unfold ixN; rw [if_pos (by omega), if_pos (by omega)]; simp, ?_⟩
  refine q.nx σ _ ((e1.tk.trans e2.tk).trans (Tk.lst g2)) ⟨w, hSw, st_own s2 hi hB hb ⟨by simp [a3.1], fun j e' v' b1 b2 => ?_⟩⟩
  by_cases hj : k = j
  · subst hj
    rw [List.getElem?_set_self hkl] at b1
    rw [List.getElem?_set_self hkv] at b2
    cases b1; cases b2
    exact DR.tk e2.tk hy
  · rw [List.getElem?_set_ne hj] at b1 b2
    exact a3'.2 j e' v' b1 b2
theorem x_iEd {K : PySem.W.Frag} {P : Int → Prop} (h : EX X B ρ e (iE P)) : EX X B ρ e (dE K fun w => ∃ z, P z ∧ w = .i z) := x_sub h fun v H ⟨z, hz, hv⟩ => ⟨_, ⟨z, hz, rfl⟩, by cases hv; exact .i z⟩
theorem x_dE {K : PySem.W.Frag} {P S : D → Prop} (h : EX X B ρ e (dE K P)) (w : ∀ z, P z → S z) : EX X B ρ e (dE K S) := x_sub h fun v H ⟨z, hz, hv⟩ => ⟨z, w z hz, hv⟩
theorem x_d {K : PySem.W.Frag} {x : D} (h : EX X B ρ e (dat K x)) : EX X B ρ e (dE K fun w => w = x) := x_sub h fun v H hv => ⟨x, rfl, hv⟩
theorem x_ixtI {ns : List Int} {k : Nat} {z : Int} (ha : EX X B ρ a (dat X.K (tI ns))) (hb : EX X B ρ b (rI (k : Int))) (hz : ns[k]? = some z) (hs : PlainIx b := by exact (fun _ _ => rfl)) : EX X B ρ (.Subscript a b pos) (rI z) := x_dI (x_ixt ha hb (atI_nat (by rw [List.getElem?_map, hz]; rfl)) hs)
theorem x_ixlI {l : Addr} {ns : List Int} {k : Nat} {z : Int} (ha : EX X B ρ a (lstA X.K l (ns.map D.i))) (hb : EX X B ρ b (rI (k : Int))) (hz : ns[k]? = some z) (hs : PlainIx b := by exact (fun _ _ => rfl)) : EX X B ρ (.Subscript a b pos) (rI z) := x_dI (x_ixl ha hb (atI_nat (by rw [List.getElem?_map, hz]; rfl)) hs)
theorem x_ixnE {ds : List D} {P : Int → Prop} (ha : EX X B ρ a (newL B X.K ds)) (hb : EX X B ρ b (iE P)) (hw : ∀ j, P j → 0 ≤ j ∧ j < ds.length) (hs : PlainIx b := by exact (fun _ _ => rfl)) : EX X B ρ (.Subscript a b pos) (dE X.K fun w => ∃ k : Nat, P k ∧ ds[k]? = some w) :=
  PE_wk (pe_ix ix_list ha hb hs) fun σ H Q ⟨s, q⟩ => ⟨s, fun x H1 e1 hx => ⟨s.mono e1, fun y H2 e2 hy => by
    obtain ⟨l, _, rfl, hd, us, h1, h2⟩ := hx
    obtain ⟨j, hj, hy⟩ := hy
    obtain ⟨h0, hl⟩ := hw j hj
    obtain ⟨k, rfl⟩ : ∃ k : Nat, j = (k : Int) := ⟨j.toNat, by omega⟩
    have hk : k < ds.length := by omega
    obtain ⟨v, hv, hr⟩ := h2.get (List.getElem?_eq_getElem hk)
    exact ⟨l, us, _, v, rfl, hy, SqL.of (e2.at h1 hd), atI_nat hv, q v H2 (e1.trans e2) ⟨_, ⟨k, hj, List.getElem?_eq_getElem hk⟩, hr.tk e2.tk⟩⟩⟩⟩
/-- [elt for x in range(e)], e told by S -/
theorem x_lcRE {S : Int → Prop} (j : Nat) {x : Str} {scope : Scope} {tpos p p2 : Pos} (P : Nat → D → Prop) (hg : Gl X "range") (hm : X.mg "range" = none) (hi : EX X B ρ e (iE S)) (hn : ∀ nn, S nn → nn < 2000 ∧ -(2 ^ 62) ≤ nn) (hN : X.N.Nodup) (hok : BlkOk X.N X.env.scope scope [(x, j)])
    (hgn : ∀ (s : Shared) (H : Hp) (C : Addr) (cl : List (Str × Addr)) (fp : List Addr), PG (X.blk s H scope (compEnvC scope cl C X.env) fp) (.Name x tpos) (gName j))
    (hb : ∀ (s : Shared) (H : Hp) (C : Addr) (cl : List (Str × Addr)) (fp : List Addr) (i : Nat), EX (X.blk s H scope (compEnvC scope cl C X.env) fp) B (ρ.set j (some (rI (i : Int)))) elt (dE X.K (P i)))
    (hc : X.calm = true := by rfl) (he : starEach [e] X.env = [(false, eval e X.env)] := by rfl) (hs : ∀ x, foldedSetIterable (.Call (.Name "range" p) [e] [] p2) X.env x = pure x := by intro _; rfl) :
    EX X B ρ (.ListComp elt [⟨.Name x tpos, .Call (.Name "range" p) [e] [] p2, [], 0⟩] scope pos) (newE B X.K fun ds => (∃ nn, S nn ∧ ds.length = nn.toNat) ∧ ∀ k w, ds[k]? = some w → P k w) := by
  refine PE_wk (pe_lc (own := [(x, j)]) (g := gName j) (tt := tYes) (te := tElt (Z := Nat) B X.K (fun i => ρ.set j (some (rI (i : Int)))) (fun i => True) P) hc hN (pi_range1 hg hm (a_cons hi a_nil he) he) hok hgn (fun _ _ _ _ _ => pts_nil) (fun s H C cl fp => elt_of fun i _ => hb s H C cl fp i) hs) fun σ H Q ⟨s, q⟩ => ⟨s, fun vs H1 e1 hv => ?_⟩
  obtain ⟨v, rfl, hv'⟩ := hv.one
  obtain ⟨nn, hnn, hv'⟩ := hv'
  obtain rfl : v = .int nn := hv'
  have hn' := hn nn hnn
  have s1 := s.mono e1
  refine ⟨nn, rfl, hn'.2, by omega, fun Dl hD => ?_⟩
  obtain ⟨hB, hDd⟩ := s1.fresh hD
  refine lc_range (lo := 0) (n := nn.toNat) (Lc H1 X.K Dl d P) ⟨Ext.new hD, [], [], upd_same, DRl.nil, rfl, fun k w h => by cases h⟩ (fun i H' hlt L => ?_) (fun H' L => ?_)
  · refine ⟨wipe1 _ _ _, ?_⟩
    refine ⟨i, trivial, ?_, fun y H2 e2 hy => lc_step hD hDd L e2 hy (by omega)⟩
    rw [Int.zero_add]
    exact st_wipe (s1.mono L.1) (R := rI (i : Int)) rfl
  · obtain ⟨h0, us, ds, h1, h2, h3, h4⟩ := L
    exact q _ H' (e1.trans h0) ⟨ds, ⟨⟨nn, hnn, h3⟩, h4⟩, Dl, hB, rfl, hDd, us, h1, h2⟩
/-- a <= b <= c -/
theorem t_chainLe {i j k : Int} (ha : EX X B ρ a (rI i)) (hb : EX X B ρ b (rI j)) (hc : EX X B ρ c (rI k)) (hm : lastMarks [CmpOp.LtE, CmpOp.LtE] [b, c] = false := by with_unfolding_all rfl) : TX X B ρ (.Compare a [.LtE, .LtE] [b, c] pos) (is (decide (i ≤ j) && decide (j ≤ k))) :=
  PT_wk (pt_chain op_le op_le ha hb hc hm) fun σ H Q ⟨s, q⟩ => ⟨s, fun x H1 e1 hx => ⟨s.mono e1, fun y H2 e2 hy => by
    obtain rfl : x = .int i := hx
    obtain rfl : y = .int j := hy
    refine ⟨i, j, rfl, rfl, _, rfl, ?_⟩
    by_cases h : i ≤ j
    · rw [if_pos (decide_eq_true h)]
      refine ⟨(s.mono e1).mono e2, fun z H3 e3 hz => ?_⟩
      obtain rfl : z = .int k := hz
      exact ⟨j, k, rfl, rfl, _, rfl, q _ H3 (e1.trans (e2.trans e3)) (by rw [decide_eq_true h, Bool.true_and])⟩
    · rw [if_neg (by rw [decide_eq_false h]; exact Bool.false_ne_true)]
      exact ⟨false, rfl, q _ H2 (e1.trans e2) (by rw [decide_eq_false h, Bool.false_and])⟩⟩⟩
/-- [elt for x in t], t told by S -/
theorem x_lcTE {S : List D → Prop} (j : Nat) {x : Str} {scope : Scope} {tpos : Pos} (P : Nat → D → Prop) (hi : EX X B ρ iter (dE X.K fun w => ∃ src, S src ∧ w = .t src)) (hn : ∀ src, S src → src.length < 2000) (hN : X.N.Nodup) (hok : BlkOk X.N X.env.scope scope [(x, j)])
    (hgn : ∀ (s : Shared) (H : Hp) (C : Addr) (cl : List (Str × Addr)) (fp : List Addr), PG (X.blk s H scope (compEnvC scope cl C X.env) fp) (.Name x tpos) (gName j))
    (hb : ∀ (s : Shared) (H : Hp) (C : Addr) (cl : List (Str × Addr)) (fp : List Addr) (src : List D), S src → ∀ (i : Nat) (w : D), src[i]? = some w → EX (X.blk s H scope (compEnvC scope cl C X.env) fp) B (ρ.set j (some (dat X.K w))) elt (dE X.K (P i)))
    (hc : X.calm = true := by rfl) (hs : ∀ x, foldedSetIterable iter X.env x = pure x := by intro _; rfl) :
    EX X B ρ (.ListComp elt [⟨.Name x tpos, iter, [], 0⟩] scope pos) (newE B X.K fun ds => ∃ src, S src ∧ ds.length = src.length ∧ ∀ k w, ds[k]? = some w → P k w) := by
  refine PE_wk (pe_lc (own := [(x, j)]) (g := gName j) (tt := tYes) (te := tElt (Z := List D × Nat × D) B X.K (fun z => ρ.set j (some (dat X.K z.2.2))) (fun z => S z.1 ∧ z.1[z.2.1]? = some z.2.2) (fun z => P z.2.1)) hc hN (pi_tup hi) hok hgn (fun _ _ _ _ _ => pts_nil) (fun s H C cl fp => elt_of fun z hz => hb s H C cl fp z.1 hz.1 z.2.1 z.2.2 hz.2) hs) fun σ H Q ⟨s, q⟩ => ⟨s, fun v H1 e1 hv => ?_⟩
  obtain ⟨w0, ⟨src, hS, rfl⟩, hv⟩ := hv
  obtain ⟨t, us, rfl, g1, g2⟩ := DR.tup hv
  have s1 := s.mono e1
  refine ⟨t, rfl, ⟨us, g1⟩, fun Dl hD => ?_⟩
  obtain ⟨hB, hDd⟩ := s1.fresh hD
  refine lc_tup (K := X.K) (a := t) (xs := us) (Lc H1 X.K Dl d P) ⟨Ext.new hD, [], [], upd_same, DRl.nil, rfl, fun k w h => by cases h⟩ (fun i H' _ L => L.1.tk.sqT g1) (fun i y H' hy L => ?_) (fun H' L => ?_)
  · obtain ⟨w, hw, hr⟩ := g2.getV hy
    refine ⟨wipe1 _ _ _, ?_⟩
    exact ⟨(src, i, w), ⟨hS, hw⟩, st_wipe (s1.mono L.1) (R := dat X.K w) (hr.tk L.1.tk), fun y H2 e2 hy => lc_step hD hDd L e2 hy (Nat.lt_trans (List.getElem?_eq_some_iff.mp hw).1 (hn src hS))⟩
  · obtain ⟨h0, vs, ds, h1, h2, h3, h4⟩ := L
    exact q _ H' (e1.trans h0) ⟨ds, ⟨src, hS, by rw [h3, g2.1], h4⟩, Dl, hB, rfl, hDd, vs, h1, h2⟩
end
end Cv

namespace Cv
open PySem PySem.Spec PyProof.Rows L2 RZ
/-! ### the greatest of a tuple -/
theorem mx2 {i j : Int} : (if j > i then j else i) = max i j := by
  rw [Int.max_def]
  split <;> split <;> omega
theorem ints_at : ∀ {us : List Value} {ns : List Int}, IntsAre us ns → ∀ (i : Nat) (v : Value), us[i]? = some v → ∃ t, v = Value.int (ns.getD i 0) t
  | _, _, .nil, i, v, h => by cases h
  | _, _, .cons n t h, 0, v, e => by cases e; exact ⟨t, rfl⟩
  | _, _, .cons n t h, i + 1, v, e => ints_at h i v e
theorem ints_len : ∀ {us : List Value} {ns : List Int}, IntsAre us ns → us.length = ns.length
  | _, _, .nil => rfl
  | _, _, .cons n t h => congrArg (· + 1) (ints_len h)
theorem maxT_raw {prog : Program} {w : World} {A : Around} {E : Value → Shared → Prop} {s : Shared} {l : Addr} {its : List Value} {ns : List Int} {Q : Value → Shared → Prop} (hh : A.handled = none) (hl : s.heap.IsTuple l its.toArray) (hi : IntsAre its ns) (hne : 0 < ns.length)
    (h : ∀ (h' : Heap) (tk : Nat) (M : Int) (t' : Tok), (∀ (b : Addr) (o : Obj), s.heap.get? b = some o → h'.get? b = some o) → M ∈ ns → (∀ a, a ∈ ns → a ≤ M) → Q (Value.int M t') { heap := h', gens := s.gens, drawn := s.drawn, toks := tk, os := s.os }) :
    wpAny (model prog w) A (call (Value.builtin "max") [Value.ref l]) Q E s := by
  have hlen := ints_len hi
  have hlt : ∀ (b : Addr) (o : Obj), s.heap.get? b = some o → b < s.heap.objs.size := fun b o h => by
    unfold Heap.get? at h
    cases q : s.heap.objs[b]? with
    | none => rw [q] at h; cases h
    | some x => exact (Array.getElem?_eq_some_iff.mp q).1
  have hll : l < s.heap.objs.size := by
    obtain ⟨o, ho, _⟩ := hl
    exact hlt _ _ ho
  refine call_max_walk (wpAny_pyIter_tuple hl ?_)
  refine ⟨s.heap.objs.size, _, _, its.toArray.size, _, _, fun i j => decide (ns.getD i 0 > ns.getD j 0), rfl, Walks.tuple (A := A.in1) hh s.heap.objs.size l (Nat.ne_of_lt hll) its.toArray, ⟨⟨_, Heap.get?_push_size _ rfl, rfl, rfl⟩, ?_⟩, ?_, ?_, CmpOf.ints_gt (fun i => ns.getD i 0) ?_, ?_⟩
  · obtain ⟨o, ho, h1⟩ := hl
    exact ⟨o, Heap.get?_push_of_some _ ho, h1⟩
  · intro b hb
    show b < (s.heap.push _).objs.size
    rw [Heap.size_push]
    rcases List.mem_cons.mp hb with rfl | hb
    · exact Nat.lt_succ_self _
    · rcases List.mem_cons.mp hb with rfl | hb
      · exact Nat.lt_succ_of_lt hll
      · cases hb
  · simpa [hlen] using hne
  · intro i v hv
    rw [List.getElem?_toArray] at hv
    exact ints_at hi i v hv
  · intro v h' tk hP hk
    rw [List.getElem?_toArray] at hP
    obtain ⟨t, rfl⟩ := ints_at hi _ v hP
    obtain ⟨h1, h2⟩ := argBest_gt (fun i => ns.getD i 0) (its.toArray.size - 1)
    have hsz : its.toArray.size = ns.length := by rw [List.size_toArray, hlen]
    rw [hsz] at h1 h2 ⊢
    refine h h' tk _ t (fun b o ho => hk b o (fun hb => ?_) (Heap.get?_push_of_some _ ho)) ?_ fun a ha => ?_
    · rcases List.mem_cons.mp hb with rfl | hb
      · exact absurd (hlt _ _ ho) (Nat.lt_irrefl _)
      · cases hb
    · have hlt' : argBest (fun i j => decide (ns.getD i 0 > ns.getD j 0)) (ns.length - 1) < ns.length := by omega
      rw [List.getD_eq_getElem?_getD, List.getElem?_eq_getElem hlt']
      exact List.getElem_mem hlt'
    · obtain ⟨k, hk'⟩ := List.getElem?_of_mem ha
      have hkl := (List.getElem?_eq_some_iff.mp hk').1
      have := h2 k (by omega)
      rw [List.getD_eq_getElem?_getD, hk'] at this
      exact this
theorem cr_maxT {X : Cx} (hc : X.calm = true) : CallR X (.builtin "max") (fun vs H Q => ∃ (a : Addr) (ns : List Int), vs = [V.ref a] ∧ SqT X.K H a (ns.map V.int) ∧ 0 < ns.length ∧ ∀ m, m ∈ ns → (∀ y, y ∈ ns → y ≤ m) → Q (.int m) H) := by
  rintro pins s σ H vs us Q I r ⟨a, ns, rfl, hs, hne, q⟩
  obtain ⟨its, rv, hl, _⟩ := I.tuple hs
  rw [Vals.ref1 r]
  exact maxT_raw (I.ok.hd hc) hl (Vals.ints rv) hne fun h' tk m t' hk h1 h2 => ⟨V.int m, H, Inv.kept I hk, ⟨t', rfl⟩, q m h1 h2⟩
section
variable {d : Option Addr} {X : Cx} {B : Hp} {ρ ρ' : Ro d} {a b c e iter elt : Expr} {es : List Expr} {R R' Ra Rb : Rp d} {Rs : List (Rp d)} {pos : Pos} {m n : Int} {st : Stmt} {rest body orelse : List Stmt} {Pre Mid : L2.St → Hp → Prop} {Po : Ends}
theorem x_maxT {ns : List Int} {p : Pos} (hg : Gl X "max") (hm : X.mg "max" = none) (h : EX X B ρ e (dat X.K (tI ns))) (hne : 0 < ns.length) (hc : X.calm = true := by rfl) (he : starEach [e] X.env = (false, eval e X.env) :: starEach [] X.env := by rfl) (hpl : (backTo pos (starEach [] X.env)).any (·.1) = false := by rfl) : EX X B ρ (.Call (.Name "max" p) [e] [] pos) (iE fun M => M ∈ ns ∧ ∀ y, y ∈ ns → y ≤ M) :=
  x_callB (cr_maxT hc) hg hm (by decide +kernel) (a_cons h a_nil he) (fun vs H σ Q s hv q => by
    obtain ⟨x, rfl, hx⟩ := hv.one
    obtain ⟨t, rfl, h1⟩ := hx.tupI
    exact ⟨t, ns, rfl, h1, hne, fun M h2 h3 => q _ H (Ext.refl H) ⟨M, ⟨h2, h3⟩, rfl⟩⟩) (he := he) (hpl := hpl)
theorem x_max2 {p : Pos} (hg : Gl X "max") (hm : X.mg "max" = none) (ha : EX X B ρ a (rI m)) (hb : EX X B ρ b (rI n)) (hc : X.calm = true := by rfl) (he : starEach [a, b] X.env = (false, eval a X.env) :: starEach [b] X.env := by rfl) (he2 : starEach [b] X.env = (false, eval b X.env) :: starEach [] X.env := by rfl) (hpl : (backTo pos (starEach [b] X.env)).any (·.1) = false := by rfl) : EX X B ρ (.Call (.Name "max" p) [a, b] [] pos) (rI (max m n)) :=
  x_callB (call_max2 hc) hg hm (by decide +kernel) (a_cons ha (a_cons hb a_nil he2) he) (fun vs H σ Q s hv q => by
    obtain ⟨x, y, rfl, h1, h2⟩ := hv.two
    obtain rfl : x = .int m := h1
    obtain rfl : y = .int n := h2
    exact ⟨m, n, rfl, q _ H (Ext.refl H) (by show V.int _ = V.int _; rw [mx2])⟩) (he := he) (hpl := hpl)
/-! ### parts of lists and tuples -/
theorem DRl.drop {K : PySem.W.Frag} {H : Hp} {ds : List D} {vs : List V} (h : DRl K H ds vs) (k : Nat) : DRl K H (ds.drop k) (vs.drop k) := ⟨by rw [List.length_drop, List.length_drop, h.1], fun i e v a b => by
  rw [List.getElem?_drop] at a b
  exact h.2 _ e v a b⟩
theorem DRl.take {K : PySem.W.Frag} {H : Hp} {ds : List D} {vs : List V} (h : DRl K H ds vs) (k : Nat) : DRl K H (ds.take k) (vs.take k) := ⟨by rw [List.length_take, List.length_take, h.1], fun i e v a b => by
  rw [List.getElem?_take] at a b
  split at a
  · rw [if_pos (by assumption)] at b
    exact h.2 _ e v a b
  · cases a⟩
theorem DRl.app {K : PySem.W.Frag} {H : Hp} {ds es : List D} {vs us : List V} (h : DRl K H ds vs) (g : DRl K H es us) : DRl K H (ds ++ es) (vs ++ us) := ⟨by rw [List.length_append, List.length_append, h.1, g.1], fun i e v a b => by
  by_cases hi : i < ds.length
  · rw [List.getElem?_append_left hi] at a
    rw [List.getElem?_append_left (by rw [← h.1]; exact hi)] at b
    exact h.2 i e v a b
  · rw [List.getElem?_append_right (by omega)] at a
    rw [List.getElem?_append_right (by rw [← h.1]; omega), ← h.1] at b
    exact g.2 _ e v a b⟩
theorem cut_hi (vs : List V) (k : Nat) : cutV vs none (some (k : Int)) = vs.take k := by
  have e1 : HT.sIx vs.length 0 none = 0 := rfl
  have e2 : HT.sIx vs.length vs.length (some (k : Int)) = min k vs.length := by
    unfold HT.sIx
    dsimp only
    rw [if_neg (by omega)]
    rfl
  unfold cutV
  rw [e1, e2, List.drop_zero, Nat.sub_zero, ← List.take_eq_take_min]
theorem cut_lo (vs : List V) (k : Nat) : cutV vs (some (k : Int)) none = vs.drop k := by
  have e1 : HT.sIx vs.length 0 (some (k : Int)) = min k vs.length := by
    unfold HT.sIx
    dsimp only
    rw [if_neg (by omega)]
    rfl
  have e2 : HT.sIx vs.length vs.length none = vs.length := rfl
  unfold cutV
  rw [e1, e2]
  rw [List.take_of_length_le (by rw [List.length_drop]; omega)]
  by_cases h : k ≤ vs.length
  · rw [Nat.min_eq_left h]
  · rw [Nat.min_eq_right (by omega), List.drop_length, List.drop_eq_nil_of_le (by omega)]
theorem x_slHi {l : Addr} {ds : List D} {k : Nat} {p2 : Pos} (ha : EX X B ρ a (lstA X.K l ds)) (hb : EX X B ρ b (rI (k : Int))) : EX X B ρ (.Subscript a (.Slice none (some b) none p2) pos) (newL B X.K (ds.take k)) :=
  PE_wk (pe_slice sl_list ha po_none (po_some hb)) fun σ H Q ⟨s, q⟩ => ⟨s, fun x H1 e1 hx => ⟨s.mono e1, fun y H2 e2 hy => ⟨(k : Int), hy, by
    obtain ⟨rfl, _, us, h1, h2⟩ := hx
    refine ⟨l, us, rfl, (h1.ext e2).sq, fun p hp => q _ _ (e1.trans (e2.trans (Ext.new hp))) ?_⟩
    obtain ⟨hB, hd⟩ := ((s.mono e1).mono e2).fresh hp
    rw [cut_hi]
    exact ⟨p, hB, rfl, hd, us.take k, upd_same, (h2.take k).tk (e2.trans (Ext.new (d := d) hp)).tk⟩⟩⟩⟩
theorem x_slLo {l : Addr} {ds : List D} {k : Nat} {p2 : Pos} (ha : EX X B ρ a (lstA X.K l ds)) (hb : EX X B ρ b (rI (k : Int))) : EX X B ρ (.Subscript a (.Slice (some b) none none p2) pos) (newL B X.K (ds.drop k)) :=
  PE_wk (pe_slice sl_list ha (po_some hb) po_none) fun σ H Q ⟨s, q⟩ => ⟨s, fun x H1 e1 hx => ⟨s.mono e1, fun y H2 e2 hy => ⟨(k : Int), hy, by
    obtain ⟨rfl, _, us, h1, h2⟩ := hx
    refine ⟨l, us, rfl, (h1.ext e2).sq, fun p hp => q _ _ (e1.trans (e2.trans (Ext.new hp))) ?_⟩
    obtain ⟨hB, hd⟩ := ((s.mono e1).mono e2).fresh hp
    rw [cut_lo]
    exact ⟨p, hB, rfl, hd, us.drop k, upd_same, (h2.drop k).tk (e2.trans (Ext.new (d := d) hp)).tk⟩⟩⟩⟩
theorem x_tlHi {ds : List D} {k : Nat} {p2 : Pos} (ha : EX X B ρ a (dat X.K (.t ds))) (hb : EX X B ρ b (rI (k : Int))) : EX X B ρ (.Subscript a (.Slice none (some b) none p2) pos) (dat X.K (.t (ds.take k))) :=
  PE_wk (pe_slice sl_tupA ha po_none (po_some hb)) fun σ H Q ⟨s, q⟩ => ⟨s, fun x H1 e1 hx => ⟨s.mono e1, fun y H2 e2 hy => ⟨(k : Int), hy, by
    obtain ⟨t, us, rfl, h1, h2⟩ := DR.tup hx
    refine ⟨t, us, rfl, e2.tk.sqT h1, fun h => q _ _ (e1.trans e2) ?_, fun h p hp => q _ _ (e1.trans (e2.trans (Ext.new hp))) ?_⟩
    · have e : us.take k = us := by
        rw [← cut_hi]
        unfold cutV
        rw [h.1, h.2, Nat.sub_zero, List.drop_zero, List.take_length]
      have := h2.take k
      rw [e] at this
      exact DR.of_tup (e2.tk.sqT h1) (this.tk e2.tk)
    · rw [cut_hi]
      exact DR.of_tup (SqT.of upd_same) ((h2.take k).tk (e2.trans (Ext.new (d := d) hp)).tk)⟩⟩⟩
theorem x_tlLo {ds : List D} {k : Nat} {p2 : Pos} (ha : EX X B ρ a (dat X.K (.t ds))) (hb : EX X B ρ b (rI (k : Int))) : EX X B ρ (.Subscript a (.Slice (some b) none none p2) pos) (dat X.K (.t (ds.drop k))) :=
  PE_wk (pe_slice sl_tupA ha (po_some hb) po_none) fun σ H Q ⟨s, q⟩ => ⟨s, fun x H1 e1 hx => ⟨s.mono e1, fun y H2 e2 hy => ⟨(k : Int), hy, by
    obtain ⟨t, us, rfl, h1, h2⟩ := DR.tup hx
    refine ⟨t, us, rfl, e2.tk.sqT h1, fun h => q _ _ (e1.trans e2) ?_, fun h p hp => q _ _ (e1.trans (e2.trans (Ext.new hp))) ?_⟩
    · have e : us.drop k = us := by
        rw [← cut_lo]
        unfold cutV
        rw [h.1, h.2, Nat.sub_zero, List.drop_zero, List.take_length]
      have := h2.drop k
      rw [e] at this
      exact DR.of_tup (e2.tk.sqT h1) (this.tk e2.tk)
    · rw [cut_lo]
      exact DR.of_tup (SqT.of upd_same) ((h2.drop k).tk (e2.trans (Ext.new (d := d) hp)).tk)⟩⟩⟩
/-! ### lists and tuples joined -/
theorem x_catL {ds es' : List D} (ha : EX X B ρ a (newL B X.K ds)) (hb : EX X B ρ b (newL B X.K es')) (hl : ds.length + es'.length ≤ 1000) : EX X B ρ (.BinOp a .Add b pos) (newL B X.K (ds ++ es')) :=
  x_op2 op_cat ha hb fun x y H σ Q s hx hy q => by
    obtain ⟨l, _, rfl, _, us, h1, h2⟩ := hx
    obtain ⟨l2, _, rfl, _, us2, h3, h4⟩ := hy
    refine ⟨l, l2, us, us2, rfl, rfl, h1, h3, by rw [← h2.1, ← h4.1]; exact Nat.le_of_lt (small1000 hl), fun p hp => q _ _ (Ext.new hp) ?_⟩
    obtain ⟨hB, hd⟩ := s.fresh hp
    exact ⟨p, hB, rfl, hd, us ++ us2, upd_same, (h2.app h4).tk (Ext.new (d := d) hp).tk⟩
theorem x_catT {ds es' : List D} (ha : EX X B ρ a (dat X.K (.t ds))) (hb : EX X B ρ b (dat X.K (.t es'))) (hl : ds.length + es'.length ≤ 1000) : EX X B ρ (.BinOp a .Add b pos) (dat X.K (.t (ds ++ es'))) :=
  x_op2 op_catA ha hb fun x y H σ Q s hx hy q => by
    obtain ⟨l, us, rfl, h1, h2⟩ := DR.tup hx
    obtain ⟨l2, us2, rfl, h3, h4⟩ := DR.tup hy
    have h5 := h2.app h4
    refine ⟨l, l2, us, us2, rfl, rfl, h1, h3, by rw [← h2.1, ← h4.1]; exact Nat.le_of_lt (small1000 hl), fun z => q _ _ (Ext.refl H) ?_, fun _ z => q _ _ (Ext.refl H) ?_, fun _ _ p hp => q _ _ (Ext.new hp) ?_⟩
    · rw [z, List.nil_append] at h5
      exact DR.of_tup h3 h5
    · rw [z, List.append_nil] at h5
      exact DR.of_tup h1 h5
    · exact DR.of_tup (SqT.of upd_same) (h5.tk (Ext.new (d := d) hp).tk)
/-! ### texts; lists compared -/
theorem x_str {K : PySem.W.Frag} {j : Nat} {x : Str} : EX X B ρ (.Constant (.str x) j pos) (dat K (.s x)) := PE_wk pe_str fun σ H Q ⟨s, q⟩ => q _ H (Ext.refl H) (.s x)
theorem t_eqS {K : PySem.W.Frag} {x y : Str} (ha : EX X B ρ a (dat K (.s x))) (hb : EX X B ρ b (dat K (.s y))) : TX X B ρ (.Compare a [.Eq] [b] pos) (is (decide (x = y))) := t_cmp op_eq (nomark _) ha hb fun u v H σ Q _ hx hy q => by
  cases hx; cases hy
  refine ⟨rfl, q _ H (Ext.refl H) ?_⟩
  by_cases h : x = y
  · rw [h, decide_eq_true rfl, decide_eq_true rfl]
  · rw [decide_eq_false h, decide_eq_false fun z => h (V.str.inj z)]
theorem shpLs {k : Nat} {xs : List D} (h : ∀ e ∈ xs, Shp k e) (hk : k < 64) : SeqAt.shaped (.list (pyL xs)) = true := by
  obtain ⟨h1, h2⟩ := shpL fun e he => (h e he).lay
  unfold SeqAt.shaped
  have e1 : (PyData.list (pyL xs)).canLay0 = true := by simpa [PyData.canLay0] using h1
  have e2 : (PyData.list (pyL xs)).depth ≤ 64 := by
    have : (PyData.list (pyL xs)).depth ≤ k + 1 := by simpa [PyData.depth] using h2
    omega
  rw [e1, Bool.true_and]
  exact decide_eq_true e2
theorem eqvLs {k j : Nat} {xs ys : List D} (h : ∀ e ∈ xs, Shp k e) (g : ∀ e ∈ ys, Shp j e) : PyData.eqv (.list (pyL xs)) (.list (pyL ys)) = true ↔ xs = ys := by
  have := eqvL (xs := xs) (ys := ys) (fun e he {f} hf => (h e he).eqv hf) fun f hf => ⟨_, g f hf⟩
  simpa [PyData.eqv] using this
theorem dpLs {K : PySem.W.Frag} {l : Addr} {ds : List D} {v : V} {H : Hp} (h : (lstA (d := d) K l ds).p v H) : Dp K H v (.list (pyL ds)) := by
  obtain ⟨rfl, _, us, h1, h2⟩ := h
  exact .lst h1.sq (dpAll_of h2.1 fun i e v a b => dp_of (h2.2 i e v a b))
theorem t_eqL {l1 l2 : Addr} {xs ys : List D} {k j : Nat} (hu : X.A.units + 64 < cLine) (ha : EX X B ρ a (lstA X.K l1 xs)) (hb : EX X B ρ b (lstA X.K l2 ys)) (hx : ∀ e ∈ xs, Shp k e) (hy : ∀ e ∈ ys, Shp j e) (hk : k < 64 := by decide) (hj : j < 64 := by decide) : TX X B ρ (.Compare a [.Eq] [b] pos) (fun q => q = true ↔ xs = ys) :=
  t_cmp (op_eqD hu) (nomark _) ha hb fun u v H σ Q _ hx' hy' q => ⟨_, _, dpLs hx', dpLs hy', shpLs hx hk, shpLs hy hj, q _ H (Ext.refl H) (eqvLs hx hy)⟩
theorem t_neL {l1 l2 : Addr} {xs ys : List D} {k j : Nat} (hu : X.A.units + 64 < cLine) (ha : EX X B ρ a (lstA X.K l1 xs)) (hb : EX X B ρ b (lstA X.K l2 ys)) (hx : ∀ e ∈ xs, Shp k e) (hy : ∀ e ∈ ys, Shp j e) (hk : k < 64 := by decide) (hj : j < 64 := by decide) : TX X B ρ (.Compare a [.NotEq] [b] pos) (fun q => q = false ↔ xs = ys) :=
  t_cmp (op_neD hu) (nomark _) ha hb fun u v H σ Q _ hx' hy' q => ⟨_, _, dpLs hx', dpLs hy', shpLs hx hk, shpLs hy hj, q _ H (Ext.refl H) (by have := eqvLs hx hy; rw [← this]; cases PyData.eqv (.list (pyL xs)) (.list (pyL ys)) <;> simp)⟩
theorem x_eqL {l1 l2 : Addr} {xs ys : List D} {k j : Nat} (hu : X.A.units + 64 < cLine) (ha : EX X B ρ a (lstA X.K l1 xs)) (hb : EX X B ρ b (lstA X.K l2 ys)) (hx : ∀ e ∈ xs, Shp k e) (hy : ∀ e ∈ ys, Shp j e) (hk : k < 64 := by decide) (hj : j < 64 := by decide) : EX X B ρ (.Compare a [.Eq] [b] pos) (exR (fun q => q = true ↔ xs = ys) rB) :=
  x_cmp (op_eqD hu) (nomark _) ha hb fun u v H σ Q _ hx' hy' q => ⟨_, _, dpLs hx', dpLs hy', shpLs hx hk, shpLs hy hj, q _ H (Ext.refl H) ⟨_, eqvLs hx hy, rfl⟩⟩
/-! ### a tuple of what is no data -/
def tupR (K : PySem.W.Frag) (Rs : List (Rp d)) : Rp d := ⟨fun v H => ∃ t vs, v = .ref t ∧ SqT K H t vs ∧ RsH Rs vs H, fun e ⟨t, vs, h1, h2, h3⟩ => ⟨t, vs, h1, e.tk.sqT h2, h3.mono e⟩⟩
theorem x_tupX {x1} (h : AX X B ρ es Rs) (hl : Rs.length ≤ 1000 := by first | decide | simp) : EX X B ρ (.Tuple es x1 pos) (tupR X.K Rs) :=
  PE_wk (pe_tup h) fun σ H Q ⟨s, q⟩ => ⟨s, fun vs H1 e1 hv => by
    refine ⟨by rw [hv.len]; exact Nat.le_of_lt (small1000 hl), fun p hp => q _ _ (e1.trans (Ext.new hp)) ?_⟩
    exact ⟨p, vs, rfl, SqT.of upd_same, hv.mono (Ext.new hp)⟩⟩
theorem x_ixX (k : Nat) (ha : EX X B ρ a (tupR X.K Rs)) (hb : EX X B ρ b (rI (k : Int))) (hw : Rs[k]? = some R) (hs : PlainIx b := by exact (fun _ _ => rfl)) : EX X B ρ (.Subscript a b pos) R :=
  PE_wk (pe_ix ix_tup ha hb hs) fun σ H Q ⟨s, q⟩ => ⟨s, fun x H1 e1 hx => ⟨s.mono e1, fun y H2 e2 hy => by
    obtain ⟨t, us, rfl, h1, h2⟩ := hx
    obtain ⟨v, hv, hr⟩ := h2.get hw
    exact ⟨t, us, _, v, rfl, hy, e2.tk.sqT h1, atI_nat hv, q v H2 (e1.trans e2) (R.st e2 hr)⟩⟩⟩
/-- for x, y in enumerate(a list that the slots tell) -/
theorem bx_forEL {α : Type} {ds : List D} {la : Addr} (j k : Nat) {x y : Str} {kk : Nat} {tpos p1 p2 p p3 : Pos} (P : Nat → α → Prop) (r : Nat → α → Ro d) (hg : Gl X "enumerate") (hm : X.mg "enumerate" = none) (ha : EX X B ρ a (lstA X.K la ds)) (h0 : ∀ σ H, St B ρ σ H → IS B (P 0) (r 0) σ H)
    (hl : ∀ i z, P i z → ∃ (k : Nat) (R : Rp d), (r i z)[k]? = some (some R) ∧ ∀ v H, R.p v H → (lstA (d := d) X.K la ds).p v H)
    (hb : ∀ (i : Nat) w z, ds[i]? = some w → P i z → BX X body (St B (((r i z).set j (some (rI (i : Int)))).set k (some (dat X.K w)))) (Lp Po (IS B (P (i + 1)) (r (i + 1))) (IS B (P ds.length) (r ds.length)))) (h : BX X rest (IS B (P ds.length) (r ds.length)) Po)
    (hN : X.N.Nodup) (hp : PassesOwn (model X.prog X.w) X.A X.env X.xe) (hj : X.N[j]? = some x := by rfl) (hk : X.N[k]? = some y := by rfl) (hc : X.calm = true := by rfl) (hx : Loc X.env.scope x := by first | exact Or.inl rfl | exact Or.inr rfl) (hy : Loc X.env.scope y := by first | exact Or.inl rfl | exact Or.inr rfl)
    (hf : X.fn x = true ∨ X.env.scope.names.lookup x = some .local := by first | exact .inl rfl | exact .inr rfl | assumption) (hfy : X.fn y = true ∨ X.env.scope.names.lookup y = some .local := by first | exact .inl rfl | exact .inr rfl | assumption)
    (he : starEach [a] X.env = [(false, eval a X.env)] := by rfl) (hs : ∀ x, foldedSetIterable (.Call (.Name "enumerate" p) [a] [] p3) X.env x = pure x := by intro _; rfl) :
    BX X (.For (.Tuple [.Name x p1, .Name y p2] kk tpos) (.Call (.Name "enumerate" p) [a] [] p3) body [] pos :: rest) (St B ρ) Po := by
  refine bx_cons (Mid := IS B (P ds.length) (r ds.length)) ?_ h
  refine PS_wk (t := tFor (iEnum X.K fun σ H Q => St B ρ σ H ∧ ∀ vs H', Ext d H H' → RsH [lstA X.K la ds] vs H' → Q vs H') (gTup X.K 2 (gCons (gName j) (gCons (gName k) gNil))) (tBody (Z := Nat × D × α) B (fun z => ((r z.1 z.2.2).set j (some (rI (z.1 : Int)))).set k (some (dat X.K z.2.1))) (fun z => ds[z.1]? = some z.2.1 ∧ P z.1 z.2.2) (fun z => Lp Po (IS B (P (z.1 + 1)) (r (z.1 + 1))) (IS B (P ds.length) (r ds.length)))))
    (ps_for hp hc (pi_enum hg hm (a_cons ha a_nil he) he) (pg_tup hc (pgs_cons (pg_name hN hj hx hf) (pgs_cons (pg_name hN hk hy hfy) pgs_nil))) ⟨fun pins s σ H E I ⟨⟨i, w, z⟩, ⟨hw, hz⟩, q, l⟩ => (hb i w z hw hz).run pins s σ H E I ⟨q, l⟩⟩ hs) fun E σ H ⟨s, l⟩ => ⟨s, fun vs H1 e1 hv => ?_⟩
  obtain ⟨v, rfl, hv'⟩ := hv.one
  obtain ⟨rfl, hld, us, h1, h2⟩ := hv'
  have key : ∀ i σ H, IS B (P i) (r i) σ H → ∃ vs, SqL X.K H la vs ∧ DRl X.K H ds vs := fun i σ H ⟨z, hz, q⟩ => by
    obtain ⟨k, R, hk, hR⟩ := hl i z hz
    obtain ⟨v, _, g⟩ := q.good.get hk
    obtain ⟨_, _, vs, a1, a2⟩ := hR v H g
    exact ⟨vs, a1.sq, a2⟩
  refine ⟨la, us, rfl, h1.sq, fun i m σ H => m = ds.length - i ∧ i ≤ ds.length ∧ Tk H1 H ∧ IS B (P i) (r i) σ H, ⟨ds.length, rfl, Nat.zero_le _, Tk.refl _, h0 _ _ (s.mono e1)⟩, ?_⟩
  rintro i m σ H ⟨rfl, hi, kk, q⟩
  obtain ⟨vs, a1, a2⟩ := key i σ H q
  by_cases hlt : i < ds.length
  · have hv : i < vs.length := by rw [← a2.1]; exact hlt
    refine .inr ⟨⟨vs, vs[i], a1, List.getElem?_eq_getElem hv⟩, fun σ' H' => Tk H1 H' ∧ IS B (P (i + 1)) (r (i + 1)) σ' H', fun σ' H' p' => ⟨ds.length - (i + 1), by omega, rfl, hlt, p'.1, p'.2⟩, fun v H' yl => ?_⟩
    obtain ⟨T, x', rfl, hT, rfl, f1⟩ := yl
    obtain ⟨w, hw, hr⟩ := a2.getV (f1 vs a1)
    obtain ⟨z, hz, q⟩ := q
    have eT : Ext d H (upd H T (.tup [.int (i : Nat), x'])) := Ext.new hT
    have kT := kk.trans eT.tk
    refine ⟨T, [.int (i : Nat), x'], rfl, SqT.of upd_same, rfl, .int (i : Nat), [x'], rfl, x', [], rfl, rfl, (i, w, z), ⟨hw, hz⟩, ⟨(q.mono eT).ext, (q.mono eT).dr, ((q.mono eT).good.set j (R := rI (i : Int)) rfl).set k (R := dat X.K w) (hr.tk eT.tk)⟩, ?_⟩
    exact ⟨fun σ' H' k' q' => ⟨kT.trans k', q'⟩, fun v H' k' q' => l.rt v H' ((e1.tk.trans kT).trans k') q', fun σ' H' k' q' => l.nx σ' H' ((e1.tk.trans kT).trans k') q', fun σ' H' k' q' => ⟨kT.trans k', q'⟩⟩
  · have e' : i = ds.length := by omega
    subst e'
    exact .inl ⟨⟨vs, a1, by rw [← a2.1]; exact Nat.le_refl _⟩, l.nx σ H (e1.tk.trans kk) q⟩
theorem t_ltE {P S : Int → Prop} (ha : EX X B ρ a (iE P)) (hb : EX X B ρ b (iE S)) : TX X B ρ (.Compare a [.Lt] [b] pos) (fun k => ∃ i j, P i ∧ S j ∧ k = decide (i < j)) := t_cmp op_lt (nomark _) ha hb fun x y H σ Q _ ⟨i, hi, hx⟩ ⟨j, hj, hy⟩ q => ⟨i, j, hx, hy, q _ H (Ext.refl H) ⟨i, j, hi, hj, rfl⟩⟩
theorem t_gtE {P S : Int → Prop} (ha : EX X B ρ a (iE P)) (hb : EX X B ρ b (iE S)) : TX X B ρ (.Compare a [.Gt] [b] pos) (fun k => ∃ i j, P i ∧ S j ∧ k = decide (j < i)) := t_cmp op_gt (nomark _) ha hb fun x y H σ Q _ ⟨i, hi, hx⟩ ⟨j, hj, hy⟩ q => ⟨i, j, hx, hy, q _ H (Ext.refl H) ⟨i, j, hi, hj, rfl⟩⟩
theorem x_newE {ds : List D} {K : PySem.W.Frag} (h : EX X B ρ e (newL B K ds)) : EX X B ρ e (newE B K fun es => es = ds) := x_sub h fun v H hv => ⟨ds, rfl, hv⟩
theorem x_lstE {P : Int → Prop} (h : EX X B ρ e (iE P)) (hs : starEach [e] X.env = (false, eval e X.env) :: starEach [] X.env := by rfl) : EX X B ρ (.List [e] pos) (newE B X.K fun ds => ∃ z, P z ∧ ds = [.i z]) :=
  PE_wk (pe_lst (a_cons h a_nil hs)) fun σ H Q ⟨s, q⟩ => ⟨s, fun vs H1 e1 hv => by
    obtain ⟨v, rfl, z, hz, hv⟩ := hv.one
    obtain rfl : v = .int z := hv
    refine ⟨Nat.le_of_lt (small1000 (by simp)), fun p hp => q _ _ (e1.trans (Ext.new hp)) ?_⟩
    obtain ⟨hB, hpd⟩ := (s.mono e1).fresh hp
    exact ⟨_, ⟨z, hz, rfl⟩, p, hB, rfl, hpd, [.int z], upd_same, DRl.of_ints [z]⟩⟩
theorem x_catLE {P S : List D → Prop} (ha : EX X B ρ a (newE B X.K P)) (hb : EX X B ρ b (newE B X.K S)) (hl : ∀ x y, P x → S y → x.length + y.length ≤ 1000) : EX X B ρ (.BinOp a .Add b pos) (newE B X.K fun ds => ∃ x y, P x ∧ S y ∧ ds = x ++ y) :=
  x_op2 op_cat ha hb fun x y H σ Q s hx hy q => by
    obtain ⟨ds, hds, l, _, rfl, _, us, h1, h2⟩ := hx
    obtain ⟨es', hes, l2, _, rfl, _, us2, h3, h4⟩ := hy
    refine ⟨l, l2, us, us2, rfl, rfl, h1, h3, by rw [← h2.1, ← h4.1]; exact Nat.le_of_lt (small1000 (hl _ _ hds hes)), fun p hp => q _ _ (Ext.new hp) ?_⟩
    obtain ⟨hB, hd⟩ := s.fresh hp
    exact ⟨_, ⟨ds, es', hds, hes, rfl⟩, p, hB, rfl, hd, us ++ us2, upd_same, (h2.app h4).tk (Ext.new (d := d) hp).tk⟩
/-- y = [elt for ..]: a store of its own kind -/
def AsgX (X : Cx) (B : Hp) (ρ : Ro d) (i : Nat) (st : Stmt) (R : Rp d) : Prop := PS X st fun E σ H => St B ρ σ H ∧ ∀ v H', Ext d H H' → R.p v H' → E.nx (σ.set i (some v)) H'
theorem as_sub {i : Nat} (h : AsgX X B ρ i st R) (w : ∀ v H, R.p v H → R'.p v H) : AsgX X B ρ i st R' := PS_wk h fun E σ H ⟨s, q⟩ => ⟨s, fun v H' e1 hv => q v H' e1 (w v H' hv)⟩
theorem bx_newA (i : Nat) {K : PySem.W.Frag} {S : List D → Prop} (ls : List Addr) (hls : ∀ l ∈ ls, Known l ρ) (he : ∀ B' : Hp, AsgX X B' ρ i st (newE B' K S)) (h : ∀ l ds, S ds → B l = none → (∀ l' ∈ ls, l ≠ l') → BX X rest (St B (ρ.set i (some (own K l ds)))) Po) : BX X (st :: rest) (St B ρ) Po := by
  refine bx_cons (Mid := fun σ H => ∃ z : Addr × List D, (S z.2 ∧ B z.1 = none ∧ ∀ l' ∈ ls, z.1 ≠ l') ∧ St B (ρ.set i (some (own K z.1 z.2))) σ H) ?_ (bx_ex fun z hz => h z.1 z.2 hz.1 hz.2.1 hz.2.2)
  refine ⟨fun pins s σ H E I ⟨st, q⟩ => ?_⟩
  refine (he H).run pins s σ H E I ⟨⟨Ext.refl H, st.dr, st.good⟩, fun v H' e1 hv => ?_⟩
  obtain ⟨ds, hS, l, hl, hv⟩ := hv
  have hld : some l ≠ d := hv.2.1
  refine q.nx _ H' e1.tk ⟨(l, ds), ⟨hS, ?_, fun l' hl' z => ?_⟩, st.ext.trans e1, (st.mono e1).dr, (st.mono e1).good.set i hv⟩
  · cases e2 : B l with
    | none => rfl
    | some o =>
      have := st.ext.at e2 hld
      rw [hl] at this; cases this
  · obtain ⟨k, R, h1, h2⟩ := hls l' hl'
    obtain ⟨w, _, h3⟩ := st.good.get h1
    exact h2 w H h3 (by have z' : l = l' := z; rw [← z']; exact hl)
theorem as_lcRE {S : Int → Prop} (i0 j : Nat) {x y : Str} {py spos : Pos} {scope : Scope} {tpos p p2 : Pos} (P : Nat → D → Prop) (hg : Gl X "range") (hm : X.mg "range" = none) (hi : EX X B ρ e (iE S)) (hn : ∀ nn, S nn → nn < 2000 ∧ -(2 ^ 62) ≤ nn) (hN : X.N.Nodup) (hok : BlkOk X.N X.env.scope scope [(x, j)])
    (hgn : ∀ (s : Shared) (H : Hp) (C : Addr) (cl : List (Str × Addr)) (fp : List Addr), PG (X.blk s H scope (compEnvC scope cl C X.env) fp) (.Name x tpos) (gName j))
    (hb : ∀ (s : Shared) (H : Hp) (C : Addr) (cl : List (Str × Addr)) (fp : List Addr) (i : Nat), EX (X.blk s H scope (compEnvC scope cl C X.env) fp) B (ρ.set j (some (rI (i : Int)))) elt (dE X.K (P i)))
    (hc : X.calm = true := by rfl) (he : starEach [e] X.env = [(false, eval e X.env)] := by rfl) (hs : ∀ x, foldedSetIterable (.Call (.Name "range" p) [e] [] p2) X.env x = pure x := by intro _; rfl)
    (hy : X.N[i0]? = some y := by rfl) (hyl : X.env.scope.names.lookup y = some .local := by rfl) (hsw : swapsWith (.ListComp elt [⟨.Name x tpos, .Call (.Name "range" p) [e] [] p2, [], 0⟩] scope pos) (some (.Name y py)) spos.line X.env = pure true := by rfl) :
    AsgX X B ρ i0 (.Assign [.Name y py] (.ListComp elt [⟨.Name x tpos, .Call (.Name "range" p) [e] [] p2, [], 0⟩] scope pos) spos) (newE B X.K fun ds => (∃ nn, S nn ∧ ds.length = nn.toNat) ∧ ∀ k w, ds[k]? = some w → P k w) := by
  refine PS_wk (ps_setLc (own := [(x, j)]) (g := gName j) (tt := tYes) (te := tElt (Z := Nat) B X.K (fun i => ρ.set j (some (rI (i : Int)))) (fun i => True) P) hc hN hy hyl hsw (pi_range1 hg hm (a_cons hi a_nil he) he) hok hgn (fun _ _ _ _ _ => pts_nil) (fun s H C cl fp => elt_of fun i _ => hb s H C cl fp i) hs) fun E σ H ⟨s, q⟩ => ⟨s, fun vs H1 e1 hv => ?_⟩
  obtain ⟨v, rfl, hv'⟩ := hv.one
  obtain ⟨nn, hnn, hv'⟩ := hv'
  obtain rfl : v = .int nn := hv'
  have hn' := hn nn hnn
  have s1 := s.mono e1
  refine ⟨nn, rfl, hn'.2, by omega, fun Dl hD => ?_⟩
  obtain ⟨hB, hDd⟩ := s1.fresh hD
  refine lc_range (lo := 0) (n := nn.toNat) (Lc H1 X.K Dl d P) ⟨Ext.new hD, [], [], upd_same, DRl.nil, rfl, fun k w h => by cases h⟩ (fun i H' hlt L => ?_) (fun H' L => ?_)
  · refine ⟨wipe1 _ _ _, ?_⟩
    refine ⟨i, trivial, ?_, fun y H2 e2 hy => lc_step hD hDd L e2 hy (by omega)⟩
    rw [Int.zero_add]
    exact st_wipe (s1.mono L.1) (R := rI (i : Int)) rfl
  · obtain ⟨h0, us, ds, h1, h2, h3, h4⟩ := L
    exact q _ H' (e1.trans h0) ⟨ds, ⟨⟨nn, hnn, h3⟩, h4⟩, Dl, hB, rfl, hDd, us, h1, h2⟩
theorem tupR2_up {ρ1 : Ro d} {K : PySem.W.Frag} {S : List D → Prop} {σ : L2.St} {H H' : Hp} {v : V} (s : St B ρ1 σ H) (h : (tupR (d := d) K [newE H K S, rAny]).p v H') : (tupR (d := d) K [newE B K S, rAny]).p v H' := by
  obtain ⟨t, vs, h1, h2, h3⟩ := h
  obtain ⟨x, y, rfl, h4, h5⟩ := h3.two
  exact ⟨t, [x, y], h1, h2, newE_up s h4, trivial, trivial⟩
end
end Cv

namespace Cv
open PySem PySem.Spec PyProof.Rows L2 RZ
section
variable {d : Option Addr} {X : Cx} {B : Hp} {ρ ρ' : Ro d} {a b c e iter elt : Expr} {es : List Expr} {R R' Ra Rb : Rp d} {Rs : List (Rp d)} {pos : Pos} {m n : Int} {st : Stmt} {rest body orelse : List Stmt} {Pre Mid : L2.St → Hp → Prop} {Po : Ends}
theorem bx_unp2 {A1 A2 : D} (i1 i2 : Nat) {x1 x2 : Str} {q1 q2 q4 : Pos} {kk : Nat} (he : EX X B ρ e (dat X.K (.t [A1, A2]))) (h : BX X rest (St B ((ρ.set i1 (some (dat X.K A1))).set i2 (some (dat X.K A2)))) Po)
    (hN : X.N.Nodup) (h1 : X.N[i1]? = some x1 := by rfl) (h2 : X.N[i2]? = some x2 := by rfl) (hc : X.calm = true := by rfl) (l1 : Loc X.env.scope x1 := by first | exact Or.inl rfl | exact Or.inr rfl) (l2 : Loc X.env.scope x2 := by first | exact Or.inl rfl | exact Or.inr rfl)
    (f1 : X.fn x1 = true ∨ X.env.scope.names.lookup x1 = some .local := by first | exact .inl rfl | exact .inr rfl | assumption) (f2 : X.fn x2 = true ∨ X.env.scope.names.lookup x2 = some .local := by first | exact .inl rfl | exact .inr rfl | assumption)
    (hs : swapsWithSole [.Tuple [.Name x1 q1, .Name x2 q2] kk q4] e pos.line X.env = pure false := by rfl) (hw : swappedStores [.Tuple [.Name x1 q1, .Name x2 q2] kk q4] e X.env = pure none := by rfl) :
    BX X (.Assign [.Tuple [.Name x1 q1, .Name x2 q2] kk q4] e pos :: rest) (St B ρ) Po := by
  refine bx_cons (Mid := St B ((ρ.set i1 (some (dat X.K A1))).set i2 (some (dat X.K A2)))) ?_ h
  refine PS_wk (ps_asg he (pg_tup hc (pgs_cons (pg_name hN h1 l1 f1) (pgs_cons (pg_name hN h2 l2 f2) pgs_nil))) hs hw) fun E σ H ⟨s, l⟩ => ⟨s, fun v H' e1 hv => ?_⟩
  obtain ⟨t, us, rfl, g1, g2⟩ := DR.tup hv
  match us, g2 with
  | [v1, v2], g2 =>
    refine ⟨t, [v1, v2], rfl, g1, rfl, v1, [v2], rfl, v2, [], rfl, rfl, ?_⟩
    exact l.nx _ H' e1.tk ⟨(s.mono e1).ext, (s.mono e1).dr, ((s.mono e1).good.set i1 (R := dat X.K A1) (g2.2 0 A1 v1 rfl rfl)).set i2 (R := dat X.K A2) (g2.2 1 A2 v2 rfl rfl)⟩
  | [], g2 => exact absurd g2.1 (by simp)
  | [_], g2 => exact absurd g2.1 (by simp)
  | _ :: _ :: _ :: _, g2 => exact absurd g2.1 (by simp)
theorem passX : Passes (L2.CX X.prog X.w) X E0 := fun _ _ _ _ _ _ _ h => by
  obtain ⟨_, _, _, _, _, _, _, _, _, _, _, _, z⟩ := h
  exact z.elim
/-- a class of errors of the program's own, made with a text -/
structure ErrTxt (K : PySem.W.Frag) (mg : Str → Option Value) (C : Addr) (x : Str) : Prop where
  gC : mg x = some (.ref C)
  exc : PySem.W.excIn K C [Value.type "ValueError", Value.type "Exception", Value.type "BaseException", Value.type "object"] "ValueError.__new__" = true
  kC : PySem.W.keepIn K (.ref C) = true
  exB : PySem.W.subIn K (.ref C) (.type "BaseException") = some true
  tyC : PySem.W.typeIn K (.ref C) = some (.type "type")
  te : PySem.W.exmOne K (.ref C) (.ref C) = some true
/-- raise C('text') -/
theorem bx_raiseC {C : Addr} {x m : Str} {j : Nat} {p p2 pos2 : Pos} {E : XK} {W : L2.WX} (T : ErrTxt X.K X.mg C x) (tk : L2.Takes X W) (hW : ∀ σ H, E (.ref C) none H → W (.ref C) none σ H) (hE : ∀ H1, Ext d B H1 → E (.ref C) none H1)
    (hc : X.calm = true := by rfl) (hg : Gl X x := by rfl) (hd : (x == ("__debug__" : Str)) = false := by decide) :
    BX X (.Raise (some (.Call (.Name x p) [.Constant (.str m) j p2] [] pos)) none pos2 :: rest) (St B ρ) Po :=
  bx_cons (Mid := fun _ _ => False) (PS_wk (L2.ps_raise hc tk (L2.pmk_own PySem.F.excBase_ValueError T.exc T.gC T.kC (raises_own T.exB T.tyC) hg hd)) fun D σ H ⟨s, _⟩ => hW σ H (hE H s.ext)) bx_false
/-- the call's promise tells of results and errors -/
def spE {α : Type} (d : Option Addr) (As : α → List (Rp d)) (Ok : α → Prop) (Rz : α → Rp d) (Bad : α → Prop) (c : Value) : Sp := fun vs H Q E => ∃ z : α, RsH (As z) vs H ∧ (∀ a, d = some a → Drw H a) ∧ (Ok z → ∀ v H', Ext d H H' → (Rz z).p v H' → Q v H') ∧ (Bad z → ∀ H', Ext d H H' → E c none H') ∧ (Ok z ∨ Bad z)
end
section
variable {d : Option Addr} {Pg : Program} {w : World} {K : PySem.W.Frag} {mg : Str → Option Value} {base : Heap}
/-- a def that may raise c: its body with B := the heap at the start -/
theorem fn_okE {α : Type} {As : α → List (Rp d)} {Ok : α → Prop} {Rz : α → Rp d} {Bad : α → Prop} {c : Value} {x qual : Str} {sd : Stmt} {f : Addr} {fd : FuncData} {N ps : List Str} {k : Nat} (F : Fun K x qual sd f fd) (S : FnScope N ps (defScope sd)) (hl : ∀ z, (As z).length = ps.length) (hN : ps.length ≤ N.length)
    (body : ∀ (z : α) (H : Hp) (cdv : Value) (A : Around) (outer : List Env) (s : Shared) (E : XK), Room k (A.deeper (envOfC qual (defScope sd) s.heap.objs.size f cdv)) → (Bad z → ∀ H', Ext d H H' → E c none H') → (Ok z ∨ Bad z) →
      BX (cxOf (L2.CX Pg w) Pg w K mg base N qual (defScope sd) f cdv A outer s H E) (defBody sd) (St H (ro (As z) (N.length - (As z).length))) { nx := fun _ H' => Ok z ∧ Ext d H H' ∧ (Rz z).p .non H', rt := fun v H' => Ok z ∧ Ext d H H' ∧ (Rz z).p v H' }) : FnOk Pg w K mg base (L2.CX Pg w) (k + 1) f fd ps (spE d As Ok Rz Bad c) := by
  refine fn_okX F S (fun vs H Q E ⟨z, h, _⟩ => by rw [h.len, hl]) fun vs H Q E h cdv A outer s hr => ?_
  obtain ⟨z, hz, dr, q, qe, ob⟩ := h
  refine ⟨_, _, st_start hz (by rw [hl]; exact hN) dr, body z H cdv A outer s E hr qe ob, ?_⟩
  exact ⟨fun σ' H' _ ⟨o, e1, h1⟩ => q o _ H' e1 h1, fun v H' _ ⟨o, e1, h1⟩ => q o v H' e1 h1, fun _ _ _ h => h.elim, fun _ _ _ h => h.elim⟩
end
end Cv

namespace Cv
open PySem PySem.Spec PyProof.Rows L2 RZ
/-! ### zip(a, b, c), tuples of one length -/
def IteZ (K : PySem.W.Frag) (a b c : Addr) : It :=
  ⟨fun i H => ∃ (xs ys zs : List V) (x y z : V), SqT K H a xs ∧ SqT K H b ys ∧ SqT K H c zs ∧ xs[i]? = some x ∧ ys[i]? = some y ∧ zs[i]? = some z,
    fun i H v H' => ∃ T x y z, v = .ref T ∧ H T = none ∧ H' = upd H T (.tup [x, y, z]) ∧ (∀ xs, SqT K H a xs → xs[i]? = some x) ∧ (∀ xs, SqT K H b xs → xs[i]? = some y) ∧ (∀ xs, SqT K H c xs → xs[i]? = some z),
    fun i H => ∃ xs ys zs : List V, SqT K H a xs ∧ SqT K H b ys ∧ SqT K H c zs ∧ xs.length = i ∧ ys.length = i ∧ zs.length = i⟩
theorem turn_zip3 {P : Program} {w : World} {K : PySem.W.Frag} {elts : List Expr} {kk : Nat} {tpos : Pos} {a b c z TI TO i1 i2 i3 : Addr} (sep : ZipSep3 z TI TO i1 i2 i3 [i1, a] [i2, b] [i3, c]) (h1 : a ≠ i1) (h2 : b ≠ i2) (h3 : c ≠ i3) :
    Turn P w K (.Tuple elts kk tpos) (IteZ K a b c) [z, TI, TO, i1, i2, i3] z (fun i h => IsZip h z TI TO .none ∧ IsTupOf3 h TI (.ref i1) (.ref i2) (.ref i3) ∧ (∃ a1 a2 a3, IsTupOf3 h TO a1 a2 a3) ∧ h.IsTupleIter i1 a i ∧ h.IsTupleIter i2 b i ∧ h.IsTupleIter i3 c i) where
  mem := by simp
  obj := fun i h ⟨q1, q2, ⟨_, _, _, q3⟩, ⟨o4, q4, _, d4⟩, ⟨o5, q5, _, d5⟩, ⟨o6, q6, _, d6⟩⟩ x hx => by
    have e : x = z ∨ x = TI ∨ x = TO ∨ x = i1 ∨ x = i2 ∨ x = i3 := by simpa using hx
    rcases e with e | e | e | e | e | e
    · rw [e]; exact ⟨_, q1, fun v q => nomatch q⟩
    · rw [e]; exact ⟨_, q2, fun v q => nomatch q⟩
    · rw [e]; exact ⟨_, q3, fun v q => nomatch q⟩
    · rw [e]; exact ⟨_, q4, fun v q => by rw [d4] at q; cases q⟩
    · rw [e]; exact ⟨_, q5, fun v q => by rw [d5] at q; cases q⟩
    · rw [e]; exact ⟨_, q6, fun v q => by rw [d6] at q; cases q⟩
  keep := fun i h h' ⟨q1, q2, ⟨a1, a2, a3, q3⟩, q4, q5, q6⟩ k => ⟨k z (by simp) _ q1, k TI (by simp) _ q2, ⟨a1, a2, a3, k TO (by simp) _ q3⟩, q4.at fun o q => k i1 (by simp) o q, q5.at fun o q => k i2 (by simp) o q, q6.at fun o q => k i3 (by simp) o q⟩
  item := by
    intro X hP hw hK hc i pins s σ H E I hf st hg
    subst hP hw hK
    obtain ⟨xs, ys, zs, x, y, u, hx, hy, hu, ex, ey, eu⟩ := hg
    obtain ⟨s1, s2, s3, s4, s5, s6⟩ := st
    obtain ⟨t1, r1, p1, _⟩ := I.tuple hx
    obtain ⟨t2, r2, p2, _⟩ := I.tuple hy
    obtain ⟨t3, r3, p3, _⟩ := I.tuple hu
    obtain ⟨x', hx', rx⟩ := r1.get ex
    obtain ⟨y', hy', ry⟩ := r2.get ey
    obtain ⟨u', hu', ru⟩ := r3.get eu
    have l1 : i < t1.toArray.size := by rw [List.size_toArray, ← r1.length]; exact (List.getElem?_eq_some_iff.mp ex).1
    have l2 : i < t2.toArray.size := by rw [List.size_toArray, ← r2.length]; exact (List.getElem?_eq_some_iff.mp ey).1
    have l3 : i < t3.toArray.size := by rw [List.size_toArray, ← r3.length]; exact (List.getElem?_eq_some_iff.mp eu).1
    have G := GoesN.zip3 (prog := X.prog) (w := X.w) (A := X.A) (elts := elts) (x1 := kk) (pos := tpos) sep (Draws.tuple (A := X.A.in1) (by exact I.ok.hd hc) i1 a h1 t1.toArray) (Draws.tuple (A := X.A.in1) (by exact I.ok.hd hc) i2 b h2 t2.toArray) (Draws.tuple (A := X.A.in1) (by exact I.ok.hd hc) i3 c h3 t3.toArray)
    refine G.goes i s _ E (by omega) ⟨s1, s2, s3, ⟨s4, p1⟩, ⟨s5, p2⟩, ⟨s6, p3⟩⟩ fun v h' tk hY hS hk _ => ?_
    obtain ⟨T, x2, y2, u2, rfl, hT, e1, e2, e3, hTup⟩ := hY
    obtain ⟨k1, k2, k3, ⟨k4, _⟩, ⟨k5, _⟩, ⟨k6, _⟩⟩ := hS
    have e1 : x2 = x' := by
      have q : t1.toArray[i]? = some x' := by simpa using hx'
      exact Option.some.inj (e1.symm.trans q)
    have e2 : y2 = y' := by
      have q : t2.toArray[i]? = some y' := by simpa using hy'
      exact Option.some.inj (e2.symm.trans q)
    have e3 : u2 = u' := by
      have q : t3.toArray[i]? = some u' := by simpa using hu'
      exact Option.some.inj (e3.symm.trans q)
    subst e1 e2 e3
    have new : ObjOk X.prog X.w (upd H T (.tup [x, y, u])) h' T (.tup [x, y, u]) :=
      ⟨by show 3 ≤ sizeLine; exact Nat.le_of_lt (small1000 (by decide)), [x2, y2, u2], .cons rx (.cons ry (.cons ru .nil)), hTup⟩
    have I1 : Inv X pins σ (upd H T (.tup [x, y, u])) { s with heap := h', toks := tk } :=
      I.turnedNew (ch := [z, TO, i1, i2, i3]) (fun b' ob hb q => hk b' ob hb q) (fun b' hb => hf b' (by simp at hb ⊢; rcases hb with e | e | e | e | e <;> simp [e])) hT new
    refine ⟨.ref T, _, I1, rfl, ⟨T, x, y, u, rfl, I.hok.fresh hT, rfl, fun q hq => by rw [I.tuple_inj hq hx]; exact ex, fun q hq => by rw [I.tuple_inj hq hy]; exact ey, fun q hq => by rw [I.tuple_inj hq hu]; exact eu⟩, ⟨k1, k2, k3, k4, k5, k6⟩, fun b' hb => ?_⟩
    have hb' : b' < s.heap.objs.size := by
      have e : b' = z ∨ b' = TI ∨ b' = TO ∨ b' = i1 ∨ b' = i2 ∨ b' = i3 := by simpa using hb
      obtain ⟨_, _, _, s3⟩ := s3
      obtain ⟨_, s4, _⟩ := s4
      obtain ⟨_, s5, _⟩ := s5
      obtain ⟨_, s6, _⟩ := s6
      rcases e with e | e | e | e | e | e
      · rw [e]; exact Heap.lt_size s1
      · rw [e]; exact Heap.lt_size s2
      · rw [e]; exact Heap.lt_size s3
      · rw [e]; exact Heap.lt_size s4
      · rw [e]; exact Heap.lt_size s5
      · rw [e]; exact Heap.lt_size s6
    rw [upd_ne (Nat.ne_of_lt (Nat.lt_of_lt_of_le hb' hT))]
    exact (hf b' hb).1
  done := by
    intro X hP hw hK hc i pins s σ H E I hf st hg
    subst hP hw hK
    obtain ⟨xs, ys, zs, hx, hy, hu, ex, ey, eu⟩ := hg
    obtain ⟨s1, s2, s3, s4, s5, s6⟩ := st
    obtain ⟨t1, r1, p1, _⟩ := I.tuple hx
    obtain ⟨t2, r2, p2, _⟩ := I.tuple hy
    obtain ⟨t3, r3, p3, _⟩ := I.tuple hu
    have l1 : t1.toArray.size = i := by rw [List.size_toArray, ← r1.length]; exact ex
    have l2 : t2.toArray.size = i := by rw [List.size_toArray, ← r2.length]; exact ey
    have l3 : t3.toArray.size = i := by rw [List.size_toArray, ← r3.length]; exact eu
    have G := GoesN.zip3 (prog := X.prog) (w := X.w) (A := X.A) (elts := elts) (x1 := kk) (pos := tpos) sep (Draws.tuple (A := X.A.in1) (by exact I.ok.hd hc) i1 a h1 t1.toArray) (Draws.tuple (A := X.A.in1) (by exact I.ok.hd hc) i2 b h2 t2.toArray) (Draws.tuple (A := X.A.in1) (by exact I.ok.hd hc) i3 c h3 t3.toArray)
    have en : min (min t1.toArray.size t2.toArray.size) t3.toArray.size = i := by omega
    refine G.stops s _ E (by rw [en]; exact ⟨s1, s2, s3, ⟨s4, p1⟩, ⟨s5, p2⟩, ⟨s6, p3⟩⟩) fun h' tk hk _ => ?_
    exact I.turnedL (ch := [z, TO, i1, i2, i3]) (fun b' o hb q => hk b' o hb q) (fun b' hb => hf b' (by simp at hb ⊢; rcases hb with e | e | e | e | e <;> simp [e]))
  self := fun A i s Q E ⟨s1, _⟩ h => wpAny_pyIter_zip s1 h
def iZip3 (K : PySem.W.Frag) (ta : TA) : TI := fun σ H R => ta σ H fun vs H1 => ∃ a b c xs ys zs, vs = [.ref a, .ref b, .ref c] ∧ SqT K H1 a xs ∧ SqT K H1 b ys ∧ SqT K H1 c zs ∧ R (IteZ K a b c) H1
theorem pi_zip3 {X : Cx} {e e2 e3 : Expr} {ta : TA} {p pos tpos : Pos} {elts : List Expr} {kk : Nat} (hg : Gl X "zip") (hm : X.mg "zip" = none) (ha : PA X [e, e2, e3] ta) (hs : starEach [e, e2, e3] X.env = (false, eval e X.env) :: starEach [e2, e3] X.env := by rfl) (hpl : (backTo pos (starEach [e2, e3] X.env)).any (·.1) = false := by rfl) :
    PI X (.Tuple elts kk tpos) (.Call (.Name "zip" p) [e, e2, e3] [] pos) (iZip3 X.K ta) := by
  refine ⟨fun pins s σ H R I h => ?_⟩
  refine Call_ (ld_blt I hg hm boot_zip (PyProof.Rows.callWith_type1 (thn (ha.run pos pins s σ H _ I h) fun us s1 ⟨vs, H1, I1, r1, q1⟩ => ?_) hs hpl))
  obtain ⟨a, b, c, xs, ys, zs, ex, hx, hy, hz, q⟩ := q1
  subst ex
  cases r1 with
  | cons ra rr =>
    cases rr with
    | cons rb rr =>
      cases rr with
      | cons rc rr =>
        cases rr
        cases ra
        cases rb
        cases rc
        obtain ⟨t1, rv1, p1, _⟩ := I1.tuple hx
        obtain ⟨t2, rv2, p2, _⟩ := I1.tuple hy
        obtain ⟨t3, rv3, p3, _⟩ := I1.tuple hz
        have la : a < s1.heap.objs.size := by obtain ⟨o, ho, _⟩ := p1; exact Heap.lt_size ho
        have lb : b < s1.heap.objs.size := by obtain ⟨o, ho, _⟩ := p2; exact Heap.lt_size ho
        have lc : c < s1.heap.objs.size := by obtain ⟨o, ho, _⟩ := p3; exact Heap.lt_size ho
        refine zip_begins3 (begins_tuple a t1.toArray) (begins_tuple b t2.toArray) (begins_tuple c t3.toArray) p1 p2 p3 fun h' hz hTI hTO o1 o2 o3 hsz hk => wpAny_pyIter_zip hz ?_
        have I2 : Inv X pins σ H1 { s1 with heap := h' } := I1.kept (t' := s1.toks) hk
        refine ⟨_, _, _, _, H1, rfl, I2, turn_zip3 (zip_sep3 (N := s1.heap.objs.size) (fp1 := [a]) (fp2 := [b]) (fp3 := [c]) (by simpa using la) (by simpa using lb) (by simpa using lc)) (Nat.ne_of_lt la) (Nat.ne_of_lt (Nat.lt_succ_of_lt lb)) (Nat.ne_of_lt (Nat.lt_succ_of_lt (Nat.lt_succ_of_lt lc))), ⟨hz, hTI, ⟨_, _, _, hTO⟩, ⟨_, o1, rfl, rfl⟩, ⟨_, o2, rfl, rfl⟩, ⟨_, o3, rfl, rfl⟩⟩, fun b' hb => ?_, q⟩
        have hle : s1.heap.objs.size ≤ b' := by
          simp at hb
          rcases hb with e | e | e | e | e | e <;> (rw [e]; first | exact Nat.le_refl _ | exact Nat.le_add_right _ _)
        exact I1.fpOk hle (I1.hok.fresh hle)
section
variable {d : Option Addr} {X : Cx} {B : Hp} {ρ ρ' : Ro d} {a b c e iter elt : Expr} {es : List Expr} {R R' Ra Rb : Rp d} {Rs : List (Rp d)} {pos : Pos} {m n : Int} {st : Stmt} {rest body orelse : List Stmt} {Pre Mid : L2.St → Hp → Prop} {Po : Ends}
/-- for x, y, z in zip(a, b, c), tuples of one length -/
theorem bx_forZ3 {α : Type} {ds es' fs : List D} (j k l0 : Nat) {x y z : Str} {kk : Nat} {tpos p1 p2 p4 p p3 : Pos} (P : Nat → α → Prop) (r : Nat → α → Ro d) (hg : Gl X "zip") (hm : X.mg "zip" = none) (ha : EX X B ρ a (dat X.K (.t ds))) (hb' : EX X B ρ b (dat X.K (.t es'))) (hc' : EX X B ρ c (dat X.K (.t fs))) (hlen : ds.length = es'.length) (hlen2 : ds.length = fs.length) (h0 : ∀ σ H, St B ρ σ H → IS B (P 0) (r 0) σ H)
    (hb : ∀ (i : Nat) w u t z, ds[i]? = some w → es'[i]? = some u → fs[i]? = some t → P i z → BX X body (St B ((((r i z).set j (some (dat X.K w))).set k (some (dat X.K u))).set l0 (some (dat X.K t)))) (Lp Po (IS B (P (i + 1)) (r (i + 1))) (IS B (P ds.length) (r ds.length)))) (h : BX X rest (IS B (P ds.length) (r ds.length)) Po)
    (hN : X.N.Nodup) (hp : PassesOwn (model X.prog X.w) X.A X.env X.xe) (hj : X.N[j]? = some x := by rfl) (hk : X.N[k]? = some y := by rfl) (hl : X.N[l0]? = some z := by rfl) (hc : X.calm = true := by rfl) (hx : Loc X.env.scope x := by first | exact Or.inl rfl | exact Or.inr rfl) (hy : Loc X.env.scope y := by first | exact Or.inl rfl | exact Or.inr rfl) (hz : Loc X.env.scope z := by first | exact Or.inl rfl | exact Or.inr rfl)
    (hf : X.fn x = true ∨ X.env.scope.names.lookup x = some .local := by first | exact .inl rfl | exact .inr rfl | assumption) (hfy : X.fn y = true ∨ X.env.scope.names.lookup y = some .local := by first | exact .inl rfl | exact .inr rfl | assumption) (hfz : X.fn z = true ∨ X.env.scope.names.lookup z = some .local := by first | exact .inl rfl | exact .inr rfl | assumption)
    (he : starEach [a, b, c] X.env = (false, eval a X.env) :: starEach [b, c] X.env := by rfl) (he2 : starEach [b, c] X.env = (false, eval b X.env) :: starEach [c] X.env := by rfl) (he3 : starEach [c] X.env = (false, eval c X.env) :: starEach [] X.env := by rfl) (hpl : (backTo p3 (starEach [b, c] X.env)).any (·.1) = false := by rfl)
    (hs : ∀ x, foldedSetIterable (.Call (.Name "zip" p) [a, b, c] [] p3) X.env x = pure x := by intro _; rfl) :
    BX X (.For (.Tuple [.Name x p1, .Name y p2, .Name z p4] kk tpos) (.Call (.Name "zip" p) [a, b, c] [] p3) body [] pos :: rest) (St B ρ) Po := by
  refine bx_cons (Mid := IS B (P ds.length) (r ds.length)) ?_ h
  refine PS_wk (t := tFor (iZip3 X.K fun σ H Q => St B ρ σ H ∧ ∀ vs H', Ext d H H' → RsH [dat X.K (.t ds), dat X.K (.t es'), dat X.K (.t fs)] vs H' → Q vs H') (gTup X.K 3 (gCons (gName j) (gCons (gName k) (gCons (gName l0) gNil)))) (tBody (Z := Nat × D × D × D × α) B (fun z => (((r z.1 z.2.2.2.2).set j (some (dat X.K z.2.1))).set k (some (dat X.K z.2.2.1))).set l0 (some (dat X.K z.2.2.2.1))) (fun z => ds[z.1]? = some z.2.1 ∧ es'[z.1]? = some z.2.2.1 ∧ fs[z.1]? = some z.2.2.2.1 ∧ P z.1 z.2.2.2.2) (fun z => Lp Po (IS B (P (z.1 + 1)) (r (z.1 + 1))) (IS B (P ds.length) (r ds.length)))))
    (ps_for hp hc (pi_zip3 hg hm (a_cons ha (a_cons hb' (a_cons hc' a_nil he3) he2) he) he hpl) (pg_tup hc (pgs_cons (pg_name hN hj hx hf) (pgs_cons (pg_name hN hk hy hfy) (pgs_cons (pg_name hN hl hz hfz) pgs_nil)))) ⟨fun pins s σ H E I ⟨⟨i, w, u, t, z⟩, ⟨hw, hu, ht, hz⟩, q, l⟩ => (hb i w u t z hw hu ht hz).run pins s σ H E I ⟨q, l⟩⟩ hs) fun E σ H ⟨s, l⟩ => ⟨s, fun vs H1 e1 hv => ?_⟩
  match vs, hv with
  | [v1, v2, v3], ⟨g1, g2, g3, _⟩ =>
    obtain ⟨t1, us, rfl, h1, h2⟩ := DR.tup g1
    obtain ⟨t2, us2, rfl, h3, h4⟩ := DR.tup g2
    obtain ⟨t3, us3, rfl, h5, h6⟩ := DR.tup g3
    have k1 : us.length = us2.length := by rw [← h2.1, ← h4.1]; exact hlen
    have k2 : us.length = us3.length := by rw [← h2.1, ← h6.1]; exact hlen2
    refine ⟨t1, t2, t3, us, us2, us3, rfl, h1, h3, h5, fun i m σ H => m = us.length - i ∧ i ≤ us.length ∧ Tk H1 H ∧ IS B (P i) (r i) σ H, ⟨us.length, rfl, Nat.zero_le _, Tk.refl _, h0 _ _ (s.mono e1)⟩, ?_⟩
    rintro i m σ H ⟨rfl, hi, kk, q⟩
    have a1 := kk.sqT h1
    have a2 := kk.sqT h3
    have a3 := kk.sqT h5
    by_cases hlt : i < us.length
    · refine .inr ⟨⟨us, us2, us3, us[i], us2[i]'(by omega), us3[i]'(by omega), a1, a2, a3, List.getElem?_eq_getElem hlt, List.getElem?_eq_getElem (by omega), List.getElem?_eq_getElem (by omega)⟩, fun σ' H' => Tk H1 H' ∧ IS B (P (i + 1)) (r (i + 1)) σ' H', fun σ' H' p' => ⟨us.length - (i + 1), by omega, rfl, hlt, p'.1, p'.2⟩, fun v H' yl => ?_⟩
      obtain ⟨T, x', y', z', rfl, hT, rfl, f1, f2, f3⟩ := yl
      obtain ⟨w, hw, hr⟩ := h2.getV (f1 us a1)
      obtain ⟨u, hu, hr2⟩ := h4.getV (f2 us2 a2)
      obtain ⟨t, ht, hr3⟩ := h6.getV (f3 us3 a3)
      obtain ⟨z, hz, q⟩ := q
      have eT : Ext d H (upd H T (.tup [x', y', z'])) := Ext.new hT
      have kT := kk.trans eT.tk
      refine ⟨T, [x', y', z'], rfl, SqT.of upd_same, rfl, x', [y', z'], rfl, y', [z'], rfl, z', [], rfl, rfl, (i, w, u, t, z), ⟨hw, hu, ht, hz⟩, ⟨(q.mono eT).ext, (q.mono eT).dr, (((q.mono eT).good.set j (R := dat X.K w) (hr.tk kT)).set k (R := dat X.K u) (hr2.tk kT)).set l0 (R := dat X.K t) (hr3.tk kT)⟩, ?_⟩
      exact ⟨fun σ' H' k' q' => ⟨kT.trans k', q'⟩, fun v H' k' q' => l.rt v H' ((e1.tk.trans kT).trans k') q', fun σ' H' k' q' => l.nx σ' H' ((e1.tk.trans kT).trans k') q', fun σ' H' k' q' => ⟨kT.trans k', q'⟩⟩
    · have e' : i = us.length := by omega
      subst e'
      exact .inl ⟨⟨us, us2, us3, a1, a2, a3, rfl, by omega, by omega⟩, l.nx σ H (e1.tk.trans kk) (by rw [h2.1]; exact q)⟩
theorem mn2 {i j : Int} : (if j < i then j else i) = min i j := by
  rw [Int.min_def]
  split <;> split <;> omega
theorem x_min2 {p : Pos} (hg : Gl X "min") (hm : X.mg "min" = none) (ha : EX X B ρ a (rI m)) (hb : EX X B ρ b (rI n)) (hc : X.calm = true := by rfl) (he : starEach [a, b] X.env = (false, eval a X.env) :: starEach [b] X.env := by rfl) (he2 : starEach [b] X.env = (false, eval b X.env) :: starEach [] X.env := by rfl) (hpl : (backTo pos (starEach [b] X.env)).any (·.1) = false := by rfl) : EX X B ρ (.Call (.Name "min" p) [a, b] [] pos) (rI (min m n)) :=
  x_callB (call_min2 hc) hg hm (by decide +kernel) (a_cons ha (a_cons hb a_nil he2) he) (fun vs H σ Q s hv q => by
    obtain ⟨x, y, rfl, h1, h2⟩ := hv.two
    obtain rfl : x = .int m := h1
    obtain rfl : y = .int n := h2
    exact ⟨m, n, rfl, q _ H (Ext.refl H) (by show V.int _ = V.int _; rw [mn2])⟩) (he := he) (hpl := hpl)
/-- x.append(e), e told by S -/
theorem bx_appendE (i : Nat) {x : Str} {p1 p2 p3 p4 : Pos} {K : PySem.W.Frag} {l : Addr} {ds : List D} {S : D → Prop} (hi : ρ[i]? = some (some (own K l ds))) (hK : X.K = K) (he : EX X B ρ e (dE K S)) (hB : B l = none) (hb : IndBut l i ρ) (hz : ds.length ≤ 1000) (h : ∀ w, S w → BX X rest (St B (ρ.set i (some (own K l (ds ++ [w]))))) Po)
    (hN : X.N[i]? = some x := by rfl) (hv : Vis X.env.scope x := by first | exact Or.inl rfl | exact Or.inr (Or.inl rfl) | exact Or.inr (Or.inr rfl)) (hd : (x == ("__debug__" : Str)) = false := by decide) (hcd : (x == ("__classdict__" : Str)) = false := by decide)
    (hbase : attributeBase (.Name x p1) "append" X.env (eval (.Name x p1) X.env) = eval (.Name x p1) X.env := by rfl)
    (hfew : ((backTo p3 (starEach (e :: []) X.env)).all (fun x => !x.1) && (backToKw p3 (keywordEach [] X.env)).all (fun x => x.1.isSome)
      && decide ((e :: []).length + ([] : List Keyword).length + (if ([] : List Keyword).isEmpty then 0 else 1) < 30)) = true := by rfl)
    (hline : (p2.endLine == p3.line) = true := by rfl) (hs : starEach (e :: []) X.env = (false, eval e X.env) :: starEach [] X.env := by rfl) (hplain : (backTo p3 (starEach [] X.env)).any (·.1) = false := by rfl)
    (hsw : swapsWith (.Call (.Attribute (.Name x p1) "append" p2) [e] [] p3) none p4.line X.env = pure false := by rfl) :
    BX X (.Expr (.Call (.Attribute (.Name x p1) "append" p2) [e] [] p3) p4 :: rest) (St B ρ) Po := by
  subst hK
  refine bx_cons (Mid := fun σ H => ∃ w, S w ∧ St B (ρ.set i (some (own X.K l (ds ++ [w])))) σ H) ?_ (bx_ex fun w hw => h w hw)
  refine PS_wk (ps_expr (pe_bm PySem.F.plainAttrs_list PySem.F.slot_list_append PySem.F.type_list_append mt_append (pe_var hN hv hd hcd) (a_cons he a_nil hs) hbase hfew hline hs hplain) hsw) fun E σ H ⟨s, q⟩ => ?_
  obtain ⟨v, h1, rfl, hl, vs, h2, h3⟩ := s.good.get hi
  refine ⟨_, h1, Or.inl ⟨rfl, _, SqL.of h2⟩, s, fun us H1 e1 hus => ?_⟩
  obtain ⟨y, rfl, w, hw, hy⟩ := hus.one
  have s1 := s.mono e1
  have g2 := e1.at h2 hl
  refine ⟨l, vs, y, rfl, rfl, g2, small1000 (by rw [← h3.1]; exact hz), ?_⟩
  exact q.nx σ _ (e1.tk.trans (Tk.lst g2)) ⟨w, hw, st_own s1 hi hB hb ((h3.tk e1.tk).snoc hy)⟩
end
end Cv

namespace Cv
open PySem PySem.Spec PyProof.Rows L2 RZ
/-! ### try, an except that names the error and one more behind it -/
def wAs2 (K : PySem.W.Frag) (c c2 : Value) (i : Nat) (ts ts2 : Addr → Value → Option Addr → TS) (D : Ends) : L2.WX := fun cls d σ H =>
  ∃ b, PySem.W.exmOne K cls c = some b ∧ (b = true → ∀ a, H a = none → ts a cls d { nx := fun σ' H' => D.nx (σ'.set i none) H', rt := D.rt, bk := fun σ' H' => D.bk (σ'.set i none) H', ct := fun σ' H' => D.ct (σ'.set i none) H' } (σ.set i (some (.ref a))) H) ∧
    (b = false → PySem.W.exmOne K cls c2 = some true ∧ ∀ a, H a = none → ts2 a cls d D σ H)
theorem ps_try_as2 {X : Cx} {x n x2 : Str} {c c2 : Value} {i : Nat} {body suite suite2 : List Stmt} {b₀ b₂ : Stmt} {np np2 pos pos' pos2 : Pos} {tb : L2.WX → TS} {ts ts2 : Addr → Value → Option Addr → TS} (hs : X.stack = X.env :: X.outer) (hf : X.env.frame = some X.env.locals) (hN : X.N.Nodup) (hi : X.N[i]? = some n) (hln : X.env.kindOf n = some .local)
    (hg : Gl X x) (hdbg : (x == ("__debug__" : Str)) = false) (hm : X.mg x = some c) (hg2 : Gl X x2) (hdbg2 : (x2 == ("__debug__" : Str)) = false) (hm2 : X.mg x2 = some c2)
    (hb : ∀ (W : L2.WX) (pn : List (Addr × Obj)) (xe : Value → Shared → Prop), L2N.Takes (X.tr pn xe) W → PassesOwn (model X.prog X.w) X.A X.env xe → PSs (X.tr pn xe) body (tb W))
    (hsu : ∀ (a : Addr) (oe : Obj) (cls : Value) (d : Option Addr) (pn : List (Addr × Obj)), L2N.Zn cls d oe → (∃ vs, oe.data = .fields vs) → PSs (X.suite a ((a, oe) :: pn)) (b₀ :: suite) (ts a cls d))
    (hsu2 : ∀ (a : Addr) (oe : Obj) (cls : Value) (d : Option Addr) (pn : List (Addr × Obj)), L2N.Zn cls d oe → (∃ vs, oe.data = .fields vs) → PSs (X.suite a ((a, oe) :: pn)) (b₂ :: suite2) (ts2 a cls d)) :
    PS X (.Try body [.ExceptHandler (some (.Name x np)) (some n) (b₀ :: suite) pos', .ExceptHandler (some (.Name x2 np2)) none (b₂ :: suite2) pos2] [] [] pos) fun D σ H => tb (wAs2 X.K c c2 i ts ts2 D) D σ H := by
  refine ⟨fun pins s σ H D I h => ?_⟩
  have ok := I.ok
  have hfr : X.A.frames = some (X.env :: X.outer) := by rw [ok.frames, hs]
  have hloc : Loc X.env.scope n := Or.inl hln
  refine wpAny_Try_except (wpAny_mono ((hb (wAs2 X.K c c2 i ts ts2 D) (X.pn ++ pins)
    (fun e s₁ => wpAny (model X.prog X.w) X.A (noteFrame e X.env) (fun _ s₂ => wpAny (model X.prog X.w) X.A (setFlight e none) (fun _ s₃ => wpAny (model X.prog X.w) X.A (handleBy e X.env [.ExceptHandler (some (.Name x np)) (some n) (b₀ :: suite) pos', .ExceptHandler (some (.Name x2 np2)) none (b₂ :: suite2) pos2]) (SP X pins D) X.xe s₃) X.xe s₂) X.xe s₁)
    (fun u s' xx => ?_) PassesOwn.looking).run [] s σ H D (I.toTry _) h) (fun f s1 hsp => ?_) (fun e s1 he => he))
  · obtain ⟨a, B, sI, pins', σ', H', cls, d, rfl, J', nb, up, sky, na, os, ag, b, hb1, hyes, hno⟩ := xx
    have J := J'.ofTry ok
    have sky' : Sky B (X.env :: X.outer) a (L2N.Zn cls d) X.env.locals s'.heap := by rw [← hs]; exact sky
    show wpAny (model X.prog X.w) X.A (noteFrame (.ref a) X.env) _ _ _
    refine L2N.Sky.land L2N.Zn.steady hfr hf sky' fun h3 fl3 up3 => ?_
    have J3 : L2.Inv X pins σ' H' { heap := h3, gens := s'.gens, drawn := s'.drawn, toks := s'.toks, os := s'.os } := J.landed nb fl3.left (Heap.UpToSlots.trans up up3) os ag
    obtain ⟨oe3, vs3, he3, hz3, hd3⟩ := HandSPX.FlyingZ.there fl3
    have nfr : ¬ a ∈ (X.env :: X.outer).filterMap (·.frame) := fun hm => by
      obtain ⟨_, o', e', hnf⟩ := Heap.FunFrames.mem fl3.right.right.left hm
      rw [he3] at e'
      cases e'
      exact hnf vs3 hd3
    have nL : a ≠ X.env.locals := fun z => nfr (List.mem_filterMap.mpr ⟨X.env, List.mem_cons_self, by rw [hf, z]⟩)
    have nF : ¬ a ∈ X.outer.filterMap (·.frame) := fun hm => by
      obtain ⟨e, he, q⟩ := List.mem_filterMap.mp hm
      exact nfr (List.mem_filterMap.mpr ⟨e, List.mem_cons_of_mem X.env he, q⟩)
    have S3 := J3.suite he3 hd3 na nL nF
    have LM := PySem.W.exm_one (M := model X.prog X.w) J3.kIn (fun A Q E s k q => wpAny_typeOf_ref (k a oe3 he3) (by rw [hz3.left]; exact q)) hb1
    refine wpAny_handleBy_cons (codeAny_handlers_test (ld_glob S3 hg hm (PySem.W.Looks.here LM ?_) hdbg)) (fun q => by cases q)
    cases b with
    | true =>
      refine codeAny_handlers_suite_as (HandSPX.lands_againZ fl3 fun h4 fl4 up4 => ?_)
      have J4 : L2.Inv X pins σ' H' { heap := h4, gens := s'.gens, drawn := s'.drawn, toks := s'.toks, os := s'.os } := J.landed nb fl4.left (Heap.UpToSlots.trans (Heap.UpToSlots.trans up up3) up4) os ag
      obtain ⟨oe4, vs4, he4, hz4, hd4⟩ := HandSPX.FlyingZ.there fl4
      have S4 := J4.suite he4 hd4 na nL nF
      refine store_ok (X := X.suite a ((a, oe4) :: (X.pn ++ pins))) S4 hN hi hloc (show RelV (.ref a) (Value.ref a) from rfl) (fun s5 S5 => wpAny_mono ((hsu a oe4 cls d (X.pn ++ pins) hz4 ⟨vs4, hd4⟩).run [] s5 _ H' _ S5 (hyes rfl a na)) (fun f s6 hsp => ?_) (fun _ _ z => z.elim)) (Or.inr hln)
      cases f with
      | next =>
        obtain ⟨σ6, H6, S6, q6⟩ := hsp
        exact gone_ok (S6.unsuite ok) hN hi hln fun s7 J7 => ⟨σ6.set i none, H6, J7, q6⟩
      | brk =>
        obtain ⟨σ6, H6, S6, q6⟩ := hsp
        exact gone_ok (S6.unsuite ok) hN hi hln fun s7 J7 => ⟨σ6.set i none, H6, J7, q6⟩
      | cont =>
        obtain ⟨σ6, H6, S6, q6⟩ := hsp
        exact gone_ok (S6.unsuite ok) hN hi hln fun s7 J7 => ⟨σ6.set i none, H6, J7, q6⟩
      | ret u =>
        obtain ⟨v6, σ6, H6, S6, r6, q6⟩ := hsp
        exact gone_ok (S6.unsuite ok) hN hi hln fun s7 J7 => ⟨v6, σ6.set i none, H6, J7, r6, q6⟩
    | false =>
      obtain ⟨hb2, hy2⟩ := hno rfl
      have LM2 := PySem.W.exm_one (M := model X.prog X.w) J3.kIn (fun A Q E s k q => wpAny_typeOf_ref (k a oe3 he3) (by rw [hz3.left]; exact q)) hb2
      refine wpAny_handleBy_cons (codeAny_handlers_test (ld_glob S3 hg2 hm2 (PySem.W.Looks.here LM2 ?_) hdbg2)) (fun q => by cases q)
      refine codeAny_handlers_suite (HandSPX.lands_againZ fl3 fun h4 fl4 up4 => ?_)
      have J4 : L2.Inv X pins σ' H' { heap := h4, gens := s'.gens, drawn := s'.drawn, toks := s'.toks, os := s'.os } := J.landed nb fl4.left (Heap.UpToSlots.trans (Heap.UpToSlots.trans up up3) up4) os ag
      obtain ⟨oe4, vs4, he4, hz4, hd4⟩ := HandSPX.FlyingZ.there fl4
      have S4 := J4.suite he4 hd4 na nL nF
      refine wpAny_mono ((hsu2 a oe4 cls d (X.pn ++ pins) hz4 ⟨vs4, hd4⟩).run [] _ σ' H' D S4 (hy2 a na)) (fun f s6 hsp => ?_) (fun _ _ z => z.elim)
      cases f with
      | next =>
        obtain ⟨σ6, H6, S6, q6⟩ := hsp
        exact ⟨σ6, H6, S6.unsuite ok, q6⟩
      | brk =>
        obtain ⟨σ6, H6, S6, q6⟩ := hsp
        exact ⟨σ6, H6, S6.unsuite ok, q6⟩
      | cont =>
        obtain ⟨σ6, H6, S6, q6⟩ := hsp
        exact ⟨σ6, H6, S6.unsuite ok, q6⟩
      | ret u =>
        obtain ⟨v6, σ6, H6, S6, r6, q6⟩ := hsp
        exact ⟨v6, σ6, H6, S6.unsuite ok, r6, q6⟩
  · cases f with
    | next =>
      obtain ⟨σ', H', J', q⟩ := hsp
      exact wpAny_execs_nil ⟨σ', H', J'.ofTry ok, q⟩
    | brk =>
      obtain ⟨σ', H', J', q⟩ := hsp
      exact ⟨σ', H', J'.ofTry ok, q⟩
    | cont =>
      obtain ⟨σ', H', J', q⟩ := hsp
      exact ⟨σ', H', J'.ofTry ok, q⟩
    | ret u =>
      obtain ⟨v, σ', H', J', r, q⟩ := hsp
      exact ⟨v, σ', H', J'.ofTry ok, r, q⟩
end Cv

namespace Cv
open PySem PySem.Spec PyProof.Rows L2 RZ
theorem set4 {α : Type} {σ : List α} {j k : Nat} {a b x y : α} : ((((σ.set k b).set j a).set j x).set k y) = (σ.set j x).set k y := by
  apply List.ext_getElem?
  intro i
  simp only [List.getElem?_set, List.length_set]
  by_cases h1 : k = i
  · simp [h1]
  · by_cases h2 : j = i
    · simp [h1, h2]
    · simp [h1, h2]
theorem set6 {α : Type} {σ : List α} {j k : Nat} {a b x y : α} : ((((((σ.set k b).set j a).set j x).set k y).set k b).set j a) = (σ.set k b).set j a := by
  apply List.ext_getElem?
  intro i
  simp only [List.getElem?_set, List.length_set]
  by_cases h1 : k = i
  · simp [h1]
  · by_cases h2 : j = i
    · simp [h1, h2]
    · simp [h1, h2]
theorem wipe2 (σ : L2.St) (j k : Nat) (x y : V) : wipe (((wipe σ [j, k]).set j (some x)).set k (some y)) [j, k] = wipe σ [j, k] := by
  show ((((((σ.set k none).set j none).set j (some x)).set k (some y)).set k none).set j none) = ((σ.set k none).set j none)
  exact set6
section
variable {d : Option Addr} {X : Cx} {B : Hp} {ρ ρ' : Ro d} {a b c e iter elt : Expr} {es : List Expr} {R R' Ra Rb : Rp d} {Rs : List (Rp d)} {pos : Pos} {m n : Int} {st : Stmt} {rest body orelse : List Stmt} {Pre Mid : L2.St → Hp → Prop} {Po : Ends}
/-- [elt for x, y in zip(a, b)], tuples of one length -/
theorem x_lcZ {ds es' : List D} (j k : Nat) {x y : Str} {kk : Nat} {scope : Scope} {tpos p1 p2 p p3 : Pos} (P : Nat → D → Prop) (hg : Gl X "zip") (hm : X.mg "zip" = none) (ha : EX X B ρ a (dat X.K (.t ds))) (hb' : EX X B ρ b (dat X.K (.t es'))) (hlen : ds.length = es'.length) (hn : ds.length < 2000) (hN : X.N.Nodup) (hok : BlkOk X.N X.env.scope scope [(x, j), (y, k)])
    (hgn : ∀ (s : Shared) (H : Hp) (C : Addr) (cl : List (Str × Addr)) (fp : List Addr), PG (X.blk s H scope (compEnvC scope cl C X.env) fp) (.Tuple [.Name x p1, .Name y p2] kk tpos) (gTup X.K 2 (gCons (gName j) (gCons (gName k) gNil))))
    (hb : ∀ (s : Shared) (H : Hp) (C : Addr) (cl : List (Str × Addr)) (fp : List Addr) (i : Nat) (w u : D), ds[i]? = some w → es'[i]? = some u → EX (X.blk s H scope (compEnvC scope cl C X.env) fp) B ((ρ.set j (some (dat X.K w))).set k (some (dat X.K u))) elt (dE X.K (P i)))
    (hc : X.calm = true := by rfl) (he : starEach [a, b] X.env = (false, eval a X.env) :: starEach [b] X.env := by rfl) (he2 : starEach [b] X.env = (false, eval b X.env) :: starEach [] X.env := by rfl) (hpl : (backTo p3 (starEach [b] X.env)).any (·.1) = false := by rfl) (hs : ∀ x, foldedSetIterable (.Call (.Name "zip" p) [a, b] [] p3) X.env x = pure x := by intro _; rfl) :
    EX X B ρ (.ListComp elt [⟨.Tuple [.Name x p1, .Name y p2] kk tpos, .Call (.Name "zip" p) [a, b] [] p3, [], 0⟩] scope pos) (newE B X.K fun fs => fs.length = ds.length ∧ ∀ k w, fs[k]? = some w → P k w) := by
  refine PE_wk (pe_lc (own := [(x, j), (y, k)]) (g := gTup X.K 2 (gCons (gName j) (gCons (gName k) gNil))) (tt := tYes) (te := tElt (Z := Nat × D × D) B X.K (fun z => (ρ.set j (some (dat X.K z.2.1))).set k (some (dat X.K z.2.2))) (fun z => ds[z.1]? = some z.2.1 ∧ es'[z.1]? = some z.2.2) (fun z => P z.1)) hc hN (pi_zipA hg hm (a_cons ha (a_cons hb' a_nil he2) he) he hpl) hok hgn (fun _ _ _ _ _ => pts_nil) (fun s H C cl fp => elt_of fun z hz => hb s H C cl fp z.1 z.2.1 z.2.2 hz.1 hz.2) hs) fun σ H Q ⟨s, q⟩ => ⟨s, fun vs H1 e1 hv => ?_⟩
  obtain ⟨v, v2, rfl, hv', hv2⟩ := hv.two
  obtain ⟨t, us, rfl, h1, h2⟩ := DR.tup hv'
  obtain ⟨t2, us2, rfl, h3, h4⟩ := DR.tup hv2
  have hl : us.length = us2.length := by rw [← h2.1, ← h4.1]; exact hlen
  have s1 := s.mono e1
  refine ⟨t, t2, us, us2, rfl, .inr ⟨h1, h3, fun Dl hD => ?_⟩⟩
  obtain ⟨hB, hDd⟩ := s1.fresh hD
  refine ⟨fun i m H => m = us.length - i ∧ i ≤ us.length ∧ Lc H1 X.K Dl d P i H, ⟨us.length, rfl, Nat.zero_le _, Ext.new hD, [], [], upd_same, DRl.nil, rfl, fun k w h => by cases h⟩, ?_⟩
  rintro i m H' ⟨rfl, hi, L⟩
  by_cases hlt : i < us.length
  · refine .inr ⟨⟨us, us2, us[i], us2[i]'(by omega), L.1.tk.sqT h1, L.1.tk.sqT h3, List.getElem?_eq_getElem hlt, List.getElem?_eq_getElem (by omega)⟩, fun H'' => Lc H1 X.K Dl d P (i + 1) H'', fun H'' p => ⟨us.length - (i + 1), by omega, rfl, hlt, p⟩, fun v H'' yl => ?_⟩
    obtain ⟨T, x', y', rfl, hT, rfl, f1, f2⟩ := yl
    obtain ⟨w, hw, hr⟩ := h2.getV (f1 us (L.1.tk.sqT h1))
    obtain ⟨u, hu, hr2⟩ := h4.getV (f2 us2 (L.1.tk.sqT h3))
    have eT : Ext d H' (upd H' T (.tup [x', y'])) := Ext.new hT
    have kT := L.1.tk.trans eT.tk
    have s2 := (s1.mono L.1).mono eT
    refine ⟨T, [x', y'], rfl, SqT.of upd_same, rfl, x', [y'], rfl, y', [], rfl, rfl, wipe2 _ _ _ _ _, (i, w, u), ⟨hw, hu⟩, ?_, fun y H2 e2 hy => lc_step hD hDd L (eT.trans e2) hy (by rw [h2.1] at hn; omega)⟩
    have e : ((wipe σ [j, k]).set j (some x')).set k (some y') = (σ.set j (some x')).set k (some y') := by
      show ((((σ.set k none).set j none).set j (some x')).set k (some y')) = _
      exact set4
    show St B _ (((wipe σ [j, k]).set j (some x')).set k (some y')) _
    rw [e]
    exact ⟨s2.ext, s2.dr, (s2.good.set j (R := dat X.K w) (hr.tk kT)).set k (R := dat X.K u) (hr2.tk kT)⟩
  · obtain ⟨h0, vs, fs, g1, g2, g3, g4⟩ := L
    exact .inl ⟨⟨us, us2, h0.tk.sqT h1, h0.tk.sqT h3, .inl (by omega)⟩, q _ H' (e1.trans h0) ⟨fs, ⟨by rw [g3, h2.1]; omega, g4⟩, Dl, hB, rfl, hDd, vs, g1, g2⟩⟩
/-- x.extend(a new list), x in slot i -/
theorem bx_extend (i : Nat) {x : Str} {p1 p2 p3 p4 : Pos} {K : PySem.W.Frag} {l : Addr} {ds es' : List D} (hi : ρ[i]? = some (some (own K l ds))) (hK : X.K = K) (he : EX X B ρ e (newL B K es')) (hB : B l = none) (hb : IndBut l i ρ) (hz : ds.length + es'.length ≤ 1000) (h : BX X rest (St B (ρ.set i (some (own K l (ds ++ es'))))) Po)
    (hN : X.N[i]? = some x := by rfl) (hv : Vis X.env.scope x := by first | exact Or.inl rfl | exact Or.inr (Or.inl rfl) | exact Or.inr (Or.inr rfl)) (hd : (x == ("__debug__" : Str)) = false := by decide) (hcd : (x == ("__classdict__" : Str)) = false := by decide)
    (hbase : attributeBase (.Name x p1) "extend" X.env (eval (.Name x p1) X.env) = eval (.Name x p1) X.env := by rfl)
    (hfew : ((backTo p3 (starEach (e :: []) X.env)).all (fun x => !x.1) && (backToKw p3 (keywordEach [] X.env)).all (fun x => x.1.isSome)
      && decide ((e :: []).length + ([] : List Keyword).length + (if ([] : List Keyword).isEmpty then 0 else 1) < 30)) = true := by rfl)
    (hline : (p2.endLine == p3.line) = true := by rfl) (hs : starEach (e :: []) X.env = (false, eval e X.env) :: starEach [] X.env := by rfl) (hplain : (backTo p3 (starEach [] X.env)).any (·.1) = false := by rfl)
    (hsw : swapsWith (.Call (.Attribute (.Name x p1) "extend" p2) [e] [] p3) none p4.line X.env = pure false := by rfl) :
    BX X (.Expr (.Call (.Attribute (.Name x p1) "extend" p2) [e] [] p3) p4 :: rest) (St B ρ) Po := by
  subst hK
  refine bx_cons (Mid := St B (ρ.set i (some (own X.K l (ds ++ es'))))) ?_ h
  refine PS_wk (ps_expr (pe_bm PySem.F.plainAttrs_list PySem.F.slot_list_extend PySem.F.type_list_extend mt_extend (pe_var hN hv hd hcd) (a_cons he a_nil hs) hbase hfew hline hs hplain) hsw) fun E σ H ⟨s, q⟩ => ?_
  obtain ⟨v, h1, rfl, hl, vs, h2, h3⟩ := s.good.get hi
  refine ⟨_, h1, Or.inl ⟨rfl, _, SqL.of h2⟩, s, fun us H1 e1 hus => ?_⟩
  obtain ⟨y, rfl, l2, _, rfl, _, us2, g1, g3⟩ := hus.one
  have s1 := s.mono e1
  have g2 := e1.at h2 hl
  refine ⟨l, l2, vs, us2, rfl, rfl, g2, g1, by rw [← h3.1, ← g3.1]; exact Nat.le_of_lt (small1000 hz), ?_⟩
  exact q.nx σ _ (e1.tk.trans (Tk.lst g2)) (st_own s1 hi hB hb ((h3.tk e1.tk).app g3))
/-- for x, y in xs, its items pairs -/
theorem bx_forL2 {α : Type} {ds : List D} {la : Addr} (j k : Nat) {x y : Str} {kk : Nat} {tpos p1 p2 : Pos} (P : Nat → α → Prop) (r : Nat → α → Ro d) (hi : EX X B ρ iter (lstA X.K la ds)) (h0 : ∀ σ H, St B ρ σ H → IS B (P 0) (r 0) σ H)
    (hl : ∀ i z, P i z → ∃ (k : Nat) (R : Rp d), (r i z)[k]? = some (some R) ∧ ∀ v H, R.p v H → (lstA (d := d) X.K la ds).p v H) (hd : ∀ (i : Nat) w, ds[i]? = some w → ∃ A C, w = .t [A, C])
    (hb : ∀ (i : Nat) A C z, ds[i]? = some (.t [A, C]) → P i z → BX X body (St B (((r i z).set j (some (dat X.K A))).set k (some (dat X.K C)))) (Lp Po (IS B (P (i + 1)) (r (i + 1))) (IS B (P ds.length) (r ds.length)))) (h : BX X rest (IS B (P ds.length) (r ds.length)) Po)
    (hN : X.N.Nodup) (hp : PassesOwn (model X.prog X.w) X.A X.env X.xe) (hj : X.N[j]? = some x := by rfl) (hk : X.N[k]? = some y := by rfl) (hc : X.calm = true := by rfl) (hx : Loc X.env.scope x := by first | exact Or.inl rfl | exact Or.inr rfl) (hy : Loc X.env.scope y := by first | exact Or.inl rfl | exact Or.inr rfl)
    (hf : X.fn x = true ∨ X.env.scope.names.lookup x = some .local := by first | exact .inl rfl | exact .inr rfl | assumption) (hfy : X.fn y = true ∨ X.env.scope.names.lookup y = some .local := by first | exact .inl rfl | exact .inr rfl | assumption) (hs : ∀ x, foldedSetIterable iter X.env x = pure x := by intro _; rfl) :
    BX X (.For (.Tuple [.Name x p1, .Name y p2] kk tpos) iter body [] pos :: rest) (St B ρ) Po := by
  refine bx_cons (Mid := IS B (P ds.length) (r ds.length)) ?_ h
  refine PS_wk (t := tFor (iList X.K fun σ H Q => St B ρ σ H ∧ ∀ v H', Ext d H H' → (lstA X.K la ds).p v H' → Q v H') (gTup X.K 2 (gCons (gName j) (gCons (gName k) gNil))) (tBody (Z := Nat × D × D × α) B (fun z => ((r z.1 z.2.2.2).set j (some (dat X.K z.2.1))).set k (some (dat X.K z.2.2.1))) (fun z => ds[z.1]? = some (.t [z.2.1, z.2.2.1]) ∧ P z.1 z.2.2.2) (fun z => Lp Po (IS B (P (z.1 + 1)) (r (z.1 + 1))) (IS B (P ds.length) (r ds.length)))))
    (ps_for hp hc (pi_list hi) (pg_tup hc (pgs_cons (pg_name hN hj hx hf) (pgs_cons (pg_name hN hk hy hfy) pgs_nil))) ⟨fun pins s σ H E I ⟨⟨i, A, C, z⟩, ⟨hw, hz⟩, q, l⟩ => (hb i A C z hw hz).run pins s σ H E I ⟨q, l⟩⟩ hs) fun E σ H ⟨s, l⟩ => ⟨s, fun v H1 e1 hv => ?_⟩
  obtain ⟨rfl, hld, us, h1, h2⟩ := hv
  refine ⟨la, rfl, ⟨us, h1.sq⟩, ?_⟩
  have key : ∀ i σ H, IS B (P i) (r i) σ H → ∃ vs, SqL X.K H la vs ∧ DRl X.K H ds vs := fun i σ H ⟨z, hz, q⟩ => by
    obtain ⟨k, R, hk, hR⟩ := hl i z hz
    obtain ⟨v, _, g⟩ := q.good.get hk
    obtain ⟨_, _, vs, a1, a2⟩ := hR v H g
    exact ⟨vs, a1.sq, a2⟩
  refine ⟨fun i m σ H => m = ds.length - i ∧ i ≤ ds.length ∧ Tk H1 H ∧ IS B (P i) (r i) σ H, ⟨ds.length, rfl, Nat.zero_le _, Tk.refl _, h0 _ _ (s.mono e1)⟩, ?_⟩
  rintro i m σ H ⟨rfl, hi', k', q⟩
  obtain ⟨vs, a1, a2⟩ := key i σ H q
  by_cases hlt : i < ds.length
  · have hv : i < vs.length := by rw [← a2.1]; exact hlt
    refine .inr ⟨⟨vs, vs[i], a1, List.getElem?_eq_getElem hv⟩, fun σ' H' => Tk H1 H' ∧ IS B (P (i + 1)) (r (i + 1)) σ' H', fun σ' H' p' => ⟨ds.length - (i + 1), by omega, rfl, hlt, p'.1, p'.2⟩, fun x H' y => ?_⟩
    obtain ⟨rfl, y⟩ := y
    obtain ⟨w, hw, hr⟩ := a2.getV (y vs a1)
    obtain ⟨A, C, rfl⟩ := hd i w hw
    obtain ⟨z, hz, q⟩ := q
    obtain ⟨t, ws, rfl, g1, g2⟩ := DR.tup hr
    match ws, g2 with
    | [w1, w2], g2 =>
      refine ⟨t, [w1, w2], rfl, g1, rfl, w1, [w2], rfl, w2, [], rfl, rfl, (i, A, C, z), ⟨hw, hz⟩, ⟨q.ext, q.dr, (q.good.set j (R := dat X.K A) (g2.2 0 A w1 rfl rfl)).set k (R := dat X.K C) (g2.2 1 C w2 rfl rfl)⟩, ?_⟩
      exact ⟨fun σ' H' k2 q' => ⟨k'.trans k2, q'⟩, fun v H' k2 q' => l.rt v H' ((e1.tk.trans k').trans k2) q', fun σ' H' k2 q' => l.nx σ' H' ((e1.tk.trans k').trans k2) q', fun σ' H' k2 q' => ⟨k'.trans k2, q'⟩⟩
    | [], g2 => exact absurd g2.1 (by simp)
    | [_], g2 => exact absurd g2.1 (by simp)
    | _ :: _ :: _ :: _, g2 => exact absurd g2.1 (by simp)
  · have e : i = ds.length := by omega
    subst e
    exact .inl ⟨⟨vs, a1, by rw [← a2.1]; exact Nat.le_refl _⟩, l.nx σ H (e1.tk.trans k') q⟩
/-- for x, (y, z) in enumerate(xs), its items pairs -/
theorem bx_forEL2 {α : Type} {ds : List D} {la : Addr} (j k l0 : Nat) {x y z : Str} {kk k2 : Nat} {tpos tp2 p1 p2 p4 p p3 : Pos} (P : Nat → α → Prop) (r : Nat → α → Ro d) (hg : Gl X "enumerate") (hm : X.mg "enumerate" = none) (ha : EX X B ρ a (lstA X.K la ds)) (h0 : ∀ σ H, St B ρ σ H → IS B (P 0) (r 0) σ H)
    (hl : ∀ i z, P i z → ∃ (k : Nat) (R : Rp d), (r i z)[k]? = some (some R) ∧ ∀ v H, R.p v H → (lstA (d := d) X.K la ds).p v H) (hd : ∀ (i : Nat) w, ds[i]? = some w → ∃ A C, w = .t [A, C])
    (hb : ∀ (i : Nat) A C z, ds[i]? = some (.t [A, C]) → P i z → BX X body (St B ((((r i z).set j (some (rI (i : Int)))).set k (some (dat X.K A))).set l0 (some (dat X.K C)))) (Lp Po (IS B (P (i + 1)) (r (i + 1))) (IS B (P ds.length) (r ds.length)))) (h : BX X rest (IS B (P ds.length) (r ds.length)) Po)
    (hN : X.N.Nodup) (hp : PassesOwn (model X.prog X.w) X.A X.env X.xe) (hj : X.N[j]? = some x := by rfl) (hk : X.N[k]? = some y := by rfl) (hz : X.N[l0]? = some z := by rfl) (hc : X.calm = true := by rfl) (hx : Loc X.env.scope x := by first | exact Or.inl rfl | exact Or.inr rfl) (hy : Loc X.env.scope y := by first | exact Or.inl rfl | exact Or.inr rfl) (hlz : Loc X.env.scope z := by first | exact Or.inl rfl | exact Or.inr rfl)
    (hf : X.fn x = true ∨ X.env.scope.names.lookup x = some .local := by first | exact .inl rfl | exact .inr rfl | assumption) (hfy : X.fn y = true ∨ X.env.scope.names.lookup y = some .local := by first | exact .inl rfl | exact .inr rfl | assumption) (hfz : X.fn z = true ∨ X.env.scope.names.lookup z = some .local := by first | exact .inl rfl | exact .inr rfl | assumption)
    (he : starEach [a] X.env = [(false, eval a X.env)] := by rfl) (hs : ∀ x, foldedSetIterable (.Call (.Name "enumerate" p) [a] [] p3) X.env x = pure x := by intro _; rfl) :
    BX X (.For (.Tuple [.Name x p1, .Tuple [.Name y p2, .Name z p4] k2 tp2] kk tpos) (.Call (.Name "enumerate" p) [a] [] p3) body [] pos :: rest) (St B ρ) Po := by
  refine bx_cons (Mid := IS B (P ds.length) (r ds.length)) ?_ h
  refine PS_wk (t := tFor (iEnum X.K fun σ H Q => St B ρ σ H ∧ ∀ vs H', Ext d H H' → RsH [lstA X.K la ds] vs H' → Q vs H') (gTup X.K 2 (gCons (gName j) (gCons (gTup X.K 2 (gCons (gName k) (gCons (gName l0) gNil))) gNil))) (tBody (Z := Nat × D × D × α) B (fun z => (((r z.1 z.2.2.2).set j (some (rI (z.1 : Int)))).set k (some (dat X.K z.2.1))).set l0 (some (dat X.K z.2.2.1))) (fun z => ds[z.1]? = some (.t [z.2.1, z.2.2.1]) ∧ P z.1 z.2.2.2) (fun z => Lp Po (IS B (P (z.1 + 1)) (r (z.1 + 1))) (IS B (P ds.length) (r ds.length)))))
    (ps_for hp hc (pi_enum hg hm (a_cons ha a_nil he) he) (pg_tup hc (pgs_cons (pg_name hN hj hx hf) (pgs_cons (pg_tup hc (pgs_cons (pg_name hN hk hy hfy) (pgs_cons (pg_name hN hz hlz hfz) pgs_nil))) pgs_nil))) ⟨fun pins s σ H E I ⟨⟨i, A, C, z⟩, ⟨hw, hz⟩, q, l⟩ => (hb i A C z hw hz).run pins s σ H E I ⟨q, l⟩⟩ hs) fun E σ H ⟨s, l⟩ => ⟨s, fun vs H1 e1 hv => ?_⟩
  obtain ⟨v, rfl, hv'⟩ := hv.one
  obtain ⟨rfl, hld, us, h1, h2⟩ := hv'
  have key : ∀ i σ H, IS B (P i) (r i) σ H → ∃ vs, SqL X.K H la vs ∧ DRl X.K H ds vs := fun i σ H ⟨z, hz, q⟩ => by
    obtain ⟨k, R, hk, hR⟩ := hl i z hz
    obtain ⟨v, _, g⟩ := q.good.get hk
    obtain ⟨_, _, vs, a1, a2⟩ := hR v H g
    exact ⟨vs, a1.sq, a2⟩
  refine ⟨la, us, rfl, h1.sq, fun i m σ H => m = ds.length - i ∧ i ≤ ds.length ∧ Tk H1 H ∧ IS B (P i) (r i) σ H, ⟨ds.length, rfl, Nat.zero_le _, Tk.refl _, h0 _ _ (s.mono e1)⟩, ?_⟩
  rintro i m σ H ⟨rfl, hi, kk, q⟩
  obtain ⟨vs, a1, a2⟩ := key i σ H q
  by_cases hlt : i < ds.length
  · have hv : i < vs.length := by rw [← a2.1]; exact hlt
    refine .inr ⟨⟨vs, vs[i], a1, List.getElem?_eq_getElem hv⟩, fun σ' H' => Tk H1 H' ∧ IS B (P (i + 1)) (r (i + 1)) σ' H', fun σ' H' p' => ⟨ds.length - (i + 1), by omega, rfl, hlt, p'.1, p'.2⟩, fun v H' yl => ?_⟩
    obtain ⟨T, x', rfl, hT, rfl, f1⟩ := yl
    obtain ⟨w, hw, hr⟩ := a2.getV (f1 vs a1)
    obtain ⟨A, C, rfl⟩ := hd i w hw
    obtain ⟨z, hz, q⟩ := q
    have eT : Ext d H (upd H T (.tup [.int (i : Nat), x'])) := Ext.new hT
    have kT := kk.trans eT.tk
    obtain ⟨t, ws, rfl, g1, g2⟩ := DR.tup (hr.tk eT.tk)
    match ws, g2 with
    | [w1, w2], g2 =>
      refine ⟨T, [.int (i : Nat), .ref t], rfl, SqT.of upd_same, rfl, .int (i : Nat), [.ref t], rfl, .ref t, [], rfl, ⟨t, [w1, w2], rfl, g1, rfl, w1, [w2], rfl, w2, [], rfl, rfl, rfl, (i, A, C, z), ⟨hw, hz⟩, ⟨(q.mono eT).ext, (q.mono eT).dr, (((q.mono eT).good.set j (R := rI (i : Int)) rfl).set k (R := dat X.K A) (g2.2 0 A w1 rfl rfl)).set l0 (R := dat X.K C) (g2.2 1 C w2 rfl rfl)⟩, ?_⟩⟩
      exact ⟨fun σ' H' k' q' => ⟨kT.trans k', q'⟩, fun v H' k' q' => l.rt v H' ((e1.tk.trans kT).trans k') q', fun σ' H' k' q' => l.nx σ' H' ((e1.tk.trans kT).trans k') q', fun σ' H' k' q' => ⟨kT.trans k', q'⟩⟩
    | [], g2 => exact absurd g2.1 (by simp)
    | [_], g2 => exact absurd g2.1 (by simp)
    | _ :: _ :: _ :: _, g2 => exact absurd g2.1 (by simp)
  · have e' : i = ds.length := by omega
    subst e'
    exact .inl ⟨⟨vs, a1, by rw [← a2.1]; exact Nat.le_refl _⟩, l.nx σ H (e1.tk.trans kk) q⟩
end
end Cv

set_option maxHeartbeats 4000000
namespace PySem
namespace LowX
open PySem.W PySem.Calls PyProof.Rows PySem.HandSPX
/-! ### the text of __init__ -/
def iA (p1 p2 : Pos) : Arguments := { posonlyargs := [], args := [{ arg := "self", annotation := none, pos := p1 }, { arg := "position", annotation := none, pos := p2 }], vararg := none, kwonlyargs := [], kw_defaults := [], kwarg := none, defaults := [] }
def iB (q1 q2 q3 q4 : Pos) : List Stmt := [.Assign [.Attribute (.Name "self" q1) "position" q2] (.Name "position" q3) q4]
def iS : Scope := { kind := .function, names := [(PySem.Str.ofString "self", .local), (PySem.Str.ofString "position", .local)], isGenerator := false, isCoroutine := false, more := [] }
/-- what the written part says of Low, at C, and of its __init__, at fI -/
structure LowTxt (K : Frag) (mg : Str → Option Value) (C fI : Addr) : Prop where
  gC : mg "NotEnabled" = some (.ref C)
  cls : ∃ nm q N bs bm sn sub ab col dd k0 k1 k2 k3 k5, K.lookup C = some (excClassObj nm q C N bs bm true sn sub ab col dd k0 k1 k2 k3 k5 "ValueError.__new__") ∧ refsVE bm = true
  sa : findIn K (.ref C) "__setattr__" = some (some (.builtin "object.__setattr__"))
  ga : findIn K (.ref C) "__getattribute__" = some (some (.builtin "BaseException.__getattribute__"))
  gg : findIn K (.ref C) "__getattr__" = some none
  noN : findIn K (.ref C) "position" = some none
  iC : findIn K (.ref C) "__init__" = some (some (.ref fI))
  tC : typeIn K (.ref fI) = some (.type "function")
  kC : keepIn K (.ref C) = true
  exC : subIn K (.ref C) (.type "BaseException") = some true
  tyC : typeIn K (.ref C) = some (.type "type")
  hdC : hasDictIn K C = true
  te : exmOne K (.ref C) (.ref C) = some true
  fn : ∃ (oc : Value) (od : Option Addr) (doc pm : Value) (an : Option Addr) (cdv ct : Value) (osl : Array (Option Value)) (p1 p2 q1 q2 q3 q4 : Pos),
    K.lookup fI = some ⟨oc, od, .func (fnOf "__init__" "NotEnabled.__init__" (iA p1 p2) (iB q1 q2 q3 q4) iS .none .none doc pm an cdv ct), osl⟩ ∧ codeIn K cdv "NotEnabled.__init__" = true
theorem one_size (v : Value) : [v].length ≤ sizeLine := by
  rw [sizeLine_eq]
  exact (by decide : 1 ≤ 16777216)
theorem kept_but {K : Frag} {h h' : Heap} {x : Addr} (X : K.In h) (hx : K.lookup x = none) (k : ∀ b o, b ≠ x → h.get? b = some o → h'.get? b = some o) : K.In h' := fun a o e =>
  k a o (fun z => by rw [z, hx] at e; cases e) (X a o e)
theorem ldC {M : Model} {s : Shared} {name : Str} {scope : Scope} {L a : Addr} {cd : Value} {m : Str → Option Value} {x : Str} {pos : Pos} {v : Value} {Q : Value → Shared → Prop} {A : Around} {E : Value → Shared → Prop} (hn : s.heap.Ns L m) (hv : m x = some v) (h : Q v s)
    (hk : scope.kind = .function := by rfl) (hl : (envOfC name scope L a cd).kindOf x = some .local := by rfl) (hd : (x == ("__debug__" : Str)) = false := by decide) :
    wpAny M A (eval (.Name x pos) (envOfC name scope L a cd)) Q E s := wpAny_Name (wpAny_loadName_local hk hl hn hv h) hd
/-- what __init__ leaves of a fresh exception at x -/
structure InitEnd (h h' : Heap) (x C dx t1 : Addr) (v : Value) : Prop where
  keep : ∀ b o, b ≠ x → h.get? b = some o → h'.get? b = some o
  obj : h'.get? x = some { cls := .ref C, dict := some dx, data := .fields #[.ref t1, .none, .none, .none, .bool false, .none] }
  dbig : h.objs.size ≤ dx
  dne : dx ≠ x
  ns : h'.Ns1 dx (fun y => if y = "position" then some v else none)
/-- a made Low -/
structure OwnMade (h h' : Heap) (e C d : Addr) (v : Value) : Prop where
  keep : ∀ b o, h.get? b = some o → h'.get? b = some o
  new : h.objs.size ≤ e
  obj : ∃ oe vs, h'.get? e = some oe ∧ oe.cls = .ref C ∧ oe.dict = some d ∧ oe.data = .fields vs ∧ vs[1]? = some .none ∧ vs[2]? = some .none
  dbig : h.objs.size ≤ d
  dne : d ≠ e
  ns : h'.Ns1 d (fun y => if y = "position" then some v else none)
section
variable {prog : Program} {w : World} {A : Around} {E : Value → Shared → Prop} {R : Result → Shared → Prop} {s : Shared} {K : Frag} {mg : Str → Option Value} {C fI : Addr}
theorem low_init (T : LowTxt K mg C fI) {x t0 : Addr} {v : Value} (X : K.In s.heap) (hlim : s.heap.NoLimit) (hx : s.heap.get? x = some (excO C t0)) (hnx : K.lookup x = none) (hroom : A.depth < recursionLimit)
    (hq : ∀ h' tk dx, InitEnd s.heap h' x C dx t0 v → R (.ok (.ret .none)) { s with heap := h', toks := tk }) :
    codeAny (model prog w) A (.call (.ref fI) ⟨[.ref x, v], []⟩) R s := by
  obtain ⟨oc, od, doc, pm, an, cdv, ct, osl, p1, p2, q1, q2, q3, q4, ho, hcd⟩ := T.fn
  obtain ⟨nm, q, N, bs, bm, sn, sub, ab, col, dd, k0, k1, k2, k3, k5, hC, hbm⟩ := T.cls
  have hcl : clsIn K C = some { name := nm, bases := bs, mro := .ref C :: bm, ns := N, qualname := q, hasDict := true, slotNames := sn, subclasses := sub, abstract := ab, collection := col, hasDel := false } := by unfold clsIn; rw [hC] <;> rfl
  refine Att.call_fn (binds := [("self", .ref x), ("position", v)]) X hlim ho hcd hroom (BindsTo.of_eq (by first | rfl | with_unfolding_all rfl)) (by first | rfl | decide | with_unfolding_all rfl) (fun s₁ IC => ?_) rfl rfl rfl
  obtain ⟨h₁, tk₁, rfl⟩ := IC.toInCall.same
  have k : ∀ b o, s.heap.get? b = some o → h₁.get? b = some o := IC.toInCall.keep
  have hn := IC.toInCall.ns
  have hxL : s.heap.objs.size ≠ x := Nat.ne_of_gt (Heap.lt_size hx)
  have X₁ : K.In h₁ := X.keeps k
  have hx₁ := k _ _ hx
  -- self.by = by
  show wpAny _ _ (execs _ _) _ _ _
  refine wpAny_execs_cons (plainObj_wpAny_Assign_Attribute ?_)
  refine ldC (v := v) hn (by first | rfl | with_unfolding_all rfl | kernel_rfl) (ldC (v := .ref x) hn (by first | rfl | with_unfolding_all rfl | kernel_rfl) ?_)
  refine set_plain X₁ (ox := excO C t0) (od := none) ⟨hx₁, rfl, rfl, trivial⟩ T.sa ?_
  refine exc_osa X₁ hx₁ hcl (show refsVE (.ref C :: bm) = true from hbm) rfl T.noN (fun h₃ tk₃ dx k₃ dn dne hx₃ hn₃ => ?_)
  show wpAny _ _ (execs _ _) _ _ _
  have z : s.heap.objs.size < h₁.objs.size := hn.lt
  exact wpAny_execs_nil (hq h₃ tk₃ dx ⟨fun b o hb e => k₃ b o hb (k b o e), hx₃, Nat.le_of_lt (Nat.lt_of_lt_of_le z dn), dne, hn₃⟩)
theorem low_made (T : LowTxt K mg C fI) {v : Value} (X : K.In s.heap) (hlim : s.heap.NoLimit) (hroom : A.depth + 1 < recursionLimit)
    (hq : ∀ h' tk e d, OwnMade s.heap h' e C d v → R (.ok (.ret (.ref e))) { s with heap := h', toks := tk }) :
    codeAny (model prog w) A (.call (.ref C) ⟨[v], []⟩) R s := by
  obtain ⟨nm, q, N, bs, bm, sn, sub, ab, col, dd, k0, k1, k2, k3, k5, hC, hbm⟩ := T.cls
  obtain ⟨hp, g, dr, tk, os⟩ := s
  have k : ∀ b o, hp.get? b = some o → ((hp.push (kdv_tup [v])).push (excO C hp.objs.size)).get? b = some o := fun b o e => Heap.get?_push_of_some _ (Heap.get?_push_of_some _ e)
  have hget : ((hp.push (kdv_tup [v])).push (excO C hp.objs.size)).get? (hp.objs.size + 1) = some (excO C hp.objs.size) := by heap_get
  have hnx : K.lookup (hp.objs.size + 1) = none := by
    cases e : K.lookup (hp.objs.size + 1) with
    | none => rfl
    | some o =>
      have z : hp.get? (hp.objs.size + 1) = some o := X _ _ e
      exact absurd (Nat.lt_of_succ_lt (Heap.lt_size z)) (Nat.lt_irrefl _)
  refine call_own F.excBase_ValueError (fun X => refsVE_contains X bm hbm) (X _ _ hC) (looks_findIn X T.iC) (fun self => bind_fn X self T.tC) (one_size v) ?_
  refine low_init (s := ⟨(hp.push (kdv_tup [v])).push (excO C hp.objs.size), g, dr, tk, os⟩) T (X.keeps k) (hlim.keeps k) hget hnx ?_ fun h' tk' dx ⟨k', hx, dn, dne, hns⟩ => ?_
  · show A.depth + 1 < recursionLimit
    exact hroom
  · have old : ∀ b o, hp.get? b = some o → h'.get? b = some o := fun b o e => k' b o (Nat.ne_of_lt (Nat.lt_succ_of_lt (Heap.lt_size e))) (k b o e)
    have z : hp.objs.size + 1 + 1 ≤ dx := by
      first
        | (simpa only [Heap.size_push] using dn)
        | exact dn
        | (have q := dn; rw [Heap.size_push, Heap.size_push] at q; exact q)
    exact ⟨rfl, hq h' tk' (hp.objs.size + 1) dx ⟨old, Nat.le_succ _, ⟨_, _, hx, rfl, rfl, rfl, rfl, rfl⟩, Nat.le_trans (Nat.le_trans (Nat.le_succ _) (Nat.le_succ _)) z, dne, hns⟩⟩
end
end LowX
end PySem
namespace L2
open PySem PySem.Spec PyProof.Rows
theorem relO_low {v : V} {v' : Value} (r : RelV v v') (f : Str) : RelO (List.lookup f [(("position" : Str), v)]) (if f = "position" then some v' else none) := by
  by_cases hw : f = "position"
  · subst hw
    rw [if_pos rfl]
    have q : List.lookup ("position" : Str) [(("position" : Str), v)] = some v := by simp [List.lookup]
    rw [q]
    exact r
  · rw [if_neg hw]
    have qw : (f == ("position" : Str)) = false := by simpa using hw
    have q2 : List.lookup f [(("position" : Str), v)] = none := by simp [List.lookup, qw]
    rw [q2]
    trivial
section
variable {X : Cx} {C fI : Addr}
/-- Low(e) -/
def tMkLow (C : Addr) (ta : TA) : St → Hp → XK → Prop := fun σ H Q => ta σ H fun vs H1 => ∃ v, vs = [v] ∧ ∀ d, H1 d = none → Q (.ref C) (some d) (upd H1 d (.xd [(("position" : Str), v)]))
theorem pmk_low {a : Expr} {ta : TA} {p pos : Pos} {k : Nat} (T : PySem.LowX.LowTxt X.K X.mg C fI) (hr : Room k X.A) (ha : PA X [a] ta) (hg : Gl X "NotEnabled" := by rfl)
    (he : starEach (a :: []) X.env = (false, eval a X.env) :: starEach [] X.env := by rfl) (hpl : (backTo pos (starEach [] X.env)).any (·.1) = false := by rfl) :
    L2N.PMk X (.Call (.Name "NotEnabled" p) [a] [] pos) (tMkLow C ta) := by
  intro pins s σ H Q I h
  refine wpAny_Call_Name_kw (ld_glob I hg T.gC ?_)
  refine PySem.W.callWith_K (h₀ := X.base) I.ok.mod.kin T.kC (thn (ha.run pos pins s σ H _ I h) fun us s1 hh => ?_) he hpl
  obtain ⟨vs, H1, I1, r1, v, ev, q1⟩ := hh
  subst ev
  refine ⟨I1.kIn, ?_⟩
  cases r1 with
  | cons rv rn =>
    rename_i v' us'
    cases rn
    show wpAny _ _ (call (.ref C) [v']) _ _ _
    have hlim := I1.nolimit
    obtain ⟨hp, g, dr, tk, os⟩ := s1
    refine wpAny_call (PySem.LowX.low_made T I1.kIn hlim (by have := hr.dp; omega) fun h' tk' e d M => ?_)
    show L2N.MkP X pins σ Q (.ref e) ⟨h', g, dr, tk', os⟩
    obtain ⟨oe, fv, hoe, hc, hd, hdat, h1, h2⟩ := M.obj
    have hns := M.ns
    obtain ⟨G', g1, g2⟩ := restrict h' fun b => decide (b ≠ e)
    have gk : ∀ b, b ≠ e → G'.get? b = h'.get? b := fun b hb => g1 b (decide_eq_true hb)
    have ge : G'.get? e = none := g2 e (by simp)
    have old : ∀ b o, hp.get? b = some o → G'.get? b = some o := fun b o q => (gk b (Nat.ne_of_lt (Nat.lt_of_lt_of_le (Heap.lt_size q) M.new))).trans (M.keep b o q)
    have ob : ObjOk X.prog X.w (upd H1 d (.xd [(("position" : Str), v)])) G' d (.xd [(("position" : Str), v)]) :=
      ⟨_, hns.at (fun o q => (gk d M.dne).trans q), fun f => relO_low rv f⟩
    have J : Inv X pins σ (upd H1 d (.xd [(("position" : Str), v)])) ⟨G', g, dr, tk', os⟩ := I1.laid (t' := tk') old M.dbig ob
    refine ⟨e, oe, fv, ⟨G', g, dr, tk', os⟩, _, .ref C, some d, rfl, J, fun b o q => ?_, ge, hoe, ⟨hc, hd, fun vs e => by rw [hdat] at e; cases e; exact h2⟩, hdat, h1, ?_, rfl, I1.bare, raises_own T.exC T.tyC, q1 d (I1.hok.fresh M.dbig)⟩
    · by_cases hb : b = e
      · have q' : G'.get? b = some o := q
        rw [hb, ge] at q'; cases q'
      · exact (gk b hb).symm.trans q
    · rw [upd_ne (Ne.symm M.dne)]
      exact I1.hok.fresh M.new
/-- raise Low(e) -/
def tRaiseLow (C : Addr) (W : WX) (ta : TA) : TS := fun _ σ H => tMkLow C ta σ H fun cls d H' => W cls d σ H'
theorem ps_raiseLow {a : Expr} {ta : TA} {W : WX} {p pos pos2 : Pos} {k : Nat} (hc : X.calm = true) (T : PySem.LowX.LowTxt X.K X.mg C fI) (hr : Room k X.A) (tk : L2N.Takes X W) (ha : PA X [a] ta) (hg : Gl X "NotEnabled" := by rfl)
    (he : starEach (a :: []) X.env = (false, eval a X.env) :: starEach [] X.env := by rfl) (hpl : (backTo pos (starEach [] X.env)).any (·.1) = false := by rfl) :
    PS X (.Raise (some (.Call (.Name "NotEnabled" p) [a] [] pos)) none pos2) (tRaiseLow C W ta)   := L2N.ps_raise hc tk (pmk_low T hr ha hg he hpl)
/-- low.by, low the exception that the suite holds (at a; its class cls, its dict d) -/
def tByLow (C : Addr) (a : Addr) (cls : Value) (d : Option Addr) (te : TE) : TE := fun σ H Q => te σ H fun x H1 => x = .ref a ∧ cls = .ref C ∧ ∃ (dd : Addr) (v : V), d = some dd ∧ H1 dd = some (.xd [(("position" : Str), v)]) ∧ Q v H1
theorem pe_byLow {a : Addr} {oe : Obj} {cls : Value} {d : Option Addr} {pn : List (Addr × Obj)} {e : Expr} {te : TE} {pos : Pos} (T : PySem.LowX.LowTxt X.K X.mg C fI) (hz : L2N.Zn cls d oe) (hf : ∃ vs, oe.data = .fields vs) (he : PE (X.suite a ((a, oe) :: pn)) e te)
    (hb : attributeBase e "position" X.env (eval e X.env) = eval e X.env := by rfl) :
    PE (X.suite a ((a, oe) :: pn)) (.Attribute e "position" pos) (tByLow C a cls d te) := by
  refine ⟨fun pins s σ H Q I h => ?_⟩
  refine attr_of hb (thn (he.run pins s σ H _ I h) fun u s1 hh => ?_)
  obtain ⟨x, H1, I1, rx, ex, ec, dd, v, ed, ea, q⟩ := hh
  subst ex
  obtain rfl : u = Value.ref a := rx
  subst ec
  subst ed
  obtain ⟨ha, _⟩ := I1.pin (a, oe) (List.mem_append_left _ List.mem_cons_self)
  obtain ⟨vs, hd⟩ := hf
  have hx : ObjOk X.prog X.w H1 s1.heap dd (.xd [(("position" : Str), v)]) := I1.hok dd _ ea
  obtain ⟨mA, hns, hr⟩ := hx
  obtain ⟨od, ho, hl⟩ := lookIn_ns hns
  have l : List.lookup ("position" : Str) [(("position" : Str), v)] = some v := by simp [List.lookup]
  obtain ⟨u, hu, ru⟩ := RelO.some_of (v := v) (o := mA "position") (by rw [← l]; exact hr "position")
  have J : PySem.W.InstAt s1.heap a oe C (some od) := ⟨ha, hz.1, by unfold PySem.W.notCls; rw [hd] <;> rfl, by rw [hz.2.1]; exact ho⟩
  exact HandSPX.exc_get I1.kIn J T.ga T.gg T.exC (PySem.W.findObj_own T.hdC T.noN rfl (by rw [hl, hu])) (handed_of ru) ⟨v, H1, I1.tok _, ru, q⟩
end
end L2


set_option maxHeartbeats 8000000
namespace Cv
open PySem PySem.Spec PyProof.Rows L2 RZ
def topS (i : Nat) : Stmt := PySem.Challenge.pw_covernets_k19_limit_firing.main.body.getD i (.Pass ⟨0, 0, 0, 0⟩)
abbrev s_Net_init : Stmt := inClass (topS 17) 0
theorem sc_Net_init : FnScope ["self", "places", "transitions", "transition"] ["self", "places", "transitions"] (defScope s_Net_init) := ⟨rfl, rfl, rfl, by decide +kernel, rfl, by decide +kernel, by decide +kernel⟩
abbrev s_checked : Stmt := topS 18
theorem sc_checked : FnScope ["transition", "places", "takes", "gives", "moves"] ["transition", "places"] (defScope s_checked) := ⟨rfl, rfl, rfl, by decide +kernel, rfl, by decide +kernel, by decide +kernel⟩
abbrev s_numbers : Stmt := topS 19
theorem sc_numbers : FnScope ["row", "places", "least", "most", "number"] ["row", "places", "least", "most"] (defScope s_numbers) := ⟨rfl, rfl, rfl, by decide +kernel, rfl, by decide +kernel, by decide +kernel⟩
abbrev s_is_plain : Stmt := topS 20
theorem sc_is_plain : FnScope ["net"] ["net"] (defScope s_is_plain) := ⟨rfl, rfl, rfl, by decide +kernel, rfl, by decide +kernel, by decide +kernel⟩
abbrev s_runs_plainly : Stmt := topS 21
theorem sc_runs_plainly : FnScope ["net", "run", "staying", "index"] ["net", "run"] (defScope s_runs_plainly) := ⟨rfl, rfl, rfl, by decide +kernel, rfl, by decide +kernel, by decide +kernel⟩
abbrev s_check_plain : Stmt := topS 22
theorem sc_check_plain : FnScope ["net"] ["net"] (defScope s_check_plain) := ⟨rfl, rfl, rfl, by decide +kernel, rfl, by decide +kernel, by decide +kernel⟩
abbrev s_fire_limit : Stmt := topS 56
theorem sc_fire_limit : FnScope ["net", "index", "limit"] ["net", "index", "limit"] (defScope s_fire_limit) := ⟨rfl, rfl, rfl, by decide +kernel, rfl, by decide +kernel, by decide +kernel⟩
abbrev s_limit_after : Stmt := topS 57
theorem sc_limit_after : FnScope ["transition", "limit", "takes", "gives", "_", "result", "number", "taken", "given"] ["transition", "limit"] (defScope s_limit_after) := ⟨rfl, rfl, rfl, by decide +kernel, rfl, by decide +kernel, by decide +kernel⟩
abbrev s_limit_set : Stmt := topS 58
theorem sc_limit_set : FnScope ["net", "limit"] ["net", "limit"] (defScope s_limit_set) := ⟨rfl, rfl, rfl, by decide +kernel, rfl, by decide +kernel, by decide +kernel⟩
abbrev s_judge_limits : Stmt := topS 60
theorem sc_judge_limits : FnScope ["net", "limit", "limits", "other", "transition", "result"] ["net", "limit", "limits"] (defScope s_judge_limits) := ⟨rfl, rfl, rfl, by decide +kernel, rfl, by decide +kernel, by decide +kernel⟩
abbrev s_bounds : Stmt := topS 61
theorem sc_bounds : FnScope ["net", "limit", "places", "place", "known", "limits", "other"] ["net", "limit"] (defScope s_bounds) := ⟨rfl, rfl, rfl, by decide +kernel, rfl, by decide +kernel, by decide +kernel⟩
abbrev s_growth : Stmt := topS 65
theorem sc_growth : FnScope ["net", "limit", "goal", "number", "most", "wanted", "possible", "parts", "node"] ["net", "limit", "goal", "number"] (defScope s_growth) := ⟨rfl, rfl, rfl, by decide +kernel, rfl, by decide +kernel, by decide +kernel⟩
abbrev s_longest_reach : Stmt := topS 66
theorem sc_longest_reach : FnScope ["net", "limit", "place", "number", "goal"] ["net", "limit", "place", "number"] (defScope s_longest_reach) := ⟨rfl, rfl, rfl, by decide +kernel, rfl, by decide +kernel, by decide +kernel⟩
abbrev s_law_draws : Stmt := topS 73
theorem sc_law_draws : FnScope ["script", "count", "cells", "found", "mixed", "k", "j", "cell", "again"] ["script", "count"] (defScope s_law_draws) := ⟨rfl, rfl, rfl, by decide +kernel, rfl, by decide +kernel, by decide +kernel⟩
abbrev s_law_take : Stmt := topS 74
theorem sc_law_take : FnScope ["draws", "limit"] ["draws", "limit"] (defScope s_law_take) := ⟨rfl, rfl, rfl, by decide +kernel, rfl, by decide +kernel, by decide +kernel⟩
abbrev s_law_is_integer : Stmt := topS 75
theorem sc_law_is_integer : FnScope ["actual"] ["actual"] (defScope s_law_is_integer) := ⟨rfl, rfl, rfl, by decide +kernel, rfl, by decide +kernel, by decide +kernel⟩
abbrev s_law_numbers : Stmt := topS 76
theorem sc_law_numbers : FnScope ["actual", "size", "low", "item"] ["actual", "size", "low"] (defScope s_law_numbers) := ⟨rfl, rfl, rfl, by decide +kernel, rfl, by decide +kernel, by decide +kernel⟩
abbrev s_law_covers : Stmt := topS 77
theorem sc_law_covers : FnScope ["first", "second", "k"] ["first", "second"] (defScope s_law_covers) := ⟨rfl, rfl, rfl, by decide +kernel, rfl, by decide +kernel, by decide +kernel⟩
abbrev s_law_limit : Stmt := topS 78
theorem sc_law_limit : FnScope ["draws", "size", "most", "k"] ["draws", "size", "most"] (defScope s_law_limit) := ⟨rfl, rfl, rfl, by decide +kernel, rfl, by decide +kernel, by decide +kernel⟩
abbrev s_law_admits : Stmt := topS 79
theorem sc_law_admits : FnScope ["limit", "marking", "k"] ["limit", "marking"] (defScope s_law_admits) := ⟨rfl, rfl, rfl, by decide +kernel, rfl, by decide +kernel, by decide +kernel⟩
abbrev s_law_transition : Stmt := topS 80
theorem sc_law_transition : FnScope ["draws", "places", "plain", "takes", "gives", "k", "moves"] ["draws", "places", "plain"] (defScope s_law_transition) := ⟨rfl, rfl, rfl, by decide +kernel, rfl, by decide +kernel, by decide +kernel⟩
abbrev s_law_net : Stmt := topS 81
theorem sc_law_net : FnScope ["draws", "places", "most", "plain", "k"] ["draws", "places", "most", "plain"] (defScope s_law_net) := ⟨rfl, rfl, rfl, by decide +kernel, rfl, by decide +kernel, by decide +kernel⟩
abbrev s_law_is_plain : Stmt := topS 82
theorem sc_law_is_plain : FnScope ["transitions", "transition"] ["transitions"] (defScope s_law_is_plain) := ⟨rfl, rfl, rfl, by decide +kernel, rfl, by decide +kernel, by decide +kernel⟩
abbrev s_law_change : Stmt := topS 83
theorem sc_law_change : FnScope ["transition", "k"] ["transition"] (defScope s_law_change) := ⟨rfl, rfl, rfl, by decide +kernel, rfl, by decide +kernel, by decide +kernel⟩
abbrev s_law_fire : Stmt := topS 84
theorem sc_law_fire : FnScope ["transition", "marking", "takes", "gives", "moves", "found", "k", "target"] ["transition", "marking"] (defScope s_law_fire) := ⟨rfl, rfl, rfl, by decide +kernel, rfl, by decide +kernel, by decide +kernel⟩
abbrev s_law_fire_limit : Stmt := topS 85
theorem sc_law_fire_limit : FnScope ["transition", "limit", "change", "found", "k"] ["transition", "limit"] (defScope s_law_fire_limit) := ⟨rfl, rfl, rfl, by decide +kernel, rfl, by decide +kernel, by decide +kernel⟩
abbrev s_law_admitted_marking : Stmt := topS 86
theorem sc_law_admitted_marking : FnScope ["draws", "limit", "found", "number"] ["draws", "limit"] (defScope s_law_admitted_marking) := ⟨rfl, rfl, rfl, by decide +kernel, rfl, by decide +kernel, by decide +kernel⟩
abbrev s_law_refusals : Stmt := topS 87
theorem sc_law_refusals : FnScope ["net", "limit", "count"] ["net", "limit"] (defScope s_law_refusals) := ⟨rfl, rfl, rfl, by decide +kernel, rfl, by decide +kernel, by decide +kernel⟩
abbrev s_law : Stmt := topS 88
theorem sc_law : FnScope ["script", "draws", "places", "transitions", "net", "limit", "marking", "index", "expected", "found", "after"] ["script"] (defScope s_law) := ⟨rfl, rfl, rfl, by decide +kernel, rfl, by decide +kernel, by decide +kernel⟩

theorem getI {ns : List Int} {i : Nat} {w : D} (h : (ns.map D.i)[i]? = some w) : ∃ n, ns[i]? = some n ∧ w = .i n := by
  rw [List.getElem?_map] at h
  cases q : ns[i]? with
  | none => rw [q] at h; cases h
  | some n => rw [q] at h; cases h; exact ⟨n, rfl, rfl⟩
section
variable {d : Option Addr} {P : Program} {w : World} {K : PySem.W.Frag} {mg : Str → Option Value} {base : Heap}
theorem ok_take {f : Addr} {fd : FuncData} (F : Fun K "_law_take" "_law_take" s_law_take f fd) (ml : mg "len" = none) (mi : mg "int" = none) : FnOk P w K mg base CX0 1 f fd ["draws", "limit"] spTake := by
  refine F.ok sc_law_take (fun vs H Q E h => ?_) (fun cdv A outer s H vs Q E hr h => ?_)
  · obtain ⟨a, ns, n, rfl, _⟩ := h
    rfl
  · obtain ⟨a, ns, n, rfl, ha, hl, h0, k⟩ := h
    refine ⟨_, pss_cons (ps_if (pt_cmpR op_eq (pe_callB call_len_seq (by rfl) ml PySem.boot_len (pa_cons (pv 0) pa_nil)) pe_int (nomark _)) (pss_one (ps_ret pe_int)) pss_nil)
      (pss_one (ps_ret (pe_op op_mod (pe_callTy call_int1 (by rfl) mi (by decide +kernel) (pa_cons (pe_bm0 PySem.F.plainAttrs_list PySem.F.slot_list_pop PySem.F.type_list_pop mt_pop (pv 0)) pa_nil)) (pv 1)))), ?_⟩
    refine ⟨.ref a, rfl, a, ns.map V.int, rfl, .inl (SqL.of ha), rfl, _, rfl, ite2 (fun e => ?_) (fun e => ?_)⟩
    · exact k 0 ns H (Int.le_refl _) h0 ha hl fun b o _ hb => hb
    · have hne : ns ≠ [] := fun z => by subst z; exact e (decide_eq_true rfl)
      obtain ⟨ms, z, rfl⟩ : ∃ ms z, ns = ms ++ [z] := ⟨ns.dropLast, ns.getLast hne, (List.dropLast_concat_getLast hne).symm⟩
      rw [List.map_append] at ha
      refine ⟨_, rfl, .inl ⟨rfl, _, SqL.of ha⟩, a, _, .int z, rfl, rfl, ha, by simp, .inl ⟨z, rfl, ?_⟩⟩
      refine ⟨_, rfl, z, n, rfl, rfl, h0, k (z % n) ms _ (Int.emod_nonneg _ (by omega)) (Int.emod_lt_of_pos _ h0) ?_ (by simp at hl; omega) fun b o hb hbo => by rw [upd_ne hb]; exact hbo⟩
      rw [upd_same]
      congr 2
      exact List.dropLast_concat
theorem ok_is_integer {f : Addr} {fd : FuncData} (F : Fun K "_law_is_integer" "_law_is_integer" s_law_is_integer f fd) (mi : mg "isinstance" = none) (m2 : mg "int" = none) (m3 : mg "bool" = none) : FnOk P w K mg base CX0 1 f fd ["actual"] (spP d (fun (z : Int) => [dat K (.i z)]) (fun _ _ => rB true)) := by
  refine fn_ok F sc_law_is_integer (fun _ => rfl) (by decide) fun z H cdv A outer s E hr => ?_
  refine bx_retR (x_bIs (x_and (x_B (x_isi "int" "int" true rfl mi rfl m2 (by decide +kernel) rfl (by decide +kernel) (x_var 0 rfl))) fun _ => x_one (x_not (x_B (x_isi "bool" "int" false rfl mi rfl m3 (by decide +kernel) rfl (by decide +kernel) (x_var 0 rfl))))) fun q hq => ?_) rfl
  rcases hq with ⟨_, h⟩ | ⟨h, _⟩
  · cases q with
    | true => rfl
    | false => cases h
  · cases h
theorem ok_numbers {f fi : Addr} {fd fdi : FuncData} (F : Fun K "_law_numbers" "_law_numbers" s_law_numbers f fd) (FI : Fun K "_law_is_integer" "_law_is_integer" s_law_is_integer fi fdi) (bI : Binds K fdi ["actual"] []) (gI : mg "_law_is_integer" = some (.ref fi))
    (ml : mg "len" = none) (mt : mg "tuple" = none) (mi : mg "isinstance" = none) (m2 : mg "int" = none) (m3 : mg "bool" = none) : FnOk P w K mg base CX0 2 f fd ["actual", "size", "low"] (spP d (fun (z : {z : List Int × Int // ∀ x ∈ z.1, z.2 ≤ x}) => [dat K (tI z.1.1), rI (z.1.1.length : Int), rI z.1.2]) (fun _ _ => rB true)) := by
  have GI : FnOk P w K mg base CX0 1 fi fdi ["actual"] (spP d (fun (z : Int) => [dat K (.i z)]) (fun _ _ => rB true)) := ok_is_integer FI mi m2 m3
  refine fn_ok F sc_law_numbers (fun _ => rfl) (by decide) fun z H cdv A outer s E hr => ?_
  obtain ⟨⟨ns, low⟩, hz⟩ := z
  dsimp only
  refine bx_ifret (t_w (w_or (t_not (t_val (x_isi "tuple" "tuple" true rfl mi rfl mt (by decide +kernel) rfl (by decide +kernel) (x_var 0 rfl)))) fun _ => w_or1 (t_ne (x_len_t rfl ml (x_var 0 rfl)) (x_var 1 rfl)))) (fun h => ?_) (fun _ => ?_)
  · rcases h with ⟨_, h⟩ | ⟨h, _⟩
    · simp at h
    · simp [is] at h
  refine bx_forT 3 (fun _ (_ : Unit) => True) (fun _ _ => [some (dat K (tI ns)), some (rI (ns.length : Int)), some (rI low), none]) (x_var 0 rfl) (fun σ H s => ⟨(), trivial, s.sub (by (repeat (first | exact Sub.nil | refine Sub.same ?_ | refine Sub.drop ?_)))⟩) (fun i w z hw _ => ?_) (bx_ex fun _ _ => bx_retR x_bl rfl) sc_law_numbers.nd PassesOwn.never
  obtain ⟨n, hn, rfl⟩ := getI hw
  refine bx_ifret (t_w (w_or (t_not (t_val (x_call (x := "_law_is_integer") (E := E0) (R := rB true) GI (hr.mono (by decide)) rfl gI FI.kp bI pass0 n (a_cons (x_var 3 rfl) a_nil) (fun v H H' σ _ _ h => h)))) fun _ => w_or1 (t_lt (x_dI (x_var 3 rfl)) (x_var 2 rfl)))) (fun h => ?_) (fun _ => bx_nil fun σ H s => ⟨(), trivial, s.sub (by (repeat (first | exact Sub.nil | refine Sub.same ?_ | refine Sub.drop ?_)))⟩)
  rcases h with ⟨_, h⟩ | ⟨h, _⟩
  · have h1 : n < low := of_decide_eq_true h.symm
    have h2 := hz n (List.mem_of_getElem? hn)
    exact absurd h1 (by omega)
  · simp [is] at h
end
def covb : List Int → List Int → Bool
  | a :: r, b :: s => if a < b then false else covb r s
  | _, _ => true
theorem covb_lt : ∀ {xs ys : List Int} {i : Nat} {a b : Int}, xs[i]? = some a → ys[i]? = some b → a < b → covb xs ys = false
  | x :: xs, y :: ys, 0, a, b, ha, hb, h => by
    obtain rfl : x = a := Option.some.inj ha
    obtain rfl : y = b := Option.some.inj hb
    show (if x < y then false else covb xs ys) = false
    rw [if_pos h]
  | x :: xs, y :: ys, i + 1, a, b, ha, hb, h => by
    show (if x < y then false else covb xs ys) = false
    rw [covb_lt (xs := xs) (ys := ys) (i := i) ha hb h]
    split <;> rfl
theorem covb_all : ∀ {xs ys : List Int}, (∀ (i : Nat) a b, xs[i]? = some a → ys[i]? = some b → ¬ a < b) → covb xs ys = true
  | [], _, _ => rfl
  | _ :: _, [], _ => rfl
  | x :: xs, y :: ys, h => by
    show (if x < y then false else covb xs ys) = true
    rw [if_neg (h 0 x y rfl rfl)]
    exact covb_all fun i a b ha hb => h (i + 1) a b ha hb
section
variable {d : Option Addr} {P : Program} {w : World} {K : PySem.W.Frag} {mg : Str → Option Value} {base : Heap}
end
section
variable {d : Option Addr} {P : Program} {w : World} {K : PySem.W.Frag} {mg : Str → Option Value} {base : Heap}
theorem ok_draws {f : Addr} {fd : FuncData} (F : Fun K "_law_draws" "_law_draws" s_law_draws f fd) (ml : mg "len" = none) (mL : mg "list" = none) (mr : mg "range" = none) (mi : mg "int" = none) :
    FnOk P w K mg base CX0 1 f fd ["script", "count"] (spP (none : Option Addr) (fun (z : {z : Addr × List Int × Int // 0 ≤ z.2.2 ∧ z.2.2 ≤ 1000 ∧ z.2.1.length ≤ 900}) => [lstA K z.1.1 (z.1.2.1.map D.i), rI z.1.2.2]) (fun _ H => newE H K fun ds => ∃ ns : List Int, ds = ns.map D.i ∧ ns.length ≤ 1000)) := by
  refine fn_okB F sc_law_draws (fun _ => rfl) (by decide) (fun z H => [some (lstB H K z.1.1 (z.1.2.1.map D.i)), some (rI z.1.2.2), none, none, none, none, none, none, none]) (fun z H σ s => (st_toB 0 rfl s).sub (by (repeat (first | exact Sub.nil | refine Sub.same ?_ | refine Sub.drop ?_)))) fun z H cdv A outer s E hr => ?_
  obtain ⟨⟨a, ns, c⟩, hc0, hc1, hns⟩ := z
  dsimp only at hc0 hc1 hns ⊢
  -- cells = list(script)
  refine bx_new 2 [] (by simp) (fun B' => x_list_l rfl mL (x_lstB (x_var 0 rfl))) (fun l hl _ => ?_) sc_law_draws.nd
  -- if len(cells) == 0: cells = [7]
  refine bx_if (fun σ H' => ∃ z : Addr × List Int, (H z.1 = none ∧ z.2 ≠ [] ∧ z.2.length ≤ 900) ∧ St (d := none) H [some (lstB H K a (ns.map D.i)), some (rI c), some (own K z.1 (z.2.map D.i)), none, none, none, none, none, none] σ H')
    (t_eq (x_len_l rfl ml (x_lstA (x_var 2 rfl))) x_int) (fun h => ?_) (fun h => ?_) ?_
  · refine bx_new 2 [] (by simp) (fun B' => x_lst (ds := [.i 7]) (a_cons (x_Id x_int) a_nil)) (fun l2 hl2 _ => bx_nil fun σ H' s => ⟨(l2, [7]), ⟨hl2, by simp, by simp⟩, s.sub (by (repeat (first | exact Sub.nil | refine Sub.same ?_ | refine Sub.drop ?_)))⟩) sc_law_draws.nd
  · refine bx_nil fun σ H' s => ⟨(l, ns), ⟨hl, ?_, hns⟩, s.sub (by (repeat (first | exact Sub.nil | refine Sub.same ?_ | refine Sub.drop ?_)))⟩
    intro e
    subst e
    simp [is] at h
  refine bx_ex fun z hz => ?_
  obtain ⟨l, cs⟩ := z
  obtain ⟨hl, hcs, hcl⟩ := hz
  dsimp only at hl hcs hcl ⊢
  -- found = []; mixed = 12345
  refine bx_new 3 [l] (by intro l' h'; rw [List.mem_singleton.mp h']; exact known_own 2 rfl) (fun B' => x_lst (ds := []) a_nil) (fun g hg hgl => ?_) sc_law_draws.nd
  have hgl : g ≠ l := hgl l (by simp)
  refine bx_set 4 x_int ?_ sc_law_draws.nd
  -- for k in range(count)
  refine bx_forR 5 (fun i (z : List Int × List Int × Int) => z.1 ≠ [] ∧ z.1.length ≤ 900 ∧ z.2.1.length = i ∧ 0 ≤ z.2.2 ∧ z.2.2 < 2147483647) (fun i z => [some (lstB H K a (ns.map D.i)), some (rI c), some (own K l (z.1.map D.i)), some (own K g (z.2.1.map D.i)), some (rI z.2.2), none, none, none, none]) rfl mr (x_var 1 rfl) (by omega)
    (fun σ H' s => ⟨(cs, [], 12345), ⟨hcs, hcl, rfl, by simp, by simp⟩, s.sub (by (repeat (first | exact Sub.nil | refine Sub.same ?_ | refine Sub.drop ?_)))⟩) (fun i z hi hz => ?_) ?_ sc_law_draws.nd PassesOwn.never
  · obtain ⟨cs, fs, m⟩ := z
    obtain ⟨hcs, hcl, hfs, hm0, hm1⟩ := hz
    dsimp only at hcs hcl hfs hm0 hm1 ⊢
    have hL : 0 < cs.length := List.length_pos_iff.mpr hcs
    -- j = k % len(cells)
    refine bx_set 6 (x_mod (x_var 5 rfl) (x_len_l rfl ml (x_lstA (x_var 2 rfl))) (by simp; omega)) ?_ sc_law_draws.nd
    have hj : ((i : Int) % ((cs.map D.i).length : Int)) = ((i % cs.length : Nat) : Int) := by rw [List.length_map]; omega
    have hjl : i % cs.length < cs.length := Nat.mod_lt _ hL
    -- cell = cells[j]
    refine bx_set 7 (x_dI (x_ixl (w := .i cs[i % cs.length]) (x_lstA (x_var 2 rfl)) (x_var 6 rfl) (by rw [hj]; exact atI_nat (by rw [List.getElem?_map, List.getElem?_eq_getElem hjl]; rfl)))) ?_ sc_law_draws.nd
    generalize cs[i % cs.length] = cell
    -- mixed = ..
    refine bx_set 4 (x_mod (x_int_ rfl mi (x_add (x_add (x_add (x_mul (x_var 4 rfl) x_int (.inl (by omega))) (x_mul (x_mod (x_int_ rfl mi (x_var 7 rfl)) x_int (by decide)) x_int (.inr (by decide)))) (x_mul (x_var 5 rfl) x_int (.inr (by decide)))) x_int)) x_int (by decide)) ?_ sc_law_draws.nd
    generalize hm' : (m * 48271 + cell % 1000003 * 69621 + (i : Int) * 7919 + 11) % 2147483647 = m'
    have hb0 : 0 ≤ m' := by omega
    have hb1 : m' < 2147483647 := by omega
    refine bx_set 8 (x_mod (x_int_ rfl mi (x_add (x_add (x_mul (x_var 4 rfl) (x_var 4 rfl) (.inl (by omega))) (x_mul x_int (x_var 4 rfl) (.inl (by decide)))) (x_var 5 rfl))) x_int (by decide)) ?_ sc_law_draws.nd
    generalize (m' * m' + 31 * m' + (i : Int)) % 1000003 = ag
    refine bx_if (IS H (fun (z : List Int × List Int × Int) => z.1 ≠ [] ∧ z.1.length ≤ 900 ∧ z.2.1.length = i + 1 ∧ 0 ≤ z.2.2 ∧ z.2.2 < 2147483647) (fun z => [some (lstB H K a (ns.map D.i)), some (rI c), some (own K l (z.1.map D.i)), some (own K g (z.2.1.map D.i)), some (rI z.2.2), none, none, none, none]))
      (t_ge (x_var 7 rfl) (x_pow x_int x_int ⟨by decide, by decide, by decide⟩)) (fun h => ?_) (fun h => ?_) (bx_nil fun σ H' s => s)
    · refine bx_append 3 (w := .i (cell % 1000)) rfl rfl (x_Id (x_mod (x_int_ rfl mi (x_var 7 rfl)) x_int (by decide))) hg (by (repeat' (first | exact ia_nil | refine ia_none ?_ | refine ia_some ?_ ?_ | refine ib_here ?_ | refine ib_none ?_ | refine ib_some ?_ ?_ | exact ind_I | exact ind_B | exact ind_dat | exact ind_any | exact ind_drw | exact ind_net | exact ind_dct | exact ind_dcT | exact ind_mail | exact ind_xB | exact ind_lstB (by assumption) | exact ind_own (by assumption) | exact ind_lstA (by assumption) | exact ind_own (Ne.symm (by assumption)) | exact ind_lstA (Ne.symm (by assumption)) | exact ind_tpl | exact ind_ownT (by assumption) | exact ind_ownT (Ne.symm (by assumption)) | exact ind_ll (by assumption) (by assumption) | exact ind_ll (Ne.symm (by assumption)) (by assumption)))) (by rw [List.length_map]; omega) ?_
      refine bx_setitem 2 (w := .i (cell / 1000)) (k := i % cs.length) rfl rfl (x_Id (x_fdiv (x_var 7 rfl) x_int ⟨by decide, by decide⟩)) (x_sub (x_var 6 rfl) fun v H hv => by rw [← hj]; exact hv) (by rw [List.length_map]; exact hjl) hl (by (repeat' (first | exact ia_nil | refine ia_none ?_ | refine ia_some ?_ ?_ | refine ib_here ?_ | refine ib_none ?_ | refine ib_some ?_ ?_ | exact ind_I | exact ind_B | exact ind_dat | exact ind_any | exact ind_drw | exact ind_net | exact ind_dct | exact ind_dcT | exact ind_mail | exact ind_xB | exact ind_lstB (by assumption) | exact ind_own (by assumption) | exact ind_lstA (by assumption) | exact ind_own (Ne.symm (by assumption)) | exact ind_lstA (Ne.symm (by assumption)) | exact ind_tpl | exact ind_ownT (by assumption) | exact ind_ownT (Ne.symm (by assumption)) | exact ind_ll (by assumption) (by assumption) | exact ind_ll (Ne.symm (by assumption)) (by assumption)))) ?_
      refine bx_nil fun σ H' s => ⟨(cs.set (i % cs.length) (cell / 1000), fs ++ [cell % 1000], m'), ⟨?_, ?_, ?_, hb0, hb1⟩, s.sub ?_⟩
      · intro z; apply hcs; exact List.eq_nil_of_length_eq_zero (by have := congrArg List.length z; simpa using this)
      · simpa using hcl
      · simp [hfs]
      · show Sub _ [_, _, _, _, _, _, _, _, _]
        rw [List.map_set, List.map_append]
        (repeat (first | exact Sub.nil | refine Sub.same ?_ | refine Sub.drop ?_))
    · refine bx_append 3 (w := .i (ag % 1000)) rfl rfl (x_Id (x_mod (x_int_ rfl mi (x_var 8 rfl)) x_int (by decide))) hg (by (repeat' (first | exact ia_nil | refine ia_none ?_ | refine ia_some ?_ ?_ | refine ib_here ?_ | refine ib_none ?_ | refine ib_some ?_ ?_ | exact ind_I | exact ind_B | exact ind_dat | exact ind_any | exact ind_drw | exact ind_net | exact ind_dct | exact ind_dcT | exact ind_mail | exact ind_xB | exact ind_lstB (by assumption) | exact ind_own (by assumption) | exact ind_lstA (by assumption) | exact ind_own (Ne.symm (by assumption)) | exact ind_lstA (Ne.symm (by assumption)) | exact ind_tpl | exact ind_ownT (by assumption) | exact ind_ownT (Ne.symm (by assumption)) | exact ind_ll (by assumption) (by assumption) | exact ind_ll (Ne.symm (by assumption)) (by assumption)))) (by rw [List.length_map]; omega) ?_
      refine bx_nil fun σ H' s => ⟨(cs, fs ++ [ag % 1000], m'), ⟨hcs, hcl, by simp [hfs], hb0, hb1⟩, s.sub ?_⟩
      show Sub _ [_, _, _, _, _, _, _, _, _]
      rw [List.map_append]
      (repeat (first | exact Sub.nil | refine Sub.same ?_ | refine Sub.drop ?_))
  · refine bx_ex fun z hz => ?_
    obtain ⟨cs, fs, m⟩ := z
    obtain ⟨_, _, hfs, _, _⟩ := hz
    dsimp only at hfs ⊢
    refine bx_reverse 3 rfl rfl hg (by (repeat' (first | exact ia_nil | refine ia_none ?_ | refine ia_some ?_ ?_ | refine ib_here ?_ | refine ib_none ?_ | refine ib_some ?_ ?_ | exact ind_I | exact ind_B | exact ind_dat | exact ind_any | exact ind_drw | exact ind_net | exact ind_dct | exact ind_dcT | exact ind_mail | exact ind_xB | exact ind_lstB (by assumption) | exact ind_own (by assumption) | exact ind_lstA (by assumption) | exact ind_own (Ne.symm (by assumption)) | exact ind_lstA (Ne.symm (by assumption)) | exact ind_tpl | exact ind_ownT (by assumption) | exact ind_ownT (Ne.symm (by assumption)) | exact ind_ll (by assumption) (by assumption) | exact ind_ll (Ne.symm (by assumption)) (by assumption)))) ?_
    refine bx_retR (x_sub (x_var 3 rfl) fun v H' hv => ?_) rfl
    rw [← List.map_reverse] at hv
    exact ⟨_, ⟨fs.reverse, rfl, by simp [hfs]; omega⟩, g, hg, hv⟩
end
section
variable {d : Option Addr} {P : Program} {w : World} {K : PySem.W.Frag} {mg : Str → Option Value} {base : Heap}
theorem ok_lcovers {f : Addr} {fd : FuncData} (F : Fun K "_law_covers" "_law_covers" s_law_covers f fd) (ml : mg "len" = none) (mr : mg "range" = none) :
    FnOk P w K mg base CX0 1 f fd ["first", "second"] (spP d (fun (z : {z : List Int × List Int // z.1.length = z.2.length ∧ z.1.length ≤ 1000}) => [dat K (tI z.1.1), dat K (tI z.1.2)]) (fun z _ => rB (covb z.1.1 z.1.2))) := by
  refine fn_ok F sc_law_covers (fun _ => rfl) (by decide) fun z H cdv A outer s E hr => ?_
  obtain ⟨⟨xs, ys⟩, hl, hL⟩ := z
  dsimp only at hl hL ⊢
  refine bx_forR 2 (fun i (_ : Unit) => ∀ (k : Nat) a b, k < i → xs[k]? = some a → ys[k]? = some b → ¬ a < b) (fun _ _ => [some (dat K (tI xs)), some (dat K (tI ys)), none]) rfl mr (x_len_t rfl ml (x_var 0 rfl)) (by simp; omega) (fun σ H s => ⟨(), fun _ _ _ h => absurd h (Nat.not_lt_zero _), s.sub (by (repeat (first | exact Sub.nil | refine Sub.same ?_ | refine Sub.drop ?_)))⟩) (fun i z hi hz => ?_) ?_ sc_law_covers.nd PassesOwn.never
  · have hix : i < xs.length := by simp at hi; exact hi
    have hiy : i < ys.length := by omega
    have ha : xs[i]? = some xs[i] := List.getElem?_eq_getElem hix
    have hb : ys[i]? = some ys[i] := List.getElem?_eq_getElem hiy
    refine bx_ifret (t_lt (x_ixtI (x_var 0 rfl) (x_var 2 rfl) ha) (x_ixtI (x_var 1 rfl) (x_var 2 rfl) hb)) (fun h => ?_) (fun h => bx_nil fun σ H s => ⟨(), fun k a' b' hk ha' hb' => ?_, s.sub (by (repeat (first | exact Sub.nil | refine Sub.same ?_ | refine Sub.drop ?_)))⟩)
    · refine bx_ret x_bl fun v σ H s hv => ⟨s.ext, ?_⟩
      show v = .bl (covb xs ys)
      rw [covb_lt ha hb (of_decide_eq_true h.symm)]
      exact hv
    · by_cases hki : k = i
      · subst hki
        rw [ha] at ha'; rw [hb] at hb'
        cases ha'; cases hb'
        exact of_decide_eq_false h.symm
      · exact hz k a' b' (by omega) ha' hb'
  · refine bx_ex fun z hz => bx_ret x_bl fun v σ H s hv => ⟨s.ext, ?_⟩
    show v = .bl (covb xs ys)
    rw [covb_all fun k a b ha hb => hz k a b (by simp; exact (List.getElem?_eq_some_iff.mp ha).1) ha hb]
    exact hv
end
/-! ### transitions -/
structure Tr where
  tk : List Int
  gv : List Int
  mv : List Int
abbrev Tr.d (t : Tr) : D := .t [tI t.tk, tI t.gv, tI t.mv]
structure TrOk (n : Nat) (t : Tr) : Prop where
  l1 : t.tk.length = n
  l2 : t.gv.length = n
  l3 : t.mv.length = n
  b1 : ∀ x ∈ t.tk, 0 ≤ x ∧ x ≤ 9
  b2 : ∀ x ∈ t.gv, 0 ≤ x ∧ x ≤ 9
  b3 : ∀ x ∈ t.mv, -1 ≤ x ∧ x < n
abbrev upTo (n : Nat) : List Int := (List.range n).map fun (i : Nat) => (i : Int)
/-- the first i places' tokens moved -/
def stepF (t : Tr) (m res : List Int) (p : Nat) : List Int :=
  if t.mv.getD p 0 = -1 then res else res.set (t.mv.getD p 0).toNat (res.getD (t.mv.getD p 0).toNat 0 + (m.getD p 0 - t.tk.getD p 0))
def fireN (t : Tr) (m : List Int) (i : Nat) : List Int := (List.range i).foldl (stepF t m) t.gv
theorem fireN_succ (t : Tr) (m : List Int) (i : Nat) : fireN t m (i + 1) = stepF t m (fireN t m i) i := by
  unfold fireN
  rw [List.range_succ, List.foldl_append]
  rfl
theorem stepF_len (t : Tr) (m res : List Int) (p : Nat) : (stepF t m res p).length = res.length := by
  unfold stepF
  split <;> simp
theorem fireN_len (t : Tr) (m : List Int) : ∀ i, (fireN t m i).length = t.gv.length
  | 0 => rfl
  | i + 1 => by rw [fireN_succ, stepF_len, fireN_len t m i]
theorem getD_of {l : List Int} {i : Nat} {x : Int} (h : l[i]? = some x) : l.getD i 0 = x := by rw [List.getD_eq_getElem?_getD, h]; rfl
theorem mem_set {l : List Int} {i : Nat} {x y : Int} (h : y ∈ l.set i x) : y = x ∨ y ∈ l := by
  rcases List.mem_or_eq_of_mem_set h with h | h
  · exact .inr h
  · exact .inl h
theorem ex_i {n : Nat} {l : List Int} (hl : l.length = n) {i : Nat} (h : i < n) : ∃ x, l[i]? = some x := ⟨l[i], List.getElem?_eq_getElem (by omega)⟩
section
variable {d : Option Addr} {P : Program} {w : World} {K : PySem.W.Frag} {mg : Str → Option Value} {base : Heap}
theorem flat0 {n : Nat} : (List.replicate n [D.i 0]).flatten = (List.replicate n (0 : Int)).map D.i := by
  induction n with
  | zero => rfl
  | succ n ih => rw [List.replicate_succ, List.flatten_cons, ih, List.replicate_succ]; rfl
def okTr (n : Nat) (plain : Bool) (w : D) : Prop := ∃ t : Tr, w = t.d ∧ TrOk n t ∧ (plain = true → t.mv = upTo n)
theorem ok_transition {f fT : Addr} {fd fdT : FuncData} (F : Fun K "_law_transition" "_law_transition" s_law_transition f fd) (FT : Fun K "_law_take" "_law_take" s_law_take fT fdT) (bT : Binds K fdT ["draws", "limit"] []) (gT : mg "_law_take" = some (.ref fT)) (ml : mg "len" = none) (mi : mg "int" = none) (mt : mg "tuple" = none) (mL : mg "list" = none) (mr : mg "range" = none) :
    FnOk P w K mg base CX0 2 f fd ["draws", "places", "plain"] (spP d (fun (z : {z : Nat × Bool // 1 ≤ z.1 ∧ z.1 ≤ 100}) => [drw, rI (z.1.1 : Int), rB z.1.2]) (fun z _ => dE K fun w => okTr z.1.1 z.1.2 w)) := by
  have GT : FnOk P w K mg base CX0 1 fT fdT ["draws", "limit"] spTake := ok_take FT ml mi
  refine fn_ok F sc_law_transition (fun _ => rfl) (by decide) fun z H cdv A outer s E hr => ?_
  obtain ⟨⟨n, plain⟩, hn0, hn1⟩ := z
  dsimp only at hn0 hn1 ⊢
  have hr1 := hr.mono (show 1 ≤ 1 by decide)
  -- takes = [0] * places; gives = [0] * places
  refine bx_new 3 [] (by simp) (fun B' => x_rep (l0 := [.i 0]) (x_lst (a_cons (x_Id x_int) a_nil)) (x_var 1 rfl) (by simp; omega) (by omega)) (fun l1 hl1 _ => ?_) sc_law_transition.nd
  refine bx_new 4 [l1] (by intro l' h'; rw [List.mem_singleton.mp h']; exact known_own 3 rfl) (fun B' => x_rep (l0 := [.i 0]) (x_lst (a_cons (x_Id x_int) a_nil)) (x_var 1 rfl) (by simp; omega) (by omega)) (fun l2 hl2 h21 => ?_) sc_law_transition.nd
  have h21 : l2 ≠ l1 := h21 l1 (by simp)
  have step : ∀ {z : List Int} {i : Nat} {k : Nat} {y : Int}, (z.length = n ∧ ∀ x ∈ z, 0 ≤ x ∧ x ≤ (i : Int)) → z[k]? = some y → ((z.set k (y + 1)).length = n ∧ ∀ x ∈ z.set k (y + 1), 0 ≤ x ∧ x ≤ ((i + 1 : Nat) : Int)) := fun {z i k y} hz hy => by
    refine ⟨by simp [hz.1], fun x hx => ?_⟩
    rcases mem_set hx with h | h
    · have := hz.2 y (List.mem_of_getElem? hy)
      omega
    · have := hz.2 x h
      omega
  -- for k in range([1, 1, 2, 0][..]): takes[..] += 1
  refine bx_forRE (S := fun z => 0 ≤ z ∧ z ≤ 2) 5 (fun i (z : List Int) => z.length = n ∧ ∀ x ∈ z, 0 ≤ x ∧ x ≤ (i : Int)) (fun _ z => [some drw, some (rI (n : Int)), some (rB plain), some (own K l1 (z.map D.i)), some (own K l2 ((List.replicate n (0 : Int)).map D.i)), none, none]) rfl mr
    (x_dEi (x_ixnE (x_lst (ds := [.i 1, .i 1, .i 2, .i 0]) (a_cons (x_Id x_int) (a_cons (x_Id x_int) (a_cons (x_Id x_int) (a_cons (x_Id x_int) a_nil))))) (x_take (E := E0) GT hr1 rfl gT FT.kp bT pass0 (x_var 0 rfl) x_int (by decide)) (fun j hj => by simp; exact hj)) fun w ⟨k, hk, hw⟩ => ?_) (fun nn h => by omega) (fun σ H' s => ⟨List.replicate n 0, ⟨by simp, fun x hx => by rw [List.eq_of_mem_replicate hx]; simp⟩, s.sub ?_⟩) (fun nn hnn i z hi hz => ?_) (fun nn hnn => bx_ex fun tk htk => ?_) sc_law_transition.nd PassesOwn.never
  · obtain ⟨h0, h4⟩ := hk
    match k, hw with
    | 0, hw => cases hw; exact ⟨1, rfl, by decide⟩
    | 1, hw => cases hw; exact ⟨1, rfl, by decide⟩
    | 2, hw => cases hw; exact ⟨2, rfl, by decide⟩
    | 3, hw => cases hw; exact ⟨0, rfl, by decide⟩
    | k + 4, hw => exact absurd h4 (by omega)
  · show Sub _ [_, _, _, _, _, _, _]
    rw [← flat0]
    (repeat (first | exact Sub.nil | refine Sub.same ?_ | refine Sub.drop ?_))
  · refine bx_augitem 3 rfl rfl (x_take (E := E0) GT hr1 rfl gT FT.kp bT pass0 (x_var 0 rfl) (x_var 1 rfl) (by omega)) (fun k hk => by rw [hz.1]; exact hk) x_int hl1 (by (repeat' (first | exact ia_nil | refine ia_none ?_ | refine ia_some ?_ ?_ | refine ib_here ?_ | refine ib_none ?_ | refine ib_some ?_ ?_ | exact ind_I | exact ind_B | exact ind_dat | exact ind_any | exact ind_drw | exact ind_net | exact ind_dct | exact ind_dcT | exact ind_mail | exact ind_xB | exact ind_lstB (by assumption) | exact ind_own (by assumption) | exact ind_lstA (by assumption) | exact ind_own (Ne.symm (by assumption)) | exact ind_lstA (Ne.symm (by assumption)) | exact ind_tpl | exact ind_ownT (by assumption) | exact ind_ownT (Ne.symm (by assumption)) | exact ind_ll (by assumption) (by assumption) | exact ind_ll (Ne.symm (by assumption)) (by assumption)))) (fun k y hk hy => bx_nil fun σ H' s => ⟨z.set k (y + 1), step hz hy, s.sub (by (repeat (first | exact Sub.nil | refine Sub.same ?_ | refine Sub.drop ?_)))⟩)
  have htk9 : ∀ x ∈ tk, 0 ≤ x ∧ x ≤ 9 := fun x hx => by have := htk.2 x hx; omega
  obtain ⟨htkl, _⟩ := htk
  -- for k in range([1, 1, 2, 3, 0][..]): gives[..] += 1
  refine bx_forRE (S := fun z => 0 ≤ z ∧ z ≤ 3) 5 (fun i (z : List Int) => z.length = n ∧ ∀ x ∈ z, 0 ≤ x ∧ x ≤ (i : Int)) (fun _ z => [some drw, some (rI (n : Int)), some (rB plain), some (own K l1 (tk.map D.i)), some (own K l2 (z.map D.i)), none, none]) rfl mr
    (x_dEi (x_ixnE (x_lst (ds := [.i 1, .i 1, .i 2, .i 3, .i 0]) (a_cons (x_Id x_int) (a_cons (x_Id x_int) (a_cons (x_Id x_int) (a_cons (x_Id x_int) (a_cons (x_Id x_int) a_nil)))))) (x_take (E := E0) GT hr1 rfl gT FT.kp bT pass0 (x_var 0 rfl) x_int (by decide)) (fun j hj => by simp; exact hj)) fun w ⟨k, hk, hw⟩ => ?_) (fun nn h => by omega) (fun σ H' s => ⟨List.replicate n 0, ⟨by simp, fun x hx => by rw [List.eq_of_mem_replicate hx]; simp⟩, s.sub (by (repeat (first | exact Sub.nil | refine Sub.same ?_ | refine Sub.drop ?_)))⟩) (fun nn hnn i z hi hz => ?_) (fun nn hnn => bx_ex fun gv hgv => ?_) sc_law_transition.nd PassesOwn.never
  · obtain ⟨h0, h4⟩ := hk
    match k, hw with
    | 0, hw => cases hw; exact ⟨1, rfl, by decide⟩
    | 1, hw => cases hw; exact ⟨1, rfl, by decide⟩
    | 2, hw => cases hw; exact ⟨2, rfl, by decide⟩
    | 3, hw => cases hw; exact ⟨3, rfl, by decide⟩
    | 4, hw => cases hw; exact ⟨0, rfl, by decide⟩
    | k + 5, hw => exact absurd h4 (by omega)
  · refine bx_augitem 4 rfl rfl (x_take (E := E0) GT hr1 rfl gT FT.kp bT pass0 (x_var 0 rfl) (x_var 1 rfl) (by omega)) (fun k hk => by rw [hz.1]; exact hk) x_int hl2 (by (repeat' (first | exact ia_nil | refine ia_none ?_ | refine ia_some ?_ ?_ | refine ib_here ?_ | refine ib_none ?_ | refine ib_some ?_ ?_ | exact ind_I | exact ind_B | exact ind_dat | exact ind_any | exact ind_drw | exact ind_net | exact ind_dct | exact ind_dcT | exact ind_mail | exact ind_xB | exact ind_lstB (by assumption) | exact ind_own (by assumption) | exact ind_lstA (by assumption) | exact ind_own (Ne.symm (by assumption)) | exact ind_lstA (Ne.symm (by assumption)) | exact ind_tpl | exact ind_ownT (by assumption) | exact ind_ownT (Ne.symm (by assumption)) | exact ind_ll (by assumption) (by assumption) | exact ind_ll (Ne.symm (by assumption)) (by assumption)))) (fun k y hk hy => bx_nil fun σ H' s => ⟨z.set k (y + 1), step hz hy, s.sub (by (repeat (first | exact Sub.nil | refine Sub.same ?_ | refine Sub.drop ?_)))⟩)
  have hgv9 : ∀ x ∈ gv, 0 ≤ x ∧ x ≤ 9 := fun x hx => by have := hgv.2 x hx; omega
  obtain ⟨hgvl, _⟩ := hgv
  -- moves = list(range(places))
  refine bx_new 6 [l1, l2] (by intro l' h'; simp only [List.mem_cons, List.not_mem_nil, or_false] at h'; rcases h' with rfl | rfl; exact known_own 3 rfl; exact known_own 4 rfl) (fun B' => x_listR rfl mL rfl mr (x_var 1 rfl) (by omega)) (fun l3 hl3 h3 => ?_) sc_law_transition.nd
  have h31 : l3 ≠ l1 := h3 l1 (by simp)
  have h32 : l3 ≠ l2 := h3 l2 (by simp)
  have e0 : ((List.range ((n : Int)).toNat).map fun (i : Nat) => D.i (i : Int)) = (upTo n).map D.i := by rw [List.map_map]; rfl
  rw [e0]
  have hup : ∀ x ∈ upTo n, -1 ≤ x ∧ x < n := fun x hx => by
    obtain ⟨i, hi, rfl⟩ := List.mem_map.mp hx
    have := List.mem_range.mp hi
    omega
  -- if not plain and ..
  refine bx_if (IS H (fun (z : List Int) => z.length = n ∧ (∀ x ∈ z, -1 ≤ x ∧ x < n) ∧ (plain = true → z = upTo n)) (fun z => [some drw, some (rI (n : Int)), some (rB plain), some (own K l1 (tk.map D.i)), some (own K l2 (gv.map D.i)), none, some (own K l3 (z.map D.i))]))
    (t_w (w_and (t_not (t_val (x_var 2 rfl))) fun _ => w_and1 (t_eqE (x_take (E := E0) GT hr1 rfl gT FT.kp bT pass0 (x_var 0 rfl) x_int (by decide)) (x_I x_int)))) (fun h => ?_) (fun _ => bx_nil fun σ H' s => ⟨upTo n, ⟨by simp, hup, fun _ => rfl⟩, s.sub (by (repeat (first | exact Sub.nil | refine Sub.same ?_ | refine Sub.drop ?_)))⟩) (bx_ex fun mv hmv => ?_)
  · have hpl : plain = false := by
      rcases h with ⟨h, _⟩ | ⟨_, h⟩
      · cases plain with
        | true => cases h
        | false => rfl
      · cases h
    refine bx_forR 5 (fun i (z : List Int) => z.length = n ∧ ∀ x ∈ z, -1 ≤ x ∧ x < n) (fun _ z => [some drw, some (rI (n : Int)), some (rB plain), some (own K l1 (tk.map D.i)), some (own K l2 (gv.map D.i)), none, some (own K l3 (z.map D.i))]) rfl mr (x_var 1 rfl) (by omega) (fun σ H' s => ⟨upTo n, ⟨by simp, hup⟩, s.sub (by (repeat (first | exact Sub.nil | refine Sub.same ?_ | refine Sub.drop ?_)))⟩) (fun i z hi hz => ?_) (bx_ex fun z hz => bx_nil fun σ H' s => ⟨z, ⟨hz.1, hz.2, fun q => by rw [hpl] at q; cases q⟩, s⟩) sc_law_transition.nd PassesOwn.never
    refine bx_if (IS H (fun (z : List Int) => z.length = n ∧ ∀ x ∈ z, -1 ≤ x ∧ x < n) (fun z => [some drw, some (rI (n : Int)), some (rB plain), some (own K l1 (tk.map D.i)), some (own K l2 (gv.map D.i)), none, some (own K l3 (z.map D.i))]))
      (t_eqE (x_take (E := E0) GT hr1 rfl gT FT.kp bT pass0 (x_var 0 rfl) x_int (by decide)) (x_I x_int)) (fun _ => ?_) (fun _ => bx_nil fun σ H' s => ⟨z, hz, s.sub (by (repeat (first | exact Sub.nil | refine Sub.same ?_ | refine Sub.drop ?_)))⟩) (bx_nil fun σ H' s => s)
    refine bx_setitemE 6 rfl rfl (x_iEd (x_subE (x_take (E := E0) GT hr1 rfl gT FT.kp bT pass0 (x_var 0 rfl) (x_add (x_var 1 rfl) x_int) (by omega)) (x_I x_int))) (x_var 5 rfl) (by rw [List.length_map, hz.1]; omega) hl3 (by (repeat' (first | exact ia_nil | refine ia_none ?_ | refine ia_some ?_ ?_ | refine ib_here ?_ | refine ib_none ?_ | refine ib_some ?_ ?_ | exact ind_I | exact ind_B | exact ind_dat | exact ind_any | exact ind_drw | exact ind_net | exact ind_dct | exact ind_dcT | exact ind_mail | exact ind_xB | exact ind_lstB (by assumption) | exact ind_own (by assumption) | exact ind_lstA (by assumption) | exact ind_own (Ne.symm (by assumption)) | exact ind_lstA (Ne.symm (by assumption)) | exact ind_tpl | exact ind_ownT (by assumption) | exact ind_ownT (Ne.symm (by assumption)) | exact ind_ll (by assumption) (by assumption) | exact ind_ll (Ne.symm (by assumption)) (by assumption)))) (fun w hw => ?_)
    obtain ⟨y, ⟨i1, j1, hi1, rfl, rfl⟩, rfl⟩ := hw
    refine bx_nil fun σ H' s => ⟨z.set i (i1 - 1), ⟨by simp [hz.1], fun x hx => ?_⟩, s.sub ?_⟩
    · rcases mem_set hx with h | h
      · omega
      · exact hz.2 x h
    · show Sub _ [_, _, _, _, _, _, _]
      rw [List.map_set]
      (repeat (first | exact Sub.nil | refine Sub.same ?_ | refine Sub.drop ?_))
  · obtain ⟨m1, m2, m3⟩ := hmv
    refine bx_retR (x_sub (x_tup (ds := [tI tk, tI gv, tI mv]) (a_cons (x_tuple_l rfl mt (x_lstA (x_var 3 rfl))) (a_cons (x_tuple_l rfl mt (x_lstA (x_var 4 rfl))) (a_cons (x_tuple_l rfl mt (x_lstA (x_var 6 rfl))) a_nil)))) fun v H' hv => ?_) rfl
    exact ⟨_, ⟨⟨tk, gv, mv⟩, rfl, ⟨htkl, hgvl, m1, htk9, hgv9, m2⟩, m3⟩, hv⟩
end
section
variable {d : Option Addr} {P : Program} {w : World} {K : PySem.W.Frag} {mg : Str → Option Value} {base : Heap}
/-- [_law_transition(..) for k in range(1 + _law_take(draws, most))] -/
theorem ok_lnet {f fT fR : Addr} {fd fdT fdR : FuncData} (F : Fun K "_law_net" "_law_net" s_law_net f fd) (FT : Fun K "_law_take" "_law_take" s_law_take fT fdT) (bT : Binds K fdT ["draws", "limit"] []) (gT : mg "_law_take" = some (.ref fT)) (FR : Fun K "_law_transition" "_law_transition" s_law_transition fR fdR) (bR : Binds K fdR ["draws", "places", "plain"] []) (gR : mg "_law_transition" = some (.ref fR))
    (ml : mg "len" = none) (mi : mg "int" = none) (mt : mg "tuple" = none) (mL : mg "list" = none) (mr : mg "range" = none) :
    FnOk P w K mg base CX0 3 f fd ["draws", "places", "most", "plain"] (spP d (fun (z : {z : Nat × Nat × Bool // 1 ≤ z.1 ∧ z.1 ≤ 100 ∧ 1 ≤ z.2.1 ∧ z.2.1 ≤ 100}) => [drw, rI (z.1.1 : Int), rI (z.1.2.1 : Int), rB z.1.2.2]) (fun z H => newE H K fun ds => 1 ≤ ds.length ∧ ds.length ≤ z.1.2.1 ∧ ∀ (k : Nat) (w : D), ds[k]? = some w → okTr z.1.1 z.1.2.2 w)) := by
  have GT : FnOk P w K mg base CX0 1 fT fdT ["draws", "limit"] spTake := ok_take FT ml mi
  have GR : FnOk P w K mg base CX0 2 fR fdR ["draws", "places", "plain"] (spP d (fun (z : {z : Nat × Bool // 1 ≤ z.1 ∧ z.1 ≤ 100}) => [drw, rI (z.1.1 : Int), rB z.1.2]) (fun z _ => dE K fun w => okTr z.1.1 z.1.2 w)) := ok_transition FR FT bT gT ml mi mt mL mr
  refine fn_ok F sc_law_net (fun _ => rfl) (by decide) fun z H cdv A outer s E hr => ?_
  obtain ⟨⟨n, most, plain⟩, hn0, hn1, hm0, hm1⟩ := z
  dsimp only at hn0 hn1 hm0 hm1 ⊢
  have hr1 : Room 1 _ := hr.mono (by decide)
  have hr2 : Room 2 _ := hr.mono (by decide)
  refine bx_retR (x_sub (x_lcRE (S := fun z => ∃ i j, i = 1 ∧ (0 ≤ j ∧ j < (most : Int)) ∧ z = i + j) 4 (fun _ w => okTr n plain w) rfl mr (x_addE (x_I x_int) (x_take (E := E0) GT hr1 rfl gT FT.kp bT pass0 (x_var 0 rfl) (x_var 2 rfl) (by omega))) (fun nn ⟨i, j, h1, h2, h3⟩ => by omega) sc_law_net.nd (blkOk_by (N := ["draws", "places", "most", "plain", "k"]) (sc := defScope s_law_net) (by decide +kernel)) (fun _ _ _ _ _ => pg_name (i := 4) sc_law_net.nd rfl (Or.inl rfl))
    (fun s H C cl fp i => x_call (E := E0) GR hr2 rfl gR FR.kp bR pass0 ⟨(n, plain), hn0, hn1⟩ (a_cons (x_var 0 rfl) (a_cons (x_var 1 rfl) (a_cons (x_var 3 rfl) a_nil))) fun v H H' σ _ _ h => h)) fun v H' hv => ?_) rfl
  obtain ⟨ds, ⟨⟨nn, ⟨i, j, h1, h2, h3⟩, h4⟩, h5⟩, hv⟩ := hv
  exact ⟨ds, ⟨by omega, by omega, h5⟩, hv⟩
theorem stepF_eq {t : Tr} {m res : List Int} {p : Nat} {g a b : Int} (h1 : t.mv[p]? = some g) (h2 : m[p]? = some a) (h3 : t.tk[p]? = some b) : stepF t m res p = if g = -1 then res else res.set g.toNat (res.getD g.toNat 0 + (a - b)) := by
  unfold stepF
  rw [getD_of h1, getD_of h2, getD_of h3]
/-- the law's own firing -/
def lfire (n : Nat) (t : Tr) (m : List Int) : D := if covb m t.tk = true then tI (fireN t m n) else .n
theorem ok_lfire {f fC : Addr} {fd fdC : FuncData} (F : Fun K "_law_fire" "_law_fire" s_law_fire f fd) (FC : Fun K "_law_covers" "_law_covers" s_law_covers fC fdC) (bC : Binds K fdC ["first", "second"] []) (gC : mg "_law_covers" = some (.ref fC)) (ml : mg "len" = none) (mt : mg "tuple" = none) (mL : mg "list" = none) (mr : mg "range" = none) :
    FnOk P w K mg base CX0 2 f fd ["transition", "marking"] (spP d (fun (z : {z : Nat × Tr × List Int // TrOk z.1 z.2.1 ∧ z.2.2.length = z.1 ∧ z.1 ≤ 100}) => [dat K z.1.2.1.d, dat K (tI z.1.2.2)]) (fun z _ => dat K (lfire z.1.1 z.1.2.1 z.1.2.2))) := by
  have GC : FnOk P w K mg base CX0 1 fC fdC ["first", "second"] (spP d (fun (z : {z : List Int × List Int // z.1.length = z.2.length ∧ z.1.length ≤ 1000}) => [dat K (tI z.1.1), dat K (tI z.1.2)]) (fun z _ => rB (covb z.1.1 z.1.2))) := ok_lcovers FC ml mr
  refine fn_ok F sc_law_fire (fun _ => rfl) (by decide) fun z H cdv A outer s E hr => ?_
  obtain ⟨⟨n, t, m⟩, ht, hm, hn⟩ := z
  dsimp only at ht hm hn ⊢
  have hr1 : Room 1 _ := hr.mono (by decide)
  refine bx_unp3 2 3 4 (x_var 0 rfl) ?_ sc_law_fire.nd
  refine bx_ifret (t_not (t_val (x_call (E := E0) (R := rB (covb m t.tk)) GC hr1 rfl gC FC.kp bC pass0 ⟨(m, t.tk), by rw [hm, ht.l1], by rw [hm]; omega⟩ (a_cons (x_var 1 rfl) (a_cons (x_var 2 rfl) a_nil)) fun v H H' σ _ _ h => h))) (fun h => ?_) (fun h => ?_)
  · have hc : covb m t.tk = false := by
      cases q : covb m t.tk with
      | true => rw [q] at h; cases h
      | false => rfl
    refine bx_retR (R := dat K (lfire n t m)) ?_ rfl
    have e : lfire n t m = .n := if_neg (by rw [hc]; exact Bool.false_ne_true)
    rw [e]
    exact x_non
  have hc : covb m t.tk = true := by
    cases q : covb m t.tk with
    | true => rfl
    | false => rw [q] at h; cases h
  refine bx_new 5 [] (by simp) (fun B' => x_list_t rfl mL (x_var 3 rfl)) (fun l hl _ => ?_) sc_law_fire.nd
  refine bx_forR 6 (fun i (_ : Unit) => i ≤ n) (fun i _ => [some (dat K t.d), some (dat K (tI m)), some (dat K (tI t.tk)), some (dat K (tI t.gv)), some (dat K (tI t.mv)), some (own K l ((fireN t m i).map D.i)), none, none]) rfl mr (x_len_t rfl ml (x_var 1 rfl)) (by simp; omega) (fun σ H' s => ⟨(), Nat.zero_le _, s.sub (by (repeat (first | exact Sub.nil | refine Sub.same ?_ | refine Sub.drop ?_)))⟩) (fun i z hi hz => ?_) (bx_ex fun z hz => ?_) sc_law_fire.nd PassesOwn.never
  · have hin : i < n := by rw [List.length_map, hm] at hi; omega
    obtain ⟨g, hg⟩ := ex_i ht.l3 hin
    obtain ⟨a, ha⟩ := ex_i hm hin
    obtain ⟨b, hb⟩ := ex_i ht.l1 hin
    have hgb := ht.b3 g (List.mem_of_getElem? hg)
    have hs := stepF_eq (res := fireN t m i) hg ha hb
    refine bx_if (IS H (fun (_ : Unit) => i + 1 ≤ n) (fun _ => [some (dat K t.d), some (dat K (tI m)), some (dat K (tI t.tk)), some (dat K (tI t.gv)), some (dat K (tI t.mv)), some (own K l ((fireN t m (i + 1)).map D.i)), none, none]))
      (t_ge (x_ixtI (x_var 4 rfl) (x_var 6 rfl) hg) x_int) (fun h => ?_) (fun h => ?_) (bx_nil fun σ H' s => s)
    · have h0 : 0 ≤ g := of_decide_eq_true h.symm
      obtain ⟨j, rfl⟩ : ∃ j : Nat, g = (j : Int) := ⟨g.toNat, by omega⟩
      have hj : j < (fireN t m i).length := by rw [fireN_len, ht.l2]; omega
      refine bx_set 7 (x_ixtI (x_var 4 rfl) (x_var 6 rfl) hg) ?_ sc_law_fire.nd
      refine bx_setitem 5 rfl rfl (x_Id (x_sub_ (x_add (x_ixlI (x_lstA (x_var 5 rfl)) (x_var 7 rfl) (List.getElem?_eq_getElem hj)) (x_ixtI (x_var 1 rfl) (x_var 6 rfl) ha)) (x_ixtI (x_var 2 rfl) (x_var 6 rfl) hb))) (x_var 7 rfl) (by rw [List.length_map]; exact hj) hl (by (repeat' (first | exact ia_nil | refine ia_none ?_ | refine ia_some ?_ ?_ | refine ib_here ?_ | refine ib_none ?_ | refine ib_some ?_ ?_ | exact ind_I | exact ind_B | exact ind_dat | exact ind_any | exact ind_drw | exact ind_net | exact ind_dct | exact ind_dcT | exact ind_mail | exact ind_xB | exact ind_lstB (by assumption) | exact ind_own (by assumption) | exact ind_lstA (by assumption) | exact ind_own (Ne.symm (by assumption)) | exact ind_lstA (Ne.symm (by assumption)) | exact ind_tpl | exact ind_ownT (by assumption) | exact ind_ownT (Ne.symm (by assumption)) | exact ind_ll (by assumption) (by assumption) | exact ind_ll (Ne.symm (by assumption)) (by assumption)))) ?_
      refine bx_nil fun σ H' s => ⟨(), hin, s.sub ?_⟩
      have e : ((fireN t m i).map D.i).set j (D.i ((fireN t m i)[j] + a - b)) = (fireN t m (i + 1)).map D.i := by
        rw [fireN_succ, hs, if_neg (by omega), List.map_set]
        have e1 : ((j : Int)).toNat = j := by omega
        rw [e1, getD_of (List.getElem?_eq_getElem hj)]
        congr 2
        omega
      show Sub _ [_, _, _, _, _, _, _, _]
      rw [← e]
      (repeat (first | exact Sub.nil | refine Sub.same ?_ | refine Sub.drop ?_))
    · have h0 : g = -1 := by
        have : ¬ (0 : Int) ≤ g := of_decide_eq_false h.symm
        omega
      refine bx_nil fun σ H' s => ⟨(), hin, s.sub ?_⟩
      show Sub _ [_, _, _, _, _, _, _, _]
      rw [fireN_succ, hs, if_pos h0]
      (repeat (first | exact Sub.nil | refine Sub.same ?_ | refine Sub.drop ?_))
  · have e : ((((m.map D.i).length : Nat) : Int)).toNat = n := by rw [List.length_map, hm]; omega
    refine bx_retR (R := dat K (lfire n t m)) ?_ rfl
    have e2 : lfire n t m = tI (fireN t m n) := if_pos hc
    rw [e2, ← e]
    exact x_tuple_l rfl mt (x_lstA (x_var 5 rfl))
end
section
variable {d : Option Addr} {P : Program} {w : World} {K : PySem.W.Frag} {mg : Str → Option Value} {base : Heap}
/-- _numbers of a row that fits -/
theorem ok_pnumbers {f : Addr} {fd : FuncData} (F : Fun K "_numbers" "_numbers" s_numbers f fd) (ml : mg "len" = none) (mt : mg "tuple" = none) :
    FnOk P w K mg base CX0 1 f fd ["row", "places", "least", "most"] (spP d (fun (z : {z : List Int × Int × Int // ∀ x ∈ z.1, z.2.1 ≤ x ∧ x ≤ z.2.2}) => [dat K (tI z.1.1), rI (z.1.1.length : Int), rI z.1.2.1, rI z.1.2.2]) (fun z _ => dat K (tI z.1.1))) := by
  refine fn_ok F sc_numbers (fun _ => rfl) (by decide) fun z H cdv A outer s E hr => ?_
  obtain ⟨⟨ns, lo, hi⟩, hz⟩ := z
  dsimp only at hz ⊢
  refine bx_ifret (t_ne (x_len_t rfl ml (x_var 0 rfl)) (x_var 1 rfl)) (fun h => by simp [is] at h) (fun _ => ?_)
  refine bx_forT 4 (fun _ (_ : Unit) => True) (fun _ _ => [some (dat K (tI ns)), some (rI (ns.length : Int)), some (rI lo), some (rI hi), none]) (x_var 0 rfl) (fun σ H s => ⟨(), trivial, s.sub (by (repeat (first | exact Sub.nil | refine Sub.same ?_ | refine Sub.drop ?_)))⟩) (fun i w z hw _ => ?_) (bx_ex fun _ _ => bx_retR (x_tuple_t rfl mt (x_var 0 rfl)) rfl) sc_numbers.nd PassesOwn.never
  obtain ⟨n, hn, rfl⟩ := getI hw
  refine bx_ifret (t_not (t_chainLe (x_var 2 rfl) (x_dI (x_var 4 rfl)) (x_var 3 rfl))) (fun h => ?_) (fun _ => bx_nil fun σ H s => ⟨(), trivial, s.sub (by (repeat (first | exact Sub.nil | refine Sub.same ?_ | refine Sub.drop ?_)))⟩)
  have h2 := hz n (List.mem_of_getElem? hn)
  rw [decide_eq_true h2.1, decide_eq_true h2.2] at h
  simp [is] at h
theorem ok_checked {f fN : Addr} {fd fdN : FuncData} {tk1 : Tok} (F : Fun K "_checked" "_checked" s_checked f fd) (FN : Fun K "_numbers" "_numbers" s_numbers fN fdN) (bN : Binds K fdN ["row", "places", "least", "most"] []) (gN : mg "_numbers" = some (.ref fN)) (gM : mg "MOST_TOKENS" = some (.int 9 tk1)) (ml : mg "len" = none) (mt : mg "tuple" = none) :
    FnOk P w K mg base CX0 2 f fd ["transition", "places"] (spP d (fun (z : {z : Nat × Tr // TrOk z.1 z.2}) => [dat K z.1.2.d, rI (z.1.1 : Int)]) (fun z _ => dat K z.1.2.d)) := by
  have GN : FnOk P w K mg base CX0 1 fN fdN ["row", "places", "least", "most"] (spP d (fun (z : {z : List Int × Int × Int // ∀ x ∈ z.1, z.2.1 ≤ x ∧ x ≤ z.2.2}) => [dat K (tI z.1.1), rI (z.1.1.length : Int), rI z.1.2.1, rI z.1.2.2]) (fun z _ => dat K (tI z.1.1))) := ok_pnumbers FN ml mt
  refine fn_ok F sc_checked (fun _ => rfl) (by decide) fun z H cdv A outer s E hr => ?_
  obtain ⟨⟨n, t⟩, ht⟩ := z
  dsimp only at ht ⊢
  have hr1 : Room 1 _ := hr.mono (by decide)
  refine bx_ifret (t_ne (x_len_t rfl ml (x_var 0 rfl)) x_int) (fun h => by simp [is] at h) (fun _ => ?_)
  refine bx_unp3 2 3 4 (x_var 0 rfl) ?_ sc_checked.nd
  have e1 : (n : Int) = (t.tk.length : Int) := by rw [ht.l1]
  have e2 : (n : Int) = (t.gv.length : Int) := by rw [ht.l2]
  have e3 : (n : Int) = (t.mv.length : Int) := by rw [ht.l3]
  refine bx_retR (x_tup (ds := [tI t.tk, tI t.gv, tI t.mv])
    (a_cons (x_call (E := E0) GN hr1 rfl gN FN.kp bN pass0 ⟨(t.tk, 0, 9), ht.b1⟩ (a_cons (x_var 2 rfl) (a_cons (x_sub (x_var 1 rfl) fun v H hv => by rw [← e1]; exact hv) (a_cons x_int (a_cons (x_globI rfl gM) a_nil)))) fun v H H' σ _ _ h => h)
    (a_cons (x_call (E := E0) GN hr1 rfl gN FN.kp bN pass0 ⟨(t.gv, 0, 9), ht.b2⟩ (a_cons (x_var 3 rfl) (a_cons (x_sub (x_var 1 rfl) fun v H hv => by rw [← e2]; exact hv) (a_cons x_int (a_cons (x_globI rfl gM) a_nil)))) fun v H H' σ _ _ h => h)
    (a_cons (x_call (E := E0) GN hr1 rfl gN FN.kp bN pass0 ⟨(t.mv, -1, (n : Int) - 1), fun x hx => by have := ht.b3 x hx; dsimp only; omega⟩ (a_cons (x_var 4 rfl) (a_cons (x_sub (x_var 1 rfl) fun v H hv => by rw [← e3]; exact hv) (a_cons (x_neg x_int) (a_cons (x_sub_ (x_var 1 rfl) x_int) a_nil)))) fun v H H' σ _ _ h => h) a_nil)))) rfl
/-- a net: its two fields -/
abbrev netF (K : PySem.W.Frag) (n : Nat) (Ts : List D) : List (Str × Rp d) := [("transitions", dat K (.t Ts)), ("places", rI (n : Int))]
structure NetTxt (K : PySem.W.Frag) (mg : Str → Option Value) (C : Addr) : Prop where
  cl : Cls K C
  nP : NoAttr K C "places"
  nT : NoAttr K C "transitions"
  gC : mg "Net" = some (.ref C)
theorem ok_net {f fC : Addr} {fd fdC : FuncData} {C fN : Addr} {fdN : FuncData} {tk1 tk2 tk3 : Tok} (F : Fun K "__init__" "Net.__init__" s_Net_init f fd) (T : NetTxt K mg C) (FC : Fun K "_checked" "_checked" s_checked fC fdC) (bC : Binds K fdC ["transition", "places"] []) (gC : mg "_checked" = some (.ref fC))
    (FN : Fun K "_numbers" "_numbers" s_numbers fN fdN) (bN : Binds K fdN ["row", "places", "least", "most"] []) (gN : mg "_numbers" = some (.ref fN)) (gM : mg "MOST_TOKENS" = some (.int 9 tk1)) (gP : mg "MOST_PLACES" = some (.int 12 tk2)) (gT : mg "MOST_TRANSITIONS" = some (.int 24 tk3)) (ml : mg "len" = none) (mt : mg "tuple" = none) :
    FnOk P w K mg base CX0 3 f fd ["self", "places", "transitions"] (spI d C (fun (z : {z : Nat × List Tr // 1 ≤ z.1 ∧ z.1 ≤ 12 ∧ z.2.length ≤ 24 ∧ ∀ t ∈ z.2, TrOk z.1 t}) => [rI (z.1.1 : Int), lst K (z.1.2.map Tr.d)]) (fun z => netF K z.1.1 (z.1.2.map Tr.d))) := by
  have GC : FnOk P w K mg base CX0 2 fC fdC ["transition", "places"] (spP d (fun (z : {z : Nat × Tr // TrOk z.1 z.2}) => [dat K z.1.2.d, rI (z.1.1 : Int)]) (fun z _ => dat K z.1.2.d)) := ok_checked FC FN bN gN gM ml mt
  refine fn_okG F sc_Net_init (fun vs H Q E ⟨z, x, dx, us, h1, h2, h3, _⟩ => by rw [h1, List.length_cons, h3.len]; rfl) fun vs H Q E hsp cdv A outer s hr => ?_
  obtain ⟨⟨⟨n, ts⟩, hn0, hn1, hl, hts⟩, x, dx, us, rfl, hx, hus, hdr, q⟩ := hsp
  dsimp only at hn0 hn1 hl hts hus q
  have hxd : some x ≠ d := fun e => by
    obtain ⟨ns, _, h⟩ := hdr x e.symm
    rw [hx] at h; cases h
  obtain ⟨u1, u2, rfl, hu1, hu2⟩ := hus.two
  have xE := del_ext (H := H) (x := x) hxd
  refine ⟨St (d := d) (del H x) [some (insA C x []), some (rI (n : Int)), some (lst K (ts.map Tr.d)), none], { nx := fun _ H' => Ext d (del H x) H' ∧ (insA (d := d) C x (netF K n (ts.map Tr.d))).p (.ref x) H', rt := fun _ _ => False }, ?_, ?_, ?_⟩
  · refine ⟨xE, hdr, rfl, fun i R e => ?_⟩
    match i, e with
    | 0, e => cases e; exact ⟨_, rfl, rfl, dx, [], hx, Nat.le_refl _, fun i f R k => by cases k⟩
    | 1, e => cases e; exact ⟨_, rfl, hu1⟩
    | 2, e => cases e; exact ⟨_, rfl, (lst K (ts.map Tr.d)).st xE hu2⟩
    | 3, e => cases e
    | i + 4, e => cases e
  · have hr1 : Room 2 _ := hr.mono (by decide)
    refine bx_ifret (t_not (t_chainLe x_int (x_var 1 rfl) (x_globI rfl gP))) (fun h => ?_) (fun _ => ?_)
    · rw [decide_eq_true (show (1 : Int) ≤ n by omega), decide_eq_true (show (n : Int) ≤ 12 by omega)] at h
      cases h
    refine bx_open 2 rfl fun l _ => ?_
    refine bx_ifret (t_gt (x_len_l rfl ml (x_var 2 rfl)) (x_globI rfl gT)) (fun h => ?_) (fun _ => ?_)
    · have : (24 : Int) < ((ts.map Tr.d).length : Nat) := of_decide_eq_true h.symm
      rw [List.length_map] at this
      omega
    refine bx_setfld 0 rfl (by simp) T.cl T.nP (x_var 1 rfl) del_same (io_here (io_some io_I (io_some io_lstA (io_none io_nil)))) io_I (by simp) ?_
    refine bx_setfld 0 (R := dat K (.t (ts.map Tr.d))) rfl (by simp) T.cl T.nT (x_sub (x_tuple_lE rfl mt (x_lcL 3 (fun i w => ∃ t : Tr, ts[i]? = some t ∧ w = t.d) (x_var 2 rfl) (by simp; omega) sc_Net_init.nd (blkOk_by (N := ["self", "places", "transitions", "transition"]) (sc := defScope s_Net_init) (by decide +kernel)) (fun _ _ _ _ _ => pg_name (i := 3) sc_Net_init.nd rfl (Or.inl rfl))
      (fun s H C cl fp i w hw => ?_))) fun v H' hv => ?_) del_same (io_here (io_some io_I (io_some io_lstA (io_none io_nil)))) io_dat ?_ ?_
    · rw [List.getElem?_map] at hw
      cases e : ts[i]? with
      | none => rw [e] at hw; cases hw
      | some t =>
        rw [e] at hw
        cases hw
        exact x_sub (x_call (E := E0) (R := dat K t.d) GC hr1 rfl gC FC.kp bC pass0 ⟨(n, t), hts t (List.mem_of_getElem? e)⟩ (a_cons (x_var 3 rfl) (a_cons (x_var 1 rfl) a_nil)) fun v H H' σ _ _ h => h) fun v H hv => ⟨_, ⟨t, rfl, rfl⟩, hv⟩
    · obtain ⟨w, ⟨ds, ⟨h1, h2⟩, rfl⟩, hv⟩ := hv
      have e : ds = ts.map Tr.d := by
        apply List.ext_getElem?
        intro i
        rw [List.length_map] at h1
        rw [List.getElem?_map]
        by_cases hi : i < ts.length
        · obtain ⟨t, ht, hw⟩ := h2 i _ (List.getElem?_eq_getElem (show i < ds.length by omega))
          rw [List.getElem?_eq_getElem (show i < ds.length by omega), hw, ht]
          rfl
        · rw [List.getElem?_eq_none (by omega), List.getElem?_eq_none (by omega)]
          rfl
      rw [← e]
      exact hv
    · intro p hp
      rw [List.mem_singleton.mp hp]
      exact ⟨io_I, show ¬ (("places" : Str) = "transitions") by decide +kernel⟩
    · refine bx_nil fun σ H' s => ⟨s.ext, ?_⟩
      obtain ⟨v, _, hv⟩ := s.good.get (i := 0) rfl
      obtain rfl : v = .ref x := hv.1
      exact hv
  · exact ⟨fun σ' H' _ ⟨e1, h1⟩ => q H' e1 h1, fun v H' _ h => h.elim, fun _ _ _ h => h.elim, fun _ _ _ h => h.elim⟩
end
section
variable {d : Option Addr} {X : Cx} {B : Hp} {ρ ρ' : Ro d} {a b c e iter elt : Expr} {es : List Expr} {R R' Ra Rb : Rp d} {Rs : List (Rp d)} {pos : Pos} {m n : Int} {st : Stmt} {rest body orelse : List Stmt} {Pre Mid : L2.St → Hp → Prop} {Po : Ends}
theorem passN : Passes (L2N.CX X.prog X.w) X E0 := fun _ _ _ _ _ _ _ h => by
  obtain ⟨_, _, _, _, _, _, _, _, _, _, _, _, z⟩ := h
  exact z.elim
variable {Pg : Program} {w : World} {K : PySem.W.Frag} {mg : Str → Option Value} {base : Heap}
theorem fn_okN {x qual : Str} {sd : Stmt} {f : Addr} {fd : FuncData} {N ps : List Str} {k : Nat} {sp : Sp} (F : Fun K x qual sd f fd) (S : FnScope N ps (defScope sd)) (len : ∀ vs H Q E, sp vs H Q E → vs.length = ps.length)
    (body : ∀ (vs : List V) (H : Hp) (Q : VK) (E : XK), sp vs H Q E → ∀ (cdv : Value) (A : Around) (outer : List Env) (s : Shared), Room k (A.deeper (envOfC qual (defScope sd) s.heap.objs.size f cdv)) →
      ∃ (Pre : L2.St → Hp → Prop) (Po : Ends), Pre (L2.start N vs) H ∧ BX (cxOf (L2N.CX Pg w) Pg w K mg base N qual (defScope sd) f cdv A outer s H E) (defBody sd) Pre Po ∧ Le H Po { nx := fun _ H' => Q .non H', rt := Q }) : FnOk Pg w K mg base (L2N.CX Pg w) (k + 1) f fd ps sp := by
  obtain ⟨oc, od, kV, doc, pm, an, cdv, ct, osl, rfl, lk, hcd⟩ := F.ex
  refine fn_of lk hcd S len fun A outer s H vs Q E hr hsp => ?_
  obtain ⟨Pre, Po, h1, h2, h3⟩ := body vs H Q E hsp cdv A outer s hr
  exact ⟨_, h2, h1, h3⟩
theorem fn_okH {α : Type} {As : α → List (Rp d)} {Rz : α → Hp → Rp d} {x qual : Str} {sd : Stmt} {f : Addr} {fd : FuncData} {N ps : List Str} {k : Nat} (F : Fun K x qual sd f fd) (S : FnScope N ps (defScope sd)) (hl : ∀ z, (As z).length = ps.length) (hN : ps.length ≤ N.length)
    (body : ∀ (z : α) (H : Hp) (cdv : Value) (A : Around) (outer : List Env) (s : Shared) (E : XK) (p : Addr × Obj), L2H.RoomH k (A.deeper (envOfC qual (defScope sd) s.heap.objs.size f cdv)) →
      BX (L2H.cxH CX0 Pg w K mg base N qual (defScope sd) f cdv A outer s H E p) (defBody sd) (St H (ro (As z) (N.length - (As z).length))) (Rt H (Rz z H))) : L2H.FnH Pg w K mg base CX0 (k + 1) f fd ps (spP d As Rz) := by
  obtain ⟨oc, od, kV, doc, pm, an, cdv, ct, osl, rfl, lk, hcd⟩ := F.ex
  refine L2H.fn_ofH lk hcd S (fun vs H Q E ⟨z, h, _⟩ => by rw [h.len, hl]) fun A outer s H vs Q E p hot hr hsp => ?_
  obtain ⟨z, hz, dr, q⟩ := hsp
  refine ⟨_, body z H cdv A outer s E p hr, st_start hz (by rw [hl]; exact hN) dr, ?_⟩
  exact ⟨fun σ' H' _ ⟨e1, h1⟩ => q _ H' e1 h1, fun v H' _ ⟨e1, h1⟩ => q v H' e1 h1, fun _ _ _ h => h.elim, fun _ _ _ h => h.elim⟩
theorem takes0N : L2N.Takes X (fun _ _ _ _ => False) := fun _ _ x => by
  obtain ⟨_, _, _, _, _, _, _, _, _, _, _, _, _, _, _, _, z⟩ := x
  exact z.elim
/-- raise NotEnabled(e) -/
theorem bx_raiseNE {C fI : Addr} {p pos2 : Pos} {k : Nat} {E : XK} {W : L2.WX} (T : PySem.LowX.LowTxt X.K X.mg C fI) (hr : Room k X.A) (tk : L2N.Takes X W) (hW : ∀ cls d' σ H, E cls d' H → W cls d' σ H) (ha : EX X B ρ a (rI n)) (hE : ∀ dd H1, Ext d B H1 → H1 dd = none → E (.ref C) (some dd) (upd H1 dd (.xd [(("position" : Str), .int n)])))
    (hc : X.calm = true := by rfl) (hg : Gl X "NotEnabled" := by rfl) (he : starEach (a :: []) X.env = (false, eval a X.env) :: starEach [] X.env := by rfl) (hpl : (backTo pos (starEach [] X.env)).any (·.1) = false := by rfl) :
    BX X (.Raise (some (.Call (.Name "NotEnabled" p) [a] [] pos)) none pos2 :: rest) (St B ρ) Po := by
  refine bx_cons (Mid := fun _ _ => False) ?_ bx_false
  refine PS_wk (ps_raiseLow hc T hr tk (a_cons ha a_nil he) hg he hpl) fun D σ H ⟨s, l⟩ => ?_
  refine ⟨s, fun vs H1 e1 hv => ?_⟩
  obtain ⟨v, rfl, hv'⟩ := hv.one
  obtain rfl : v = .int n := hv'
  exact ⟨_, rfl, fun dd hdd => hW _ _ _ _ (hE dd H1 (s.ext.trans e1) hdd)⟩
/-- fire(net, index, marking) -/
def spFire (d : Option Addr) (K : PySem.W.Frag) (C CE : Addr) : Sp := fun vs H Q E => ∃ (n : Nat) (Ts : List D) (i : Nat) (t : Tr) (m : List Int), RsH (d := d) [insR C (netF K n Ts), rI (i : Int), dat K (tI m)] vs H ∧ Ts[i]? = some t.d ∧ TrOk n t ∧ m.length = n ∧ n ≤ 100 ∧ (∀ a, d = some a → Drw H a) ∧
  (covb m t.tk = true → ∀ v H', Ext d H H' → (dat (d := d) K (tI (fireN t m n))).p v H' → Q v H') ∧ (covb m t.tk = false → ∀ dd H1, Ext d H H1 → H1 dd = none → E (.ref CE) (some dd) (upd H1 dd (.xd [(("position" : Str), .int 0)])))
/-- after_firing(transition, marking) -/
def spAf (d : Option Addr) (K : PySem.W.Frag) : Sp := spP d (fun (z : {z : Nat × Tr × List Int // TrOk z.1 z.2.1 ∧ z.2.2.length = z.1 ∧ z.1 ≤ 100}) => [dat K z.1.2.1.d, dat K (tI z.1.2.2)]) (fun z _ => dat K (lfire z.1.1 z.1.2.1 z.1.2.2))
theorem lfire_yes {n : Nat} {t : Tr} {m : List Int} (h : covb m t.tk = true) : lfire n t m = tI (fireN t m n) := if_pos h
theorem lfire_no {n : Nat} {t : Tr} {m : List Int} (h : covb m t.tk = false) : lfire n t m = .n := if_neg (by rw [h]; exact Bool.false_ne_true)
theorem lfire_n {n : Nat} {t : Tr} {m : List Int} : lfire n t m = .n ↔ covb m t.tk = false := by
  cases q : covb m t.tk with
  | true => rw [lfire_yes q]; exact ⟨fun h => (by cases h), fun h => (by cases h)⟩
  | false => rw [lfire_no q]; exact ⟨fun _ => rfl, fun _ => rfl⟩
/-- _law_is_integer within an except suite -/
theorem ok_is_integerH {f : Addr} {fd : FuncData} (F : Fun K "_law_is_integer" "_law_is_integer" s_law_is_integer f fd) (mi : mg "isinstance" = none) (m2 : mg "int" = none) (m3 : mg "bool" = none) : L2H.FnH Pg w K mg base CX0 1 f fd ["actual"] (spP d (fun (z : Int) => [dat K (.i z)]) (fun _ _ => rB true)) := by
  refine fn_okH F sc_law_is_integer (fun _ => rfl) (by decide) fun z H cdv A outer s E p hr => ?_
  refine bx_retR (x_bIs (x_and (x_B (x_isi "int" "int" true rfl mi rfl m2 (by decide +kernel) rfl (by decide +kernel) (x_var 0 rfl))) fun _ => x_one (x_not (x_B (x_isi "bool" "int" false rfl mi rfl m3 (by decide +kernel) rfl (by decide +kernel) (x_var 0 rfl))))) fun q hq => ?_) rfl
  rcases hq with ⟨_, h⟩ | ⟨h, _⟩
  · cases q with
    | true => rfl
    | false => cases h
  · cases h
end
/-! ### the mathematics of firing -/
theorem covb_get : ∀ {xs ys : List Int} {i : Nat} {a b : Int}, covb xs ys = true → xs[i]? = some a → ys[i]? = some b → ¬ a < b := fun {xs ys i a b} h ha hb hlt => by
  rw [covb_lt ha hb hlt] at h
  cases h
theorem trs_of {n : Nat} : ∀ {ds : List D}, (∀ (k : Nat) (w : D), ds[k]? = some w → okTr n false w) → ∃ ts : List Tr, ds = ts.map Tr.d ∧ ∀ t ∈ ts, TrOk n t
  | [], _ => ⟨[], rfl, fun t h => by cases h⟩
  | e :: ds, h => by
    obtain ⟨t, ht, hok, _⟩ := h 0 e rfl
    obtain ⟨ts, hts, hall⟩ := trs_of (ds := ds) fun k w hk => h (k + 1) w hk
    exact ⟨t :: ts, by rw [ht, hts]; rfl, fun u hu => by
      rcases List.mem_cons.mp hu with rfl | hu
      · exact hok
      · exact hall u hu⟩
theorem getD_nn {l : List Int} (h : ∀ x ∈ l, 0 ≤ x) (i : Nat) : 0 ≤ l.getD i 0 := by
  cases e : l[i]? with
  | none => rw [List.getD_eq_getElem?_getD, e]; exact Int.le_refl _
  | some x => rw [getD_of e]; exact h x (List.mem_of_getElem? e)
theorem fireN_nn {n : Nat} {t : Tr} {m : List Int} (ht : TrOk n t) (hm : m.length = n) (hc : covb m t.tk = true) : ∀ i, i ≤ n → ∀ x ∈ fireN t m i, 0 ≤ x
  | 0, _, x, hx => (ht.b2 x hx).1
  | i + 1, hi, x, hx => by
    have ih := fireN_nn ht hm hc i (by omega)
    rw [fireN_succ] at hx
    obtain ⟨g, hg⟩ := ex_i ht.l3 (show i < n by omega)
    obtain ⟨a, ha⟩ := ex_i hm (show i < n by omega)
    obtain ⟨b, hb⟩ := ex_i ht.l1 (show i < n by omega)
    rw [stepF_eq hg ha hb] at hx
    split at hx
    · exact ih x hx
    · rcases mem_set hx with h | h
      · have h1 := covb_get hc ha hb
        have h2 := getD_nn ih g.toNat
        omega
      · exact ih x h
theorem fireN_mono {n : Nat} {t : Tr} {m g : List Int} (ht : TrOk n t) (hm : m.length = n) (hg : g.length = n) (hle : ∀ (i : Nat) a b, m[i]? = some a → g[i]? = some b → a ≤ b) : ∀ i, i ≤ n → ∀ (j : Nat) x y, (fireN t m i)[j]? = some x → (fireN t g i)[j]? = some y → x ≤ y
  | 0, _, j, x, y, hx, hy => by
    have : x = y := Option.some.inj (hx.symm.trans hy)
    omega
  | i + 1, hi, j, x, y, hx, hy => by
    have ih := fireN_mono ht hm hg hle i (by omega)
    obtain ⟨c, hc⟩ := ex_i ht.l3 (show i < n by omega)
    obtain ⟨a, ha⟩ := ex_i hm (show i < n by omega)
    obtain ⟨a', ha'⟩ := ex_i hg (show i < n by omega)
    obtain ⟨b, hb⟩ := ex_i ht.l1 (show i < n by omega)
    rw [fireN_succ, stepF_eq hc ha hb] at hx
    rw [fireN_succ, stepF_eq hc ha' hb] at hy
    by_cases h : c = -1
    · rw [if_pos h] at hx hy
      exact ih j x y hx hy
    · rw [if_neg h] at hx hy
      by_cases hj : c.toNat = j
      · subst hj
        have hl1 : c.toNat < (fireN t m i).length := by have := (List.getElem?_eq_some_iff.mp hx).1; simpa using this
        have hl2 : c.toNat < (fireN t g i).length := by rw [fireN_len] at hl1 ⊢; exact hl1
        rw [List.getElem?_set_self hl1] at hx
        rw [List.getElem?_set_self hl2] at hy
        have h1 := ih c.toNat _ _ (List.getElem?_eq_getElem hl1) (List.getElem?_eq_getElem hl2)
        rw [getD_of (List.getElem?_eq_getElem hl1)] at hx
        rw [getD_of (List.getElem?_eq_getElem hl2)] at hy
        have h2 := hle i a a' ha ha'
        have hx' := Option.some.inj hx
        have hy' := Option.some.inj hy
        omega
      · rw [List.getElem?_set_ne hj] at hx hy
        exact ih j x y hx hy
section
variable {P : Program} {w : World} {K : PySem.W.Frag} {mg : Str → Option Value} {base : Heap}
theorem x_makeZ {d : Option Addr} {R : Rp d} {B : Hp} {X : Cx} {ρ : Ro d} {e : Expr} {es : List Expr} {pos : Pos} {α : Type} {C : Addr} {As : α → List (Rp d)} {F : α → List (Str × Rp d)} {x : Str} {p : Pos} {f : Addr} {fd : FuncData} {ps : List Str} {k : Nat} {CX : CXT} {E : XK} (z : α) (M : Mk X.K C f) (G : FnOk X.prog X.w X.K X.mg X.base CX k f fd ps (spI d C As F)) (hr : Room (k + 1) X.A) (hg : Gl X x) (hm : X.mg x = some (.ref C)) (hb : Binds X.K fd ps []) (hx : Passes CX X E)
    (ha : AX X B ρ (e :: es) (As z)) (hR : insR C (F z) = R)
    (hdb : (x == ("__debug__" : Str)) = false := by decide) (he : starEach (e :: es) X.env = (false, eval e X.env) :: starEach es X.env := by rfl) (hpl : (backTo pos (starEach es X.env)).any (·.1) = false := by rfl) : EX X B ρ (.Call (.Name x p) (e :: es) [] pos) R := hR ▸ x_make M G hr hg hm hb hx z ha hdb he hpl
def spLaw (K : PySem.W.Frag) : Sp := fun vs H Q _ => ∃ (a : Addr) (ns : List Int), vs = [.ref a] ∧ SqL K H a (ns.map V.int) ∧ ns.length ≤ 63 ∧ ∀ H', Q (.bl true) H'
end
/-! ### runs -/
/-- the transitions of a run fired one by one: what is reached, or the place of the first that cannot be fired -/
def runTo (n : Nat) (ts : List Tr) (m : List Int) (run : List Nat) : Nat → (List Int) ⊕ Nat
  | 0 => .inl m
  | j + 1 => match runTo n ts m run j with
    | .inr p => .inr p
    | .inl c => match run[j]? with
      | none => .inl c
      | some i => match ts[i]? with
        | none => .inr j
        | some t => if covb c t.tk = true then .inl (fireN t c n) else .inr j
theorem runTo_step {n : Nat} {ts : List Tr} {m c : List Int} {run : List Nat} {j i : Nat} {t : Tr} (h : runTo n ts m run j = .inl c) (h1 : run[j]? = some i) (h2 : ts[i]? = some t) : runTo n ts m run (j + 1) = if covb c t.tk = true then .inl (fireN t c n) else .inr j := by
  simp only [runTo, h, h1, h2]
theorem runTo_stop {n : Nat} {ts : List Tr} {m : List Int} {run : List Nat} {j p : Nat} (h : runTo n ts m run j = .inr p) : ∀ k, j ≤ k → runTo n ts m run k = .inr p
  | 0, hk => by
    have : j = 0 := by omega
    rw [this] at h
    exact h
  | k + 1, hk => by
    by_cases hj : j = k + 1
    · rw [← hj]; exact h
    · have ih := runTo_stop h k (by omega)
      simp only [runTo, ih]
theorem runTo_len {n : Nat} {ts : List Tr} {m : List Int} {run : List Nat} (hts : ∀ t ∈ ts, TrOk n t) (hm : m.length = n) : ∀ {j : Nat} {c : List Int}, runTo n ts m run j = .inl c → c.length = n
  | 0, c, h => by
    have : m = c := Sum.inl.inj h
    rw [← this]; exact hm
  | j + 1, c, h => by
    cases q : runTo n ts m run j with
    | inr p => simp only [runTo, q] at h; cases h
    | inl c0 =>
      have ih := runTo_len hts hm q
      cases q1 : run[j]? with
      | none => simp only [runTo, q, q1] at h; cases h; exact ih
      | some i =>
        cases q2 : ts[i]? with
        | none => simp only [runTo, q, q1, q2] at h; cases h
        | some t =>
          rw [runTo_step q q1 q2] at h
          split at h
          · cases h
            rw [fireN_len, (hts t (List.mem_of_getElem? q2)).l2]
          · cases h
abbrev runD (run : List Nat) : List D := run.map fun (i : Nat) => D.i (i : Int)
theorem getN {ns : List Nat} {i : Nat} {w : D} (h : (runD ns)[i]? = some w) : ∃ n : Nat, ns[i]? = some n ∧ w = .i (n : Int) := by
  rw [List.getElem?_map] at h
  cases q : ns[i]? with
  | none => rw [q] at h; cases h
  | some z => rw [q] at h; cases h; exact ⟨z, rfl, rfl⟩
section
variable {d : Option Addr} {Pg : Program} {w : World} {K : PySem.W.Frag} {mg : Str → Option Value} {base : Heap}
def runR (d : Option Addr) (K : PySem.W.Frag) (run : List Nat) (b : Bool) : Rp d := match b with
  | true => lst K (runD run)
  | false => dat K (.t (runD run))
/-- run_from(net, marking, run) -/
def spRun (d : Option Addr) (K : PySem.W.Frag) (C CE : Addr) (b : Bool) : Sp := fun vs H Q E => ∃ (n : Nat) (ts : List Tr) (m : List Int) (run : List Nat), RsH (d := d) [insR C (netF K n (ts.map Tr.d)), dat K (tI m), runR d K run b] vs H ∧ (∀ t ∈ ts, TrOk n t) ∧ (∀ i ∈ run, i < ts.length) ∧ m.length = n ∧ n ≤ 100 ∧ (∀ a, d = some a → Drw H a) ∧
  (∀ c, runTo n ts m run run.length = .inl c → ∀ v H', Ext d H H' → (dat (d := d) K (tI c)).p v H' → Q v H') ∧ (∀ p, runTo n ts m run run.length = .inr p → ∀ dd H1, Ext d H H1 → H1 dd = none → E (.ref CE) (some dd) (upd H1 dd (.xd [(("position" : Str), .int (p : Int))])))
end
/-! ### plain nets -/
def plainB (n : Nat) (ts : List Tr) : Bool := ts.all fun t => decide (t.mv = upTo n)
theorem plainB_of {n : Nat} {ts : List Tr} (h : ∀ t ∈ ts, t.mv = upTo n) : plainB n ts = true := List.all_eq_true.mpr fun t ht => decide_eq_true (h t ht)
theorem plainB_no {n : Nat} {ts : List Tr} {t : Tr} (ht : t ∈ ts) (h : ¬ t.mv = upTo n) : plainB n ts = false := by
  cases q : plainB n ts with
  | false => rfl
  | true => exact absurd (of_decide_eq_true (List.all_eq_true.mp q t ht)) h
theorem plainB_iff {n : Nat} {ts : List Tr} (h : plainB n ts = true) : ∀ t ∈ ts, t.mv = upTo n := fun t ht => of_decide_eq_true (List.all_eq_true.mp h t ht)
theorem tI_inj {xs ys : List Int} (h : tI xs = tI ys) : xs = ys := by
  injection h with h
  exact (List.map_inj_right (f := D.i) fun a b q => by injection q).mp h
section
variable {d : Option Addr} {Pg : Program} {w : World} {K : PySem.W.Frag} {mg : Str → Option Value} {base : Heap}
/-- runs_plainly(net, run) -/
theorem ok_runs_plainly {f C : Addr} {fd : FuncData} (F : Fun K "runs_plainly" "runs_plainly" s_runs_plainly f fd) (T : NetTxt K mg C) (mt : mg "tuple" = none) (mr : mg "range" = none) : FnOk Pg w K mg base CX0 1 f fd ["net", "run"]
    (spP d (fun (z : {z : Nat × List Tr × List Nat // (∀ i ∈ z.2.2, i < z.2.1.length) ∧ z.1 ≤ 100}) => [insR C (netF K z.1.1 (z.1.2.1.map Tr.d)), lst K (runD z.1.2.2)]) (fun z _ => rB (plainB z.1.1 (z.1.2.2.filterMap fun i => z.1.2.1[i]?)))) := by
  refine fn_ok F sc_runs_plainly (fun _ => rfl) (by decide) fun z H cdv A outer s E hr => ?_
  obtain ⟨⟨n, ts, run⟩, hrun, hn⟩ := z
  dsimp only at hrun hn ⊢
  have hr0 : Room 0 _ := hr
  refine bx_set 2 (x_tupR rfl mt rfl mr (x_fld 1 T.cl T.nP (x_var 0 rfl)) (by omega)) (bx_open 1 rfl fun la _ => ?_) sc_runs_plainly.nd
  have en : ((n : Int)).toNat = n := by omega
  rw [en]
  refine bx_forL 3 (fun i (_ : Unit) => ∀ (j ix : Nat) (t : Tr), j < i → run[j]? = some ix → ts[ix]? = some t → t.mv = upTo n) (fun _ _ => [some (insR C (netF K n (ts.map Tr.d))), some (lstA K la (runD run)), some (dat K (tI (upTo n))), none]) (x_var 1 rfl) (fun σ H' s => ⟨(), fun _ _ _ h => absurd h (Nat.not_lt_zero _), s.sub (by (repeat (first | exact Sub.nil | refine Sub.same ?_ | refine Sub.drop ?_)))⟩) (fun _ _ _ => ⟨1, _, rfl, fun v H h => h⟩) (fun i w _ hw hz => ?_) (bx_ex fun _ hz => ?_) sc_runs_plainly.nd PassesOwn.never
  · obtain ⟨ix, hix, rfl⟩ := getN hw
    obtain ⟨t, ht⟩ : ∃ t, ts[ix]? = some t := ⟨ts[ix]'(hrun ix (List.mem_of_getElem? hix)), List.getElem?_eq_getElem _⟩
    have hti : (ts.map Tr.d)[ix]? = some t.d := by rw [List.getElem?_map, ht]; rfl
    refine bx_ifret (t_neD (k := 1) (j := 1) (x := tI t.mv) (y := tI (upTo n)) (Room.units hr0) (x_ixt (ds := [tI t.tk, tI t.gv, tI t.mv]) (j := 2) (x_ixt (w := t.d) (x_fld 0 T.cl T.nT (x_var 0 rfl)) (x_dI (x_var 3 rfl)) (atI_nat hti)) x_int rfl) (x_var 2 rfl) (shp_tI _) (shp_tI _)) (fun h => ?_) (fun h => bx_nil fun σ H' s => ⟨(), fun j jx u hj hjx hu => ?_, s.sub (by (repeat (first | exact Sub.nil | refine Sub.same ?_ | refine Sub.drop ?_)))⟩)
    · have hne : ¬ t.mv = upTo n := fun e => by
        have := h.mpr (by rw [e])
        cases this
      refine bx_ret x_bl fun v σ H' s hv => ⟨s.ext, ?_⟩
      show v = .bl (plainB n (run.filterMap fun i => ts[i]?))
      rw [plainB_no (t := t) (List.mem_filterMap.mpr ⟨ix, List.mem_of_getElem? hix, ht⟩) hne]
      exact hv
    · by_cases hji : j = i
      · subst hji
        rw [hix] at hjx; cases hjx
        rw [ht] at hu; cases hu
        exact tI_inj (h.mp rfl)
      · exact hz j jx u (by omega) hjx hu
  · refine bx_ret x_bl fun v σ H' s hv => ⟨s.ext, ?_⟩
    show v = .bl (plainB n (run.filterMap fun i => ts[i]?))
    rw [plainB_of fun t ht => ?_]
    · exact hv
    · obtain ⟨ix, hm, ht⟩ := List.mem_filterMap.mp ht
      obtain ⟨j, hj⟩ := List.getElem?_of_mem hm
      exact hz j ix t (by rw [List.length_map]; exact (List.getElem?_eq_some_iff.mp hj).1) hj ht
theorem all_of {ts : List Tr} : (List.range ts.length).filterMap (fun i => ts[i]?) = ts := by
  apply List.ext_getElem?
  intro k
  have : ∀ (xs : List Nat), (∀ i ∈ xs, i < ts.length) → xs.filterMap (fun i => ts[i]?) = xs.map fun i => ts.getD i ⟨[], [], []⟩ := fun xs => by
    induction xs with
    | nil => intro _; rfl
    | cons x xs ih =>
      intro h
      have hx := h x List.mem_cons_self
      rw [List.filterMap_cons, List.getElem?_eq_getElem hx]
      dsimp only
      rw [ih fun i hi => h i (List.mem_cons_of_mem _ hi), List.map_cons, List.getD_eq_getElem?_getD, List.getElem?_eq_getElem hx]
      rfl
  rw [this _ fun i hi => List.mem_range.mp hi, List.getElem?_map]
  by_cases hk : k < ts.length
  · rw [List.getElem?_range hk, List.getElem?_eq_getElem hk]
    show some (ts.getD k _) = _
    rw [List.getD_eq_getElem?_getD, List.getElem?_eq_getElem hk]
    rfl
  · rw [List.getElem?_eq_none (by simp; omega), List.getElem?_eq_none (by omega)]
    rfl
theorem ok_is_plain {f C fR : Addr} {fd fdR : FuncData} (F : Fun K "is_plain" "is_plain" s_is_plain f fd) (T : NetTxt K mg C) (FR : Fun K "runs_plainly" "runs_plainly" s_runs_plainly fR fdR) (bR : Binds K fdR ["net", "run"] []) (gR : mg "runs_plainly" = some (.ref fR)) (mt : mg "tuple" = none) (mr : mg "range" = none) (mL : mg "list" = none) (ml : mg "len" = none) : FnOk Pg w K mg base CX0 2 f fd ["net"]
    (spP d (fun (z : {z : Nat × List Tr // z.1 ≤ 100 ∧ z.2.length ≤ 900}) => [insR C (netF K z.1.1 (z.1.2.map Tr.d))]) (fun z _ => rB (plainB z.1.1 z.1.2))) := by
  refine fn_ok F sc_is_plain (fun _ => rfl) (by decide) fun z H cdv A outer s E hr => ?_
  obtain ⟨⟨n, ts⟩, hn, hl⟩ := z
  dsimp only at hn hl ⊢
  refine bx_retR (x_call (E := E0) (ok_runs_plainly (Pg := Pg) (w := w) (base := base) FR T mt mr) (hr.mono (by decide)) rfl gR FR.kp bR pass0 ⟨(n, ts, List.range ts.length), fun i hi => List.mem_range.mp hi, hn⟩ (a_cons (x_var 0 rfl) (a_cons (x_sub (x_listR rfl mL rfl mr (x_len_t rfl ml (x_fld 0 T.cl T.nT (x_var 0 rfl))) (by rw [List.length_map]; omega)) fun v H h => ?_) a_nil)) fun v H H' σ _ _ h => ?_) rfl
  · have h' := newL_lst h
    have e : ((((ts.map Tr.d).length : Nat) : Int)).toNat = ts.length := by rw [List.length_map]; omega
    rw [e] at h'
    exact h'
  · dsimp only at h
    rw [all_of] at h
    exact h
abbrev spPlain (d : Option Addr) (K : PySem.W.Frag) (C : Addr) (c : Value) : Sp := spE d (fun (z : {z : Nat × List Tr // z.1 ≤ 100 ∧ z.2.length ≤ 900}) => [insR C (netF K z.1.1 (z.1.2.map Tr.d))]) (fun z => plainB z.1.1 z.1.2 = true) (fun _ => rAny) (fun z => plainB z.1.1 z.1.2 = false) c
theorem ok_check_plain {f C CP fI fR : Addr} {fd fdI fdR : FuncData} (F : Fun K "check_plain" "check_plain" s_check_plain f fd) (T : NetTxt K mg C) (TP : ErrTxt K mg CP "NotPlain") (FI : Fun K "is_plain" "is_plain" s_is_plain fI fdI) (bI : Binds K fdI ["net"] []) (gI : mg "is_plain" = some (.ref fI)) (FR : Fun K "runs_plainly" "runs_plainly" s_runs_plainly fR fdR) (bR : Binds K fdR ["net", "run"] []) (gR : mg "runs_plainly" = some (.ref fR)) (mt : mg "tuple" = none) (mr : mg "range" = none) (mL : mg "list" = none) (ml : mg "len" = none) : FnOk Pg w K mg base (L2.CX Pg w) 3 f fd ["net"] (spPlain d K C (.ref CP)) := by
  refine fn_okE F sc_check_plain (fun _ => rfl) (by decide) fun z H cdv A outer s E hr hE _ => ?_
  obtain ⟨⟨n, ts⟩, hn, hl⟩ := z
  dsimp only at hn hl hE ⊢
  refine bx_ifret (t_not (t_val (x_call (E := E0) (R := rB (plainB n ts)) (ok_is_plain (Pg := Pg) (w := w) (base := base) FI T FR bR gR mt mr mL ml) (hr.mono (by decide)) rfl gI FI.kp bI pass0 ⟨(n, ts), hn, hl⟩ (a_cons (x_var 0 rfl) a_nil) fun v H H' σ _ _ h => h))) (fun h => ?_) (fun h => ?_)
  · have hp : plainB n ts = false := by
      cases q : plainB n ts with
      | false => rfl
      | true => rw [q] at h; cases h
    exact bx_raiseC (E := E) (W := fun cls d' _ H => E cls d' H) TP (takes_of rfl rfl rfl rfl) (fun _ _ h => h) (hE hp)
  · have hp : plainB n ts = true := by
      cases q : plainB n ts with
      | true => rfl
      | false => rw [q] at h; cases h
    exact bx_nil fun σ H' s => ⟨hp, s.ext, trivial⟩
end
/-! ### what a run needs, what it changes -/
def neS (p : Nat) (s : Int × Int) (t : Tr) : Int × Int := (max s.1 (t.tk.getD p 0 - s.2), s.2 + (t.gv.getD p 0 - t.tk.getD p 0))
def neF (p : Nat) (us : List Tr) : Int × Int := us.foldl (neS p) (0, 0)
theorem neF_succ {p j : Nat} {us : List Tr} {t : Tr} (h : us[j]? = some t) : neF p (us.take (j + 1)) = neS p (neF p (us.take j)) t := by
  unfold neF
  rw [List.take_add_one, h, List.foldl_append]
  rfl
def bnF (p : Nat) : List Tr → Int
  | [] => 0
  | t :: r => t.tk.getD p 0 + max 0 (bnF p r - t.gv.getD p 0)
theorem fwd_bwd {p : Nat} : ∀ {us : List Tr} {l c : Int}, (∀ t ∈ us, 0 ≤ t.gv.getD p 0) → 0 ≤ l + c → (us.foldl (neS p) (l, c)).1 = max l (bnF p us - c)
  | [], l, c, _, h => by
    show l = max l (0 - c)
    omega
  | t :: r, l, c, hu, h => by
    have hg := hu t List.mem_cons_self
    rw [List.foldl_cons]
    show (r.foldl (neS p) (max l (t.tk.getD p 0 - c), c + (t.gv.getD p 0 - t.tk.getD p 0))).1 = max l (t.tk.getD p 0 + max 0 (bnF p r - t.gv.getD p 0) - c)
    rw [fwd_bwd (us := r) (fun u hu' => hu u (List.mem_cons_of_mem _ hu')) (by omega)]
    omega
theorem bnF_nn {p : Nat} : ∀ {us : List Tr}, (∀ t ∈ us, 0 ≤ t.tk.getD p 0) → 0 ≤ bnF p us
  | [], _ => Int.le_refl _
  | t :: r, h => by
    have := h t List.mem_cons_self
    show 0 ≤ t.tk.getD p 0 + max 0 (bnF p r - t.gv.getD p 0)
    omega
theorem neF_bwd {p : Nat} {us : List Tr} (h1 : ∀ t ∈ us, 0 ≤ t.gv.getD p 0) (h2 : ∀ t ∈ us, 0 ≤ t.tk.getD p 0) : (neF p us).1 = bnF p us := by
  have := bnF_nn h2
  unfold neF
  rw [fwd_bwd h1 (by omega)]
  omega
theorem neF_nn {p : Nat} {us : List Tr} (h1 : ∀ t ∈ us, 0 ≤ t.gv.getD p 0) (h2 : ∀ t ∈ us, 0 ≤ t.tk.getD p 0) : 0 ≤ (neF p us).1 := by
  rw [neF_bwd h1 h2]
  exact bnF_nn h2
theorem neF_ge {p : Nat} {us : List Tr} (h : ∀ t ∈ us, -9 ≤ t.gv.getD p 0 - t.tk.getD p 0) : -(9 * (us.length : Int)) ≤ (neF p us).2 := by
  have : ∀ (us : List Tr) (s : Int × Int), (∀ t ∈ us, -9 ≤ t.gv.getD p 0 - t.tk.getD p 0) → s.2 - 9 * (us.length : Int) ≤ (us.foldl (neS p) s).2 := fun us => by
    induction us with
    | nil => intro s _; show s.2 - 9 * ((0 : Nat) : Int) ≤ s.2; omega
    | cons t r ih =>
      intro s h
      have h1 := h t List.mem_cons_self
      have h2 := ih (neS p s t) fun u hu => h u (List.mem_cons_of_mem _ hu)
      rw [List.foldl_cons, List.length_cons]
      have : (neS p s t).2 = s.2 + (t.gv.getD p 0 - t.tk.getD p 0) := rfl
      omega
  have := this us (0, 0) h
  unfold neF
  simp only at this
  omega
/-- the numbers of n places -/
def vec (n : Nat) (f : Nat → Int) : List Int := (List.range n).map f
theorem vec_len {n : Nat} {f : Nat → Int} : (vec n f).length = n := by unfold vec; simp
theorem vec_get {n p : Nat} {f : Nat → Int} (h : p < n) : (vec n f)[p]? = some (f p) := by unfold vec; rw [List.getElem?_map, List.getElem?_range h]; rfl
theorem vec_of {n : Nat} {l : List Int} (h : l.length = n) : l = vec n fun p => l.getD p 0 := by
  apply List.ext_getElem?
  intro p
  by_cases hp : p < n
  · rw [vec_get hp, List.getD_eq_getElem?_getD, List.getElem?_eq_getElem (by omega)]
    rfl
  · rw [List.getElem?_eq_none (by omega), List.getElem?_eq_none (by rw [vec_len]; omega)]
theorem vec_eq {n : Nat} {f g : Nat → Int} (h : ∀ p, p < n → f p = g p) : vec n f = vec n g := List.map_congr_left fun p hp => h p (List.mem_range.mp hp)
theorem vec_set {n p : Nat} {f g : Nat → Int} {z : Int} (hz : z = g p) (h : ∀ q, q ≠ p → f q = g q) : (vec n f).set p z = vec n g := by
  apply List.ext_getElem?
  intro q
  by_cases hq : q < n
  · rw [vec_get hq]
    by_cases hp : p = q
    · subst hp
      rw [List.getElem?_set_self (by rw [vec_len]; exact hq), hz]
    · rw [List.getElem?_set_ne hp, vec_get hq, h q (fun z => hp z.symm)]
  · rw [List.getElem?_eq_none (by rw [List.length_set, vec_len]; omega), List.getElem?_eq_none (by rw [vec_len]; omega)]
theorem vec_rep {n : Nat} : List.replicate n (0 : Int) = vec n fun _ => 0 := by
  apply List.ext_getElem?
  intro p
  by_cases hp : p < n
  · rw [vec_get hp, List.getElem?_replicate, if_pos hp]
  · rw [List.getElem?_eq_none (by simp; omega), List.getElem?_eq_none (by rw [vec_len]; omega)]
theorem vec_mem {n : Nat} {f : Nat → Int} {x : Int} (h : x ∈ vec n f) : ∃ p, p < n ∧ x = f p := by
  obtain ⟨p, hp, rfl⟩ := List.mem_map.mp h
  exact ⟨p, List.mem_range.mp hp, rfl⟩
/-- the transitions of a run -/
def trs (ts : List Tr) (run : List Nat) : List Tr := run.map fun i => ts.getD i ⟨[], [], []⟩
theorem trs_get {ts : List Tr} {run : List Nat} {j ix : Nat} {t : Tr} (h1 : run[j]? = some ix) (h2 : ts[ix]? = some t) : (trs ts run)[j]? = some t := by
  unfold trs
  rw [List.getElem?_map, h1]
  show some (ts.getD ix _) = _
  rw [List.getD_eq_getElem?_getD, h2]
  rfl
theorem trs_len {ts : List Tr} {run : List Nat} : (trs ts run).length = run.length := by unfold trs; simp
theorem trs_mem {ts : List Tr} {run : List Nat} (h : ∀ i ∈ run, i < ts.length) {t : Tr} (ht : t ∈ trs ts run) : t ∈ ts := by
  obtain ⟨i, hi, rfl⟩ := List.mem_map.mp ht
  rw [List.getD_eq_getElem?_getD, List.getElem?_eq_getElem (h i hi)]
  exact List.getElem_mem _
theorem tr_nn {n : Nat} {t : Tr} (h : TrOk n t) (p : Nat) : 0 ≤ t.tk.getD p 0 ∧ t.tk.getD p 0 ≤ 9 ∧ 0 ≤ t.gv.getD p 0 := by
  have g : ∀ {l : List Int} {lo hi : Int}, (∀ x ∈ l, lo ≤ x ∧ x ≤ hi) → lo ≤ 0 → 0 ≤ hi → lo ≤ l.getD p 0 ∧ l.getD p 0 ≤ hi := fun {l lo hi} h h1 h2 => by
    cases e : l[p]? with
    | none => rw [List.getD_eq_getElem?_getD, e]; exact ⟨h1, h2⟩
    | some x => rw [getD_of e]; exact h x (List.mem_of_getElem? e)
  have a := g h.b1 (by omega) (by omega)
  have b := g h.b2 (by omega) (by omega)
  exact ⟨a.1, a.2, b.1⟩
theorem fire_plain {n : Nat} {t : Tr} {m : List Int} (ht : TrOk n t) (hp : t.mv = upTo n) (hm : m.length = n) : ∀ i, i ≤ n → fireN t m i = vec n fun p => if p < i then t.gv.getD p 0 + (m.getD p 0 - t.tk.getD p 0) else t.gv.getD p 0
  | 0, _ => by
    have : fireN t m 0 = t.gv := rfl
    rw [this]
    exact (vec_of ht.l2).trans (vec_eq fun p _ => by rw [if_neg (Nat.not_lt_zero p)])
  | i + 1, hi => by
    have ih := fire_plain ht hp hm i (by omega)
    have hg : t.mv[i]? = some (i : Int) := by rw [hp]; unfold upTo; rw [List.getElem?_map, List.getElem?_range (by omega)]; rfl
    obtain ⟨a, ha⟩ := ex_i hm (show i < n by omega)
    obtain ⟨b, hb⟩ := ex_i ht.l1 (show i < n by omega)
    rw [fireN_succ, stepF_eq hg ha hb, if_neg (by omega), ih]
    have e1 : ((i : Int)).toNat = i := by omega
    rw [e1]
    have e2 : (vec n fun p => if p < i then t.gv.getD p 0 + (m.getD p 0 - t.tk.getD p 0) else t.gv.getD p 0).getD i 0 = t.gv.getD i 0 := by
      rw [getD_of (vec_get (show i < n by omega)), if_neg (Nat.lt_irrefl i)]
    rw [e2]
    refine vec_set ?_ fun q hq => ?_
    · rw [if_pos (Nat.lt_succ_self i), getD_of ha, getD_of hb]
    · by_cases h : q < i
      · rw [if_pos h, if_pos (by omega)]
      · rw [if_neg h, if_neg (by omega)]
theorem covb_vec {n : Nat} {t : Tr} {f : Nat → Int} (ht : TrOk n t) : covb (vec n f) t.tk = true ↔ ∀ p, p < n → t.tk.getD p 0 ≤ f p := by
  constructor
  · intro h p hp
    obtain ⟨b, hb⟩ := ex_i ht.l1 hp
    have := covb_get h (vec_get hp) hb
    rw [getD_of hb]
    omega
  · intro h
    refine covb_all fun k a b ha hb hlt => ?_
    have hk : k < n := by have := (List.getElem?_eq_some_iff.mp hb).1; rw [ht.l1] at this; exact this
    rw [vec_get hk] at ha
    cases ha
    have := h k hk
    rw [getD_of hb] at this
    omega
/-- a run of a plain net by sums -/
theorem runTo_plain {n : Nat} {ts : List Tr} {m : List Int} {run : List Nat} (hts : ∀ t ∈ ts, TrOk n t) (hpl : ∀ t ∈ ts, t.mv = upTo n) (hrun : ∀ i ∈ run, i < ts.length) (hm : m.length = n) (hm0 : ∀ x ∈ m, 0 ≤ x) : ∀ j, j ≤ run.length →
    ((∀ p, p < n → (neF p ((trs ts run).take j)).1 ≤ m.getD p 0) → runTo n ts m run j = .inl (vec n fun p => m.getD p 0 + (neF p ((trs ts run).take j)).2)) ∧ ((∃ p, p < n ∧ m.getD p 0 < (neF p ((trs ts run).take j)).1) → ∃ q, runTo n ts m run j = .inr q)
  | 0, _ => by
    refine ⟨fun _ => ?_, fun ⟨p, hp, h⟩ => ?_⟩
    · show Sum.inl m = _
      refine congrArg Sum.inl ((vec_of hm).trans (vec_eq fun p _ => ?_))
      show _ = _ + (0 : Int)
      omega
    · have h1 := getD_nn hm0 p
      have h2 : (neF p ((trs ts run).take 0)).1 = 0 := rfl
      omega
  | j + 1, hj => by
    have ih := runTo_plain hts hpl hrun hm hm0 j (by omega)
    obtain ⟨ix, hix⟩ : ∃ ix, run[j]? = some ix := ⟨run[j], List.getElem?_eq_getElem (by omega)⟩
    obtain ⟨t, ht⟩ : ∃ t, ts[ix]? = some t := ⟨ts[ix]'(hrun ix (List.mem_of_getElem? hix)), List.getElem?_eq_getElem _⟩
    have htk := hts t (List.mem_of_getElem? ht)
    have hus := trs_get hix ht
    have e : ∀ p, neF p ((trs ts run).take (j + 1)) = neS p (neF p ((trs ts run).take j)) t := fun p => neF_succ hus
    have e1 : ∀ p, (neF p ((trs ts run).take (j + 1))).1 = max (neF p ((trs ts run).take j)).1 (t.tk.getD p 0 - (neF p ((trs ts run).take j)).2) := fun p => by rw [e p]; rfl
    have e2 : ∀ p, (neF p ((trs ts run).take (j + 1))).2 = (neF p ((trs ts run).take j)).2 + (t.gv.getD p 0 - t.tk.getD p 0) := fun p => by rw [e p]; rfl
    by_cases hall : ∀ p, p < n → (neF p ((trs ts run).take j)).1 ≤ m.getD p 0
    · have h1 := ih.1 hall
      have hst := runTo_step h1 hix ht
      refine ⟨fun h => ?_, fun ⟨p, hp, h⟩ => ?_⟩
      · have hcv : covb (vec n fun p => m.getD p 0 + (neF p ((trs ts run).take j)).2) t.tk = true := (covb_vec htk).mpr fun p hp => by
          have := h p hp
          rw [e1 p] at this
          omega
        rw [hcv, if_pos rfl] at hst
        rw [hst]
        refine congrArg Sum.inl ?_
        rw [fire_plain htk (hpl t (List.mem_of_getElem? ht)) vec_len n (Nat.le_refl _)]
        refine vec_eq fun p hp => ?_
        rw [if_pos hp, getD_of (vec_get hp), e2 p]
        omega
      · have hcv : covb (vec n fun p => m.getD p 0 + (neF p ((trs ts run).take j)).2) t.tk = false := by
          cases q : covb (vec n fun p => m.getD p 0 + (neF p ((trs ts run).take j)).2) t.tk with
          | false => rfl
          | true =>
            have h2 := (covb_vec htk).mp q p hp
            have h3 := hall p hp
            rw [e1 p] at h
            omega
        rw [hcv, if_neg Bool.false_ne_true] at hst
        exact ⟨j, hst⟩
    · have hex : ∃ p, p < n ∧ m.getD p 0 < (neF p ((trs ts run).take j)).1 := by
        refine Classical.byContradiction fun hn => hall fun p hp => ?_
        exact Int.not_lt.mp fun h => hn ⟨p, hp, h⟩
      obtain ⟨q, hq⟩ := ih.2 hex
      have hq' := runTo_stop hq (j + 1) (by omega)
      refine ⟨fun h => ?_, fun _ => ⟨q, hq'⟩⟩
      obtain ⟨p, hp, h3⟩ := hex
      have := h p hp
      rw [e1 p] at this
      omega
section
variable {d : Option Addr} {X : Cx} {B : Hp} {ρ ρ' : Ro d} {a b c e iter elt : Expr} {es : List Expr} {R R' Ra Rb : Rp d} {Rs : List (Rp d)} {pos : Pos} {m n : Int} {st : Stmt} {rest body orelse : List Stmt} {Pre Mid : L2.St → Hp → Prop} {Po : Ends}
def lstX (B : Hp) (K : PySem.W.Frag) (ds : List D) : Rp d := exR (fun _ => True) fun a => lstB B K a ds
theorem st_toX {K : PySem.W.Frag} {ds : List D} {σ : L2.St} {H : Hp} (i : Nat) (hi : ρ[i]? = some (some (lst K ds))) (s : St H ρ σ H) : St H (ρ.set i (some (lstX H K ds))) σ H := by
  refine ⟨s.ext, s.dr, by simp [s.good.1], fun j R e => ?_⟩
  by_cases hj : i = j
  · subst hj
    have hlt : i < ρ.length := (List.getElem?_eq_some_iff.mp hi).1
    rw [List.getElem?_set_self hlt] at e
    cases e
    obtain ⟨v, h1, l, _, rfl, _, us, h3, h4⟩ := s.good.get hi
    refine ⟨_, h1, l, trivial, rfl, us, ?_, h4⟩
    rcases h3 with ⟨k, h⟩ | ⟨o, h⟩ | h
    · exact .inl ⟨by rw [h]; exact fun z => (by cases z), .inl ⟨k, h⟩⟩
    · exact .inl ⟨by rw [h]; exact fun z => (by cases z), .inr (.inl ⟨o, h⟩)⟩
    · exact .inr h
  · rw [List.getElem?_set_ne hj] at e
    exact s.good.get e
end
section
variable {d : Option Addr} {Pg : Program} {w : World} {K : PySem.W.Frag} {mg : Str → Option Value} {base : Heap}
theorem ind_net {l C : Addr} {n : Nat} {Ts : List D} : Ind l (insR (d := d) C (netF K n Ts)) := ind_ex fun _ => ind_insA fun p hp => by
  rcases List.mem_cons.mp hp with rfl | hp
  · exact ind_dat
  · obtain rfl := List.mem_singleton.mp hp
    exact ind_I
def runX (d : Option Addr) (B : Hp) (K : PySem.W.Frag) (run : List Nat) (b : Bool) : Rp d := match b with
  | true => lstX B K (runD run)
  | false => dat K (.t (runD run))
end
section
variable {d : Option Addr} {X : Cx} {B : Hp} {ρ ρ' : Ro d} {a b c e iter elt : Expr} {es : List Expr} {R R' Ra Rb : Rp d} {Rs : List (Rp d)} {pos : Pos} {m n : Int} {st : Stmt} {rest body orelse : List Stmt} {Pre Mid : L2.St → Hp → Prop} {Po : Ends}
theorem x_tuple_n {ds : List D} {p : Pos} (hg : Gl X "tuple") (hm : X.mg "tuple" = none) (h : EX X B ρ e (newL B X.K ds)) (he : starEach [e] X.env = (false, eval e X.env) :: starEach [] X.env := by rfl) (hpl : (backTo pos (starEach [] X.env)).any (·.1) = false := by rfl) : EX X B ρ (.Call (.Name "tuple" p) [e] [] pos) (dat X.K (.t ds)) :=
  x_sub (x_tuple_lE hg hm (x_newE h) he hpl) fun v H ⟨w, ⟨ds', h1, h2⟩, hv⟩ => by
    subst h1; subst h2
    exact hv
theorem x_gtX {P1 P2 : Int → Prop} (ha : EX X B ρ a (iE P1)) (hb : EX X B ρ b (iE P2)) : EX X B ρ (.Compare a [.Gt] [b] pos) (exR (fun _ => True) rB) :=
  x_cmp op_gt (nomark _) ha hb fun x y H σ Q _ ⟨i, _, hx⟩ ⟨j, _, hy⟩ q => ⟨i, j, hx, hy, q _ H (Ext.refl H) ⟨_, trivial, rfl⟩⟩
theorem vecD {n : Nat} {f : Nat → Int} : ((List.range n).map fun k => D.i (f k)) = (vec n f).map D.i := by unfold vec; rw [List.map_map]; rfl
end
section
variable {d : Option Addr} {Pg : Program} {w : World} {K : PySem.W.Frag} {mg : Str → Option Value} {base : Heap}
abbrev spNe (d : Option Addr) (K : PySem.W.Frag) (C : Addr) (b : Bool) (g : Int × Int → Int) (c : Value) : Sp := spE d (fun (z : {z : Nat × List Tr × List Nat // z.1 ≤ 100 ∧ z.2.1.length ≤ 900 ∧ (∀ i ∈ z.2.2, i < z.2.1.length) ∧ (∀ t ∈ z.2.1, TrOk z.1 t)}) => [insR C (netF K z.1.1 (z.1.2.1.map Tr.d)), runR d K z.1.2.2 b]) (fun z => plainB z.1.1 z.1.2.1 = true) (fun z => dat K (tI (vec z.1.1 fun p => g (neF p (trs z.1.2.1 z.1.2.2))))) (fun z => plainB z.1.1 z.1.2.1 = false) c
/-- what the checks lean on -/
structure PlainTxt (K : PySem.W.Frag) (mg : Str → Option Value) (C CP fI fR fK : Addr) (fdI fdR fdK : FuncData) : Prop where
  net : NetTxt K mg C
  err : ErrTxt K mg CP "NotPlain"
  FI : Fun K "is_plain" "is_plain" s_is_plain fI fdI
  bI : Binds K fdI ["net"] []
  gI : mg "is_plain" = some (.ref fI)
  FR : Fun K "runs_plainly" "runs_plainly" s_runs_plainly fR fdR
  bR : Binds K fdR ["net", "run"] []
  gR : mg "runs_plainly" = some (.ref fR)
  FK : Fun K "check_plain" "check_plain" s_check_plain fK fdK
  bK : Binds K fdK ["net"] []
  gK : mg "check_plain" = some (.ref fK)
  mt : mg "tuple" = none
  mr : mg "range" = none
  mL : mg "list" = none
  ml : mg "len" = none
  mx : mg "max" = none
/-- transition[2] != tuple(range(len(transition[2]))) -/
theorem ok_lisplain {f : Addr} {fd : FuncData} (F : Fun K "_law_is_plain" "_law_is_plain" s_law_is_plain f fd) (mt : mg "tuple" = none) (mr : mg "range" = none) (ml : mg "len" = none) : FnOk Pg w K mg base CX0 1 f fd ["transitions"]
    (spP d (fun (z : {z : Nat × List Tr // z.1 ≤ 100 ∧ ∀ t ∈ z.2, TrOk z.1 t}) => [lst K (z.1.2.map Tr.d)]) (fun z _ => rB (plainB z.1.1 z.1.2))) := by
  refine fn_ok F sc_law_is_plain (fun _ => rfl) (by decide) fun z H cdv A outer s E hr => ?_
  obtain ⟨⟨n, ts⟩, hn, hts⟩ := z
  dsimp only at hn hts ⊢
  have hr0 : Room 0 _ := hr
  refine bx_open 0 rfl fun la _ => ?_
  refine bx_forL 1 (fun i (_ : Unit) => ∀ (j : Nat) (t : Tr), j < i → ts[j]? = some t → t.mv = upTo n) (fun _ _ => [some (lstA K la (ts.map Tr.d)), none]) (x_var 0 rfl) (fun σ H' s => ⟨(), fun _ _ h => absurd h (Nat.not_lt_zero _), s.sub (by (repeat (first | exact Sub.nil | refine Sub.same ?_ | refine Sub.drop ?_)))⟩) (fun _ _ _ => ⟨0, _, rfl, fun v H h => h⟩) (fun i w _ hw hz => ?_) (bx_ex fun _ hz => ?_) sc_law_is_plain.nd PassesOwn.never
  · obtain ⟨t, ht, rfl⟩ : ∃ t, ts[i]? = some t ∧ w = t.d := by
      rw [List.getElem?_map] at hw
      cases q : ts[i]? with
      | none => rw [q] at hw; cases hw
      | some t => rw [q] at hw; cases hw; exact ⟨t, rfl, rfl⟩
    have htk := hts t (List.mem_of_getElem? ht)
    have en : ((((t.mv.map D.i).length : Nat) : Int)).toNat = n := by rw [List.length_map, htk.l3]; omega
    refine bx_ifret (t_neD (k := 1) (j := 1) (x := tI t.mv) (y := tI (upTo n)) (Room.units hr0) (x_ixt (ds := [tI t.tk, tI t.gv, tI t.mv]) (j := 2) (x_var 1 rfl) x_int rfl) (x_sub (x_tupR rfl mt rfl mr (x_len_t rfl ml (x_ixt (ds := [tI t.tk, tI t.gv, tI t.mv]) (j := 2) (w := tI t.mv) (x_var 1 rfl) x_int rfl)) (by rw [List.length_map, htk.l3]; omega)) fun v H h => by rw [en] at h; exact h) (shp_tI _) (shp_tI _)) (fun h => ?_) (fun h => bx_nil fun σ H' s => ⟨(), fun j u hj hu => ?_, s.sub (by (repeat (first | exact Sub.nil | refine Sub.same ?_ | refine Sub.drop ?_)))⟩)
    · have hne : ¬ t.mv = upTo n := fun e => by
        have := h.mpr (by rw [e])
        cases this
      refine bx_ret x_bl fun v σ H' s hv => ⟨s.ext, ?_⟩
      show v = .bl (plainB n ts)
      rw [plainB_no (t := t) (List.mem_of_getElem? ht) hne]
      exact hv
    · by_cases hji : j = i
      · subst hji
        rw [ht] at hu; cases hu
        exact tI_inj (h.mp rfl)
      · exact hz j u (by omega) hu
  · refine bx_ret x_bl fun v σ H' s hv => ⟨s.ext, ?_⟩
    show v = .bl (plainB n ts)
    rw [plainB_of fun t ht => ?_]
    · exact hv
    · obtain ⟨j, hj⟩ := List.getElem?_of_mem ht
      exact hz j t (by rw [List.length_map]; exact (List.getElem?_eq_some_iff.mp hj).1) hj
def runO : (List Int) ⊕ Nat → D
  | .inl c => tI c
  | .inr _ => .n
end
end Cv

namespace Cv
open PySem PySem.Spec PyProof.Rows L2 RZ
/-! ### limits fired -/
def okK (lim : List Int) (t : Tr) (k : Nat) : Bool := decide (lim.getD k 0 = -1) || !decide (lim.getD k 0 < t.tk.getD k 0)
def gK (lim : List Int) (t : Tr) (k : Nat) : Int := if lim.getD k 0 = -1 then -1 else lim.getD k 0 - t.tk.getD k 0 + t.gv.getD k 0
def flO (n : Nat) (t : Tr) (lim : List Int) : D := if (List.range n).all (okK lim t) = true then tI (vec n (gK lim t)) else .n
theorem flO_yes {n : Nat} {t : Tr} {lim : List Int} (h : ∀ k, k < n → okK lim t k = true) : flO n t lim = tI (vec n (gK lim t)) := if_pos (List.all_eq_true.mpr fun k hk => h k (List.mem_range.mp hk))
theorem flO_no {n k : Nat} {t : Tr} {lim : List Int} (hk : k < n) (h : okK lim t k = false) : flO n t lim = .n := if_neg fun q => by
  have := List.all_eq_true.mp q k (List.mem_range.mpr hk)
  rw [h] at this
  cases this
theorem vec_succ {i : Nat} {f : Nat → Int} : (vec (i + 1) f).map D.i = (vec i f).map D.i ++ [D.i (f i)] := by
  unfold vec
  rw [List.range_succ, List.map_append, List.map_append]
  rfl
def admB (lim m : List Int) : Bool := (List.range lim.length).all fun k => decide (lim.getD k 0 < 0) || !decide (lim.getD k 0 < m.getD k 0)
section
variable {d : Option Addr} {Pg : Program} {w : World} {K : PySem.W.Frag} {mg : Str → Option Value} {base : Heap}
theorem ok_fired {f : Addr} {fd : FuncData} (F : Fun K "limit_after" "limit_after" s_limit_after f fd) (mz : mg "zip" = none) (mt : mg "tuple" = none) : FnOk Pg w K mg base CX0 1 f fd ["transition", "limit"]
    (spP d (fun (z : {z : Nat × Tr × List Int // TrOk z.1 z.2.1 ∧ z.2.2.length = z.1 ∧ z.1 ≤ 100}) => [dat K z.1.2.1.d, dat K (tI z.1.2.2)]) (fun z _ => dat K (flO z.1.1 z.1.2.1 z.1.2.2))) := by
  refine fn_ok F sc_limit_after (fun _ => rfl) (by decide) fun z H cdv A outer s E hr => ?_
  obtain ⟨⟨n, t, lim⟩, ht, hl, hn⟩ := z
  dsimp only at ht hl hn ⊢
  refine bx_unp3 2 3 4 (x_var 0 rfl) ?_ sc_limit_after.nd
  refine bx_new 5 [] (by simp) (fun B' => x_lst (ds := []) a_nil) (fun l1 hl1 _ => ?_) sc_limit_after.nd
  refine bx_forZ3 6 7 8 (fun i (_ : Unit) => (∀ k, k < i → okK lim t k = true) ∧ i ≤ n) (fun i _ => [none, some (dat K (tI lim)), some (dat K (tI t.tk)), some (dat K (tI t.gv)), none, some (own K l1 ((vec i (gK lim t)).map D.i)), none, none, none]) rfl mz (x_var 1 rfl) (x_var 2 rfl) (x_var 3 rfl) (by rw [List.length_map, List.length_map, hl, ht.l1]) (by rw [List.length_map, List.length_map, hl, ht.l2]) (fun σ H' s => ⟨(), ⟨fun k h => absurd h (Nat.not_lt_zero _), Nat.zero_le _⟩, s.sub (by (repeat (first | exact Sub.nil | refine Sub.same ?_ | refine Sub.drop ?_)))⟩) (fun i w u v _ hw hu hv hz => ?_) (bx_ex fun _ hz => ?_) sc_limit_after.nd PassesOwn.never
  · obtain ⟨x, hx, rfl⟩ := getI hw
    obtain ⟨a, ha, rfl⟩ := getI hu
    obtain ⟨g, hg, rfl⟩ := getI hv
    obtain ⟨hz, _⟩ := hz
    have hin : i < n := by have := (List.getElem?_eq_some_iff.mp hx).1; omega
    have eo : okK lim t i = (decide (x = -1) || !decide (x < a)) := by unfold okK; rw [getD_of hx, getD_of ha]
    have eg : gK lim t i = if x = -1 then -1 else x - a + g := by unfold gK; rw [getD_of hx, getD_of ha, getD_of hg]
    have step : okK lim t i = true → ∀ k, k < i + 1 → okK lim t k = true := fun h k hk => by
      by_cases hki : k = i
      · rw [hki]; exact h
      · exact hz k (by omega)
    refine bx_if (IS H (fun (_ : Unit) => (∀ k, k < i + 1 → okK lim t k = true) ∧ i + 1 ≤ n) (fun _ => [none, some (dat K (tI lim)), some (dat K (tI t.tk)), some (dat K (tI t.gv)), none, some (own K l1 ((vec (i + 1) (gK lim t)).map D.i)), none, none, none]))
      (t_eq (x_dI (x_var 6 rfl)) (x_neg x_int)) (fun h => ?_) (fun h => ?_) (bx_nil fun σ H' s => s)
    · have h0 : x = -1 := of_decide_eq_true h.symm
      refine bx_append 5 rfl rfl (x_Id (x_neg x_int)) hl1 (by (repeat' (first | exact ia_nil | refine ia_none ?_ | refine ia_some ?_ ?_ | refine ib_here ?_ | refine ib_none ?_ | refine ib_some ?_ ?_ | exact ind_I | exact ind_B | exact ind_dat | exact ind_any | exact ind_drw | exact ind_net | exact ind_dct | exact ind_dcT | exact ind_mail | exact ind_xB | exact ind_lstB (by assumption) | exact ind_own (by assumption) | exact ind_lstA (by assumption) | exact ind_own (Ne.symm (by assumption)) | exact ind_lstA (Ne.symm (by assumption)) | exact ind_tpl | exact ind_ownT (by assumption) | exact ind_ownT (Ne.symm (by assumption)) | exact ind_ll (by assumption) (by assumption) | exact ind_ll (Ne.symm (by assumption)) (by assumption)))) (by rw [List.length_map, vec_len]; omega) (bx_nil fun σ H' s => ⟨(), ⟨step (by rw [eo, h0]; rfl), hin⟩, s.sub ?_⟩)
      show Sub _ [_, _, _, _, _, _, _, _, _]
      rw [vec_succ, eg, if_pos h0]
      (repeat (first | exact Sub.nil | refine Sub.same ?_ | refine Sub.drop ?_))
    · have h0 : ¬ x = -1 := of_decide_eq_false h.symm
      refine bx_if (IS H (fun (_ : Unit) => (∀ k, k < i + 1 → okK lim t k = true) ∧ i + 1 ≤ n) (fun _ => [none, some (dat K (tI lim)), some (dat K (tI t.tk)), some (dat K (tI t.gv)), none, some (own K l1 ((vec (i + 1) (gK lim t)).map D.i)), none, none, none]))
        (t_lt (x_dI (x_var 6 rfl)) (x_dI (x_var 7 rfl))) (fun h1 => ?_) (fun h1 => ?_) (bx_nil fun σ H' s => s)
      · have h1 : x < a := of_decide_eq_true h1.symm
        refine bx_retR (x_sub (x_non (K := K)) fun v H hv => ?_) rfl
        rw [flO_no hin (by rw [eo, decide_eq_false h0, decide_eq_true h1]; rfl)]
        exact hv
      · have h1 : ¬ x < a := of_decide_eq_false h1.symm
        refine bx_append 5 rfl rfl (x_Id (x_add (x_sub_ (x_dI (x_var 6 rfl)) (x_dI (x_var 7 rfl))) (x_dI (x_var 8 rfl)))) hl1 (by (repeat' (first | exact ia_nil | refine ia_none ?_ | refine ia_some ?_ ?_ | refine ib_here ?_ | refine ib_none ?_ | refine ib_some ?_ ?_ | exact ind_I | exact ind_B | exact ind_dat | exact ind_any | exact ind_drw | exact ind_net | exact ind_dct | exact ind_dcT | exact ind_mail | exact ind_xB | exact ind_lstB (by assumption) | exact ind_own (by assumption) | exact ind_lstA (by assumption) | exact ind_own (Ne.symm (by assumption)) | exact ind_lstA (Ne.symm (by assumption)) | exact ind_tpl | exact ind_ownT (by assumption) | exact ind_ownT (Ne.symm (by assumption)) | exact ind_ll (by assumption) (by assumption) | exact ind_ll (Ne.symm (by assumption)) (by assumption)))) (by rw [List.length_map, vec_len]; omega) (bx_nil fun σ H' s => ⟨(), ⟨step (by rw [eo, decide_eq_false h1]; simp), hin⟩, s.sub ?_⟩)
        show Sub _ [_, _, _, _, _, _, _, _, _]
        rw [vec_succ, eg, if_neg h0]
        (repeat (first | exact Sub.nil | refine Sub.same ?_ | refine Sub.drop ?_))
  · have e : (lim.map D.i).length = n := by rw [List.length_map, hl]
    rw [e] at hz ⊢
    refine bx_retR (x_sub (x_tuple_l rfl mt (x_lstA (x_var 5 rfl))) fun v H hv => ?_) rfl
    rw [flO_yes hz.1]
    exact hv
theorem ok_lchange {f : Addr} {fd : FuncData} (F : Fun K "_law_change" "_law_change" s_law_change f fd) (ml : mg "len" = none) (mt : mg "tuple" = none) (mr : mg "range" = none) : FnOk Pg w K mg base CX0 1 f fd ["transition"]
    (spP d (fun (z : {z : Nat × Tr // TrOk z.1 z.2 ∧ z.1 ≤ 100}) => [dat K z.1.2.d]) (fun z _ => dat K (tI (vec z.1.1 fun p => z.1.2.gv.getD p 0 - z.1.2.tk.getD p 0)))) := by
  refine fn_ok F sc_law_change (fun _ => rfl) (by decide) fun z H cdv A outer s E hr => ?_
  obtain ⟨⟨n, t⟩, ht, hn⟩ := z
  dsimp only at ht hn ⊢
  refine bx_retR (x_sub (x_tuple_lE rfl mt (x_lcR 1 (fun j w => w = .i (t.gv.getD j 0 - t.tk.getD j 0)) rfl mr (x_len_t rfl ml (x_ixt (ds := [tI t.tk, tI t.gv, tI t.mv]) (j := 0) (w := tI t.tk) (x_var 0 rfl) x_int rfl)) (by rw [List.length_map, ht.l1]; omega) sc_law_change.nd (blkOk_by (N := ["transition", "k"]) (sc := defScope s_law_change) (by decide +kernel)) (fun _ _ _ _ _ => pg_name (i := 1) sc_law_change.nd rfl (Or.inl rfl))
      (fun s H C cl fp j hj => ?_))) fun v H ⟨w, ⟨ds, ⟨h1, h2⟩, h3⟩, hv⟩ => ?_) rfl
  · have hjn : j < n := by rw [List.length_map, ht.l1] at hj; omega
    obtain ⟨a, ha⟩ := ex_i ht.l1 hjn
    obtain ⟨g, hg⟩ := ex_i ht.l2 hjn
    refine x_sub (x_Id (K := K) (x_sub_ (x_ixtI (x_ixt (ds := [tI t.tk, tI t.gv, tI t.mv]) (j := 1) (w := tI t.gv) (x_var 0 rfl) x_int rfl) (x_var 1 rfl) hg) (x_ixtI (x_ixt (ds := [tI t.tk, tI t.gv, tI t.mv]) (j := 0) (w := tI t.tk) (x_var 0 rfl) x_int rfl) (x_var 1 rfl) ha))) fun v H hv => ⟨_, rfl, ?_⟩
    rw [getD_of ha, getD_of hg]
    exact hv
  · subst h3
    have e : ds = (vec n fun p => t.gv.getD p 0 - t.tk.getD p 0).map D.i := by
      rw [← vecD]
      refine ds_of ?_ h2
      rw [h1, List.length_map, ht.l1]
      omega
    rw [e] at hv
    exact hv
theorem ok_lfirelim {f fC : Addr} {fd fdC : FuncData} (F : Fun K "_law_fire_limit" "_law_fire_limit" s_law_fire_limit f fd) (FC : Fun K "_law_change" "_law_change" s_law_change fC fdC) (bC : Binds K fdC ["transition"] []) (gC : mg "_law_change" = some (.ref fC)) (ml : mg "len" = none) (mt : mg "tuple" = none) (mr : mg "range" = none) : FnOk Pg w K mg base CX0 2 f fd ["transition", "limit"]
    (spP d (fun (z : {z : Nat × Tr × List Int // TrOk z.1 z.2.1 ∧ z.2.2.length = z.1 ∧ z.1 ≤ 100 ∧ ∀ x ∈ z.2.2, -1 ≤ x}) => [dat K z.1.2.1.d, dat K (tI z.1.2.2)]) (fun z _ => dat K (flO z.1.1 z.1.2.1 z.1.2.2))) := by
  refine fn_ok F sc_law_fire_limit (fun _ => rfl) (by decide) fun z H cdv A outer s E hr => ?_
  obtain ⟨⟨n, t, lim⟩, ht, hl, hn, hlo⟩ := z
  dsimp only at ht hl hn hlo ⊢
  refine bx_set 2 (x_call (E := E0) (R := dat K (tI (vec n fun p => t.gv.getD p 0 - t.tk.getD p 0))) (ok_lchange (Pg := Pg) (w := w) (base := base) FC ml mt mr) hr rfl gC FC.kp bC pass0 ⟨(n, t), ht, hn⟩ (a_cons (x_var 0 rfl) a_nil) fun v H H' σ _ _ h => h) ?_ sc_law_fire_limit.nd
  refine bx_new 3 [] (by simp) (fun B' => x_lst (ds := []) a_nil) (fun l1 hl1 _ => ?_) sc_law_fire_limit.nd
  refine bx_forR 4 (fun i (_ : Unit) => (∀ k, k < i → okK lim t k = true) ∧ i ≤ n) (fun i _ => [some (dat K t.d), some (dat K (tI lim)), some (dat K (tI (vec n fun p => t.gv.getD p 0 - t.tk.getD p 0))), some (own K l1 ((vec i (gK lim t)).map D.i)), none]) rfl mr (x_len_t rfl ml (x_var 1 rfl)) (by rw [List.length_map, hl]; omega) (fun σ H' s => ⟨(), ⟨fun k h => absurd h (Nat.not_lt_zero _), Nat.zero_le _⟩, s.sub (by (repeat (first | exact Sub.nil | refine Sub.same ?_ | refine Sub.drop ?_)))⟩) (fun i z hi hz => ?_) (bx_ex fun _ hz => ?_) sc_law_fire_limit.nd PassesOwn.never
  · have hin : i < n := by rw [List.length_map, hl] at hi; omega
    obtain ⟨x, hx⟩ := ex_i hl hin
    obtain ⟨a, ha⟩ := ex_i ht.l1 hin
    obtain ⟨g, hg⟩ := ex_i ht.l2 hin
    obtain ⟨hz, _⟩ := hz
    have hxlo := hlo x (List.mem_of_getElem? hx)
    have eo : okK lim t i = (decide (x = -1) || !decide (x < a)) := by unfold okK; rw [getD_of hx, getD_of ha]
    have eg : gK lim t i = if x = -1 then -1 else x - a + g := by unfold gK; rw [getD_of hx, getD_of ha, getD_of hg]
    have step : okK lim t i = true → ∀ k, k < i + 1 → okK lim t k = true := fun h k hk => by
      by_cases hki : k = i
      · rw [hki]; exact h
      · exact hz k (by omega)
    refine bx_if (IS H (fun (_ : Unit) => (∀ k, k < i + 1 → okK lim t k = true) ∧ i + 1 ≤ n) (fun _ => [some (dat K t.d), some (dat K (tI lim)), some (dat K (tI (vec n fun p => t.gv.getD p 0 - t.tk.getD p 0))), some (own K l1 ((vec (i + 1) (gK lim t)).map D.i)), none]))
      (t_lt (x_ixtI (x_var 1 rfl) (x_var 4 rfl) hx) x_int) (fun h => ?_) (fun h => ?_) (bx_nil fun σ H' s => s)
    · have h0 : x < 0 := of_decide_eq_true h.symm
      have h0 : x = -1 := by omega
      refine bx_append 3 rfl rfl (x_Id (x_neg x_int)) hl1 (by (repeat' (first | exact ia_nil | refine ia_none ?_ | refine ia_some ?_ ?_ | refine ib_here ?_ | refine ib_none ?_ | refine ib_some ?_ ?_ | exact ind_I | exact ind_B | exact ind_dat | exact ind_any | exact ind_drw | exact ind_net | exact ind_dct | exact ind_dcT | exact ind_mail | exact ind_xB | exact ind_lstB (by assumption) | exact ind_own (by assumption) | exact ind_lstA (by assumption) | exact ind_own (Ne.symm (by assumption)) | exact ind_lstA (Ne.symm (by assumption)) | exact ind_tpl | exact ind_ownT (by assumption) | exact ind_ownT (Ne.symm (by assumption)) | exact ind_ll (by assumption) (by assumption) | exact ind_ll (Ne.symm (by assumption)) (by assumption)))) (by rw [List.length_map, vec_len]; omega) (bx_nil fun σ H' s => ⟨(), ⟨step (by rw [eo, h0]; rfl), hin⟩, s.sub ?_⟩)
      show Sub _ [_, _, _, _, _]
      rw [vec_succ, eg, if_pos h0]
      (repeat (first | exact Sub.nil | refine Sub.same ?_ | refine Sub.drop ?_))
    · have h0 : ¬ x < 0 := of_decide_eq_false h.symm
      have h0 : ¬ x = -1 := by omega
      refine bx_if (IS H (fun (_ : Unit) => (∀ k, k < i + 1 → okK lim t k = true) ∧ i + 1 ≤ n) (fun _ => [some (dat K t.d), some (dat K (tI lim)), some (dat K (tI (vec n fun p => t.gv.getD p 0 - t.tk.getD p 0))), some (own K l1 ((vec (i + 1) (gK lim t)).map D.i)), none]))
        (t_lt (x_ixtI (x_var 1 rfl) (x_var 4 rfl) hx) (x_ixtI (x_ixt (ds := [tI t.tk, tI t.gv, tI t.mv]) (j := 0) (w := tI t.tk) (x_var 0 rfl) x_int rfl) (x_var 4 rfl) ha)) (fun h1 => ?_) (fun h1 => ?_) (bx_nil fun σ H' s => s)
      · have h1 : x < a := of_decide_eq_true h1.symm
        refine bx_retR (x_sub (x_non (K := K)) fun v H hv => ?_) rfl
        rw [flO_no hin (by rw [eo, decide_eq_false h0, decide_eq_true h1]; rfl)]
        exact hv
      · have h1 : ¬ x < a := of_decide_eq_false h1.symm
        refine bx_append 3 rfl rfl (x_Id (x_add (x_ixtI (x_var 1 rfl) (x_var 4 rfl) hx) (x_ixtI (x_var 2 rfl) (x_var 4 rfl) (vec_get hin)))) hl1 (by (repeat' (first | exact ia_nil | refine ia_none ?_ | refine ia_some ?_ ?_ | refine ib_here ?_ | refine ib_none ?_ | refine ib_some ?_ ?_ | exact ind_I | exact ind_B | exact ind_dat | exact ind_any | exact ind_drw | exact ind_net | exact ind_dct | exact ind_dcT | exact ind_mail | exact ind_xB | exact ind_lstB (by assumption) | exact ind_own (by assumption) | exact ind_lstA (by assumption) | exact ind_own (Ne.symm (by assumption)) | exact ind_lstA (Ne.symm (by assumption)) | exact ind_tpl | exact ind_ownT (by assumption) | exact ind_ownT (Ne.symm (by assumption)) | exact ind_ll (by assumption) (by assumption) | exact ind_ll (Ne.symm (by assumption)) (by assumption)))) (by rw [List.length_map, vec_len]; omega) (bx_nil fun σ H' s => ⟨(), ⟨step (by rw [eo, decide_eq_false h1]; simp), hin⟩, s.sub ?_⟩)
        show Sub _ [_, _, _, _, _]
        have e : gK lim t i = x + (t.gv.getD i 0 - t.tk.getD i 0) := by
          rw [eg, if_neg h0, getD_of ha, getD_of hg]
          omega
        rw [vec_succ, e]
        (repeat (first | exact Sub.nil | refine Sub.same ?_ | refine Sub.drop ?_))
  · have e : ((((lim.map D.i).length : Nat) : Int)).toNat = n := by rw [List.length_map, hl]; omega
    rw [e] at hz ⊢
    refine bx_retR (x_sub (x_tuple_l rfl mt (x_lstA (x_var 3 rfl))) fun v H hv => ?_) rfl
    rw [flO_yes hz.1]
    exact hv
theorem ok_llimit {f fT : Addr} {fd fdT : FuncData} (F : Fun K "_law_limit" "_law_limit" s_law_limit f fd) (FT : Fun K "_law_take" "_law_take" s_law_take fT fdT) (bT : Binds K fdT ["draws", "limit"] []) (gT : mg "_law_take" = some (.ref fT)) (ml : mg "len" = none) (mi : mg "int" = none) (mt : mg "tuple" = none) (mr : mg "range" = none) :
    FnOk Pg w K mg base CX0 2 f fd ["draws", "size", "most"] (spP d (fun (z : {z : Int × Int // 0 ≤ z.1 ∧ z.1 ≤ 1000 ∧ 0 ≤ z.2}) => [drw, rI z.1.1, rI z.1.2]) (fun z _ => dE K fun w => ∃ ns : List Int, w = tI ns ∧ (ns.length : Int) = z.1.1 ∧ ∀ x ∈ ns, -1 ≤ x ∧ x ≤ z.1.2)) := by
  have GT : FnOk Pg w K mg base CX0 1 fT fdT ["draws", "limit"] spTake := ok_take FT ml mi
  refine fn_ok F sc_law_limit (fun _ => rfl) (by decide) fun z H cdv A outer s E hr => ?_
  obtain ⟨⟨n, most⟩, hn0, hn1, hm⟩ := z
  dsimp only at hn0 hn1 hm ⊢
  refine bx_retR (x_dE (x_tuple_lE rfl mt (x_lcR 3 (fun _ w => ∃ z, (∃ i j, (0 ≤ i ∧ i < most + 2) ∧ j = 1 ∧ z = i - j) ∧ w = .i z) rfl mr (x_var 1 rfl) (by omega) sc_law_limit.nd (blkOk_by (N := ["draws", "size", "most", "k"]) (sc := defScope s_law_limit) (by decide +kernel)) (fun _ _ _ _ _ => pg_name (i := 3) sc_law_limit.nd rfl (Or.inl rfl))
    (fun s H C cl fp i hi => ?_))) fun z hz => ?_) rfl
  · exact x_iEd (x_subE (P := fun i => 0 ≤ i ∧ i < most + 2) (S := fun j => j = 1) (x_take (E := E0) GT (hr.mono (by decide)) rfl gT FT.kp bT pass0 (x_var 0 rfl) (x_add (x_var 2 rfl) x_int) (by omega)) (x_I x_int))
  obtain ⟨ds, ⟨h1, h2⟩, rfl⟩ := hz
  obtain ⟨ns, rfl, h3⟩ := ints_of (P := fun _ z => -1 ≤ z ∧ z ≤ most) fun k w hk => by
    obtain ⟨z, ⟨i, j, h3, h4, h5⟩, rfl⟩ := h2 k w hk
    exact ⟨z, rfl, by omega, by omega⟩
  refine ⟨ns, rfl, by rw [List.length_map] at h1; omega, fun x hx => ?_⟩
  obtain ⟨k, hk⟩ := List.getElem?_of_mem hx
  exact h3 k x hk
theorem ok_ladmits {f : Addr} {fd : FuncData} (F : Fun K "_law_admits" "_law_admits" s_law_admits f fd) (ml : mg "len" = none) (mr : mg "range" = none) :
    FnOk Pg w K mg base CX0 1 f fd ["limit", "marking"] (spP d (fun (z : {z : List Int × List Int // z.1.length = z.2.length ∧ z.1.length ≤ 1000}) => [dat K (tI z.1.1), dat K (tI z.1.2)]) (fun z _ => rB (admB z.1.1 z.1.2))) := by
  refine fn_ok F sc_law_admits (fun _ => rfl) (by decide) fun z H cdv A outer s E hr => ?_
  obtain ⟨⟨xs, ys⟩, hl, hL⟩ := z
  dsimp only at hl hL ⊢
  refine bx_forR 2 (fun i (_ : Unit) => ∀ k, k < i → (decide (xs.getD k 0 < 0) || !decide (xs.getD k 0 < ys.getD k 0)) = true) (fun _ _ => [some (dat K (tI xs)), some (dat K (tI ys)), none]) rfl mr (x_len_t rfl ml (x_var 0 rfl)) (by simp; omega) (fun σ H s => ⟨(), fun _ h => absurd h (Nat.not_lt_zero _), s.sub (by (repeat (first | exact Sub.nil | refine Sub.same ?_ | refine Sub.drop ?_)))⟩) (fun i z hi hz => ?_) (bx_ex fun _ hz => ?_) sc_law_admits.nd PassesOwn.never
  · have hix : i < xs.length := by simp at hi; exact hi
    obtain ⟨a, ha⟩ := ex_i (l := xs) rfl hix
    obtain ⟨b, hb⟩ := ex_i hl.symm hix
    refine bx_ifret (t_w (w_and (t_ge (x_ixtI (x_var 0 rfl) (x_var 2 rfl) ha) x_int) fun _ => w_and1 (t_gt (x_ixtI (x_var 1 rfl) (x_var 2 rfl) hb) (x_ixtI (x_var 0 rfl) (x_var 2 rfl) ha)))) (fun h => ?_) (fun h => bx_nil fun σ H s => ⟨(), fun k hk => ?_, s.sub (by (repeat (first | exact Sub.nil | refine Sub.same ?_ | refine Sub.drop ?_)))⟩)
    · rcases h with ⟨h1, h2⟩ | ⟨_, h⟩
      · have h1 : 0 ≤ a := of_decide_eq_true h1.symm
        have h2 : a < b := of_decide_eq_true h2.symm
        refine bx_ret x_bl fun v σ H s hv => ⟨s.ext, ?_⟩
        show v = .bl (admB xs ys)
        have e : admB xs ys = false := by
          cases q : admB xs ys with
          | false => rfl
          | true =>
            have := List.all_eq_true.mp q i (List.mem_range.mpr hix)
            rw [getD_of ha, getD_of hb, decide_eq_true h2, decide_eq_false (by omega)] at this
            cases this
        rw [e]
        exact hv
      · cases h
    · by_cases hki : k = i
      · subst hki
        rw [getD_of ha, getD_of hb]
        rcases h with ⟨_, h⟩ | ⟨h, _⟩
        · have : ¬ a < b := of_decide_eq_false h.symm
          rw [decide_eq_false this]
          simp
        · have : ¬ 0 ≤ a := of_decide_eq_false h.symm
          rw [decide_eq_true (show a < 0 by omega)]
          rfl
      · exact hz k (by omega)
  · refine bx_ret x_bl fun v σ H s hv => ⟨s.ext, ?_⟩
    show v = .bl (admB xs ys)
    have e : admB xs ys = true := List.all_eq_true.mpr fun k hk => hz k (by rw [List.length_map]; have := List.mem_range.mp hk; omega)
    rw [e]
    exact hv
/-- a marking that the limit admits -/
def adm1 (lim m : List Int) : Prop := ∀ (k : Nat) x y, lim[k]? = some x → m[k]? = some y → 0 ≤ y ∧ (0 ≤ x → y ≤ x)
theorem ok_ladmitted {f fT : Addr} {fd fdT : FuncData} (F : Fun K "_law_admitted_marking" "_law_admitted_marking" s_law_admitted_marking f fd) (FT : Fun K "_law_take" "_law_take" s_law_take fT fdT) (bT : Binds K fdT ["draws", "limit"] []) (gT : mg "_law_take" = some (.ref fT)) (ml : mg "len" = none) (mi : mg "int" = none) (mt : mg "tuple" = none) (mn : mg "min" = none) :
    FnOk Pg w K mg base CX0 2 f fd ["draws", "limit"] (spP d (fun (z : {z : List Int // z.length ≤ 100 ∧ ∀ x ∈ z, -1 ≤ x}) => [drw, dat K (tI z.1)]) (fun z _ => dE K fun w => ∃ ns : List Int, w = tI ns ∧ ns.length = z.1.length ∧ adm1 z.1 ns)) := by
  have GT : FnOk Pg w K mg base CX0 1 fT fdT ["draws", "limit"] spTake := ok_take FT ml mi
  refine fn_ok F sc_law_admitted_marking (fun _ => rfl) (by decide) fun z H cdv A outer s E hr => ?_
  obtain ⟨lim, hl, hlo⟩ := z
  dsimp only at hl hlo ⊢
  have hr1 : Room 1 _ := hr
  refine bx_new 2 [] (by simp) (fun B' => x_lst (ds := []) a_nil) (fun l1 hl1 _ => ?_) sc_law_admitted_marking.nd
  refine bx_forT 3 (fun i (ns : List Int) => ns.length = i ∧ i ≤ lim.length ∧ adm1 lim ns) (fun _ ns => [some drw, some (dat K (tI lim)), some (own K l1 (ns.map D.i)), none]) (x_var 1 rfl) (fun σ H' s => ⟨[], ⟨rfl, Nat.zero_le _, fun k x y _ h => by cases h⟩, s.sub (by (repeat (first | exact Sub.nil | refine Sub.same ?_ | refine Sub.drop ?_)))⟩) (fun i w ns hw hz => ?_) (bx_ex fun ns hz => ?_) sc_law_admitted_marking.nd PassesOwn.never
  · obtain ⟨x, hx, rfl⟩ := getI hw
    obtain ⟨hz1, _, hz2⟩ := hz
    have hil : i < lim.length := (List.getElem?_eq_some_iff.mp hx).1
    have hxlo := hlo x (List.mem_of_getElem? hx)
    have more : ∀ y : Int, 0 ≤ y → (0 ≤ x → y ≤ x) → (ns ++ [y]).length = i + 1 ∧ i + 1 ≤ lim.length ∧ adm1 lim (ns ++ [y]) := fun y h0 h1 => ⟨by rw [List.length_append, hz1]; rfl, hil, fun k a b ha hb => by
      by_cases hk : k < ns.length
      · rw [List.getElem?_append_left hk] at hb
        exact hz2 k a b ha hb
      · rw [List.getElem?_append_right (by omega)] at hb
        have hk2 : k = i := by
          have := (List.getElem?_eq_some_iff.mp hb).1
          simp at this
          omega
        subst hk2
        rw [hx] at ha
        cases ha
        rw [hz1, Nat.sub_self] at hb
        cases hb
        exact ⟨h0, h1⟩⟩
    have sub : ∀ (y : Int) σ H', St (d := d) H [some drw, some (dat K (tI lim)), some (own K l1 (ns.map D.i ++ [.i y])), some (dat K (.i x))] σ H' → St (d := d) H [some drw, some (dat K (tI lim)), some (own K l1 ((ns ++ [y]).map D.i)), none] σ H' := fun y σ H' s => by
      rw [List.map_append]
      exact s.sub (by (repeat (first | exact Sub.nil | refine Sub.same ?_ | refine Sub.drop ?_)))
    refine bx_if (IS H (fun (ns : List Int) => ns.length = i + 1 ∧ i + 1 ≤ lim.length ∧ adm1 lim ns) (fun ns => [some drw, some (dat K (tI lim)), some (own K l1 (ns.map D.i)), none])) (t_lt (x_dI (x_var 3 rfl)) x_int) (fun h => ?_) (fun h => ?_) (bx_nil fun σ H' s => s)
    · have h0 : x < 0 := of_decide_eq_true h.symm
      refine bx_appendE 2 rfl rfl (x_iEd (x_take (E := E0) GT hr1 rfl gT FT.kp bT pass0 (x_var 0 rfl) x_int (by decide))) hl1 (by (repeat' (first | exact ia_nil | refine ia_none ?_ | refine ia_some ?_ ?_ | refine ib_here ?_ | refine ib_none ?_ | refine ib_some ?_ ?_ | exact ind_I | exact ind_B | exact ind_dat | exact ind_any | exact ind_drw | exact ind_net | exact ind_dct | exact ind_dcT | exact ind_mail | exact ind_xB | exact ind_lstB (by assumption) | exact ind_own (by assumption) | exact ind_lstA (by assumption) | exact ind_own (Ne.symm (by assumption)) | exact ind_lstA (Ne.symm (by assumption)) | exact ind_tpl | exact ind_ownT (by assumption) | exact ind_ownT (Ne.symm (by assumption)) | exact ind_ll (by assumption) (by assumption) | exact ind_ll (Ne.symm (by assumption)) (by assumption)))) (by rw [List.length_map]; omega) fun w ⟨y, hy, hw⟩ => ?_
      subst hw
      exact bx_nil fun σ H' s => ⟨ns ++ [y], more y hy.1 (fun h => by omega), sub y σ H' s⟩
    · have h0 : ¬ x < 0 := of_decide_eq_false h.symm
      refine bx_appendE 2 rfl rfl (x_iEd (x_subE (x_I (x_dI (x_var 3 rfl))) (x_take (E := E0) GT hr1 rfl gT FT.kp bT pass0 (x_var 0 rfl) (x_add (x_min2 rfl mn (x_dI (x_var 3 rfl)) x_int) x_int) (by omega)))) hl1 (by (repeat' (first | exact ia_nil | refine ia_none ?_ | refine ia_some ?_ ?_ | refine ib_here ?_ | refine ib_none ?_ | refine ib_some ?_ ?_ | exact ind_I | exact ind_B | exact ind_dat | exact ind_any | exact ind_drw | exact ind_net | exact ind_dct | exact ind_dcT | exact ind_mail | exact ind_xB | exact ind_lstB (by assumption) | exact ind_own (by assumption) | exact ind_lstA (by assumption) | exact ind_own (Ne.symm (by assumption)) | exact ind_lstA (Ne.symm (by assumption)) | exact ind_tpl | exact ind_ownT (by assumption) | exact ind_ownT (Ne.symm (by assumption)) | exact ind_ll (by assumption) (by assumption) | exact ind_ll (Ne.symm (by assumption)) (by assumption)))) (by rw [List.length_map]; omega) fun w ⟨y, ⟨i1, j1, e1, ⟨e2, e3⟩, e4⟩, hw⟩ => ?_
      subst hw
      exact bx_nil fun σ H' s => ⟨ns ++ [y], more y (by omega) (fun h => by omega), sub y σ H' s⟩
  · refine bx_retR (R := dE K fun w => ∃ ns : List Int, w = tI ns ∧ ns.length = lim.length ∧ adm1 lim ns) (x_sub (x_tuple_l rfl mt (x_lstA (x_var 2 rfl))) fun v H hv => ⟨_, ⟨ns, rfl, ?_, hz.2.2⟩, hv⟩) rfl
    have := hz.1
    rw [List.length_map] at this
    exact this
/-- the errors of nets that are not plain -/
abbrev spBad (d : Option Addr) (K : PySem.W.Frag) (C : Addr) (Rs : List (Rp d)) (c : Value) : Sp := spE d (fun (z : {z : Nat × List Tr // z.1 ≤ 100 ∧ z.2.length ≤ 900 ∧ plainB z.1 z.2 = false}) => insR C (netF K z.1.1 (z.1.2.map Tr.d)) :: Rs) (fun _ => False) (fun _ => rAny) (fun _ => True) c
theorem bad_limit_set {f C CP fI fR fK : Addr} {fd fdI fdR fdK : FuncData} (F : Fun K "limit_set" "limit_set" s_limit_set f fd) (T : PlainTxt K mg C CP fI fR fK fdI fdR fdK) : FnOk Pg w K mg base (L2.CX Pg w) 4 f fd ["net", "limit"] (spBad d K C [rAny] (.ref CP)) := by
  have GK : FnOk Pg w K mg base (L2.CX Pg w) 3 fK fdK ["net"] (spPlain d K C (.ref CP)) := ok_check_plain T.FK T.net T.err T.FI T.bI T.gI T.FR T.bR T.gR T.mt T.mr T.mL T.ml
  refine fn_okE F sc_limit_set (fun _ => rfl) (by decide) fun z H cdv A outer s E hr hE ob => ?_
  obtain ⟨⟨n, ts⟩, hn, hl, hp⟩ := z
  dsimp only at hn hl hp hE ob ⊢
  have hr3 : Room 3 _ := hr
  refine bx_cons (Mid := fun _ _ => False) (PS_wk (ps_expr (pe_callS GK hr3 rfl T.gK T.FK.kp T.bK (fun σ => passAt (takes_of (E := E) rfl rfl rfl rfl) σ) (a_cons (x_var 0 rfl) a_nil))) fun D σ H1 ⟨s, l⟩ => ⟨s, fun vs H2 e2 hvs => ?_⟩) bx_false
  have s2 := s.mono e2
  exact ⟨⟨(n, ts), hn, hl⟩, hvs, s2.dr, fun hf => (by dsimp only at hf; rw [hp] at hf; cases hf), fun _ H3 e3 => hE trivial H3 (s2.ext.trans e3), .inr hp⟩
theorem bad_judge_limits {f C CP fI fR fK : Addr} {fd fdI fdR fdK : FuncData} (F : Fun K "judge_limits" "judge_limits" s_judge_limits f fd) (T : PlainTxt K mg C CP fI fR fK fdI fdR fdK) : FnOk Pg w K mg base (L2.CX Pg w) 4 f fd ["net", "limit", "limits"] (spBad d K C [rAny, rAny] (.ref CP)) := by
  have GK : FnOk Pg w K mg base (L2.CX Pg w) 3 fK fdK ["net"] (spPlain d K C (.ref CP)) := ok_check_plain T.FK T.net T.err T.FI T.bI T.gI T.FR T.bR T.gR T.mt T.mr T.mL T.ml
  refine fn_okE F sc_judge_limits (fun _ => rfl) (by decide) fun z H cdv A outer s E hr hE ob => ?_
  obtain ⟨⟨n, ts⟩, hn, hl, hp⟩ := z
  dsimp only at hn hl hp hE ob ⊢
  have hr3 : Room 3 _ := hr
  refine bx_cons (Mid := fun _ _ => False) (PS_wk (ps_expr (pe_callS GK hr3 rfl T.gK T.FK.kp T.bK (fun σ => passAt (takes_of (E := E) rfl rfl rfl rfl) σ) (a_cons (x_var 0 rfl) a_nil))) fun D σ H1 ⟨s, l⟩ => ⟨s, fun vs H2 e2 hvs => ?_⟩) bx_false
  have s2 := s.mono e2
  exact ⟨⟨(n, ts), hn, hl⟩, hvs, s2.dr, fun hf => (by dsimp only at hf; rw [hp] at hf; cases hf), fun _ H3 e3 => hE trivial H3 (s2.ext.trans e3), .inr hp⟩
theorem bad_bounds {f C CP fI fR fK : Addr} {fd fdI fdR fdK : FuncData} (F : Fun K "bounds" "bounds" s_bounds f fd) (T : PlainTxt K mg C CP fI fR fK fdI fdR fdK) : FnOk Pg w K mg base (L2.CX Pg w) 4 f fd ["net", "limit"] (spBad d K C [rAny] (.ref CP)) := by
  have GK : FnOk Pg w K mg base (L2.CX Pg w) 3 fK fdK ["net"] (spPlain d K C (.ref CP)) := ok_check_plain T.FK T.net T.err T.FI T.bI T.gI T.FR T.bR T.gR T.mt T.mr T.mL T.ml
  refine fn_okE F sc_bounds (fun _ => rfl) (by decide) fun z H cdv A outer s E hr hE ob => ?_
  obtain ⟨⟨n, ts⟩, hn, hl, hp⟩ := z
  dsimp only at hn hl hp hE ob ⊢
  have hr3 : Room 3 _ := hr
  refine bx_cons (Mid := fun _ _ => False) (PS_wk (ps_expr (pe_callS GK hr3 rfl T.gK T.FK.kp T.bK (fun σ => passAt (takes_of (E := E) rfl rfl rfl rfl) σ) (a_cons (x_var 0 rfl) a_nil))) fun D σ H1 ⟨s, l⟩ => ⟨s, fun vs H2 e2 hvs => ?_⟩) bx_false
  have s2 := s.mono e2
  exact ⟨⟨(n, ts), hn, hl⟩, hvs, s2.dr, fun hf => (by dsimp only at hf; rw [hp] at hf; cases hf), fun _ H3 e3 => hE trivial H3 (s2.ext.trans e3), .inr hp⟩
theorem bad_growth {f C CP fI fR fK : Addr} {fd fdI fdR fdK : FuncData} (F : Fun K "growth" "growth" s_growth f fd) (T : PlainTxt K mg C CP fI fR fK fdI fdR fdK) : FnOk Pg w K mg base (L2.CX Pg w) 4 f fd ["net", "limit", "goal", "number"] (spBad d K C [rAny, rAny, rAny] (.ref CP)) := by
  have GK : FnOk Pg w K mg base (L2.CX Pg w) 3 fK fdK ["net"] (spPlain d K C (.ref CP)) := ok_check_plain T.FK T.net T.err T.FI T.bI T.gI T.FR T.bR T.gR T.mt T.mr T.mL T.ml
  refine fn_okE F sc_growth (fun _ => rfl) (by decide) fun z H cdv A outer s E hr hE ob => ?_
  obtain ⟨⟨n, ts⟩, hn, hl, hp⟩ := z
  dsimp only at hn hl hp hE ob ⊢
  have hr3 : Room 3 _ := hr
  refine bx_cons (Mid := fun _ _ => False) (PS_wk (ps_expr (pe_callS GK hr3 rfl T.gK T.FK.kp T.bK (fun σ => passAt (takes_of (E := E) rfl rfl rfl rfl) σ) (a_cons (x_var 0 rfl) a_nil))) fun D σ H1 ⟨s, l⟩ => ⟨s, fun vs H2 e2 hvs => ?_⟩) bx_false
  have s2 := s.mono e2
  exact ⟨⟨(n, ts), hn, hl⟩, hvs, s2.dr, fun hf => (by dsimp only at hf; rw [hp] at hf; cases hf), fun _ H3 e3 => hE trivial H3 (s2.ext.trans e3), .inr hp⟩
theorem bad_longest_reach {f C CP fI fR fK fG : Addr} {fd fdI fdR fdK fdG : FuncData} (F : Fun K "longest_reach" "longest_reach" s_longest_reach f fd) (T : PlainTxt K mg C CP fI fR fK fdI fdR fdK) (FG : Fun K "growth" "growth" s_growth fG fdG) (bG : Binds K fdG ["net", "limit", "goal", "number"] []) (gG : mg "growth" = some (.ref fG)) : FnOk Pg w K mg base (L2.CX Pg w) 5 f fd ["net", "limit", "place", "number"] (spE d (fun (z : {z : Nat × List Tr // 1 ≤ z.1 ∧ z.1 ≤ 100 ∧ z.2.length ≤ 900 ∧ plainB z.1 z.2 = false}) => [insR C (netF K z.1.1 (z.1.2.map Tr.d)), rAny, rI 0, rI 1]) (fun _ => False) (fun _ => rAny) (fun _ => True) (.ref CP)) := by
  have GG : FnOk Pg w K mg base (L2.CX Pg w) 4 fG fdG ["net", "limit", "goal", "number"] (spBad d K C [rAny, rAny, rAny] (.ref CP)) := bad_growth FG T
  refine fn_okE F sc_longest_reach (fun _ => rfl) (by decide) fun z H cdv A outer s E hr hE ob => ?_
  obtain ⟨⟨n, ts⟩, hn1, hn, hl, hp⟩ := z
  dsimp only at hn1 hn hl hp hE ob ⊢
  have hr4 : Room 4 _ := hr
  have en : ((n : Int)).toNat = n := by omega
  refine bx_new 4 [] (by simp) (fun B' => x_rep (x_lst (ds := [.i 0]) (a_cons (x_Id x_int) a_nil)) (x_fld 1 T.net.cl T.net.nP (x_var 0 rfl)) (by simp; omega) (by omega)) (fun l1 hl1 _ => ?_) sc_longest_reach.nd
  rw [en, flat0]
  refine bx_setitem (k := 0) 4 rfl rfl (x_Id (x_max2 rfl T.mx x_int (x_var 3 rfl))) (x_var 2 rfl) (by simp; omega) hl1 (by (repeat' (first | exact ia_nil | refine ia_none ?_ | refine ia_some ?_ ?_ | refine ib_here ?_ | refine ib_none ?_ | refine ib_some ?_ ?_ | exact ind_I | exact ind_B | exact ind_dat | exact ind_any | exact ind_drw | exact ind_net | exact ind_dct | exact ind_dcT | exact ind_mail | exact ind_xB | exact ind_lstB (by assumption) | exact ind_own (by assumption) | exact ind_lstA (by assumption) | exact ind_own (Ne.symm (by assumption)) | exact ind_lstA (Ne.symm (by assumption)) | exact ind_tpl | exact ind_ownT (by assumption) | exact ind_ownT (Ne.symm (by assumption)) | exact ind_ll (by assumption) (by assumption) | exact ind_ll (Ne.symm (by assumption)) (by assumption)))) ?_
  refine bx_cons (Mid := fun _ _ => False) (PS_wk (ps_ret (pe_callS GG hr4 rfl gG FG.kp bG (fun σ => passAt (takes_of (E := E) rfl rfl rfl rfl) σ) (a_cons (Rs := [rAny, rAny, rAny]) (x_var 0 rfl) (a_cons (x_var 1 rfl) (a_cons (x_sub (x_tuple_l rfl T.mt (x_lstA (x_var 4 rfl))) fun _ _ _ => trivial) (a_cons (x_sub x_int fun _ _ _ => trivial) a_nil)))))) fun D σ H1 ⟨s, l⟩ => ⟨s, fun vs H2 e2 hvs => ?_⟩) bx_false
  have s2 := s.mono e2
  exact ⟨⟨(n, ts), hn, hl, hp⟩, hvs, s2.dr, fun hf => hf.elim, fun _ H3 e3 => hE trivial H3 (s2.ext.trans e3), .inr trivial⟩
theorem ok_refusals {f C CP fI fR fK f_limit_set f_judge_limits f_bounds f_growth f_longest_reach : Addr} {fd fdI fdR fdK d_limit_set d_judge_limits d_bounds d_growth d_longest_reach : FuncData} (F : Fun K "_law_refusals" "_law_refusals" s_law_refusals f fd) (T : PlainTxt K mg C CP fI fR fK fdI fdR fdK) (F_limit_set : Fun K "limit_set" "limit_set" s_limit_set f_limit_set d_limit_set) (b_limit_set : Binds K d_limit_set ["net", "limit"] []) (g_limit_set : mg "limit_set" = some (.ref f_limit_set)) (F_judge_limits : Fun K "judge_limits" "judge_limits" s_judge_limits f_judge_limits d_judge_limits) (b_judge_limits : Binds K d_judge_limits ["net", "limit", "limits"] []) (g_judge_limits : mg "judge_limits" = some (.ref f_judge_limits)) (F_bounds : Fun K "bounds" "bounds" s_bounds f_bounds d_bounds) (b_bounds : Binds K d_bounds ["net", "limit"] []) (g_bounds : mg "bounds" = some (.ref f_bounds)) (F_growth : Fun K "growth" "growth" s_growth f_growth d_growth) (b_growth : Binds K d_growth ["net", "limit", "goal", "number"] []) (g_growth : mg "growth" = some (.ref f_growth)) (F_longest_reach : Fun K "longest_reach" "longest_reach" s_longest_reach f_longest_reach d_longest_reach) (b_longest_reach : Binds K d_longest_reach ["net", "limit", "place", "number"] []) (g_longest_reach : mg "longest_reach" = some (.ref f_longest_reach)) : FnOk Pg w K mg base CX0 6 f fd ["net", "limit"]
    (spP d (fun (z : {z : Nat × List Tr × List Int // 1 ≤ z.1 ∧ z.1 ≤ 100 ∧ z.2.1.length ≤ 900 ∧ plainB z.1 z.2.1 = false}) => [insR C (netF K z.1.1 (z.1.2.1.map Tr.d)), dat K (tI z.1.2.2)]) (fun _ _ => rI 5)) := by
  have G_limit_set : FnOk Pg w K mg base (L2.CX Pg w) 4 f_limit_set d_limit_set ["net", "limit"] (spBad d K C [rAny] (.ref CP)) := bad_limit_set F_limit_set T
  have G_judge_limits : FnOk Pg w K mg base (L2.CX Pg w) 4 f_judge_limits d_judge_limits ["net", "limit", "limits"] (spBad d K C [rAny, rAny] (.ref CP)) := bad_judge_limits F_judge_limits T
  have G_bounds : FnOk Pg w K mg base (L2.CX Pg w) 4 f_bounds d_bounds ["net", "limit"] (spBad d K C [rAny] (.ref CP)) := bad_bounds F_bounds T
  have G_growth : FnOk Pg w K mg base (L2.CX Pg w) 4 f_growth d_growth ["net", "limit", "goal", "number"] (spBad d K C [rAny, rAny, rAny] (.ref CP)) := bad_growth F_growth T
  have G_longest_reach : FnOk Pg w K mg base (L2.CX Pg w) 5 f_longest_reach d_longest_reach ["net", "limit", "place", "number"] (spE d (fun (z : {z : Nat × List Tr // 1 ≤ z.1 ∧ z.1 ≤ 100 ∧ z.2.length ≤ 900 ∧ plainB z.1 z.2 = false}) => [insR C (netF K z.1.1 (z.1.2.map Tr.d)), rAny, rI 0, rI 1]) (fun _ => False) (fun _ => rAny) (fun _ => True) (.ref CP)) := bad_longest_reach F_longest_reach T F_growth b_growth g_growth
  refine fn_ok F sc_law_refusals (fun _ => rfl) (by decide) fun z H cdv A outer s E hr => ?_
  obtain ⟨⟨n, ts, lim⟩, hn1, hn, hl, hp⟩ := z
  dsimp only at hn1 hn hl hp ⊢
  refine bx_set 2 x_int ?_ sc_law_refusals.nd
  refine bx_pre (Pre' := St (d := d) H [some (insR C (netF K n (ts.map Tr.d))), some (dat K (tI lim)), some (rI 0)]) ?_ (fun σ H s => s.sub (by (repeat (first | exact Sub.nil | refine Sub.same ?_ | refine Sub.drop ?_))))
  refine bx_cons (Mid := St (d := d) H [some (insR C (netF K n (ts.map Tr.d))), some (dat K (tI lim)), some (rI 1)]) (PS_wk (ps_try_only (c := .ref CP)
      (tb := fun W => tDrop (tCallS (spBad d K C [rAny] (.ref CP)) (WE W) (fun σ H' Q => St (d := d) H [some (insR C (netF K n (ts.map Tr.d))), some (dat K (tI lim)), some (rI 0)] σ H' ∧ ∀ vs H2, Ext d H' H2 → RsH (d := d) [insR C (netF K n (ts.map Tr.d)), rAny] vs H2 → Q vs H2)))
      (ts := fun a cls d' => tAsg (tOp _ (tVar 2) (tC (.int 1))) (gName 2))
      (Wout := fun _ _ _ _ => False) rfl rfl ⟨rfl, by decide, .inl T.err.gC⟩ takes0
      (fun W pn xe tk _ => pss_one (ps_expr (pe_callS (G_limit_set) (hr.mono (by decide)) rfl g_limit_set F_limit_set.kp b_limit_set (fun σ => passAt tk σ) (a_cons (x_var 0 rfl) (a_cons (x_sub (x_var 1 rfl) fun _ _ _ => trivial) a_nil)))))
      (fun a oe cls d' pn hz hf => pss_one (ps_set (i := 2) sc_law_refusals.nd rfl (Or.inl rfl) (pe_op op_add (pv 2) pe_int)))) fun D σ H1 ⟨st, l⟩ => ?_) ?_
  · refine ⟨st, fun vs H2 e2 hvs => ⟨⟨(n, ts), hn, hl, hp⟩, hvs, (st.mono e2).dr, fun hf => hf.elim, fun _ H3 e3 => ⟨true, T.err.te, fun _ a ha => ?_, fun q => nomatch q⟩, .inr trivial⟩⟩
    have s3 := (st.mono e2).mono e3
    obtain ⟨v, h1, h2⟩ := s3.good.get (i := 2) rfl
    obtain rfl : v = .int 0 := h2
    refine ⟨.int 0, h1, 0, 1, rfl, rfl, l.nx _ _ (e2.tk.trans e3.tk) ⟨s3.ext, s3.dr, s3.good.set 2 (R := rI 1) rfl⟩⟩
  refine bx_cons (Mid := St (d := d) H [some (insR C (netF K n (ts.map Tr.d))), some (dat K (tI lim)), some (rI 2)]) (PS_wk (ps_try_only (c := .ref CP)
      (tb := fun W => tDrop (tCallS (spBad d K C [rAny, rAny] (.ref CP)) (WE W) (fun σ H' Q => St (d := d) H [some (insR C (netF K n (ts.map Tr.d))), some (dat K (tI lim)), some (rI 1)] σ H' ∧ ∀ vs H2, Ext d H' H2 → RsH (d := d) [insR C (netF K n (ts.map Tr.d)), rAny, rAny] vs H2 → Q vs H2)))
      (ts := fun a cls d' => tAsg (tOp _ (tVar 2) (tC (.int 1))) (gName 2))
      (Wout := fun _ _ _ _ => False) rfl rfl ⟨rfl, by decide, .inl T.err.gC⟩ takes0
      (fun W pn xe tk _ => pss_one (ps_expr (pe_callS (G_judge_limits) (hr.mono (by decide)) rfl g_judge_limits F_judge_limits.kp b_judge_limits (fun σ => passAt tk σ) (a_cons (x_var 0 rfl) (a_cons (x_sub (x_var 1 rfl) fun _ _ _ => trivial) (a_cons (x_sub (x_lst (ds := [tI lim]) (a_cons (x_var 1 rfl) a_nil)) fun _ _ _ => trivial) a_nil))))))
      (fun a oe cls d' pn hz hf => pss_one (ps_set (i := 2) sc_law_refusals.nd rfl (Or.inl rfl) (pe_op op_add (pv 2) pe_int)))) fun D σ H1 ⟨st, l⟩ => ?_) ?_
  · refine ⟨st, fun vs H2 e2 hvs => ⟨⟨(n, ts), hn, hl, hp⟩, hvs, (st.mono e2).dr, fun hf => hf.elim, fun _ H3 e3 => ⟨true, T.err.te, fun _ a ha => ?_, fun q => nomatch q⟩, .inr trivial⟩⟩
    have s3 := (st.mono e2).mono e3
    obtain ⟨v, h1, h2⟩ := s3.good.get (i := 2) rfl
    obtain rfl : v = .int 1 := h2
    refine ⟨.int 1, h1, 1, 1, rfl, rfl, l.nx _ _ (e2.tk.trans e3.tk) ⟨s3.ext, s3.dr, s3.good.set 2 (R := rI 2) rfl⟩⟩
  refine bx_cons (Mid := St (d := d) H [some (insR C (netF K n (ts.map Tr.d))), some (dat K (tI lim)), some (rI 3)]) (PS_wk (ps_try_only (c := .ref CP)
      (tb := fun W => tDrop (tCallS (spBad d K C [rAny] (.ref CP)) (WE W) (fun σ H' Q => St (d := d) H [some (insR C (netF K n (ts.map Tr.d))), some (dat K (tI lim)), some (rI 2)] σ H' ∧ ∀ vs H2, Ext d H' H2 → RsH (d := d) [insR C (netF K n (ts.map Tr.d)), rAny] vs H2 → Q vs H2)))
      (ts := fun a cls d' => tAsg (tOp _ (tVar 2) (tC (.int 1))) (gName 2))
      (Wout := fun _ _ _ _ => False) rfl rfl ⟨rfl, by decide, .inl T.err.gC⟩ takes0
      (fun W pn xe tk _ => pss_one (ps_expr (pe_callS (G_bounds) (hr.mono (by decide)) rfl g_bounds F_bounds.kp b_bounds (fun σ => passAt tk σ) (a_cons (x_var 0 rfl) (a_cons (x_sub (x_var 1 rfl) fun _ _ _ => trivial) a_nil)))))
      (fun a oe cls d' pn hz hf => pss_one (ps_set (i := 2) sc_law_refusals.nd rfl (Or.inl rfl) (pe_op op_add (pv 2) pe_int)))) fun D σ H1 ⟨st, l⟩ => ?_) ?_
  · refine ⟨st, fun vs H2 e2 hvs => ⟨⟨(n, ts), hn, hl, hp⟩, hvs, (st.mono e2).dr, fun hf => hf.elim, fun _ H3 e3 => ⟨true, T.err.te, fun _ a ha => ?_, fun q => nomatch q⟩, .inr trivial⟩⟩
    have s3 := (st.mono e2).mono e3
    obtain ⟨v, h1, h2⟩ := s3.good.get (i := 2) rfl
    obtain rfl : v = .int 2 := h2
    refine ⟨.int 2, h1, 2, 1, rfl, rfl, l.nx _ _ (e2.tk.trans e3.tk) ⟨s3.ext, s3.dr, s3.good.set 2 (R := rI 3) rfl⟩⟩
  refine bx_cons (Mid := St (d := d) H [some (insR C (netF K n (ts.map Tr.d))), some (dat K (tI lim)), some (rI 4)]) (PS_wk (ps_try_only (c := .ref CP)
      (tb := fun W => tDrop (tCallS (spBad d K C [rAny, rAny, rAny] (.ref CP)) (WE W) (fun σ H' Q => St (d := d) H [some (insR C (netF K n (ts.map Tr.d))), some (dat K (tI lim)), some (rI 3)] σ H' ∧ ∀ vs H2, Ext d H' H2 → RsH (d := d) [insR C (netF K n (ts.map Tr.d)), rAny, rAny, rAny] vs H2 → Q vs H2)))
      (ts := fun a cls d' => tAsg (tOp _ (tVar 2) (tC (.int 1))) (gName 2))
      (Wout := fun _ _ _ _ => False) rfl rfl ⟨rfl, by decide, .inl T.err.gC⟩ takes0
      (fun W pn xe tk _ => pss_one (ps_expr (pe_callS (G_growth) (hr.mono (by decide)) rfl g_growth F_growth.kp b_growth (fun σ => passAt tk σ) (a_cons (x_var 0 rfl) (a_cons (x_sub (x_var 1 rfl) fun _ _ _ => trivial) (a_cons (x_sub (x_var 1 rfl) fun _ _ _ => trivial) (a_cons (x_sub x_int fun _ _ _ => trivial) a_nil)))))))
      (fun a oe cls d' pn hz hf => pss_one (ps_set (i := 2) sc_law_refusals.nd rfl (Or.inl rfl) (pe_op op_add (pv 2) pe_int)))) fun D σ H1 ⟨st, l⟩ => ?_) ?_
  · refine ⟨st, fun vs H2 e2 hvs => ⟨⟨(n, ts), hn, hl, hp⟩, hvs, (st.mono e2).dr, fun hf => hf.elim, fun _ H3 e3 => ⟨true, T.err.te, fun _ a ha => ?_, fun q => nomatch q⟩, .inr trivial⟩⟩
    have s3 := (st.mono e2).mono e3
    obtain ⟨v, h1, h2⟩ := s3.good.get (i := 2) rfl
    obtain rfl : v = .int 3 := h2
    refine ⟨.int 3, h1, 3, 1, rfl, rfl, l.nx _ _ (e2.tk.trans e3.tk) ⟨s3.ext, s3.dr, s3.good.set 2 (R := rI 4) rfl⟩⟩
  refine bx_cons (Mid := St (d := d) H [some (insR C (netF K n (ts.map Tr.d))), some (dat K (tI lim)), some (rI 5)]) (PS_wk (ps_try_only (c := .ref CP)
      (tb := fun W => tDrop (tCallS (spE d (fun (z : {z : Nat × List Tr // 1 ≤ z.1 ∧ z.1 ≤ 100 ∧ z.2.length ≤ 900 ∧ plainB z.1 z.2 = false}) => [insR C (netF K z.1.1 (z.1.2.map Tr.d)), rAny, rI 0, rI 1]) (fun _ => False) (fun _ => rAny) (fun _ => True) (.ref CP)) (WE W) (fun σ H' Q => St (d := d) H [some (insR C (netF K n (ts.map Tr.d))), some (dat K (tI lim)), some (rI 4)] σ H' ∧ ∀ vs H2, Ext d H' H2 → RsH (d := d) [insR C (netF K n (ts.map Tr.d)), rAny, rI 0, rI 1] vs H2 → Q vs H2)))
      (ts := fun a cls d' => tAsg (tOp _ (tVar 2) (tC (.int 1))) (gName 2))
      (Wout := fun _ _ _ _ => False) rfl rfl ⟨rfl, by decide, .inl T.err.gC⟩ takes0
      (fun W pn xe tk _ => pss_one (ps_expr (pe_callS (G_longest_reach) (hr.mono (by decide)) rfl g_longest_reach F_longest_reach.kp b_longest_reach (fun σ => passAt tk σ) (a_cons (x_var 0 rfl) (a_cons (x_sub (x_var 1 rfl) fun _ _ _ => trivial) (a_cons x_int (a_cons x_int a_nil)))))))
      (fun a oe cls d' pn hz hf => pss_one (ps_set (i := 2) sc_law_refusals.nd rfl (Or.inl rfl) (pe_op op_add (pv 2) pe_int)))) fun D σ H1 ⟨st, l⟩ => ?_) ?_
  · refine ⟨st, fun vs H2 e2 hvs => ⟨⟨(n, ts), hn1, hn, hl, hp⟩, hvs, (st.mono e2).dr, fun hf => hf.elim, fun _ H3 e3 => ⟨true, T.err.te, fun _ a ha => ?_, fun q => nomatch q⟩, .inr trivial⟩⟩
    have s3 := (st.mono e2).mono e3
    obtain ⟨v, h1, h2⟩ := s3.good.get (i := 2) rfl
    obtain rfl : v = .int 4 := h2
    refine ⟨.int 4, h1, 4, 1, rfl, rfl, l.nx _ _ (e2.tk.trans e3.tk) ⟨s3.ext, s3.dr, s3.good.set 2 (R := rI 5) rfl⟩⟩
  exact bx_retR (x_var 2 rfl) rfl
abbrev spFl (d : Option Addr) (K : PySem.W.Frag) (C : Addr) (c : Value) : Sp := spE d (fun (z : {z : Nat × List Tr × Nat × Tr × List Int // z.1 ≤ 100 ∧ z.2.1.length ≤ 900 ∧ z.2.1[z.2.2.1]? = some z.2.2.2.1 ∧ TrOk z.1 z.2.2.2.1 ∧ z.2.2.2.2.length = z.1}) => [insR C (netF K z.1.1 (z.1.2.1.map Tr.d)), rI (z.1.2.2.1 : Int), dat K (tI z.1.2.2.2.2)]) (fun z => plainB z.1.1 z.1.2.1 = true) (fun z => dat K (flO z.1.1 z.1.2.2.2.1 z.1.2.2.2.2)) (fun z => False) c
theorem ok_fire_limit {f C CP fI fR fK fF : Addr} {fd fdI fdR fdK fdF : FuncData} (F : Fun K "fire_limit" "fire_limit" s_fire_limit f fd) (T : PlainTxt K mg C CP fI fR fK fdI fdR fdK) (FF : Fun K "limit_after" "limit_after" s_limit_after fF fdF) (bF : Binds K fdF ["transition", "limit"] []) (gF : mg "limit_after" = some (.ref fF)) (mz : mg "zip" = none) : FnOk Pg w K mg base (L2.CX Pg w) 4 f fd ["net", "index", "limit"] (spFl d K C (.ref CP)) := by
  have GK : FnOk Pg w K mg base (L2.CX Pg w) 3 fK fdK ["net"] (spPlain d K C (.ref CP)) := ok_check_plain T.FK T.net T.err T.FI T.bI T.gI T.FR T.bR T.gR T.mt T.mr T.mL T.ml
  refine fn_okE F sc_fire_limit (fun _ => rfl) (by decide) fun z H cdv A outer s E hr hE ob => ?_
  obtain ⟨⟨n, ts, i, t, lim⟩, hn, hl, hti, ht, hlim⟩ := z
  dsimp only at hn hl hti ht hlim hE ob ⊢
  have hr3 : Room 3 _ := hr
  have hp : plainB n ts = true := ob.elim id fun h => h.elim
  have hti' : (ts.map Tr.d)[i]? = some t.d := by rw [List.getElem?_map, hti]; rfl
  have GK' : FnOk Pg w K mg base (L2.CX Pg w) 3 fK fdK ["net"] (spP d (fun (_ : Unit) => [insR C (netF K n (ts.map Tr.d))]) (fun _ _ => rAny)) := GK.imp fun vs H Q E ⟨_, h1, h2, h3⟩ => ⟨⟨(n, ts), hn, hl⟩, h1, h2, fun _ v H' e hv => h3 v H' e hv, fun hf => (by dsimp only at hf; rw [hp] at hf; cases hf), .inl hp⟩
  refine bx_expr (x_call (E := E0) (R := rAny) GK' hr3 rfl T.gK T.FK.kp T.bK passX () (a_cons (x_var 0 rfl) a_nil) fun v H H' σ _ _ h => h) ?_
  exact bx_ret (x_call (E := E0) (R := dat K (flO n t lim)) (ok_fired (Pg := Pg) (w := w) (base := base) FF mz T.mt) (hr3.mono (by decide)) rfl gF FF.kp bF pass0 ⟨(n, t, lim), ht, hlim, hn⟩ (a_cons (x_ixt (w := t.d) (x_fld 0 T.net.cl T.net.nT (x_var 0 rfl)) (x_var 1 rfl) (atI_nat hti')) (a_cons (x_var 2 rfl) a_nil)) fun v H H' σ _ _ h => h) fun v σ H' s hv => ⟨hp, s.ext, hv⟩
end
end Cv

namespace Cv
open PySem PySem.Spec PyProof.Rows L2 RZ
section
variable {P : Program} {w : World} {K : PySem.W.Frag} {mg : Str → Option Value} {base : Heap}
structure LawTxt (K : PySem.W.Frag) (mg : Str → Option Value) (C CP : Addr) : Prop where
  net : NetTxt K mg C
  err : ErrTxt K mg CP "NotPlain"
  ml : mg "len" = none
  mi : mg "int" = none
  mt : mg "tuple" = none
  mL : mg "list" = none
  mr : mg "range" = none
  mx : mg "max" = none
  mn : mg "min" = none
  mz : mg "zip" = none
  ms : mg "isinstance" = none
  mb : mg "bool" = none
theorem ok_law {f C CP fNI fNum fChk fIp fRp fCp fFl fFd fLs fJl fBo fGr fLg fDr fTk fJ fNs fLc fLl fLa fTr fLn fLp fLch fLf fLfl fLam fRfs : Addr} {fd dNI dNum dChk dIp dRp dCp dFl dFd dLs dJl dBo dGr dLg dDr dTk dJ dNs dLc dLl dLa dTr dLn dLp dLch dLf dLfl dLam dRfs : FuncData} {t1 t2 t3 : Tok} (F : Fun K "law" "law" s_law f fd) (T : LawTxt K mg C CP)
    (FNum : Fun K "_numbers" "_numbers" s_numbers fNum dNum) (bNum : Binds K dNum ["row", "places", "least", "most"] []) (gNum : mg "_numbers" = some (.ref fNum))
    (FChk : Fun K "_checked" "_checked" s_checked fChk dChk) (bChk : Binds K dChk ["transition", "places"] []) (gChk : mg "_checked" = some (.ref fChk))
    (FIp : Fun K "is_plain" "is_plain" s_is_plain fIp dIp) (bIp : Binds K dIp ["net"] []) (gIp : mg "is_plain" = some (.ref fIp))
    (FRp : Fun K "runs_plainly" "runs_plainly" s_runs_plainly fRp dRp) (bRp : Binds K dRp ["net", "run"] []) (gRp : mg "runs_plainly" = some (.ref fRp))
    (FCp : Fun K "check_plain" "check_plain" s_check_plain fCp dCp) (bCp : Binds K dCp ["net"] []) (gCp : mg "check_plain" = some (.ref fCp))
    (FFl : Fun K "fire_limit" "fire_limit" s_fire_limit fFl dFl) (bFl : Binds K dFl ["net", "index", "limit"] []) (gFl : mg "fire_limit" = some (.ref fFl))
    (FFd : Fun K "limit_after" "limit_after" s_limit_after fFd dFd) (bFd : Binds K dFd ["transition", "limit"] []) (gFd : mg "limit_after" = some (.ref fFd))
    (FLs : Fun K "limit_set" "limit_set" s_limit_set fLs dLs) (bLs : Binds K dLs ["net", "limit"] []) (gLs : mg "limit_set" = some (.ref fLs))
    (FJl : Fun K "judge_limits" "judge_limits" s_judge_limits fJl dJl) (bJl : Binds K dJl ["net", "limit", "limits"] []) (gJl : mg "judge_limits" = some (.ref fJl))
    (FBo : Fun K "bounds" "bounds" s_bounds fBo dBo) (bBo : Binds K dBo ["net", "limit"] []) (gBo : mg "bounds" = some (.ref fBo))
    (FGr : Fun K "growth" "growth" s_growth fGr dGr) (bGr : Binds K dGr ["net", "limit", "goal", "number"] []) (gGr : mg "growth" = some (.ref fGr))
    (FLg : Fun K "longest_reach" "longest_reach" s_longest_reach fLg dLg) (bLg : Binds K dLg ["net", "limit", "place", "number"] []) (gLg : mg "longest_reach" = some (.ref fLg))
    (FDr : Fun K "_law_draws" "_law_draws" s_law_draws fDr dDr) (bDr : Binds K dDr ["script", "count"] []) (gDr : mg "_law_draws" = some (.ref fDr))
    (FTk : Fun K "_law_take" "_law_take" s_law_take fTk dTk) (bTk : Binds K dTk ["draws", "limit"] []) (gTk : mg "_law_take" = some (.ref fTk))
    (FJ : Fun K "_law_is_integer" "_law_is_integer" s_law_is_integer fJ dJ) (bJ : Binds K dJ ["actual"] []) (gJ : mg "_law_is_integer" = some (.ref fJ))
    (FNs : Fun K "_law_numbers" "_law_numbers" s_law_numbers fNs dNs) (bNs : Binds K dNs ["actual", "size", "low"] []) (gNs : mg "_law_numbers" = some (.ref fNs))
    (FLc : Fun K "_law_covers" "_law_covers" s_law_covers fLc dLc) (bLc : Binds K dLc ["first", "second"] []) (gLc : mg "_law_covers" = some (.ref fLc))
    (FLl : Fun K "_law_limit" "_law_limit" s_law_limit fLl dLl) (bLl : Binds K dLl ["draws", "size", "most"] []) (gLl : mg "_law_limit" = some (.ref fLl))
    (FLa : Fun K "_law_admits" "_law_admits" s_law_admits fLa dLa) (bLa : Binds K dLa ["limit", "marking"] []) (gLa : mg "_law_admits" = some (.ref fLa))
    (FTr : Fun K "_law_transition" "_law_transition" s_law_transition fTr dTr) (bTr : Binds K dTr ["draws", "places", "plain"] []) (gTr : mg "_law_transition" = some (.ref fTr))
    (FLn : Fun K "_law_net" "_law_net" s_law_net fLn dLn) (bLn : Binds K dLn ["draws", "places", "most", "plain"] []) (gLn : mg "_law_net" = some (.ref fLn))
    (FLp : Fun K "_law_is_plain" "_law_is_plain" s_law_is_plain fLp dLp) (bLp : Binds K dLp ["transitions"] []) (gLp : mg "_law_is_plain" = some (.ref fLp))
    (FLch : Fun K "_law_change" "_law_change" s_law_change fLch dLch) (bLch : Binds K dLch ["transition"] []) (gLch : mg "_law_change" = some (.ref fLch))
    (FLf : Fun K "_law_fire" "_law_fire" s_law_fire fLf dLf) (bLf : Binds K dLf ["transition", "marking"] []) (gLf : mg "_law_fire" = some (.ref fLf))
    (FLfl : Fun K "_law_fire_limit" "_law_fire_limit" s_law_fire_limit fLfl dLfl) (bLfl : Binds K dLfl ["transition", "limit"] []) (gLfl : mg "_law_fire_limit" = some (.ref fLfl))
    (FLam : Fun K "_law_admitted_marking" "_law_admitted_marking" s_law_admitted_marking fLam dLam) (bLam : Binds K dLam ["draws", "limit"] []) (gLam : mg "_law_admitted_marking" = some (.ref fLam))
    (FRfs : Fun K "_law_refusals" "_law_refusals" s_law_refusals fRfs dRfs) (bRfs : Binds K dRfs ["net", "limit"] []) (gRfs : mg "_law_refusals" = some (.ref fRfs))
    (FNI : Fun K "__init__" "Net.__init__" s_Net_init fNI dNI) (bNI : Binds K dNI ["self", "places", "transitions"] []) (MNI : Mk K C fNI)
    (gP : mg "MOST_PLACES" = some (.int 12 t1)) (gT : mg "MOST_TRANSITIONS" = some (.int 24 t2)) (gM : mg "MOST_TOKENS" = some (.int 9 t3)) : FnOk P w K mg base CX0 7 f fd ["script"] (spLaw K) := by
  have PT : PlainTxt K mg C CP fIp fRp fCp dIp dRp dCp := ⟨T.net, T.err, FIp, bIp, gIp, FRp, bRp, gRp, FCp, bCp, gCp, T.mt, T.mr, T.mL, T.ml, T.mx⟩
  refine fn_okG F sc_law (fun vs H Q E ⟨a, ns, h, _⟩ => by rw [h]; rfl) fun vs H Q E hsp cdv A outer s hr => ?_
  obtain ⟨a, ns, rfl, hS, hlen, q⟩ := hsp
  have r1 : Room 1 _ := hr.mono (by decide)
  have r2 : Room 2 _ := hr.mono (by decide)
  have r3 : Room 3 _ := hr.mono (by decide)
  have r4 : Room 4 _ := hr.mono (by decide)
  refine ⟨St (d := none) H [some (lstB H K a (ns.map D.i)), none, none, none, none, none, none, none, none, none, none], { nx := fun _ _ => False, rt := fun v _ => v = .bl true }, ?_, ?_, ⟨fun _ _ _ h => h.elim, fun v H' _ h => by rw [h]; exact q H', fun _ _ _ h => h.elim, fun _ _ _ h => h.elim⟩⟩
  · refine (st_toB (ρ := [some (lstA K a (ns.map D.i)), none, none, none, none, none, none, none, none, none, none]) 0 rfl ⟨Ext.refl H, fun _ e => (by cases e), rfl, fun i R e => ?_⟩).sub (by (repeat (first | exact Sub.nil | refine Sub.same ?_ | refine Sub.drop ?_)))
    match i, e with
    | 0, e =>
      cases e
      refine ⟨_, rfl, rfl, trivial, _, ?_, DRl.of_ints ns⟩
      rcases hS with (h | ⟨o, h⟩) | h
      · exact .inl ⟨fun z => (by cases z), h⟩
      · exact .inr (.inl ⟨o, h⟩)
      · exact .inr (.inr h)
    | i + 1, e => match i, e with
      | 0, e => cases e
      | 1, e => cases e
      | 2, e => cases e
      | 3, e => cases e
      | 4, e => cases e
      | 5, e => cases e
      | 6, e => cases e
      | 7, e => cases e
      | 8, e => cases e
      | 9, e => cases e
      | i + 10, e => cases e
  -- the draws
  refine bx_newE 1 [] (by simp) (fun B' => x_call (E := E0) (ok_draws (P := P) (w := w) (base := base) FDr T.ml T.mL T.mr T.mi) r1 rfl gDr FDr.kp bDr pass0 ⟨(a, ns, 120), by simp, by simp, by dsimp only; omega⟩ (a_cons (x_lstB (x_var 0 rfl)) (a_cons x_int a_nil)) fun v H H' σ s _ h => newE_up s h) (fun l ds hds hl _ => ?_) sc_law.nd
  obtain ⟨dn, rfl, hdn⟩ := hds
  refine bx_pre (Pre' := St (d := some l) H [some (lstB H K a (ns.map D.i)), some drw, none, none, none, none, none, none, none, none, none]) ?_ (fun σ H' s => ?_)
  rotate_left
  · -- from here on the draws are at l
    obtain ⟨v1, h1, rfl, _, vs1, hv1, hd1⟩ := s.good.get (i := 1) rfl
    obtain ⟨v0, h0, hv0⟩ := s.good.get (i := 0) rfl
    refine ⟨⟨fun b o hb _ => s.ext.keep b o hb fun z => (by cases z), fun b hb ⟨ms, _, hm⟩ => by cases hb; rw [hl] at hm; cases hm⟩, fun b hb => ?_, s.good.1, fun i R e => ?_⟩
    · cases hb
      obtain rfl := hd1.ints
      exact ⟨dn, hdn, hv1⟩
    · match i, e with
      | 0, e => cases e; exact ⟨v0, h0, lstB_d (fun l' e => by cases e; exact hl) hv0⟩
      | 1, e => cases e; exact ⟨_, h1, l, rfl, rfl⟩
      | 2, e => cases e
      | 3, e => cases e
      | 4, e => cases e
      | 5, e => cases e
      | 6, e => cases e
      | 7, e => cases e
      | 8, e => cases e
      | 9, e => cases e
      | 10, e => cases e
      | i + 11, e => cases e
  have GTk : FnOk P w K mg base CX0 1 fTk dTk ["draws", "limit"] spTake := ok_take FTk T.ml T.mi
  have r6 : Room 6 _ := hr.mono (by decide)
  -- places
  refine bx_set 2 (x_addE (x_I x_int) (x_take (E := E0) GTk r1 rfl gTk FTk.kp bTk pass0 (x_var 1 rfl) x_int (by decide))) (bx_open 2 rfl fun n0 hn0 => ?_) sc_law.nd
  obtain ⟨n, rfl, hn1, hn2⟩ : ∃ n : Nat, n0 = (n : Int) ∧ 1 ≤ n ∧ n ≤ 4 := by
    obtain ⟨i, j, rfl, hj, rfl⟩ := hn0
    exact ⟨(1 + j).toNat, by omega, by omega, by omega⟩
  -- transitions
  have GLn : FnOk P w K mg base CX0 3 fLn dLn ["draws", "places", "most", "plain"] (spP (some l) (fun (_ : Unit) => [drw, rI (n : Int), rI ((4 : Nat) : Int), exR (fun _ => True) rB]) (fun _ H => newE H K fun ds => 1 ≤ ds.length ∧ ds.length ≤ 4 ∧ ∀ (k : Nat) (w : D), ds[k]? = some w → okTr n false w)) :=
    (ok_lnet (P := P) (w := w) (base := base) FLn FTk bTk gTk FTr bTr gTr T.ml T.mi T.mt T.mL T.mr).imp fun vs H Q E ⟨_, h1, h2, h3⟩ => by
      match vs, h1 with
      | [v1, v2, v3, v4], ⟨g1, g2, g3, ⟨b, _, g4⟩, _⟩ =>
        exact ⟨⟨(n, 4, b), hn1, by dsimp only; omega, by simp, by simp⟩, ⟨g1, g2, g3, g4, trivial⟩, h2, fun v H' e ⟨ds, ⟨k1, k2, k3⟩, hv⟩ => h3 v H' e ⟨ds, ⟨k1, k2, fun k w hk => let ⟨t, q1, q2, _⟩ := k3 k w hk; ⟨t, q1, q2, fun z => nomatch z⟩⟩, hv⟩⟩
  refine bx_newE 3 [] (by simp) (fun B' => x_call (E := E0) GLn r3 rfl gLn FLn.kp bLn pass0 () (a_cons (x_var 1 rfl) (a_cons (x_var 2 rfl) (a_cons x_int (a_cons (x_gtX (x_take (E := E0) GTk r1 rfl gTk FTk.kp bTk pass0 (x_var 1 rfl) x_int (by decide)) (x_I x_int)) a_nil)))) fun v H H' σ s _ h => newE_up s h) (fun l3 ds hds hl3 _ => ?_) sc_law.nd
  obtain ⟨hd1, hd4, hds⟩ := hds
  obtain ⟨ts, rfl, hts⟩ := trs_of hds
  rw [List.length_map] at hd1 hd4
  -- net
  have GN : FnOk P w K mg base CX0 3 fNI dNI ["self", "places", "transitions"] (spI (some l) C (fun (z : {z : Nat × List Tr // 1 ≤ z.1 ∧ z.1 ≤ 12 ∧ z.2.length ≤ 24 ∧ ∀ t ∈ z.2, TrOk z.1 t}) => [rI (z.1.1 : Int), lst K (z.1.2.map Tr.d)]) (fun z => netF K z.1.1 (z.1.2.map Tr.d))) :=
    ok_net FNI T.net FChk bChk gChk FNum bNum gNum gM gP gT T.ml T.mt
  refine bx_set 4 (R := insR C (netF K n (ts.map Tr.d))) (x_makeZ (E := E0) (F := fun (z : {z : Nat × List Tr // 1 ≤ z.1 ∧ z.1 ≤ 12 ∧ z.2.length ≤ 24 ∧ ∀ t ∈ z.2, TrOk z.1 t}) => netF K z.1.1 (z.1.2.map Tr.d)) ⟨(n, ts), hn1, by dsimp only; omega, by dsimp only; omega, hts⟩ MNI GN r4 rfl T.net.gC bNI pass0 (a_cons (x_var 2 rfl) (a_cons (x_sub (x_list_l rfl T.mL (x_lstA (x_var 3 rfl))) fun v H hv => newL_lst hv) a_nil)) rfl) ?_ sc_law.nd
  -- limit, marking
  refine bx_set 5 (x_call (E := E0) (R := dE K fun w => ∃ ms : List Int, w = tI ms ∧ (ms.length : Int) = n ∧ ∀ x ∈ ms, -1 ≤ x ∧ x ≤ 3) (ok_llimit (Pg := P) (w := w) (base := base) FLl FTk bTk gTk T.ml T.mi T.mt T.mr) r2 rfl gLl FLl.kp bLl pass0 ⟨((n : Int), 3), by dsimp only; omega, by dsimp only; omega, by simp⟩ (a_cons (x_var 1 rfl) (a_cons (x_var 2 rfl) (a_cons x_int a_nil))) fun v H H' σ s _ h => h) (bx_open 5 rfl fun w0 hw0 => ?_) sc_law.nd
  obtain ⟨lim, rfl, hlim, hlo⟩ := hw0
  replace hlim : lim.length = n := by omega
  replace hlo : ∀ x ∈ lim, -1 ≤ x := fun x hx => (hlo x hx).1
  refine bx_set 6 (x_call (E := E0) (R := dE K fun w => ∃ ms : List Int, w = tI ms ∧ ms.length = lim.length ∧ adm1 lim ms) (ok_ladmitted (Pg := P) (w := w) (base := base) FLam FTk bTk gTk T.ml T.mi T.mt T.mn) r2 rfl gLam FLam.kp bLam pass0 ⟨lim, by omega, hlo⟩ (a_cons (x_var 1 rfl) (a_cons (x_var 5 rfl) a_nil)) fun v H H' σ s _ h => h) (bx_open 6 rfl fun w0 hw0 => ?_) sc_law.nd
  obtain ⟨m, rfl, hm, hadm⟩ := hw0
  replace hm : m.length = n := by omega
  -- if not _law_is_plain(transitions): return _law_refusals(net, limit) == 5
  refine bx_ifret (t_not (t_val (x_call (E := E0) (R := rB (plainB n ts)) (ok_lisplain (Pg := P) (w := w) (base := base) FLp T.mt T.mr T.ml) r1 rfl gLp FLp.kp bLp pass0 ⟨(n, ts), by dsimp only; omega, hts⟩ (a_cons (x_sub (x_lstA (x_var 3 rfl)) fun v H hv => ⟨_, trivial, hv⟩) a_nil) fun v H H' σ s _ h => h))) (fun h => ?_) (fun h => ?_)
  · have hp : plainB n ts = false := by
      cases q : plainB n ts with
      | false => rfl
      | true => rw [q] at h; cases h
    refine bx_ret (R := rB true) (x_cmp op_eq (nomark _) (x_call (E := E0) (R := rI 5) (ok_refusals (Pg := P) (w := w) (base := base) FRfs PT FLs bLs gLs FJl bJl gJl FBo bBo gBo FGr bGr gGr FLg bLg gLg) r6 rfl gRfs FRfs.kp bRfs pass0 ⟨(n, ts, lim), hn1, by dsimp only; omega, by dsimp only; omega, hp⟩ (a_cons (x_var 4 rfl) (a_cons (x_var 5 rfl) a_nil)) fun v H H' σ s _ h => h) x_int fun x y H σ Q _ hx hy q => ?_) fun v σ H' s hv => hv
    obtain rfl : x = .int 5 := hx
    obtain rfl : y = .int 5 := hy
    exact ⟨rfl, q _ H (Ext.refl H) rfl⟩
  have hp : plainB n ts = true := by
    cases q : plainB n ts with
    | true => rfl
    | false => rw [q] at h; cases h
  have hpl := plainB_iff hp
  refine bx_forR 7 (fun _ (_ : Unit) => True) (fun _ _ => [none, some drw, some (rI (n : Int)), some (own K l3 (ts.map Tr.d)), some (insR C (netF K n (ts.map Tr.d))), some (dat K (tI lim)), some (dat K (tI m)), none, none, none, none]) rfl T.mr (x_len_l rfl T.ml (x_lstA (x_var 3 rfl))) (by rw [List.length_map]; omega) (fun σ H' s => ⟨(), trivial, s.sub (by (repeat (first | exact Sub.nil | refine Sub.same ?_ | refine Sub.drop ?_)))⟩) (fun i z hi _ => ?_) (bx_ex fun _ _ => bx_ret x_bl fun v σ H' s hv => hv) sc_law.nd PassesOwn.never
  have hit : i < ts.length := by rw [List.length_map] at hi; omega
  obtain ⟨t, htm⟩ : ∃ t, ts[i]? = some t := ⟨ts[i], List.getElem?_eq_getElem hit⟩
  have ht := hts t (List.mem_of_getElem? htm)
  have hti : (ts.map Tr.d)[i]? = some t.d := by rw [List.getElem?_map, htm]; rfl
  have GFl : FnOk P w K mg base (L2.CX P w) 4 fFl dFl ["net", "index", "limit"] (spP (some l) (fun (_ : Unit) => [insR C (netF K n (ts.map Tr.d)), rI (i : Int), dat K (tI lim)]) (fun _ _ => dat K (flO n t lim))) :=
    (ok_fire_limit FFl PT FFd bFd gFd T.mz).imp fun vs H Q E ⟨_, h1, h2, h3⟩ => ⟨⟨(n, ts, i, t, lim), by dsimp only; omega, by dsimp only; omega, htm, ht, hlim⟩, h1, h2, fun _ v H' e hv => h3 v H' e hv, fun hf => hf.elim, .inl hp⟩
  refine bx_set 8 (x_call (E := E0) (R := dat K (flO n t lim)) (ok_lfirelim (Pg := P) (w := w) (base := base) FLfl FLch bLch gLch T.ml T.mt T.mr) r2 rfl gLfl FLfl.kp bLfl pass0 ⟨(n, t, lim), ht, hlim, by dsimp only; omega, hlo⟩ (a_cons (x_ixl (x_lstA (x_var 3 rfl)) (x_var 7 rfl) (atI_nat hti)) (a_cons (x_var 5 rfl) a_nil)) fun v H H' σ s _ h => h) ?_ sc_law.nd
  refine bx_set 9 (x_call (E := E0) (R := dat K (flO n t lim)) GFl r4 rfl gFl FFl.kp bFl passX () (a_cons (x_var 4 rfl) (a_cons (x_var 7 rfl) (a_cons (x_var 5 rfl) a_nil))) fun v H H' σ s _ h => h) ?_ sc_law.nd
  have hlk : ∀ k, k < n → ∃ x, lim[k]? = some x ∧ -1 ≤ x := fun k hk => by
    obtain ⟨x, hx⟩ := ex_i hlim hk
    exact ⟨x, hx, hlo x (List.mem_of_getElem? hx)⟩
  have hyes : (List.range n).all (okK lim t) = true → flO n t lim = tI (vec n (gK lim t)) := fun h => if_pos h
  have hno : (List.range n).all (okK lim t) = false → flO n t lim = .n := fun h => if_neg (by rw [h]; exact Bool.false_ne_true)
  have hvl : (vec n (gK lim t)).length = n := vec_len
  have hge : (List.range n).all (okK lim t) = true → ∀ x ∈ vec n (gK lim t), -1 ≤ x := fun h x hx => by
    obtain ⟨k, hk, rfl⟩ := vec_mem hx
    have h1 := List.all_eq_true.mp h k (List.mem_range.mpr hk)
    have h2 := (tr_nn ht k).2.2
    unfold okK at h1
    unfold gK
    by_cases h0 : lim.getD k 0 = -1
    · rw [if_pos h0]; exact Int.le_refl _
    · rw [if_neg h0]
      rw [decide_eq_false h0, Bool.false_or] at h1
      have : ¬ lim.getD k 0 < t.tk.getD k 0 := fun q => by rw [decide_eq_true q] at h1; cases h1
      omega
  -- expected and found
  refine bx_if (IS (d := some l) H (fun (_ : Unit) => True) (fun _ => [none, some drw, some (rI (n : Int)), some (own K l3 (ts.map Tr.d)), some (insR C (netF K n (ts.map Tr.d))), some (dat K (tI lim)), some (dat K (tI m)), some (rI (i : Int)), some (dat K (flO n t lim)), some (dat K (flO n t lim)), none])) (t_isN (x_var 8 rfl)) (fun h => ?_) (fun h => ?_) (bx_ex fun _ _ => ?_)
  · have h0 : flO n t lim = .n := h.mp rfl
    refine bx_ifret (t_notN (x_var 9 rfl)) (fun h => ?_) (fun _ => bx_nil fun σ H' s => ⟨(), trivial, s.sub (by (repeat (first | exact Sub.nil | refine Sub.same ?_ | refine Sub.drop ?_)))⟩)
    have := h.mpr h0
    cases this
  · have hall : (List.range n).all (okK lim t) = true := by
      cases q : (List.range n).all (okK lim t) with
      | true => rfl
      | false => have := h.mpr (hno q); cases this
    have he := hyes hall
    refine bx_ifret (t_w (w_or (t_isN (x_var 9 rfl)) fun _ => w_or (t_not (t_val (x_call (E := E0) (R := rB true) (ok_numbers (P := P) (w := w) (base := base) FNs FJ bJ gJ T.ml T.mt T.ms T.mi T.mb) r2 rfl gNs FNs.kp bNs pass0 ⟨(vec n (gK lim t), -1), hge hall⟩ (a_cons (x_sub (x_var 9 rfl) fun v H hv => by rw [he] at hv; exact hv) (a_cons (x_sub (x_var 2 rfl) fun v H hv => by rw [hvl]; exact hv) (a_cons (x_neg x_int) a_nil))) fun v H H' σ s _ h => h))) fun _ => w_or1 (t_neD (k := 1) (j := 1) (x := tI (vec n (gK lim t))) (y := tI (vec n (gK lim t))) (Room.units r1) (x_sub (x_var 9 rfl) fun v H hv => by rw [he] at hv; exact hv) (x_sub (x_var 8 rfl) fun v H hv => by rw [he] at hv; exact hv) (shp_tI _) (shp_tI _)))) (fun h => ?_) (fun _ => bx_nil fun σ H' s => ⟨(), trivial, s.sub (by (repeat (first | exact Sub.nil | refine Sub.same ?_ | refine Sub.drop ?_)))⟩)
    rcases h with ⟨_, ⟨_, h⟩ | ⟨h, _⟩⟩ | ⟨h, _⟩
    · have := h.mpr rfl
      cases this
    · cases h
    · have := h.mp rfl
      rw [he] at this
      cases this
  -- after
  refine bx_set 10 (x_call (E := E0) (R := dat K (lfire n t m)) (ok_lfire (P := P) (w := w) (base := base) FLf FLc bLc gLc T.ml T.mt T.mL T.mr) r2 rfl gLf FLf.kp bLf pass0 ⟨(n, t, m), ht, hm, by dsimp only; omega⟩ (a_cons (x_ixl (x_lstA (x_var 3 rfl)) (x_var 7 rfl) (atI_nat hti)) (a_cons (x_var 6 rfl) a_nil)) fun v H H' σ s _ h => h) ?_ sc_law.nd
  cases hc : covb m t.tk with
  | false =>
    have hl : lfire n t m = .n := by unfold lfire; rw [hc, if_neg Bool.false_ne_true]
    refine bx_ifret (P := fun k => k = false) (t_sub (t_w (w_and (P := fun q => q = false) (S := fun _ => False) (t_sub (t_notN (x_var 10 rfl)) fun q h => h.mpr hl) fun h => by cases h)) fun k h => by
      rcases h with ⟨h, _⟩ | ⟨_, h⟩
      · cases h
      · exact h) (fun h => by cases h) (fun _ => bx_nil fun σ H' s => ⟨(), trivial, s.sub (by (repeat (first | exact Sub.nil | refine Sub.same ?_ | refine Sub.drop ?_)))⟩)
  | true =>
    have hl : lfire n t m = tI (fireN t m n) := by unfold lfire; rw [hc, if_pos rfl]
    have hfp : fireN t m n = vec n fun p => t.gv.getD p 0 + (m.getD p 0 - t.tk.getD p 0) := (fire_plain ht (hpl t (List.mem_of_getElem? htm)) hm n (Nat.le_refl _)).trans (vec_eq fun p hp => if_pos hp)
    have hk : ∀ k, k < n → ∃ x y b, lim[k]? = some x ∧ m[k]? = some y ∧ t.tk[k]? = some b ∧ -1 ≤ x ∧ (0 ≤ x → y ≤ x) ∧ b ≤ y := fun k hk => by
      obtain ⟨x, hx, h1⟩ := hlk k hk
      obtain ⟨y, hy⟩ := ex_i hm hk
      obtain ⟨b, hb⟩ := ex_i ht.l1 hk
      have h2 := hadm k x y hx hy
      have h3 := covb_get hc hy hb
      exact ⟨x, y, b, hx, hy, hb, h1, h2.2, by omega⟩
    have hall : (List.range n).all (okK lim t) = true := List.all_eq_true.mpr fun k hkn => by
      obtain ⟨x, y, b, hx, hy, hb, h1, h2, h3⟩ := hk k (List.mem_range.mp hkn)
      unfold okK
      rw [getD_of hx, getD_of hb]
      by_cases h0 : x = -1
      · rw [decide_eq_true h0]; rfl
      · have : ¬ x < b := by have := h2 (by omega); omega
        rw [decide_eq_false this]
        simp
    have he := hyes hall
    have hfl : (fireN t m n).length = n := by rw [fireN_len, ht.l2]
    have had : admB (vec n (gK lim t)) (fireN t m n) = true := List.all_eq_true.mpr fun k hkn => by
      have hkn : k < n := by have := List.mem_range.mp hkn; rw [vec_len] at this; exact this
      obtain ⟨x, y, b, hx, hy, hb, h1, h2, h3⟩ := hk k hkn
      rw [hfp, getD_of (vec_get hkn), getD_of (vec_get hkn)]
      unfold gK
      rw [getD_of hx, getD_of hb, getD_of hy]
      by_cases h0 : x = -1
      · rw [if_pos h0]; rfl
      · rw [if_neg h0]
        have h4 := h2 (by omega)
        have : ¬ x - b + t.gv.getD k 0 < t.gv.getD k 0 + (y - b) := by omega
        rw [decide_eq_false this]
        simp
    refine bx_ifret (t_w (w_and (t_notN (x_var 10 rfl)) fun _ => w_and1 (t_w (w_or (t_isN (x_var 9 rfl)) fun _ => w_or1 (t_not (t_val (x_call (E := E0) (R := rB true) (ok_ladmits (Pg := P) (w := w) (base := base) FLa T.ml T.mr) r1 rfl gLa FLa.kp bLa pass0 ⟨(vec n (gK lim t), fireN t m n), by rw [hvl, hfl], by rw [hvl]; omega⟩ (a_cons (x_sub (x_var 9 rfl) fun v H hv => by rw [he] at hv; exact hv) (a_cons (x_sub (x_var 10 rfl) fun v H hv => by rw [hl] at hv; exact hv) a_nil)) fun v H H' σ s _ h => by dsimp only at h; rw [had] at h; exact h))))))) (fun h => ?_) (fun _ => bx_nil fun σ H' s => ⟨(), trivial, s.sub (by (repeat (first | exact Sub.nil | refine Sub.same ?_ | refine Sub.drop ?_)))⟩)
    rcases h with ⟨_, ⟨_, h⟩ | ⟨h, _⟩⟩ | ⟨_, h⟩
    · cases h
    · have := h.mp rfl
      rw [he] at this
      cases this
    · cases h
end
end Cv

namespace Cv
open PySem PySem.Spec PyProof.Rows L2 RZ
/-- except S takes what is of S itself -/
theorem exm_own {K : PySem.W.Frag} {S : Addr} (h1 : PySem.W.subIn K (.ref S) (.type "BaseException") = some true) (h2 : PySem.W.isClsIn K S = true) (h3 : PySem.W.typeIn K (.ref S) = some (.type "type")) (h4 : PySem.W.subIn K (.ref S) (.ref S) = some true) : PySem.W.exmOne K (.ref S) (.ref S) = some true := by
  have e1 : (PySem.W.subIn K (.ref S) (.type "BaseException") == some true) = true := by rw [h1] <;> rfl
  have e2 : ((PySem.W.clsIn K S).isSome && PySem.W.typeIn K (.ref S) == some (.type "type")) = true := by
    have h2' : (PySem.W.clsIn K S).isSome = true := h2
    rw [h2', h3] <;> rfl
  show (if (PySem.W.subIn K (.ref S) (.type "BaseException") == some true) = true then (if ((PySem.W.clsIn K S).isSome && PySem.W.typeIn K (.ref S) == some (.type "type")) = true then PySem.W.subIn K (.ref S) (.ref S) else none) else none) = some true
  rw [if_pos e1, if_pos e2]
  exact h4
theorem exm_oth {K : PySem.W.Frag} {S S2 : Addr} (h1 : PySem.W.subIn K (.ref S) (.type "BaseException") = some true) (h2 : PySem.W.isClsIn K S = true) (h3 : PySem.W.typeIn K (.ref S) = some (.type "type")) (h4 : PySem.W.subIn K (.ref S2) (.ref S) = some false) : PySem.W.exmOne K (.ref S2) (.ref S) = some false := by
  have e1 : (PySem.W.subIn K (.ref S) (.type "BaseException") == some true) = true := by rw [h1] <;> rfl
  have e2 : ((PySem.W.clsIn K S).isSome && PySem.W.typeIn K (.ref S) == some (.type "type")) = true := by
    have h2' : (PySem.W.clsIn K S).isSome = true := h2
    rw [h2', h3] <;> rfl
  show (if (PySem.W.subIn K (.ref S) (.type "BaseException") == some true) = true then (if ((PySem.W.clsIn K S).isSome && PySem.W.typeIn K (.ref S) == some (.type "type")) = true then PySem.W.subIn K (.ref S2) (.ref S) else none) else none) = some false
  rw [if_pos e1, if_pos e2]
  exact h4
theorem all_mk {l : PySem.W.OpenLaw} {w : World} {K : PySem.W.Frag} {h : Heap} {mg : Str → Option Value} {fa C CP f_Net_init f_checked f_numbers f_is_plain f_runs_plainly f_check_plain f_fire_limit f_limit_after f_limit_set f_judge_limits f_bounds f_growth f_longest_reach f_law_draws f_law_take f_law_is_integer f_law_numbers f_law_covers f_law_limit f_law_admits f_law_transition f_law_net f_law_is_plain f_law_change f_law_fire f_law_fire_limit f_law_admitted_marking f_law_refusals f_law : Addr} (X : K.In h) (G : h.Ns mainGlobals mg) (hfa : mg "law" = some (.ref fa))
    {od11 an11 : Option Addr} {sl11 : Array (Option Value)} {oc11 kV11 dc11 pm11 cd11 ct11 : Value}
    {od12 an12 : Option Addr} {sl12 : Array (Option Value)} {oc12 kV12 dc12 pm12 cd12 ct12 : Value}
    {od13 an13 : Option Addr} {sl13 : Array (Option Value)} {oc13 kV13 dc13 pm13 cd13 ct13 : Value}
    {od14 an14 : Option Addr} {sl14 : Array (Option Value)} {oc14 kV14 dc14 pm14 cd14 ct14 : Value}
    {od15 an15 : Option Addr} {sl15 : Array (Option Value)} {oc15 kV15 dc15 pm15 cd15 ct15 : Value}
    {od16 an16 : Option Addr} {sl16 : Array (Option Value)} {oc16 kV16 dc16 pm16 cd16 ct16 : Value}
    {od44 an44 : Option Addr} {sl44 : Array (Option Value)} {oc44 kV44 dc44 pm44 cd44 ct44 : Value}
    {od45 an45 : Option Addr} {sl45 : Array (Option Value)} {oc45 kV45 dc45 pm45 cd45 ct45 : Value}
    {od46 an46 : Option Addr} {sl46 : Array (Option Value)} {oc46 kV46 dc46 pm46 cd46 ct46 : Value}
    {od48 an48 : Option Addr} {sl48 : Array (Option Value)} {oc48 kV48 dc48 pm48 cd48 ct48 : Value}
    {od49 an49 : Option Addr} {sl49 : Array (Option Value)} {oc49 kV49 dc49 pm49 cd49 ct49 : Value}
    {od52 an52 : Option Addr} {sl52 : Array (Option Value)} {oc52 kV52 dc52 pm52 cd52 ct52 : Value}
    {od53 an53 : Option Addr} {sl53 : Array (Option Value)} {oc53 kV53 dc53 pm53 cd53 ct53 : Value}
    {od59 an59 : Option Addr} {sl59 : Array (Option Value)} {oc59 kV59 dc59 pm59 cd59 ct59 : Value}
    {od60 an60 : Option Addr} {sl60 : Array (Option Value)} {oc60 kV60 dc60 pm60 cd60 ct60 : Value}
    {od61 an61 : Option Addr} {sl61 : Array (Option Value)} {oc61 kV61 dc61 pm61 cd61 ct61 : Value}
    {od62 an62 : Option Addr} {sl62 : Array (Option Value)} {oc62 kV62 dc62 pm62 cd62 ct62 : Value}
    {od63 an63 : Option Addr} {sl63 : Array (Option Value)} {oc63 kV63 dc63 pm63 cd63 ct63 : Value}
    {od64 an64 : Option Addr} {sl64 : Array (Option Value)} {oc64 kV64 dc64 pm64 cd64 ct64 : Value}
    {od65 an65 : Option Addr} {sl65 : Array (Option Value)} {oc65 kV65 dc65 pm65 cd65 ct65 : Value}
    {od66 an66 : Option Addr} {sl66 : Array (Option Value)} {oc66 kV66 dc66 pm66 cd66 ct66 : Value}
    {od67 an67 : Option Addr} {sl67 : Array (Option Value)} {oc67 kV67 dc67 pm67 cd67 ct67 : Value}
    {od68 an68 : Option Addr} {sl68 : Array (Option Value)} {oc68 kV68 dc68 pm68 cd68 ct68 : Value}
    {od69 an69 : Option Addr} {sl69 : Array (Option Value)} {oc69 kV69 dc69 pm69 cd69 ct69 : Value}
    {od70 an70 : Option Addr} {sl70 : Array (Option Value)} {oc70 kV70 dc70 pm70 cd70 ct70 : Value}
    {od71 an71 : Option Addr} {sl71 : Array (Option Value)} {oc71 kV71 dc71 pm71 cd71 ct71 : Value}
    {od72 an72 : Option Addr} {sl72 : Array (Option Value)} {oc72 kV72 dc72 pm72 cd72 ct72 : Value}
    {od73 an73 : Option Addr} {sl73 : Array (Option Value)} {oc73 kV73 dc73 pm73 cd73 ct73 : Value}
    {od74 an74 : Option Addr} {sl74 : Array (Option Value)} {oc74 kV74 dc74 pm74 cd74 ct74 : Value}
    {tk_MOST_PLACES : Tok}
    {tk_MOST_TRANSITIONS : Tok}
    {tk_MOST_TOKENS : Tok}
    (a_C : PySem.W.nsIn K mainGlobals "Net" = some (some (.ref C)))
    (a_CP : PySem.W.nsIn K mainGlobals "NotPlain" = some (some (.ref CP)))
    (x_CP : PySem.W.excIn K CP [Value.type "ValueError", Value.type "Exception", Value.type "BaseException", Value.type "object"] "ValueError.__new__" = true)
    (k_CP : PySem.W.keepIn K (.ref CP) = true)
    (s_CP : PySem.W.subIn K (.ref CP) (.type "BaseException") = some true)
    (t_CP : PySem.W.typeIn K (.ref CP) = some (.type "type"))
    (c_CP : PySem.W.isClsIn K CP = true)
    (o_CP : PySem.W.subIn K (.ref CP) (.ref CP) = some true)
    (a11 : PySem.W.findIn K (.ref C) "__init__" = some (some (.ref f_Net_init)))
    (i11 : PySem.W.isFn K (.ref f_Net_init) = true)
    (l11 : K.lookup f_Net_init = some ⟨oc11, od11, .func (PySem.W.fnOf "__init__" "Net.__init__" (defArgs s_Net_init) (defBody s_Net_init) (defScope s_Net_init) .none kV11 dc11 pm11 an11 cd11 ct11), sl11⟩)
    (c11 : PySem.W.codeIn K cd11 "Net.__init__" = true)
    (k11 : PySem.W.keepIn K (.ref f_Net_init) = true)
    (a12 : PySem.W.nsIn K mainGlobals "_checked" = some (some (.ref f_checked)))
    (l12 : K.lookup f_checked = some ⟨oc12, od12, .func (PySem.W.fnOf "_checked" "_checked" (defArgs s_checked) (defBody s_checked) (defScope s_checked) .none kV12 dc12 pm12 an12 cd12 ct12), sl12⟩)
    (c12 : PySem.W.codeIn K cd12 "_checked" = true)
    (k12 : PySem.W.keepIn K (.ref f_checked) = true)
    (a13 : PySem.W.nsIn K mainGlobals "_numbers" = some (some (.ref f_numbers)))
    (l13 : K.lookup f_numbers = some ⟨oc13, od13, .func (PySem.W.fnOf "_numbers" "_numbers" (defArgs s_numbers) (defBody s_numbers) (defScope s_numbers) .none kV13 dc13 pm13 an13 cd13 ct13), sl13⟩)
    (c13 : PySem.W.codeIn K cd13 "_numbers" = true)
    (k13 : PySem.W.keepIn K (.ref f_numbers) = true)
    (a14 : PySem.W.nsIn K mainGlobals "is_plain" = some (some (.ref f_is_plain)))
    (l14 : K.lookup f_is_plain = some ⟨oc14, od14, .func (PySem.W.fnOf "is_plain" "is_plain" (defArgs s_is_plain) (defBody s_is_plain) (defScope s_is_plain) .none kV14 dc14 pm14 an14 cd14 ct14), sl14⟩)
    (c14 : PySem.W.codeIn K cd14 "is_plain" = true)
    (k14 : PySem.W.keepIn K (.ref f_is_plain) = true)
    (a15 : PySem.W.nsIn K mainGlobals "runs_plainly" = some (some (.ref f_runs_plainly)))
    (l15 : K.lookup f_runs_plainly = some ⟨oc15, od15, .func (PySem.W.fnOf "runs_plainly" "runs_plainly" (defArgs s_runs_plainly) (defBody s_runs_plainly) (defScope s_runs_plainly) .none kV15 dc15 pm15 an15 cd15 ct15), sl15⟩)
    (c15 : PySem.W.codeIn K cd15 "runs_plainly" = true)
    (k15 : PySem.W.keepIn K (.ref f_runs_plainly) = true)
    (a16 : PySem.W.nsIn K mainGlobals "check_plain" = some (some (.ref f_check_plain)))
    (l16 : K.lookup f_check_plain = some ⟨oc16, od16, .func (PySem.W.fnOf "check_plain" "check_plain" (defArgs s_check_plain) (defBody s_check_plain) (defScope s_check_plain) .none kV16 dc16 pm16 an16 cd16 ct16), sl16⟩)
    (c16 : PySem.W.codeIn K cd16 "check_plain" = true)
    (k16 : PySem.W.keepIn K (.ref f_check_plain) = true)
    (a44 : PySem.W.nsIn K mainGlobals "fire_limit" = some (some (.ref f_fire_limit)))
    (l44 : K.lookup f_fire_limit = some ⟨oc44, od44, .func (PySem.W.fnOf "fire_limit" "fire_limit" (defArgs s_fire_limit) (defBody s_fire_limit) (defScope s_fire_limit) .none kV44 dc44 pm44 an44 cd44 ct44), sl44⟩)
    (c44 : PySem.W.codeIn K cd44 "fire_limit" = true)
    (k44 : PySem.W.keepIn K (.ref f_fire_limit) = true)
    (a45 : PySem.W.nsIn K mainGlobals "limit_after" = some (some (.ref f_limit_after)))
    (l45 : K.lookup f_limit_after = some ⟨oc45, od45, .func (PySem.W.fnOf "limit_after" "limit_after" (defArgs s_limit_after) (defBody s_limit_after) (defScope s_limit_after) .none kV45 dc45 pm45 an45 cd45 ct45), sl45⟩)
    (c45 : PySem.W.codeIn K cd45 "limit_after" = true)
    (k45 : PySem.W.keepIn K (.ref f_limit_after) = true)
    (a46 : PySem.W.nsIn K mainGlobals "limit_set" = some (some (.ref f_limit_set)))
    (l46 : K.lookup f_limit_set = some ⟨oc46, od46, .func (PySem.W.fnOf "limit_set" "limit_set" (defArgs s_limit_set) (defBody s_limit_set) (defScope s_limit_set) .none kV46 dc46 pm46 an46 cd46 ct46), sl46⟩)
    (c46 : PySem.W.codeIn K cd46 "limit_set" = true)
    (k46 : PySem.W.keepIn K (.ref f_limit_set) = true)
    (a48 : PySem.W.nsIn K mainGlobals "judge_limits" = some (some (.ref f_judge_limits)))
    (l48 : K.lookup f_judge_limits = some ⟨oc48, od48, .func (PySem.W.fnOf "judge_limits" "judge_limits" (defArgs s_judge_limits) (defBody s_judge_limits) (defScope s_judge_limits) .none kV48 dc48 pm48 an48 cd48 ct48), sl48⟩)
    (c48 : PySem.W.codeIn K cd48 "judge_limits" = true)
    (k48 : PySem.W.keepIn K (.ref f_judge_limits) = true)
    (a49 : PySem.W.nsIn K mainGlobals "bounds" = some (some (.ref f_bounds)))
    (l49 : K.lookup f_bounds = some ⟨oc49, od49, .func (PySem.W.fnOf "bounds" "bounds" (defArgs s_bounds) (defBody s_bounds) (defScope s_bounds) .none kV49 dc49 pm49 an49 cd49 ct49), sl49⟩)
    (c49 : PySem.W.codeIn K cd49 "bounds" = true)
    (k49 : PySem.W.keepIn K (.ref f_bounds) = true)
    (a52 : PySem.W.nsIn K mainGlobals "growth" = some (some (.ref f_growth)))
    (l52 : K.lookup f_growth = some ⟨oc52, od52, .func (PySem.W.fnOf "growth" "growth" (defArgs s_growth) (defBody s_growth) (defScope s_growth) .none kV52 dc52 pm52 an52 cd52 ct52), sl52⟩)
    (c52 : PySem.W.codeIn K cd52 "growth" = true)
    (k52 : PySem.W.keepIn K (.ref f_growth) = true)
    (a53 : PySem.W.nsIn K mainGlobals "longest_reach" = some (some (.ref f_longest_reach)))
    (l53 : K.lookup f_longest_reach = some ⟨oc53, od53, .func (PySem.W.fnOf "longest_reach" "longest_reach" (defArgs s_longest_reach) (defBody s_longest_reach) (defScope s_longest_reach) .none kV53 dc53 pm53 an53 cd53 ct53), sl53⟩)
    (c53 : PySem.W.codeIn K cd53 "longest_reach" = true)
    (k53 : PySem.W.keepIn K (.ref f_longest_reach) = true)
    (a59 : PySem.W.nsIn K mainGlobals "_law_draws" = some (some (.ref f_law_draws)))
    (l59 : K.lookup f_law_draws = some ⟨oc59, od59, .func (PySem.W.fnOf "_law_draws" "_law_draws" (defArgs s_law_draws) (defBody s_law_draws) (defScope s_law_draws) .none kV59 dc59 pm59 an59 cd59 ct59), sl59⟩)
    (c59 : PySem.W.codeIn K cd59 "_law_draws" = true)
    (k59 : PySem.W.keepIn K (.ref f_law_draws) = true)
    (a60 : PySem.W.nsIn K mainGlobals "_law_take" = some (some (.ref f_law_take)))
    (l60 : K.lookup f_law_take = some ⟨oc60, od60, .func (PySem.W.fnOf "_law_take" "_law_take" (defArgs s_law_take) (defBody s_law_take) (defScope s_law_take) .none kV60 dc60 pm60 an60 cd60 ct60), sl60⟩)
    (c60 : PySem.W.codeIn K cd60 "_law_take" = true)
    (k60 : PySem.W.keepIn K (.ref f_law_take) = true)
    (a61 : PySem.W.nsIn K mainGlobals "_law_is_integer" = some (some (.ref f_law_is_integer)))
    (l61 : K.lookup f_law_is_integer = some ⟨oc61, od61, .func (PySem.W.fnOf "_law_is_integer" "_law_is_integer" (defArgs s_law_is_integer) (defBody s_law_is_integer) (defScope s_law_is_integer) .none kV61 dc61 pm61 an61 cd61 ct61), sl61⟩)
    (c61 : PySem.W.codeIn K cd61 "_law_is_integer" = true)
    (k61 : PySem.W.keepIn K (.ref f_law_is_integer) = true)
    (a62 : PySem.W.nsIn K mainGlobals "_law_numbers" = some (some (.ref f_law_numbers)))
    (l62 : K.lookup f_law_numbers = some ⟨oc62, od62, .func (PySem.W.fnOf "_law_numbers" "_law_numbers" (defArgs s_law_numbers) (defBody s_law_numbers) (defScope s_law_numbers) .none kV62 dc62 pm62 an62 cd62 ct62), sl62⟩)
    (c62 : PySem.W.codeIn K cd62 "_law_numbers" = true)
    (k62 : PySem.W.keepIn K (.ref f_law_numbers) = true)
    (a63 : PySem.W.nsIn K mainGlobals "_law_covers" = some (some (.ref f_law_covers)))
    (l63 : K.lookup f_law_covers = some ⟨oc63, od63, .func (PySem.W.fnOf "_law_covers" "_law_covers" (defArgs s_law_covers) (defBody s_law_covers) (defScope s_law_covers) .none kV63 dc63 pm63 an63 cd63 ct63), sl63⟩)
    (c63 : PySem.W.codeIn K cd63 "_law_covers" = true)
    (k63 : PySem.W.keepIn K (.ref f_law_covers) = true)
    (a64 : PySem.W.nsIn K mainGlobals "_law_limit" = some (some (.ref f_law_limit)))
    (l64 : K.lookup f_law_limit = some ⟨oc64, od64, .func (PySem.W.fnOf "_law_limit" "_law_limit" (defArgs s_law_limit) (defBody s_law_limit) (defScope s_law_limit) .none kV64 dc64 pm64 an64 cd64 ct64), sl64⟩)
    (c64 : PySem.W.codeIn K cd64 "_law_limit" = true)
    (k64 : PySem.W.keepIn K (.ref f_law_limit) = true)
    (a65 : PySem.W.nsIn K mainGlobals "_law_admits" = some (some (.ref f_law_admits)))
    (l65 : K.lookup f_law_admits = some ⟨oc65, od65, .func (PySem.W.fnOf "_law_admits" "_law_admits" (defArgs s_law_admits) (defBody s_law_admits) (defScope s_law_admits) .none kV65 dc65 pm65 an65 cd65 ct65), sl65⟩)
    (c65 : PySem.W.codeIn K cd65 "_law_admits" = true)
    (k65 : PySem.W.keepIn K (.ref f_law_admits) = true)
    (a66 : PySem.W.nsIn K mainGlobals "_law_transition" = some (some (.ref f_law_transition)))
    (l66 : K.lookup f_law_transition = some ⟨oc66, od66, .func (PySem.W.fnOf "_law_transition" "_law_transition" (defArgs s_law_transition) (defBody s_law_transition) (defScope s_law_transition) .none kV66 dc66 pm66 an66 cd66 ct66), sl66⟩)
    (c66 : PySem.W.codeIn K cd66 "_law_transition" = true)
    (k66 : PySem.W.keepIn K (.ref f_law_transition) = true)
    (a67 : PySem.W.nsIn K mainGlobals "_law_net" = some (some (.ref f_law_net)))
    (l67 : K.lookup f_law_net = some ⟨oc67, od67, .func (PySem.W.fnOf "_law_net" "_law_net" (defArgs s_law_net) (defBody s_law_net) (defScope s_law_net) .none kV67 dc67 pm67 an67 cd67 ct67), sl67⟩)
    (c67 : PySem.W.codeIn K cd67 "_law_net" = true)
    (k67 : PySem.W.keepIn K (.ref f_law_net) = true)
    (a68 : PySem.W.nsIn K mainGlobals "_law_is_plain" = some (some (.ref f_law_is_plain)))
    (l68 : K.lookup f_law_is_plain = some ⟨oc68, od68, .func (PySem.W.fnOf "_law_is_plain" "_law_is_plain" (defArgs s_law_is_plain) (defBody s_law_is_plain) (defScope s_law_is_plain) .none kV68 dc68 pm68 an68 cd68 ct68), sl68⟩)
    (c68 : PySem.W.codeIn K cd68 "_law_is_plain" = true)
    (k68 : PySem.W.keepIn K (.ref f_law_is_plain) = true)
    (a69 : PySem.W.nsIn K mainGlobals "_law_change" = some (some (.ref f_law_change)))
    (l69 : K.lookup f_law_change = some ⟨oc69, od69, .func (PySem.W.fnOf "_law_change" "_law_change" (defArgs s_law_change) (defBody s_law_change) (defScope s_law_change) .none kV69 dc69 pm69 an69 cd69 ct69), sl69⟩)
    (c69 : PySem.W.codeIn K cd69 "_law_change" = true)
    (k69 : PySem.W.keepIn K (.ref f_law_change) = true)
    (a70 : PySem.W.nsIn K mainGlobals "_law_fire" = some (some (.ref f_law_fire)))
    (l70 : K.lookup f_law_fire = some ⟨oc70, od70, .func (PySem.W.fnOf "_law_fire" "_law_fire" (defArgs s_law_fire) (defBody s_law_fire) (defScope s_law_fire) .none kV70 dc70 pm70 an70 cd70 ct70), sl70⟩)
    (c70 : PySem.W.codeIn K cd70 "_law_fire" = true)
    (k70 : PySem.W.keepIn K (.ref f_law_fire) = true)
    (a71 : PySem.W.nsIn K mainGlobals "_law_fire_limit" = some (some (.ref f_law_fire_limit)))
    (l71 : K.lookup f_law_fire_limit = some ⟨oc71, od71, .func (PySem.W.fnOf "_law_fire_limit" "_law_fire_limit" (defArgs s_law_fire_limit) (defBody s_law_fire_limit) (defScope s_law_fire_limit) .none kV71 dc71 pm71 an71 cd71 ct71), sl71⟩)
    (c71 : PySem.W.codeIn K cd71 "_law_fire_limit" = true)
    (k71 : PySem.W.keepIn K (.ref f_law_fire_limit) = true)
    (a72 : PySem.W.nsIn K mainGlobals "_law_admitted_marking" = some (some (.ref f_law_admitted_marking)))
    (l72 : K.lookup f_law_admitted_marking = some ⟨oc72, od72, .func (PySem.W.fnOf "_law_admitted_marking" "_law_admitted_marking" (defArgs s_law_admitted_marking) (defBody s_law_admitted_marking) (defScope s_law_admitted_marking) .none kV72 dc72 pm72 an72 cd72 ct72), sl72⟩)
    (c72 : PySem.W.codeIn K cd72 "_law_admitted_marking" = true)
    (k72 : PySem.W.keepIn K (.ref f_law_admitted_marking) = true)
    (a73 : PySem.W.nsIn K mainGlobals "_law_refusals" = some (some (.ref f_law_refusals)))
    (l73 : K.lookup f_law_refusals = some ⟨oc73, od73, .func (PySem.W.fnOf "_law_refusals" "_law_refusals" (defArgs s_law_refusals) (defBody s_law_refusals) (defScope s_law_refusals) .none kV73 dc73 pm73 an73 cd73 ct73), sl73⟩)
    (c73 : PySem.W.codeIn K cd73 "_law_refusals" = true)
    (k73 : PySem.W.keepIn K (.ref f_law_refusals) = true)
    (a74 : PySem.W.nsIn K mainGlobals "law" = some (some (.ref f_law)))
    (l74 : K.lookup f_law = some ⟨oc74, od74, .func (PySem.W.fnOf "law" "law" (defArgs s_law) (defBody s_law) (defScope s_law) .none kV74 dc74 pm74 an74 cd74 ct74), sl74⟩)
    (c74 : PySem.W.codeIn K cd74 "law" = true)
    (k74 : PySem.W.keepIn K (.ref f_law) = true)
    (pg_C : PySem.W.plainGet K C Str.empty = true)
    (hd_C : PySem.W.hasDictIn K C = true)
    (po_C : PySem.W.plainOver K C = true)
    (sa_C : PySem.W.findIn K (.ref C) "__setattr__" = some (some (.builtin "object.__setattr__")))
    (mk_C : PySem.W.makesIn K C = true)
    (kc_C : PySem.W.keepIn K (.ref C) = true)
    (n_C_places : PySem.W.findIn K (.ref C) "places" = some none)
    (n_C_transitions : PySem.W.findIn K (.ref C) "transitions" = some none)
    (a_MOST_PLACES : PySem.W.nsIn K mainGlobals "MOST_PLACES" = some (some (.int 12 tk_MOST_PLACES)))
    (a_MOST_TRANSITIONS : PySem.W.nsIn K mainGlobals "MOST_TRANSITIONS" = some (some (.int 24 tk_MOST_TRANSITIONS)))
    (a_MOST_TOKENS : PySem.W.nsIn K mainGlobals "MOST_TOKENS" = some (some (.int 9 tk_MOST_TOKENS)))
    (n_len : PySem.W.nsIn K mainGlobals "len" = some none)
    (n_int : PySem.W.nsIn K mainGlobals "int" = some none)
    (n_tuple : PySem.W.nsIn K mainGlobals "tuple" = some none)
    (n_list : PySem.W.nsIn K mainGlobals "list" = some none)
    (n_range : PySem.W.nsIn K mainGlobals "range" = some none)
    (n_max : PySem.W.nsIn K mainGlobals "max" = some none)
    (n_min : PySem.W.nsIn K mainGlobals "min" = some none)
    (n_zip : PySem.W.nsIn K mainGlobals "zip" = some none)
    (n_isinstance : PySem.W.nsIn K mainGlobals "isinstance" = some none)
    (n_bool : PySem.W.nsIn K mainGlobals "bool" = some none) :
    ∃ fd : FuncData, (∀ (s : Shared) (v : Value), BindsTo s fd ⟨[v], []⟩ [("script", v)]) ∧ ∀ base : Heap, K.In base → base.Ns mainGlobals mg → FnOk l.prog w K mg base CX0 7 fa fd ["script"] (spLaw K) := by
  have e := hfa.symm.trans (PySem.W.mg_of X G a74)
  cases e
  have cl_C : Cls K C := ⟨pg_C, hd_C, po_C, sa_C⟩
  have e_CP : ErrTxt K mg CP "NotPlain" := ⟨PySem.W.mg_of X G a_CP, x_CP, k_CP, s_CP, t_CP, exm_own s_CP c_CP t_CP o_CP⟩
  have F_Net_init := fun_mk (st := s_Net_init) l11 c11 k11
  have b_Net_init := F_Net_init.binds (ps := ["self", "places", "transitions"]) fun _ _ _ _ _ _ us hl => match us, hl with | [_, _, _], _ => rfl
  have M_Net : Mk K C f_Net_init := ⟨mk_C, a11, i11, kc_C⟩
  have F_checked := fun_mk (st := s_checked) l12 c12 k12
  have b_checked := F_checked.binds (ps := ["transition", "places"]) fun _ _ _ _ _ _ us hl => match us, hl with | [_, _], _ => rfl
  have g_checked := PySem.W.mg_of X G a12
  have F_numbers := fun_mk (st := s_numbers) l13 c13 k13
  have b_numbers := F_numbers.binds (ps := ["row", "places", "least", "most"]) fun _ _ _ _ _ _ us hl => match us, hl with | [_, _, _, _], _ => rfl
  have g_numbers := PySem.W.mg_of X G a13
  have F_is_plain := fun_mk (st := s_is_plain) l14 c14 k14
  have b_is_plain := F_is_plain.binds (ps := ["net"]) fun _ _ _ _ _ _ us hl => match us, hl with | [_], _ => rfl
  have g_is_plain := PySem.W.mg_of X G a14
  have F_runs_plainly := fun_mk (st := s_runs_plainly) l15 c15 k15
  have b_runs_plainly := F_runs_plainly.binds (ps := ["net", "run"]) fun _ _ _ _ _ _ us hl => match us, hl with | [_, _], _ => rfl
  have g_runs_plainly := PySem.W.mg_of X G a15
  have F_check_plain := fun_mk (st := s_check_plain) l16 c16 k16
  have b_check_plain := F_check_plain.binds (ps := ["net"]) fun _ _ _ _ _ _ us hl => match us, hl with | [_], _ => rfl
  have g_check_plain := PySem.W.mg_of X G a16
  have F_fire_limit := fun_mk (st := s_fire_limit) l44 c44 k44
  have b_fire_limit := F_fire_limit.binds (ps := ["net", "index", "limit"]) fun _ _ _ _ _ _ us hl => match us, hl with | [_, _, _], _ => rfl
  have g_fire_limit := PySem.W.mg_of X G a44
  have F_limit_after := fun_mk (st := s_limit_after) l45 c45 k45
  have b_limit_after := F_limit_after.binds (ps := ["transition", "limit"]) fun _ _ _ _ _ _ us hl => match us, hl with | [_, _], _ => rfl
  have g_limit_after := PySem.W.mg_of X G a45
  have F_limit_set := fun_mk (st := s_limit_set) l46 c46 k46
  have b_limit_set := F_limit_set.binds (ps := ["net", "limit"]) fun _ _ _ _ _ _ us hl => match us, hl with | [_, _], _ => rfl
  have g_limit_set := PySem.W.mg_of X G a46
  have F_judge_limits := fun_mk (st := s_judge_limits) l48 c48 k48
  have b_judge_limits := F_judge_limits.binds (ps := ["net", "limit", "limits"]) fun _ _ _ _ _ _ us hl => match us, hl with | [_, _, _], _ => rfl
  have g_judge_limits := PySem.W.mg_of X G a48
  have F_bounds := fun_mk (st := s_bounds) l49 c49 k49
  have b_bounds := F_bounds.binds (ps := ["net", "limit"]) fun _ _ _ _ _ _ us hl => match us, hl with | [_, _], _ => rfl
  have g_bounds := PySem.W.mg_of X G a49
  have F_growth := fun_mk (st := s_growth) l52 c52 k52
  have b_growth := F_growth.binds (ps := ["net", "limit", "goal", "number"]) fun _ _ _ _ _ _ us hl => match us, hl with | [_, _, _, _], _ => rfl
  have g_growth := PySem.W.mg_of X G a52
  have F_longest_reach := fun_mk (st := s_longest_reach) l53 c53 k53
  have b_longest_reach := F_longest_reach.binds (ps := ["net", "limit", "place", "number"]) fun _ _ _ _ _ _ us hl => match us, hl with | [_, _, _, _], _ => rfl
  have g_longest_reach := PySem.W.mg_of X G a53
  have F_law_draws := fun_mk (st := s_law_draws) l59 c59 k59
  have b_law_draws := F_law_draws.binds (ps := ["script", "count"]) fun _ _ _ _ _ _ us hl => match us, hl with | [_, _], _ => rfl
  have g_law_draws := PySem.W.mg_of X G a59
  have F_law_take := fun_mk (st := s_law_take) l60 c60 k60
  have b_law_take := F_law_take.binds (ps := ["draws", "limit"]) fun _ _ _ _ _ _ us hl => match us, hl with | [_, _], _ => rfl
  have g_law_take := PySem.W.mg_of X G a60
  have F_law_is_integer := fun_mk (st := s_law_is_integer) l61 c61 k61
  have b_law_is_integer := F_law_is_integer.binds (ps := ["actual"]) fun _ _ _ _ _ _ us hl => match us, hl with | [_], _ => rfl
  have g_law_is_integer := PySem.W.mg_of X G a61
  have F_law_numbers := fun_mk (st := s_law_numbers) l62 c62 k62
  have b_law_numbers := F_law_numbers.binds (ps := ["actual", "size", "low"]) fun _ _ _ _ _ _ us hl => match us, hl with | [_, _, _], _ => rfl
  have g_law_numbers := PySem.W.mg_of X G a62
  have F_law_covers := fun_mk (st := s_law_covers) l63 c63 k63
  have b_law_covers := F_law_covers.binds (ps := ["first", "second"]) fun _ _ _ _ _ _ us hl => match us, hl with | [_, _], _ => rfl
  have g_law_covers := PySem.W.mg_of X G a63
  have F_law_limit := fun_mk (st := s_law_limit) l64 c64 k64
  have b_law_limit := F_law_limit.binds (ps := ["draws", "size", "most"]) fun _ _ _ _ _ _ us hl => match us, hl with | [_, _, _], _ => rfl
  have g_law_limit := PySem.W.mg_of X G a64
  have F_law_admits := fun_mk (st := s_law_admits) l65 c65 k65
  have b_law_admits := F_law_admits.binds (ps := ["limit", "marking"]) fun _ _ _ _ _ _ us hl => match us, hl with | [_, _], _ => rfl
  have g_law_admits := PySem.W.mg_of X G a65
  have F_law_transition := fun_mk (st := s_law_transition) l66 c66 k66
  have b_law_transition := F_law_transition.binds (ps := ["draws", "places", "plain"]) fun _ _ _ _ _ _ us hl => match us, hl with | [_, _, _], _ => rfl
  have g_law_transition := PySem.W.mg_of X G a66
  have F_law_net := fun_mk (st := s_law_net) l67 c67 k67
  have b_law_net := F_law_net.binds (ps := ["draws", "places", "most", "plain"]) fun _ _ _ _ _ _ us hl => match us, hl with | [_, _, _, _], _ => rfl
  have g_law_net := PySem.W.mg_of X G a67
  have F_law_is_plain := fun_mk (st := s_law_is_plain) l68 c68 k68
  have b_law_is_plain := F_law_is_plain.binds (ps := ["transitions"]) fun _ _ _ _ _ _ us hl => match us, hl with | [_], _ => rfl
  have g_law_is_plain := PySem.W.mg_of X G a68
  have F_law_change := fun_mk (st := s_law_change) l69 c69 k69
  have b_law_change := F_law_change.binds (ps := ["transition"]) fun _ _ _ _ _ _ us hl => match us, hl with | [_], _ => rfl
  have g_law_change := PySem.W.mg_of X G a69
  have F_law_fire := fun_mk (st := s_law_fire) l70 c70 k70
  have b_law_fire := F_law_fire.binds (ps := ["transition", "marking"]) fun _ _ _ _ _ _ us hl => match us, hl with | [_, _], _ => rfl
  have g_law_fire := PySem.W.mg_of X G a70
  have F_law_fire_limit := fun_mk (st := s_law_fire_limit) l71 c71 k71
  have b_law_fire_limit := F_law_fire_limit.binds (ps := ["transition", "limit"]) fun _ _ _ _ _ _ us hl => match us, hl with | [_, _], _ => rfl
  have g_law_fire_limit := PySem.W.mg_of X G a71
  have F_law_admitted_marking := fun_mk (st := s_law_admitted_marking) l72 c72 k72
  have b_law_admitted_marking := F_law_admitted_marking.binds (ps := ["draws", "limit"]) fun _ _ _ _ _ _ us hl => match us, hl with | [_, _], _ => rfl
  have g_law_admitted_marking := PySem.W.mg_of X G a72
  have F_law_refusals := fun_mk (st := s_law_refusals) l73 c73 k73
  have b_law_refusals := F_law_refusals.binds (ps := ["net", "limit"]) fun _ _ _ _ _ _ us hl => match us, hl with | [_, _], _ => rfl
  have g_law_refusals := PySem.W.mg_of X G a73
  have F_law := fun_mk (st := s_law) l74 c74 k74
  have g_MOST_PLACES := PySem.W.mg_of X G a_MOST_PLACES
  have g_MOST_TRANSITIONS := PySem.W.mg_of X G a_MOST_TRANSITIONS
  have g_MOST_TOKENS := PySem.W.mg_of X G a_MOST_TOKENS
  have g_len := PySem.W.mg_none_of X G n_len
  have g_int := PySem.W.mg_none_of X G n_int
  have g_tuple := PySem.W.mg_none_of X G n_tuple
  have g_list := PySem.W.mg_none_of X G n_list
  have g_range := PySem.W.mg_none_of X G n_range
  have g_max := PySem.W.mg_none_of X G n_max
  have g_min := PySem.W.mg_none_of X G n_min
  have g_zip := PySem.W.mg_none_of X G n_zip
  have g_isinstance := PySem.W.mg_none_of X G n_isinstance
  have g_bool := PySem.W.mg_none_of X G n_bool
  have T : LawTxt K mg C CP := ⟨⟨cl_C, n_C_places, n_C_transitions, PySem.W.mg_of X G a_C⟩, e_CP, g_len, g_int, g_tuple, g_list, g_range, g_max, g_min, g_zip, g_isinstance, g_bool⟩
  exact ⟨PySem.W.fnOf "law" "law" (defArgs s_law) (defBody s_law) (defScope s_law) .none kV74 dc74 pm74 an74 cd74 ct74, fun s v => .of_eq rfl, fun base _ _ =>
    ok_law F_law T F_numbers b_numbers g_numbers F_checked b_checked g_checked F_is_plain b_is_plain g_is_plain F_runs_plainly b_runs_plainly g_runs_plainly F_check_plain b_check_plain g_check_plain F_fire_limit b_fire_limit g_fire_limit F_limit_after b_limit_after g_limit_after F_limit_set b_limit_set g_limit_set F_judge_limits b_judge_limits g_judge_limits F_bounds b_bounds g_bounds F_growth b_growth g_growth F_longest_reach b_longest_reach g_longest_reach F_law_draws b_law_draws g_law_draws F_law_take b_law_take g_law_take F_law_is_integer b_law_is_integer g_law_is_integer F_law_numbers b_law_numbers g_law_numbers F_law_covers b_law_covers g_law_covers F_law_limit b_law_limit g_law_limit F_law_admits b_law_admits g_law_admits F_law_transition b_law_transition g_law_transition F_law_net b_law_net g_law_net F_law_is_plain b_law_is_plain g_law_is_plain F_law_change b_law_change g_law_change F_law_fire b_law_fire g_law_fire F_law_fire_limit b_law_fire_limit g_law_fire_limit F_law_admitted_marking b_law_admitted_marking g_law_admitted_marking F_law_refusals b_law_refusals g_law_refusals F_Net_init b_Net_init M_Net g_MOST_PLACES g_MOST_TRANSITIONS g_MOST_TOKENS⟩
end Cv
open PySem PySem.W PyProof.Rows
set_option maxRecDepth 100000 in
set_option maxHeartbeats 0 in
theorem PySem.Challenge.cw_covernets_k19_limit_firing_holds : PySem.Challenge.rw_covernets_k19_limit_firing.Holds := by
  w_on; o_law; k_head; (case hw => w_witness2)
  k_fill
  refine L2.walk_of (n := 63) (k := 7) (x := "script") (CX := fun _ => L2.CX0) (sp := fun w => Cv.spLaw _) rfl (by decide) rfl ⟨rfl, by decide, by decide⟩ (fun w h Y => PySem.W.kIn_of Y) ?F (fun _ _ a ns hl _ hS => ⟨a, ns, rfl, hS, hl, fun _ => rfl⟩) fun _ _ _ _ _ z => z
  case F =>
    intro w mg fa h KX G hmg
    refine' Cv.all_mk (l := PySem.Challenge.rw_covernets_k19_limit_firing) KX G hmg ?a_C ?a_CP ?x_CP ?k_CP ?s_CP ?t_CP ?c_CP ?o_CP ?a11 ?i11 ?l11 ?c11 ?k11 ?a12 ?l12 ?c12 ?k12 ?a13 ?l13 ?c13 ?k13 ?a14 ?l14 ?c14 ?k14 ?a15 ?l15 ?c15 ?k15 ?a16 ?l16 ?c16 ?k16 ?a44 ?l44 ?c44 ?k44 ?a45 ?l45 ?c45 ?k45 ?a46 ?l46 ?c46 ?k46 ?a48 ?l48 ?c48 ?k48 ?a49 ?l49 ?c49 ?k49 ?a52 ?l52 ?c52 ?k52 ?a53 ?l53 ?c53 ?k53 ?a59 ?l59 ?c59 ?k59 ?a60 ?l60 ?c60 ?k60 ?a61 ?l61 ?c61 ?k61 ?a62 ?l62 ?c62 ?k62 ?a63 ?l63 ?c63 ?k63 ?a64 ?l64 ?c64 ?k64 ?a65 ?l65 ?c65 ?k65 ?a66 ?l66 ?c66 ?k66 ?a67 ?l67 ?c67 ?k67 ?a68 ?l68 ?c68 ?k68 ?a69 ?l69 ?c69 ?k69 ?a70 ?l70 ?c70 ?k70 ?a71 ?l71 ?c71 ?k71 ?a72 ?l72 ?c72 ?k72 ?a73 ?l73 ?c73 ?k73 ?a74 ?l74 ?c74 ?k74 ?pg_C ?hd_C ?po_C ?sa_C ?mk_C ?kc_C ?n_C_places ?n_C_transitions ?a_MOST_PLACES ?a_MOST_TRANSITIONS ?a_MOST_TOKENS ?n_len ?n_int ?n_tuple ?n_list ?n_range ?n_max ?n_min ?n_zip ?n_isinstance ?n_bool
    (case a_C => k_is)
    (case a_CP => k_is)
    (case x_CP => k_exc)
    (case k_CP => k_is)
    (case s_CP => k_is)
    (case t_CP => k_is)
    (case c_CP => k_is)
    (case o_CP => first | rfl | k_is)
    (case a11 => k_is)
    (case i11 => k_is)
    (case l11 => k_is)
    (case c11 => k_is)
    (case k11 => k_is)
    (case a12 => k_is)
    (case l12 => k_is)
    (case c12 => k_is)
    (case k12 => k_is)
    (case a13 => k_is)
    (case l13 => k_is)
    (case c13 => k_is)
    (case k13 => k_is)
    (case a14 => k_is)
    (case l14 => k_is)
    (case c14 => k_is)
    (case k14 => k_is)
    (case a15 => k_is)
    (case l15 => k_is)
    (case c15 => k_is)
    (case k15 => k_is)
    (case a16 => k_is)
    (case l16 => k_is)
    (case c16 => k_is)
    (case k16 => k_is)
    (case a44 => k_is)
    (case l44 => k_is)
    (case c44 => k_is)
    (case k44 => k_is)
    (case a45 => k_is)
    (case l45 => k_is)
    (case c45 => k_is)
    (case k45 => k_is)
    (case a46 => k_is)
    (case l46 => k_is)
    (case c46 => k_is)
    (case k46 => k_is)
    (case a48 => k_is)
    (case l48 => k_is)
    (case c48 => k_is)
    (case k48 => k_is)
    (case a49 => k_is)
    (case l49 => k_is)
    (case c49 => k_is)
    (case k49 => k_is)
    (case a52 => k_is)
    (case l52 => k_is)
    (case c52 => k_is)
    (case k52 => k_is)
    (case a53 => k_is)
    (case l53 => k_is)
    (case c53 => k_is)
    (case k53 => k_is)
    (case a59 => k_is)
    (case l59 => k_is)
    (case c59 => k_is)
    (case k59 => k_is)
    (case a60 => k_is)
    (case l60 => k_is)
    (case c60 => k_is)
    (case k60 => k_is)
    (case a61 => k_is)
    (case l61 => k_is)
    (case c61 => k_is)
    (case k61 => k_is)
    (case a62 => k_is)
    (case l62 => k_is)
    (case c62 => k_is)
    (case k62 => k_is)
    (case a63 => k_is)
    (case l63 => k_is)
    (case c63 => k_is)
    (case k63 => k_is)
    (case a64 => k_is)
    (case l64 => k_is)
    (case c64 => k_is)
    (case k64 => k_is)
    (case a65 => k_is)
    (case l65 => k_is)
    (case c65 => k_is)
    (case k65 => k_is)
    (case a66 => k_is)
    (case l66 => k_is)
    (case c66 => k_is)
    (case k66 => k_is)
    (case a67 => k_is)
    (case l67 => k_is)
    (case c67 => k_is)
    (case k67 => k_is)
    (case a68 => k_is)
    (case l68 => k_is)
    (case c68 => k_is)
    (case k68 => k_is)
    (case a69 => k_is)
    (case l69 => k_is)
    (case c69 => k_is)
    (case k69 => k_is)
    (case a70 => k_is)
    (case l70 => k_is)
    (case c70 => k_is)
    (case k70 => k_is)
    (case a71 => k_is)
    (case l71 => k_is)
    (case c71 => k_is)
    (case k71 => k_is)
    (case a72 => k_is)
    (case l72 => k_is)
    (case c72 => k_is)
    (case k72 => k_is)
    (case a73 => k_is)
    (case l73 => k_is)
    (case c73 => k_is)
    (case k73 => k_is)
    (case a74 => k_is)
    (case l74 => k_is)
    (case c74 => k_is)
    (case k74 => k_is)
    (case pg_C => k_is)
    (case hd_C => k_is)
    (case po_C => k_is)
    (case sa_C => k_is)
    (case mk_C => k_is)
    (case kc_C => k_is)
    (case n_C_places => k_is)
    (case n_C_transitions => k_is)
    (case a_MOST_PLACES => k_is)
    (case a_MOST_TRANSITIONS => k_is)
    (case a_MOST_TOKENS => k_is)
    (case n_len => k_is)
    (case n_int => k_is)
    (case n_tuple => k_is)
    (case n_list => k_is)
    (case n_range => k_is)
    (case n_max => k_is)
    (case n_min => k_is)
    (case n_zip => k_is)
    (case n_isinstance => k_is)
    (case n_bool => k_is)
#print axioms PySem.Challenge.cw_covernets_k19_limit_firing_holds

