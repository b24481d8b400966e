import PyProof.Rows.All
import Wide.All
import OpenK.AllK
import Wide.FinOn
import PyProof.EqAt
import PyProof.EqKinds
import PyProof.TupleCall
import HandS.ForMost
import HandS.Zip
import HandS.IsInst
import HandS.Exc
import HandS.TryMany
import HandS.ExcOwn
import HandS.WordsExc
import HandS.Conv
import KE.GoesMore
import HandS.TupAny
import HandS.TryOnly
import KE.GoesNew
import KE.GoesEnum
import HandS.ExcCtx
import HandS.ForSpec
import HandS.HotCalls
import HandS.Dict
import PySem.Challenge.RW_covernets_k40_mail_steps
set_option Elab.async false
set_option linter.all false
set_option maxRecDepth 100000
set_option maxHeartbeats 2000000
namespace Cv
open PySem PySem.Spec PyProof.Rows L2

/-! ### heaps -/
/-- tuples and locked objects stand -/
structure Tk (H H' : Hp) : Prop where
  tup : ∀ a xs, H a = some (.tup xs) → H' a = some (.tup xs)
  frz : ∀ a o u, H a = some (.frz o u) → H' a = some (.frz o u)
theorem Tk.refl (H : Hp) : Tk H H := ⟨fun _ _ h => h, fun _ _ _ h => h⟩
theorem Tk.trans {H H1 H2 : Hp} (a : Tk H H1) (b : Tk H1 H2) : Tk H H2 := ⟨fun c x h => b.tup c x (a.tup c x h), fun c o u h => b.frz c o u (a.frz c o u h)⟩
theorem Tk.sqT {K : PySem.W.Frag} {H H' : Hp} {a : Addr} {xs : List V} (e : Tk H H') (h : SqT K H a xs) : SqT K H' a xs := by
  rcases h with (h | ⟨o, h⟩) | h
  · exact .inl (.inl (e.tup _ _ h))
  · exact .inl (.inr ⟨o, e.frz _ _ _ h⟩)
  · exact .inr h
theorem Tk.lst {H : Hp} {l : Addr} {xs : List V} {ys : List V} (h : H l = some (.lst xs)) : Tk H (upd H l (.lst ys)) := by
  refine ⟨fun a zs e => ?_, fun a o u e => ?_⟩
  · have : a ≠ l := fun q => by rw [q, h] at e; cases e
    rw [upd_ne this]; exact e
  · have : a ≠ l := fun q => by rw [q, h] at e; cases e
    rw [upd_ne this]; exact e
/-- the list of draws at a -/
def Drw (H : Hp) (a : Addr) : Prop := ∃ ns : List Int, ns.length ≤ 1000 ∧ H a = some (.lst (ns.map V.int))
/-- all stands but the draws -/
structure Ext (d : Option Addr) (H H' : Hp) : Prop where
  keep : ∀ a o, H a = some o → (some a = d → ∀ xs, o ≠ .lst xs) → H' a = some o
  draw : ∀ a, d = some a → Drw H a → Drw H' a
section
variable {d : Option Addr} {H H1 H2 B : Hp} {p a : Addr} {o : HO} {K : PySem.W.Frag}
theorem Ext.refl (H : Hp) : Ext d H H := ⟨fun _ _ h _ => h, fun _ _ h => h⟩
theorem Ext.trans (a : Ext d H H1) (b : Ext d H1 H2) : Ext d H H2 := ⟨fun c x h k => b.keep c x (a.keep c x h k) k, fun c e h => b.draw c e (a.draw c e h)⟩
theorem Ext.tk (e : Ext d H H1) : Tk H H1 := ⟨fun _ _ h => e.keep _ _ h fun _ _ q => (by cases q), fun _ _ _ h => e.keep _ _ h fun _ _ q => (by cases q)⟩
theorem Ext.new (h : H p = none) : Ext d H (upd H p o) := ⟨fun a u e _ => by rw [upd_ne (ne_of_none e h)]; exact e, fun a _ ⟨ns, hl, e⟩ => ⟨ns, hl, by rw [upd_ne (ne_of_none e h)]; exact e⟩⟩
theorem Ext.mut (e : Ext d B H) (h : B p = none) (hd : some p ≠ d) : Ext d B (upd H p o) := ⟨fun a u ea k => by
    rw [upd_ne (ne_of_none ea h)]; exact e.keep a u ea k,
  fun a ed hb => by
    obtain ⟨ns, hl, q⟩ := e.draw a ed hb
    have : a ≠ p := fun z => hd (by rw [ed, z])
    exact ⟨ns, hl, by rw [upd_ne this]; exact q⟩⟩
theorem Ext.at (e : Ext d H H1) (h : H a = some o) (hd : some a ≠ d) : H1 a = some o := e.keep a o h fun z => absurd z hd
theorem Ext.of_same (e : Same H H1) : Ext d H H1 := ⟨fun a o h _ => e a o h, fun a _ ⟨ns, hl, h⟩ => ⟨ns, hl, e _ _ h⟩⟩
theorem Ext.sqL {xs : List V} (e : Ext d H H1) (hd : some a ≠ d) (h : SqL K H a xs) : SqL K H1 a xs := by
  rcases h with (h | ⟨o, h⟩) | h
  · exact .inl (.inl (e.at h hd))
  · exact .inl (.inr ⟨o, e.tk.frz _ _ _ h⟩)
  · exact .inr h
end

/-! ### data -/
inductive D where
  | i (n : Int) | b (k : Bool) | n | s (x : Str) | t (xs : List D)
inductive DR (K : PySem.W.Frag) (H : Hp) : D → V → Prop
  | i (n : Int) : DR K H (.i n) (.int n)
  | b (k : Bool) : DR K H (.b k) (.bl k)
  | n : DR K H .n .non
  | s (x : Str) : DR K H (.s x) (.str x)
  | t {a : Addr} {vs : List V} {ds : List D} (h : SqT K H a vs) (hl : ds.length = vs.length) (hv : ∀ (i : Nat) (e : D) (v : V), ds[i]? = some e → vs[i]? = some v → DR K H e v) : DR K H (.t ds) (.ref a)
theorem DR.tk {K : PySem.W.Frag} {H H' : Hp} {e : D} {v : V} (k : Tk H H') (h : DR K H e v) : DR K H' e v := by
  induction h with
  | i n => exact .i n
  | b n => exact .b n
  | n => exact .n
  | s n => exact .s n
  | t h hl _ ih => exact .t (k.sqT h) hl ih
/-- the items of a list of data -/
def DRl (K : PySem.W.Frag) (H : Hp) (ds : List D) (vs : List V) : Prop := ds.length = vs.length ∧ ∀ (i : Nat) (e : D) (v : V), ds[i]? = some e → vs[i]? = some v → DR K H e v
theorem DRl.tk {K : PySem.W.Frag} {H H' : Hp} {ds : List D} {vs : List V} (k : Tk H H') (h : DRl K H ds vs) : DRl K H' ds vs := ⟨h.1, fun i e v a b => (h.2 i e v a b).tk k⟩
theorem DRl.nil {K : PySem.W.Frag} {H : Hp} : DRl K H [] [] := ⟨rfl, fun i e v a _ => by cases a⟩
theorem DRl.snoc {K : PySem.W.Frag} {H : Hp} {ds : List D} {vs : List V} {e : D} {v : V} (h : DRl K H ds vs) (hv : DR K H e v) : DRl K H (ds ++ [e]) (vs ++ [v]) := by
  refine ⟨by simp [h.1], fun i e' v' a b => ?_⟩
  by_cases hi : i < ds.length
  · rw [List.getElem?_append_left hi] at a
    rw [List.getElem?_append_left (by rw [← h.1]; exact hi)] at b
    exact h.2 i e' v' a b
  · rw [List.getElem?_append_right (by omega)] at a
    rw [List.getElem?_append_right (by rw [← h.1]; omega)] at b
    rw [← h.1] at b
    have : i - ds.length = 0 := by
      cases q : i - ds.length with
      | zero => rfl
      | succ m => rw [q] at a; simp at a
    rw [this] at a b
    cases a; cases b; exact hv
theorem DRl.get {K : PySem.W.Frag} {H : Hp} {ds : List D} {vs : List V} {i : Nat} {e : D} (h : DRl K H ds vs) (a : ds[i]? = some e) : ∃ v, vs[i]? = some v ∧ DR K H e v := by
  have hi : i < ds.length := (List.getElem?_eq_some_iff.mp a).1
  have hv : i < vs.length := by rw [← h.1]; exact hi
  exact ⟨vs[i], List.getElem?_eq_getElem hv, h.2 i e _ a (List.getElem?_eq_getElem hv)⟩
theorem DRl.getV {K : PySem.W.Frag} {H : Hp} {ds : List D} {vs : List V} {i : Nat} {v : V} (h : DRl K H ds vs) (a : vs[i]? = some v) : ∃ e, ds[i]? = some e ∧ DR K H e v := by
  have hv : i < vs.length := (List.getElem?_eq_some_iff.mp a).1
  have hi : i < ds.length := by rw [h.1]; exact hv
  exact ⟨ds[i], List.getElem?_eq_getElem hi, h.2 i _ v (List.getElem?_eq_getElem hi) a⟩
theorem DRl.ints {K : PySem.W.Frag} {H : Hp} : ∀ {ns : List Int} {vs : List V}, DRl K H (ns.map D.i) vs → vs = ns.map V.int
  | [], [], _ => rfl
  | [], _ :: _, h => by have := h.1; simp at this
  | _ :: _, [], h => by have := h.1; simp at this
  | n :: ns, v :: vs, h => by
    have h0 := h.2 0 (.i n) v rfl rfl
    cases h0
    have ih := DRl.ints (ns := ns) (vs := vs) ⟨by have := h.1; simpa using this, fun i e v a b => h.2 (i + 1) e v a b⟩
    rw [ih]; rfl
theorem DRl.of_ints {K : PySem.W.Frag} {H : Hp} (ns : List Int) : DRl K H (ns.map D.i) (ns.map V.int) := by
  refine ⟨by simp, fun i e v a b => ?_⟩
  rw [List.getElem?_map] at a b
  cases q : ns[i]? with
  | none => rw [q] at a; cases a
  | some z => rw [q] at a b; cases a; cases b; exact .i z
theorem DR.tup {K : PySem.W.Frag} {H : Hp} {ds : List D} {v : V} (h : DR K H (.t ds) v) : ∃ a vs, v = .ref a ∧ SqT K H a vs ∧ DRl K H ds vs := by
  cases h with
  | t h hl hv => exact ⟨_, _, rfl, h, hl, hv⟩
theorem DR.of_tup {K : PySem.W.Frag} {H : Hp} {ds : List D} {a : Addr} {vs : List V} (h : SqT K H a vs) (hd : DRl K H ds vs) : DR K H (.t ds) (.ref a) := .t h hd.1 hd.2
/-- a tuple of ints -/
abbrev tI (ns : List Int) : D := .t (ns.map D.i)
theorem DR.tupI {K : PySem.W.Frag} {H : Hp} {ns : List Int} {v : V} (h : DR K H (tI ns) v) : ∃ a, v = .ref a ∧ SqT K H a (ns.map V.int) := by
  obtain ⟨a, vs, e, h1, h2⟩ := h.tup
  have := h2.ints
  subst this
  exact ⟨a, e, h1⟩

/-! ### what a slot holds -/
structure Rp (d : Option Addr) where
  p : V → Hp → Prop
  st : ∀ {v : V} {H H' : Hp}, Ext d H H' → p v H → p v H'
section
variable {d : Option Addr}
def rI (n : Int) : Rp d := ⟨fun v _ => v = .int n, fun _ h => h⟩
def rB (b : Bool) : Rp d := ⟨fun v _ => v = .bl b, fun _ h => h⟩
def rAny : Rp d := ⟨fun _ _ => True, fun _ h => h⟩
def dat (K : PySem.W.Frag) (e : D) : Rp d := ⟨fun v H => DR K H e v, fun e h => h.tk e.tk⟩
def exR {α : Type} (P : α → Prop) (R : α → Rp d) : Rp d := ⟨fun v H => ∃ z, P z ∧ (R z).p v H, fun e ⟨z, hz, h⟩ => ⟨z, hz, (R z).st e h⟩⟩
abbrev iE (P : Int → Prop) : Rp d := exR P rI
abbrev dE (K : PySem.W.Frag) (P : D → Prop) : Rp d := exR P (dat K)
/-- a list of the def's own (or any other that is tracked) at a -/
def own (K : PySem.W.Frag) (a : Addr) (ds : List D) : Rp d := ⟨fun v H => v = .ref a ∧ some a ≠ d ∧ ∃ vs, H a = some (.lst vs) ∧ DRl K H ds vs, fun e ⟨h1, h2, vs, h3, h4⟩ => ⟨h1, h2, vs, e.at h3 h2, h4.tk e.tk⟩⟩
/-- a list of the written part -/
def KL (K : PySem.W.Frag) (a : Addr) (xs : List V) : Prop := ∃ (o : Obj) (its : Array Value) (n : Nat), K.lookup a = some o ∧ o.cls = .type "list" ∧ o.dict = none ∧ o.data = .seq its n ∧ its.size ≤ sizeLine ∧ Vals xs its.toList
/-- a list that is read: tracked (and not the draws), locked, or written -/
def SqX (d : Option Addr) (K : PySem.W.Frag) (H : Hp) (a : Addr) (xs : List V) : Prop := (some a ≠ d ∧ H a = some (.lst xs)) ∨ (∃ o, H a = some (.frz o (.lst xs))) ∨ KL K a xs
theorem SqX.sq {K : PySem.W.Frag} {H : Hp} {a : Addr} {xs : List V} (h : SqX d K H a xs) : SqL K H a xs := by
  rcases h with ⟨_, h⟩ | ⟨o, h⟩ | h
  · exact .inl (.inl h)
  · exact .inl (.inr ⟨o, h⟩)
  · exact .inr h
theorem SqX.ext {K : PySem.W.Frag} {H H' : Hp} {a : Addr} {xs : List V} (h : SqX d K H a xs) (e : Ext d H H') : SqX d K H' a xs := by
  rcases h with ⟨h1, h⟩ | ⟨o, h⟩ | h
  · exact .inl ⟨h1, e.at h h1⟩
  · exact .inr (.inl ⟨o, e.tk.frz _ _ _ h⟩)
  · exact .inr (.inr h)
/-- a list that is only read, at a -/
def lstA (K : PySem.W.Frag) (a : Addr) (ds : List D) : Rp d := ⟨fun v H => v = .ref a ∧ True ∧ ∃ vs, SqX d K H a vs ∧ DRl K H ds vs, fun e ⟨h1, h2, vs, h3, h4⟩ => ⟨h1, h2, vs, h3.ext e, h4.tk e.tk⟩⟩
def lst (K : PySem.W.Frag) (ds : List D) : Rp d := exR (fun _ => True) fun a => lstA K a ds
/-- a new list: not in B -/
def newL (B : Hp) (K : PySem.W.Frag) (ds : List D) : Rp d := exR (fun a => B a = none) fun a => own K a ds
/-- a new list, its items told by P -/
def newE (B : Hp) (K : PySem.W.Frag) (P : List D → Prop) : Rp d := exR (fun ds => P ds) fun ds => newL B K ds
def drw : Rp d := ⟨fun v H => ∃ a, v = .ref a ∧ d = some a, fun _ h => h⟩
theorem own_lstA {K : PySem.W.Frag} {a : Addr} {ds : List D} {v : V} {H : Hp} (h : (own (d := d) K a ds).p v H) : (lstA (d := d) K a ds).p v H := by
  obtain ⟨h1, h2, vs, h3, h4⟩ := h
  exact ⟨h1, trivial, vs, .inl ⟨h2, h3⟩, h4⟩
theorem newL_lst {B : Hp} {K : PySem.W.Frag} {ds : List D} {v : V} {H : Hp} (h : (newL (d := d) B K ds).p v H) : (lst (d := d) K ds).p v H := by
  obtain ⟨a, _, h⟩ := h
  exact ⟨a, trivial, own_lstA h⟩

/-! ### states -/
abbrev Ro (d : Option Addr) := List (Option (Rp d))
def Good (ρ : Ro d) (σ : L2.St) (H : Hp) : Prop := σ.length = ρ.length ∧ ∀ (i : Nat) (R : Rp d), ρ[i]? = some (some R) → ∃ v, σ[i]? = some (some v) ∧ R.p v H
structure St (B : Hp) (ρ : Ro d) (σ : L2.St) (H : Hp) : Prop where
  ext : Ext d B H
  dr : ∀ a, d = some a → Drw H a
  good : Good ρ σ H
theorem Good.mono {ρ : Ro d} {σ : L2.St} {H H' : Hp} (g : Good ρ σ H) (e : Ext d H H') : Good ρ σ H' := ⟨g.1, fun i R h => let ⟨v, a, b⟩ := g.2 i R h; ⟨v, a, R.st e b⟩⟩
theorem St.mono {B : Hp} {ρ : Ro d} {σ : L2.St} {H H' : Hp} (s : St B ρ σ H) (e : Ext d H H') : St B ρ σ H' := ⟨s.ext.trans e, fun a h => e.draw a h (s.dr a h), s.good.mono e⟩
theorem Good.set {ρ : Ro d} {σ : L2.St} {H : Hp} (g : Good ρ σ H) (i : Nat) {v : V} {R : Rp d} (h : R.p v H) : Good (ρ.set i (some R)) (σ.set i (some v)) H := by
  refine ⟨by simp [g.1], fun j R' hj => ?_⟩
  by_cases hij : i = j
  · subst hij
    have hlt : i < ρ.length := by
      have := (List.getElem?_eq_some_iff.mp hj).1
      simpa using this
    rw [List.getElem?_set_self hlt] at hj
    cases hj
    exact ⟨v, List.getElem?_set_self (by rw [g.1]; exact hlt), h⟩
  · rw [List.getElem?_set_ne hij] at hj
    obtain ⟨w, a, b⟩ := g.2 j R' hj
    exact ⟨w, by rw [List.getElem?_set_ne hij]; exact a, b⟩
theorem Good.get {ρ : Ro d} {σ : L2.St} {H : Hp} {i : Nat} {R : Rp d} (g : Good ρ σ H) (h : ρ[i]? = some (some R)) : ∃ v, σ[i]? = some (some v) ∧ R.p v H := g.2 i R h
/-- an address that is new now was not in B, and is not the draws' -/
theorem St.fresh {B : Hp} {ρ : Ro d} {σ : L2.St} {H : Hp} {p : Addr} (s : St B ρ σ H) (h : H p = none) : B p = none ∧ some p ≠ d := by
  have hd : some p ≠ d := fun e => by
    obtain ⟨ns, _, q⟩ := s.dr p e.symm
    rw [h] at q; cases q
  refine ⟨?_, hd⟩
  cases e : B p with
  | none => rfl
  | some o =>
    have := s.ext.at e hd
    rw [h] at this; cases this

/-! ### the judgements -/
variable {X : Cx}
def EX (X : Cx) (B : Hp) (ρ : Ro d) (e : Expr) (R : Rp d) : Prop := PE X e fun σ H Q => St B ρ σ H ∧ ∀ v H', Ext d H H' → R.p v H' → Q v H'
def TX (X : Cx) (B : Hp) (ρ : Ro d) (e : Expr) (P : Bool → Prop) : Prop := PT X e fun σ H Q => St B ρ σ H ∧ ∀ b H', Ext d H H' → P b → Q b H'
def WX (X : Cx) (B : Hp) (ρ : Ro d) (e : Expr) (P : Bool → Prop) : Prop := PW X e fun σ H Q => St B ρ σ H ∧ ∀ b H', Ext d H H' → P b → Q b H'
def RsH : List (Rp d) → List V → Hp → Prop
  | [], [], _ => True
  | R :: Rs, v :: vs, H => R.p v H ∧ RsH Rs vs H
  | _, _, _ => False
theorem RsH.mono : ∀ {Rs : List (Rp d)} {vs : List V} {H H' : Hp}, Ext d H H' → RsH Rs vs H → RsH Rs vs H'
  | [], [], _, _, _, _ => trivial
  | R :: Rs, v :: vs, _, _, e, h => ⟨R.st e h.1, RsH.mono e h.2⟩
  | [], _ :: _, _, _, _, h => h.elim
  | _ :: _, [], _, _, _, h => h.elim
def AX (X : Cx) (B : Hp) (ρ : Ro d) (es : List Expr) (Rs : List (Rp d)) : Prop := PA X es fun σ H Q => St B ρ σ H ∧ ∀ vs H', Ext d H H' → RsH Rs vs H' → Q vs H'
structure Le (H : Hp) (Po E : Ends) : Prop where
  nx : ∀ σ' H', Tk H H' → Po.nx σ' H' → E.nx σ' H'
  rt : ∀ v H', Tk H H' → Po.rt v H' → E.rt v H'
  bk : ∀ σ' H', Tk H H' → Po.bk σ' H' → E.bk σ' H'
  ct : ∀ σ' H', Tk H H' → Po.ct σ' H' → E.ct σ' H'
def SX (X : Cx) (s : Stmt) (Pre : L2.St → Hp → Prop) (Po : Ends) : Prop := PS X s fun E σ H => Pre σ H ∧ Le H Po E
def BX (X : Cx) (s : List Stmt) (Pre : L2.St → Hp → Prop) (Po : Ends) : Prop := PSs X s fun E σ H => Pre σ H ∧ Le H Po E
theorem PE_wk {e : Expr} {t t' : TE} (h : PE X e t) (w : ∀ σ H Q, t' σ H Q → t σ H Q) : PE X e t' := ⟨fun pins s σ H Q I q => h.run pins s σ H Q I (w σ H Q q)⟩
theorem PT_wk {e : Expr} {t t' : TT} (h : PT X e t) (w : ∀ σ H Q, t' σ H Q → t σ H Q) : PT X e t' := ⟨fun pins s σ H Q I q => h.run pins s σ H Q I (w σ H Q q)⟩
theorem PW_wk {e : Expr} {t t' : TT} (h : PW X e t) (w : ∀ σ H Q, t' σ H Q → t σ H Q) : PW X e t' := ⟨fun wh pins s σ H Q I q => h.run wh pins s σ H Q I (w σ H Q q)⟩
theorem PA_wk {e : List Expr} {t t' : TA} (h : PA X e t) (w : ∀ σ H Q, t' σ H Q → t σ H Q) : PA X e t' := ⟨fun pos pins s σ H Q I q => h.run pos pins s σ H Q I (w σ H Q q)⟩
theorem PS_wk {e : Stmt} {t t' : TS} (h : PS X e t) (w : ∀ E σ H, t' E σ H → t E σ H) : PS X e t' := ⟨fun pins s σ H E I q => h.run pins s σ H E I (w E σ H q)⟩
theorem PSs_wk {e : List Stmt} {t t' : TS} (h : PSs X e t) (w : ∀ E σ H, t' E σ H → t E σ H) : PSs X e t' := ⟨fun pins s σ H E I q => h.run pins s σ H E I (w E σ H q)⟩
theorem Le.next {H H1 : Hp} {Po E : Ends} (l : Le H Po E) (k : Tk H H1) : Le H1 Po E := ⟨fun σ' H' a => l.nx σ' H' (k.trans a), fun σ' H' a => l.rt σ' H' (k.trans a), fun σ' H' a => l.bk σ' H' (k.trans a), fun σ' H' a => l.ct σ' H' (k.trans a)⟩

/-! ### expressions -/
variable {B : Hp} {ρ : Ro d} {a b c e : Expr} {es : List Expr} {R R' Ra Rb : Rp d} {Rs : List (Rp d)} {pos : Pos} {m n : Int}
theorem x_sub (h : EX X B ρ e R) (w : ∀ v H, R.p v H → R'.p v H) : EX X B ρ e R' := PE_wk h fun σ H Q ⟨s, q⟩ => ⟨s, fun v H' e1 hv => q v H' e1 (w v H' hv)⟩
theorem x_var (i : Nat) {x : Str} (h : ρ[i]? = some (some R)) (hN : X.N[i]? = some x := by rfl) (hv : Vis X.env.scope x := by first | exact Or.inl rfl | exact Or.inr (Or.inl rfl) | exact Or.inr (Or.inr rfl)) (hd : (x == ("__debug__" : Str)) = false := by decide)
    (hcd : (x == ("__classdict__" : Str)) = false := by decide) : EX X B ρ (.Name x pos) R :=
  PE_wk (pe_var hN hv hd hcd) fun σ H Q ⟨s, q⟩ => by
    obtain ⟨v, h1, h2⟩ := s.good.get h
    exact ⟨v, h1, q v H (Ext.refl H) h2⟩
theorem x_int {j : Nat} : EX X B ρ (.Constant (.int n) j pos) (rI n) := PE_wk pe_int fun σ H Q ⟨s, q⟩ => q _ H (Ext.refl H) rfl
theorem x_bl {k : Bool} {j : Nat} : EX X B ρ (.Constant (.bool k) j pos) (rB k) := PE_wk pe_bl fun σ H Q ⟨s, q⟩ => q _ H (Ext.refl H) rfl
theorem x_non {K : PySem.W.Frag} {j : Nat} : EX X B ρ (.Constant .none j pos) (dat K .n) := PE_wk pe_non fun σ H Q ⟨s, q⟩ => q _ H (Ext.refl H) .n
theorem x_op2 {op : Operator} {r : R2} (ho : OpR X (binaryOp op) r) (ha : EX X B ρ a Ra) (hb : EX X B ρ b Rb) (h : ∀ x y H σ Q, St B ρ σ H → Ra.p x H → Rb.p y H → (∀ v H', Ext d H H' → R.p v H' → Q v H') → r x y H Q) : EX X B ρ (.BinOp a op b pos) R :=
  PE_wk (pe_op ho ha hb) fun σ H Q ⟨s, q⟩ => ⟨s, fun x H1 e1 hx => ⟨s.mono e1, fun y H2 e2 hy => h x y H2 σ Q ((s.mono e1).mono e2) (Ra.st e2 hx) hy fun v H' e' hv => q v H' (e1.trans (e2.trans e')) hv⟩⟩
theorem x_add (ha : EX X B ρ a (rI m)) (hb : EX X B ρ b (rI n)) : EX X B ρ (.BinOp a .Add b pos) (rI (m + n)) := x_op2 op_add ha hb fun x y H σ Q _ hx hy q => ⟨m, n, hx, hy, q _ H (Ext.refl H) rfl⟩
theorem x_sub_ (ha : EX X B ρ a (rI m)) (hb : EX X B ρ b (rI n)) : EX X B ρ (.BinOp a .Sub b pos) (rI (m - n)) := x_op2 op_sub ha hb fun x y H σ Q _ hx hy q => ⟨m, n, hx, hy, q _ H (Ext.refl H) rfl⟩
theorem x_addE {P S : Int → Prop} (ha : EX X B ρ a (iE P)) (hb : EX X B ρ b (iE S)) : EX X B ρ (.BinOp a .Add b pos) (iE fun z => ∃ i j, P i ∧ S j ∧ z = i + j) := x_op2 op_add ha hb fun x y H σ Q _ ⟨i, hi, hx⟩ ⟨j, hj, hy⟩ q => ⟨i, j, hx, hy, q _ H (Ext.refl H) ⟨_, ⟨i, j, hi, hj, rfl⟩, rfl⟩⟩
theorem x_subE {P S : Int → Prop} (ha : EX X B ρ a (iE P)) (hb : EX X B ρ b (iE S)) : EX X B ρ (.BinOp a .Sub b pos) (iE fun z => ∃ i j, P i ∧ S j ∧ z = i - j) := x_op2 op_sub ha hb fun x y H σ Q _ ⟨i, hi, hx⟩ ⟨j, hj, hy⟩ q => ⟨i, j, hx, hy, q _ H (Ext.refl H) ⟨_, ⟨i, j, hi, hj, rfl⟩, rfl⟩⟩
theorem x_mulE {P S : Int → Prop} (ha : EX X B ρ a (iE P)) (hb : EX X B ρ b (iE S)) (hc : ∀ i j, P i → S j → CMul i j) : EX X B ρ (.BinOp a .Mult b pos) (iE fun z => ∃ i j, P i ∧ S j ∧ z = i * j) := x_op2 op_mul ha hb fun x y H σ Q _ ⟨i, hi, hx⟩ ⟨j, hj, hy⟩ q => ⟨i, j, hx, hy, hc i j hi hj, q _ H (Ext.refl H) ⟨_, ⟨i, j, hi, hj, rfl⟩, rfl⟩⟩
theorem x_modE {P S : Int → Prop} (ha : EX X B ρ a (iE P)) (hb : EX X B ρ b (iE S)) (hc : ∀ j, S j → 0 < j) : EX X B ρ (.BinOp a .Mod b pos) (iE fun z => ∃ i j, P i ∧ S j ∧ z = i % j) := x_op2 op_mod ha hb fun x y H σ Q _ ⟨i, hi, hx⟩ ⟨j, hj, hy⟩ q => ⟨i, j, hx, hy, hc j hj, q _ H (Ext.refl H) ⟨_, ⟨i, j, hi, hj, rfl⟩, rfl⟩⟩
theorem x_mod (ha : EX X B ρ a (rI m)) (hb : EX X B ρ b (rI n)) (hc : 0 < n) : EX X B ρ (.BinOp a .Mod b pos) (rI (m % n)) := x_op2 op_mod ha hb fun x y H σ Q _ hx hy q => ⟨m, n, hx, hy, hc, q _ H (Ext.refl H) rfl⟩
theorem x_mul (ha : EX X B ρ a (rI m)) (hb : EX X B ρ b (rI n)) (hc : CMul m n) : EX X B ρ (.BinOp a .Mult b pos) (rI (m * n)) := x_op2 op_mul ha hb fun x y H σ Q _ hx hy q => ⟨m, n, hx, hy, hc, q _ H (Ext.refl H) rfl⟩
theorem x_fdiv (ha : EX X B ρ a (rI m)) (hb : EX X B ρ b (rI n)) (hc : CDiv m n) : EX X B ρ (.BinOp a .FloorDiv b pos) (rI (m / n)) := x_op2 op_fdiv ha hb fun x y H σ Q _ hx hy q => ⟨m, n, hx, hy, hc, q _ H (Ext.refl H) rfl⟩
theorem x_pow (ha : EX X B ρ a (rI m)) (hb : EX X B ρ b (rI n)) (hc : CPow m n) : EX X B ρ (.BinOp a .Pow b pos) (rI (m ^ n.toNat)) := x_op2 op_pow ha hb fun x y H σ Q _ hx hy q => ⟨m, n, hx, hy, hc, q _ H (Ext.refl H) rfl⟩
theorem x_neg (ha : EX X B ρ a (rI m)) : EX X B ρ (.UnaryOp .USub a pos) (rI (-m)) :=
  PE_wk (pe_un un_neg ha) fun σ H Q ⟨s, q⟩ => ⟨s, fun x H1 e1 hx => ⟨m, hx, q _ H1 e1 rfl⟩⟩
theorem x_I (h : EX X B ρ e (rI n)) : EX X B ρ e (iE fun z => z = n) := x_sub h fun v H hv => ⟨n, rfl, hv⟩
theorem x_iE {P S : Int → Prop} (h : EX X B ρ e (iE P)) (w : ∀ z, P z → S z) : EX X B ρ e (iE S) := x_sub h fun v H ⟨z, hz, hv⟩ => ⟨z, w z hz, hv⟩
/-! ### tests and comparisons -/
theorem x_cmp {op : CmpOp} {r : R2} (ho : OpR X (compareOp op) r) (hm : behindInMarks op b = false) (ha : EX X B ρ a Ra) (hb : EX X B ρ b Rb) (h : ∀ x y H σ Q, St B ρ σ H → Ra.p x H → Rb.p y H → (∀ v H', Ext d H H' → R.p v H' → Q v H') → r x y H Q) : EX X B ρ (.Compare a [op] [b] pos) R :=
  PE_wk (pe_cmpR ho ha hb hm) fun σ H Q ⟨s, q⟩ => ⟨s, fun x H1 e1 hx => ⟨s.mono e1, fun y H2 e2 hy => h x y H2 σ Q ((s.mono e1).mono e2) (Ra.st e2 hx) hy fun v H' e' hv => q v H' (e1.trans (e2.trans e')) hv⟩⟩
theorem t_cmp {op : CmpOp} {r : R2} {P : Bool → Prop} (ho : OpR X (compareOp op) r) (hm : behindInMarks op b = false) (ha : EX X B ρ a Ra) (hb : EX X B ρ b Rb) (h : ∀ x y H σ Q, St B ρ σ H → Ra.p x H → Rb.p y H → (∀ k H', Ext d H H' → P k → Q (.bl k) H') → r x y H Q) : TX X B ρ (.Compare a [op] [b] pos) P :=
  PT_wk (pt_cmpR ho ha hb hm) fun σ H Q ⟨s, q⟩ => ⟨s, fun x H1 e1 hx => ⟨s.mono e1, fun y H2 e2 hy => h x y H2 σ _ ((s.mono e1).mono e2) (Ra.st e2 hx) hy fun k H' e' hk => ⟨k, rfl, q k H' (e1.trans (e2.trans e')) hk⟩⟩⟩
abbrev is (k : Bool) : Bool → Prop := fun b => b = k
theorem t_lt (ha : EX X B ρ a (rI m)) (hb : EX X B ρ b (rI n)) : TX X B ρ (.Compare a [.Lt] [b] pos) (is (decide (m < n))) := t_cmp op_lt (nomark _) ha hb fun x y H σ Q _ hx hy q => ⟨m, n, hx, hy, q _ H (Ext.refl H) rfl⟩
theorem t_le (ha : EX X B ρ a (rI m)) (hb : EX X B ρ b (rI n)) : TX X B ρ (.Compare a [.LtE] [b] pos) (is (decide (m ≤ n))) := t_cmp op_le (nomark _) ha hb fun x y H σ Q _ hx hy q => ⟨m, n, hx, hy, q _ H (Ext.refl H) rfl⟩
theorem t_gt (ha : EX X B ρ a (rI m)) (hb : EX X B ρ b (rI n)) : TX X B ρ (.Compare a [.Gt] [b] pos) (is (decide (n < m))) := t_cmp op_gt (nomark _) ha hb fun x y H σ Q _ hx hy q => ⟨m, n, hx, hy, q _ H (Ext.refl H) rfl⟩
theorem t_ge (ha : EX X B ρ a (rI m)) (hb : EX X B ρ b (rI n)) : TX X B ρ (.Compare a [.GtE] [b] pos) (is (decide (n ≤ m))) := t_cmp op_ge (nomark _) ha hb fun x y H σ Q _ hx hy q => ⟨m, n, hx, hy, q _ H (Ext.refl H) rfl⟩
theorem t_eq (ha : EX X B ρ a (rI m)) (hb : EX X B ρ b (rI n)) : TX X B ρ (.Compare a [.Eq] [b] pos) (is (decide (m = n))) := t_cmp op_eq (nomark _) ha hb fun x y H σ Q _ hx hy q => by
  subst hx; subst hy
  exact ⟨rfl, q _ H (Ext.refl H) (by rw [dec_int, Bool.beq_eq_decide_eq])⟩
theorem t_ne (ha : EX X B ρ a (rI m)) (hb : EX X B ρ b (rI n)) : TX X B ρ (.Compare a [.NotEq] [b] pos) (is (!decide (m = n))) := t_cmp op_ne (nomark _) ha hb fun x y H σ Q _ hx hy q => by
  subst hx; subst hy
  exact ⟨rfl, q _ H (Ext.refl H) (by show (!decide (V.int m = V.int n)) = _; rw [dec_int, Bool.beq_eq_decide_eq])⟩
theorem t_val {k : Bool} (h : EX X B ρ e (rB k)) (he : ∀ whole, isTrue e X.env whole = (do let v ← whole; standAt e.pos; holding [v] (truthy v)) := by intro _; rfl) : TX X B ρ e (is k) :=
  PT_wk (pt_val h he) fun σ H Q ⟨s, q⟩ => ⟨s, fun v H' e1 hv => ⟨k, hv, q k H' e1 rfl⟩⟩
theorem t_not {P : Bool → Prop} (h : TX X B ρ e P) : TX X B ρ (.UnaryOp .Not e pos) (fun k => P (!k)) :=
  PT_wk (pt_not h) fun σ H Q ⟨s, q⟩ => ⟨s, fun k H' e1 hk => q (!k) H' e1 (by show P (!!k); rw [Bool.not_not]; exact hk)⟩
theorem t_sub {P S : Bool → Prop} (h : TX X B ρ e P) (w : ∀ k, P k → S k) : TX X B ρ e S := PT_wk h fun σ H Q ⟨s, q⟩ => ⟨s, fun k H' e1 hk => q k H' e1 (w k hk)⟩
theorem w_and1 {P : Bool → Prop} (h : TX X B ρ e P) : WX X B ρ (.BoolOp .And [e] pos) P := pw_and1 h
theorem w_or1 {P : Bool → Prop} (h : TX X B ρ e P) : WX X B ρ (.BoolOp .Or [e] pos) P := pw_or1 h
theorem w_and {P S : Bool → Prop} (h : TX X B ρ a P) (hb : P true → WX X B ρ (.BoolOp .And (b :: es) pos) S) : WX X B ρ (.BoolOp .And (a :: b :: es) pos) (fun k => (P true ∧ S k) ∨ (P false ∧ k = false)) := by
  by_cases hp : P true
  · exact PW_wk (pw_and h (hb hp)) fun σ H Q ⟨s, q⟩ => ⟨s, fun k H' e1 hk => by
      cases k with
      | true => exact iteT ⟨s.mono e1, fun k2 H2 e2 h2 => q k2 H2 (e1.trans e2) (.inl ⟨hp, h2⟩)⟩
      | false => exact iteF (q false H' e1 (.inr ⟨hk, rfl⟩))⟩
  · refine ⟨fun wh pins s σ H Q I ⟨st, q⟩ => ?_⟩
    refine isTrue_and (thn (h.run pins s σ H (fun k H' => k = false ∧ Q k H') I ⟨st, fun k H' e1 hk => ?_⟩) fun k s1 ⟨H1, I1, q1⟩ => ?_)
    · cases k with
      | true => exact absurd hk hp
      | false => exact ⟨rfl, q false H' e1 (.inr ⟨hk, rfl⟩)⟩
    · obtain ⟨rfl, q1⟩ := q1
      exact ⟨H1, I1, q1⟩
theorem w_or {P S : Bool → Prop} (h : TX X B ρ a P) (hb : P false → WX X B ρ (.BoolOp .Or (b :: es) pos) S) : WX X B ρ (.BoolOp .Or (a :: b :: es) pos) (fun k => (P false ∧ S k) ∨ (P true ∧ k = true)) := by
  by_cases hp : P false
  · exact PW_wk (pw_or h (hb hp)) fun σ H Q ⟨s, q⟩ => ⟨s, fun k H' e1 hk => by
      cases k with
      | true => exact iteT (q true H' e1 (.inr ⟨hk, rfl⟩))
      | false => exact iteF ⟨s.mono e1, fun k2 H2 e2 h2 => q k2 H2 (e1.trans e2) (.inl ⟨hp, h2⟩)⟩⟩
  · refine ⟨fun wh pins s σ H Q I ⟨st, q⟩ => ?_⟩
    refine isTrue_or (thn (h.run pins s σ H (fun k H' => k = true ∧ Q k H') I ⟨st, fun k H' e1 hk => ?_⟩) fun k s1 ⟨H1, I1, q1⟩ => ?_)
    · cases k with
      | false => exact absurd hk hp
      | true => exact ⟨rfl, q true H' e1 (.inr ⟨hk, rfl⟩)⟩
    · obtain ⟨rfl, q1⟩ := q1
      exact ⟨H1, I1, q1⟩
theorem t_w {P : Bool → Prop} (h : WX X B ρ e P) : TX X B ρ e P := PW.pt h
end
end Cv

namespace Cv
open PySem PySem.Spec PyProof.Rows L2
section
variable {d : Option Addr} {X : Cx} {B : Hp} {ρ : Ro d} {a b c e : Expr} {es : List Expr} {R R' Ra Rb : Rp d} {Rs : List (Rp d)} {pos : Pos} {m n : Int}
/-! ### arguments, calls -/
theorem a_nil : AX X B ρ [] [] := PA_wk pa_nil fun σ H Q ⟨s, q⟩ => q [] H (Ext.refl H) trivial
theorem a_cons (ha : EX X B ρ e R) (hr : AX X B ρ es Rs) (hs : starEach (e :: es) X.env = (false, eval e X.env) :: starEach es X.env := by rfl) : AX X B ρ (e :: es) (R :: Rs) :=
  PA_wk (pa_cons ha hr hs) fun σ H Q ⟨s, q⟩ => ⟨s, fun v H1 e1 hv => ⟨s.mono e1, fun vs H2 e2 hvs => q (v :: vs) H2 (e1.trans e2) ⟨R.st e2 hv, hvs⟩⟩⟩
/-- a promise: arguments as told by As z, then a result as told by R z (H: the heap at the call) -/
def spP {α : Type} (d : Option Addr) (As : α → List (Rp d)) (R : α → Hp → Rp d) : Sp := fun vs H Q _ => ∃ z : α, RsH (As z) vs H ∧ (∀ a, d = some a → Drw H a) ∧ ∀ v H', Ext d H H' → (R z H).p v H' → Q v H'
theorem x_call {α : Type} {As : α → List (Rp d)} {Rz : α → Hp → Rp d} {x : Str} {p : Pos} {f : Addr} {fd : FuncData} {ps : List Str} {k : Nat} {CX : CXT} {E : XK} (F : FnOk X.prog X.w X.K X.mg X.base CX k f fd ps (spP d As Rz)) (hr : Room k X.A) (hg : Gl X x) (hm : X.mg x = some (.ref f)) (hk : PySem.W.keepIn X.K (.ref f) = true) (hb : Binds X.K fd ps []) (hx : Passes CX X E)
    (z : α) (ha : AX X B ρ (e :: es) (As z)) (hR : ∀ v H H' σ, St B ρ σ H → Ext d H H' → (Rz z H).p v H' → R.p v H')
    (hdb : (x == ("__debug__" : Str)) = false := by decide) (he : starEach (e :: es) X.env = (false, eval e X.env) :: starEach es X.env := by rfl) (hpl : (backTo pos (starEach es X.env)).any (·.1) = false := by rfl) : EX X B ρ (.Call (.Name x p) (e :: es) [] pos) R :=
  PE_wk (pe_call (dvs := []) (E := E) F hr hg hm hk hb .nil hx ha (hdb := hdb) (he := he) (hpl := hpl)) fun σ H Q ⟨s, q⟩ => ⟨s, fun vs H1 e1 hvs => by
    show spP d As Rz (vs ++ []) H1 Q E
    rw [List.append_nil]
    exact ⟨z, hvs, (s.mono e1).dr, fun v H' e2 hv => q v H' (e1.trans e2) (hR v H1 H' σ (s.mono e1) e2 hv)⟩⟩
/-- a built-in by its name -/
theorem x_callB {id : String} {r : List V → Hp → VK → Prop} {x : Str} {p : Pos} (hc : CallR X (.builtin id) r) (hg : Gl X x) (hm : X.mg x = none) (hv : bootBuiltins x = some (.builtin id)) (ha : AX X B ρ (e :: es) Rs)
    (h : ∀ vs H σ Q, St B ρ σ H → RsH Rs vs H → (∀ v H', Ext d H H' → R.p v H' → Q v H') → r vs H Q)
    (hn : x ≠ "__name__" := by decide) (hdb : (x == ("__debug__" : Str)) = false := by decide) (he : starEach (e :: es) X.env = (false, eval e X.env) :: starEach es X.env := by rfl) (hpl : (backTo pos (starEach es X.env)).any (·.1) = false := by rfl) : EX X B ρ (.Call (.Name x p) (e :: es) [] pos) R :=
  PE_wk (pe_callB hc hg hm hv ha hn hdb he hpl) fun σ H Q ⟨s, q⟩ => ⟨s, fun vs H1 e1 hvs => h vs H1 σ Q (s.mono e1) hvs fun v H' e2 hv => q v H' (e1.trans e2) hv⟩
theorem x_callT {T : String} {r : List V → Hp → VK → Prop} {x : Str} {p : Pos} (hc : CallR X (.type T) r) (hg : Gl X x) (hm : X.mg x = none) (hv : bootBuiltins x = some (.type T)) (ha : AX X B ρ (e :: es) Rs)
    (h : ∀ vs H σ Q, St B ρ σ H → RsH Rs vs H → (∀ v H', Ext d H H' → R.p v H' → Q v H') → r vs H Q)
    (hn : x ≠ "__name__" := by decide) (hdb : (x == ("__debug__" : Str)) = false := by decide) (he : starEach (e :: es) X.env = (false, eval e X.env) :: starEach es X.env := by rfl) (hpl : (backTo pos (starEach es X.env)).any (·.1) = false := by rfl) : EX X B ρ (.Call (.Name x p) (e :: es) [] pos) R :=
  PE_wk (pe_callTy hc hg hm hv ha hn hdb he hpl) fun σ H Q ⟨s, q⟩ => ⟨s, fun vs H1 e1 hvs => h vs H1 σ Q (s.mono e1) hvs fun v H' e2 hv => q v H' (e1.trans e2) hv⟩
/-! ### lists and tuples -/
theorem RsH.one {v : List V} {H : Hp} (h : RsH [R] v H) : ∃ x, v = [x] ∧ R.p x H := by
  match v, h with
  | [x], h => exact ⟨x, rfl, h.1⟩
theorem RsH.two {v : List V} {H : Hp} (h : RsH [Ra, Rb] v H) : ∃ x y, v = [x, y] ∧ Ra.p x H ∧ Rb.p y H := by
  match v, h with
  | [x, y], h => exact ⟨x, y, rfl, h.1, h.2.1⟩
theorem x_len_t {ds : List D} {p : Pos} (hg : Gl X "len") (hm : X.mg "len" = none) (h : EX X B ρ e (dat X.K (.t ds))) (he : starEach [e] X.env = (false, eval e X.env) :: starEach [] X.env := by rfl) (hpl : (backTo pos (starEach [] X.env)).any (·.1) = false := by rfl) : EX X B ρ (.Call (.Name "len" p) [e] [] pos) (rI ds.length) :=
  x_callB call_len_seq hg hm PySem.boot_len (a_cons h a_nil he) (fun vs H σ Q s hv q => by
    obtain ⟨x, rfl, hx⟩ := hv.one
    obtain ⟨a, us, rfl, h1, h2⟩ := DR.tup hx
    exact ⟨a, us, rfl, .inr h1, q _ H (Ext.refl H) (by show V.int _ = V.int _; rw [h2.1])⟩) (he := he) (hpl := hpl)
theorem x_len_l {ds : List D} {l : Addr} {p : Pos} (hg : Gl X "len") (hm : X.mg "len" = none) (h : EX X B ρ e (lstA X.K l ds)) (he : starEach [e] X.env = (false, eval e X.env) :: starEach [] X.env := by rfl) (hpl : (backTo pos (starEach [] X.env)).any (·.1) = false := by rfl) : EX X B ρ (.Call (.Name "len" p) [e] [] pos) (rI ds.length) :=
  x_callB call_len_seq hg hm PySem.boot_len (a_cons h a_nil he) (fun vs H σ Q s hv q => by
    obtain ⟨x, rfl, hx⟩ := hv.one
    obtain ⟨rfl, _, us, h1, h2⟩ := hx
    exact ⟨l, us, rfl, .inl h1.sq, q _ H (Ext.refl H) (by show V.int _ = V.int _; rw [h2.1])⟩) (he := he) (hpl := hpl)
/-- the draws' length: some number -/
theorem x_len_d {p : Pos} (hg : Gl X "len") (hm : X.mg "len" = none) (h : EX X B ρ e drw) (he : starEach [e] X.env = (false, eval e X.env) :: starEach [] X.env := by rfl) (hpl : (backTo pos (starEach [] X.env)).any (·.1) = false := by rfl) : EX X B ρ (.Call (.Name "len" p) [e] [] pos) (iE fun _ => True) :=
  x_callB call_len_seq hg hm PySem.boot_len (a_cons h a_nil he) (fun vs H σ Q s hv q => by
    obtain ⟨x, rfl, a, rfl, e⟩ := hv.one
    obtain ⟨ns, _, hn⟩ := s.dr a e
    exact ⟨a, _, rfl, .inl (SqL.of hn), q _ H (Ext.refl H) ⟨_, trivial, rfl⟩⟩) (he := he) (hpl := hpl)
theorem x_lstA {l : Addr} {ds : List D} {K : PySem.W.Frag} (h : EX X B ρ e (own K l ds)) : EX X B ρ e (lstA K l ds) := x_sub h fun v H hv => own_lstA hv
/-- t[i] -/
theorem x_ixt {ds : List D} {j : Int} {w : D} (ha : EX X B ρ a (dat X.K (.t ds))) (hb : EX X B ρ b (rI j)) (hw : atI ds j = some w) (hs : PlainIx b := by exact (fun _ _ => rfl)) : EX X B ρ (.Subscript a b pos) (dat X.K w) :=
  PE_wk (pe_ix ix_tup ha hb hs) fun σ H Q ⟨s, q⟩ => ⟨s, fun x H1 e1 hx => ⟨s.mono e1, fun y H2 e2 hy => by
    obtain ⟨p, us, rfl, h1, h2⟩ := DR.tup hx
    obtain ⟨k, hk, hkw⟩ : ∃ k : Nat, ixN ds.length j = some k ∧ ds[k]? = some w := by
      unfold atI at hw
      cases q' : ixN ds.length j with
      | none => rw [q'] at hw; cases hw
      | some k => rw [q'] at hw; exact ⟨k, rfl, hw⟩
    obtain ⟨v, hv, hr⟩ := h2.get hkw
    refine ⟨p, us, j, v, rfl, hy, e2.tk.sqT h1, ?_, q v H2 (e1.trans e2) (hr.tk e2.tk)⟩
    unfold atI
    rw [← h2.1, hk]
    exact hv⟩⟩
theorem x_ixl {l : Addr} {ds : List D} {j : Int} {w : D} (ha : EX X B ρ a (lstA X.K l ds)) (hb : EX X B ρ b (rI j)) (hw : atI ds j = some w) (hs : PlainIx b := by exact (fun _ _ => rfl)) : EX X B ρ (.Subscript a b pos) (dat X.K w) :=
  PE_wk (pe_ix ix_list ha hb hs) fun σ H Q ⟨s, q⟩ => ⟨s, fun x H1 e1 hx => ⟨s.mono e1, fun y H2 e2 hy => by
    obtain ⟨rfl, hd, us, h1, h2⟩ := hx
    obtain ⟨k, hk, hkw⟩ : ∃ k : Nat, ixN ds.length j = some k ∧ ds[k]? = some w := by
      unfold atI at hw
      cases q' : ixN ds.length j with
      | none => rw [q'] at hw; cases hw
      | some k => rw [q'] at hw; exact ⟨k, rfl, hw⟩
    obtain ⟨v, hv, hr⟩ := h2.get hkw
    refine ⟨l, us, j, v, rfl, hy, (h1.ext e2).sq, ?_, q v H2 (e1.trans e2) (hr.tk e2.tk)⟩
    unfold atI
    rw [← h2.1, hk]
    exact hv⟩⟩
/-- t[i], xs[i], the place only told by P -/
theorem x_ixlE {l : Addr} {ds : List D} {P : Int → Prop} (ha : EX X B ρ a (lstA X.K l ds)) (hb : EX X B ρ b (iE P)) (hw : ∀ j, P j → 0 ≤ j ∧ j < ds.length) (hs : PlainIx b := by exact (fun _ _ => rfl)) : EX X B ρ (.Subscript a b pos) (dE X.K fun w => ∃ k : Nat, P k ∧ ds[k]? = some w) :=
  PE_wk (pe_ix ix_list ha hb hs) fun σ H Q ⟨s, q⟩ => ⟨s, fun x H1 e1 hx => ⟨s.mono e1, fun y H2 e2 hy => by
    obtain ⟨rfl, hd, us, h1, h2⟩ := hx
    obtain ⟨j, hj, hy⟩ := hy
    obtain ⟨h0, hl⟩ := hw j hj
    obtain ⟨k, rfl⟩ : ∃ k : Nat, j = (k : Int) := ⟨j.toNat, by omega⟩
    have hk : k < ds.length := by omega
    obtain ⟨v, hv, hr⟩ := h2.get (List.getElem?_eq_getElem hk)
    exact ⟨l, us, _, v, rfl, hy, (h1.ext e2).sq, atI_nat hv, q v H2 (e1.trans e2) ⟨_, ⟨k, hj, List.getElem?_eq_getElem hk⟩, hr.tk e2.tk⟩⟩⟩⟩
/-- data that is an int, a bool -/
theorem x_dI {K : PySem.W.Frag} (h : EX X B ρ e (dat K (.i n))) : EX X B ρ e (rI n) := x_sub h fun v H hv => by cases hv; rfl
theorem x_dB {K : PySem.W.Frag} {k : Bool} (h : EX X B ρ e (dat K (.b k))) : EX X B ρ e (rB k) := x_sub h fun v H hv => by cases hv; rfl
theorem x_Id {K : PySem.W.Frag} (h : EX X B ρ e (rI n)) : EX X B ρ e (dat K (.i n)) := x_sub h fun v H hv => by cases hv; exact .i n
theorem x_Bd {K : PySem.W.Frag} {k : Bool} (h : EX X B ρ e (rB k)) : EX X B ρ e (dat K (.b k)) := x_sub h fun v H hv => by cases hv; exact .b k
theorem x_dEi {K : PySem.W.Frag} {P : Int → Prop} {S : D → Prop} (h : EX X B ρ e (dE K S)) (w : ∀ z, S z → ∃ n, z = .i n ∧ P n) : EX X B ρ e (iE P) := x_sub h fun v H ⟨z, hz, hv⟩ => by
  obtain ⟨n, rfl, hn⟩ := w z hz
  cases hv
  exact ⟨n, hn, rfl⟩
/-- (a, b, ..) of data -/
def DsH (K : PySem.W.Frag) : List D → List (Rp d)
  | [] => []
  | e :: es => dat K e :: DsH K es
theorem DsH.drl {K : PySem.W.Frag} : ∀ {ds : List D} {vs : List V} {H : Hp}, RsH (DsH (d := d) K ds) vs H → DRl K H ds vs
  | [], [], _, _ => DRl.nil
  | [], _ :: _, _, h => h.elim
  | _ :: _, [], _, h => h.elim
  | e :: ds, v :: vs, H, h => by
    have ih := DsH.drl (ds := ds) (vs := vs) (H := H) h.2
    refine ⟨by simp [ih.1], fun i e' v' a b => ?_⟩
    cases i with
    | zero => cases a; cases b; exact h.1
    | succ i => exact ih.2 i e' v' a b
theorem x_tup {ds : List D} {x1} (h : AX X B ρ es (DsH X.K ds)) (hl : ds.length ≤ 1000 := by first | decide | simp) : EX X B ρ (.Tuple es x1 pos) (dat X.K (.t ds)) :=
  PE_wk (pe_tup h) fun σ H Q ⟨s, q⟩ => ⟨s, fun vs H1 e1 hv => by
    have hd := DsH.drl hv
    refine ⟨by rw [← hd.1]; exact Nat.le_of_lt (small1000 hl), fun p hp => q _ _ (e1.trans (Ext.new hp)) ?_⟩
    exact DR.of_tup (SqT.of upd_same) (hd.tk (Ext.new (d := d) hp).tk)⟩
/-- [a, b, ..] -/
theorem x_lst {ds : List D} (h : AX X B ρ es (DsH X.K ds)) (hl : ds.length ≤ 1000 := by first | decide | simp) : EX X B ρ (.List es pos) (newL B X.K ds) :=
  PE_wk (pe_lst h) fun σ H Q ⟨s, q⟩ => ⟨s, fun vs H1 e1 hv => by
    have hd := DsH.drl hv
    refine ⟨by rw [← hd.1]; exact Nat.le_of_lt (small1000 hl), fun p hp => q _ _ (e1.trans (Ext.new hp)) ?_⟩
    obtain ⟨hB, hpd⟩ := (s.mono e1).fresh hp
    exact ⟨p, hB, rfl, hpd, vs, upd_same, hd.tk (Ext.new (d := d) hp).tk⟩⟩
/-- tuple(xs), list(xs), list(t) -/
theorem x_tuple_l {l : Addr} {ds : List D} {p : Pos} (hg : Gl X "tuple") (hm : X.mg "tuple" = none) (h : EX X B ρ e (lstA X.K l ds)) (he : starEach [e] X.env = (false, eval e X.env) :: starEach [] X.env := by rfl) (hpl : (backTo pos (starEach [] X.env)).any (·.1) = false := by rfl) : EX X B ρ (.Call (.Name "tuple" p) [e] [] pos) (dat X.K (.t ds)) :=
  x_callT call_tuple_of hg hm (by decide +kernel) (a_cons h a_nil he) (fun vs H σ Q s hv q => by
    obtain ⟨x, rfl, hx⟩ := hv.one
    obtain ⟨rfl, _, us, h1, h2⟩ := hx
    exact ⟨l, us, rfl, .inl ⟨h1.sq, fun r hr => q _ _ (Ext.new hr) (DR.of_tup (SqT.of upd_same) (h2.tk (Ext.new (d := d) hr).tk))⟩⟩) (he := he) (hpl := hpl)
theorem x_tuple_lE {S : List D → Prop} {p : Pos} (hg : Gl X "tuple") (hm : X.mg "tuple" = none) (h : EX X B ρ e (newE B X.K S)) (he : starEach [e] X.env = (false, eval e X.env) :: starEach [] X.env := by rfl) (hpl : (backTo pos (starEach [] X.env)).any (·.1) = false := by rfl) : EX X B ρ (.Call (.Name "tuple" p) [e] [] pos) (dE X.K fun w => ∃ ds, S ds ∧ w = .t ds) :=
  x_callT call_tuple_of hg hm (by decide +kernel) (a_cons h a_nil he) (fun vs H σ Q s hv q => by
    obtain ⟨x, rfl, hx⟩ := hv.one
    obtain ⟨ds, hS, l, _, rfl, _, us, h1, h2⟩ := hx
    exact ⟨l, us, rfl, .inl ⟨SqL.of h1, fun r hr => q _ _ (Ext.new hr) ⟨_, ⟨ds, hS, rfl⟩, DR.of_tup (SqT.of upd_same) (h2.tk (Ext.new (d := d) hr).tk)⟩⟩⟩) (he := he) (hpl := hpl)
theorem x_tuple_t {ds : List D} {p : Pos} (hg : Gl X "tuple") (hm : X.mg "tuple" = none) (h : EX X B ρ e (dat X.K (.t ds))) (he : starEach [e] X.env = (false, eval e X.env) :: starEach [] X.env := by rfl) (hpl : (backTo pos (starEach [] X.env)).any (·.1) = false := by rfl) : EX X B ρ (.Call (.Name "tuple" p) [e] [] pos) (dat X.K (.t ds)) :=
  x_callT call_tuple_of hg hm (by decide +kernel) (a_cons h a_nil he) (fun vs H σ Q s hv q => by
    obtain ⟨x, rfl, hx⟩ := hv.one
    obtain ⟨l, us, rfl, h1, h2⟩ := DR.tup hx
    exact ⟨l, us, rfl, .inr ⟨h1, q _ H (Ext.refl H) (DR.of_tup h1 h2)⟩⟩) (he := he) (hpl := hpl)
theorem x_list_l {l : Addr} {ds : List D} {p : Pos} (hg : Gl X "list") (hm : X.mg "list" = none) (h : EX X B ρ e (lstA X.K l ds)) (he : starEach [e] X.env = (false, eval e X.env) :: starEach [] X.env := by rfl) (hpl : (backTo pos (starEach [] X.env)).any (·.1) = false := by rfl) : EX X B ρ (.Call (.Name "list" p) [e] [] pos) (newL B X.K ds) :=
  x_callT call_list_of hg hm (by decide +kernel) (a_cons h a_nil he) (fun vs H σ Q s hv q => by
    obtain ⟨x, rfl, hx⟩ := hv.one
    obtain ⟨rfl, _, us, h1, h2⟩ := hx
    refine ⟨l, us, rfl, .inl h1.sq, fun r hr => q _ _ (Ext.new hr) ?_⟩
    obtain ⟨hB, hpd⟩ := s.fresh hr
    exact ⟨r, hB, rfl, hpd, us, upd_same, h2.tk (Ext.new (d := d) hr).tk⟩) (he := he) (hpl := hpl)
theorem x_list_t {ds : List D} {p : Pos} (hg : Gl X "list") (hm : X.mg "list" = none) (h : EX X B ρ e (dat X.K (.t ds))) (he : starEach [e] X.env = (false, eval e X.env) :: starEach [] X.env := by rfl) (hpl : (backTo pos (starEach [] X.env)).any (·.1) = false := by rfl) : EX X B ρ (.Call (.Name "list" p) [e] [] pos) (newL B X.K ds) :=
  x_callT call_list_of hg hm (by decide +kernel) (a_cons h a_nil he) (fun vs H σ Q s hv q => by
    obtain ⟨x, rfl, hx⟩ := hv.one
    obtain ⟨l, us, rfl, h1, h2⟩ := DR.tup hx
    refine ⟨l, us, rfl, .inr h1, fun r hr => q _ _ (Ext.new hr) ?_⟩
    obtain ⟨hB, hpd⟩ := s.fresh hr
    exact ⟨r, hB, rfl, hpd, us, upd_same, h2.tk (Ext.new (d := d) hr).tk⟩) (he := he) (hpl := hpl)
/-- int(e) -/
theorem x_intE {P : Int → Prop} {p : Pos} (hg : Gl X "int") (hm : X.mg "int" = none) (h : EX X B ρ e (iE P)) (he : starEach [e] X.env = (false, eval e X.env) :: starEach [] X.env := by rfl) (hpl : (backTo pos (starEach [] X.env)).any (·.1) = false := by rfl) : EX X B ρ (.Call (.Name "int" p) [e] [] pos) (iE P) :=
  x_callT call_int1 hg hm (by decide +kernel) (a_cons h a_nil he) (fun vs H σ Q s hv q => by
    obtain ⟨x, rfl, n, hn, rfl⟩ := hv.one
    exact .inl ⟨n, rfl, q _ H (Ext.refl H) ⟨n, hn, rfl⟩⟩) (he := he) (hpl := hpl)
theorem x_int_ {p : Pos} (hg : Gl X "int") (hm : X.mg "int" = none) (h : EX X B ρ e (rI n)) (he : starEach [e] X.env = (false, eval e X.env) :: starEach [] X.env := by rfl) (hpl : (backTo pos (starEach [] X.env)).any (·.1) = false := by rfl) : EX X B ρ (.Call (.Name "int" p) [e] [] pos) (rI n) :=
  x_callT call_int1 hg hm (by decide +kernel) (a_cons h a_nil he) (fun vs H σ Q s hv q => by
    obtain ⟨x, rfl, rfl⟩ := hv.one
    exact .inl ⟨n, rfl, q _ H (Ext.refl H) rfl⟩) (he := he) (hpl := hpl)
/-- a module's constant -/
theorem x_globI {x : Str} {t : Tok} (hg : Gl X x) (hm : X.mg x = some (.int n t)) (hd : (x == ("__debug__" : Str)) = false := by decide) : EX X B ρ (.Name x pos) (rI n) := PE_wk (pe_glob (v := .int n) hg hm ⟨_, rfl⟩ hd) fun σ H Q ⟨s, q⟩ => q _ H (Ext.refl H) rfl
end
end Cv

namespace Cv
open PySem PySem.Spec PyProof.Rows L2
section
variable {d : Option Addr} {X : Cx} {B : Hp} {ρ ρ' : Ro d} {a b c e : Expr} {es : List Expr} {R R' Ra Rb : Rp d} {Rs : List (Rp d)} {pos : Pos} {m n : Int} {st : Stmt} {rest body orelse : List Stmt} {Pre Mid : L2.St → Hp → Prop} {Po : Ends}
/-! ### slots that tell less -/
inductive Sub : Ro d → Ro d → Prop
  | nil : Sub [] []
  | drop {o : Option (Rp d)} {r r' : Ro d} (h : Sub r r') : Sub (o :: r) (none :: r')
  | same {o : Option (Rp d)} {r r' : Ro d} (h : Sub r r') : Sub (o :: r) (o :: r')
  | cons {R R' : Rp d} {r r' : Ro d} (w : ∀ v H, R.p v H → R'.p v H) (h : Sub r r') : Sub (some R :: r) (some R' :: r')
theorem Sub.len {r r' : Ro d} (h : Sub r r') : r.length = r'.length := by
  induction h with
  | nil => rfl
  | drop _ ih => simp [ih]
  | same _ ih => simp [ih]
  | cons _ _ ih => simp [ih]
theorem Sub.get {r r' : Ro d} (h : Sub r r') : ∀ (i : Nat) (R' : Rp d), r'[i]? = some (some R') → ∃ R : Rp d, r[i]? = some (some R) ∧ ∀ v H, R.p v H → R'.p v H := by
  induction h with
  | nil => intro i R' h; cases h
  | drop _ ih =>
    intro i R' h
    cases i with
    | zero => cases h
    | succ i => exact ih i R' h
  | same _ ih =>
    intro i R' h
    cases i with
    | zero => exact ⟨R', h, fun _ _ q => q⟩
    | succ i => exact ih i R' h
  | cons w _ ih =>
    intro i R' h
    cases i with
    | zero => cases h; exact ⟨_, rfl, w⟩
    | succ i => exact ih i R' h
theorem St.sub {σ : L2.St} {H : Hp} (s : St B ρ σ H) (w : Sub ρ ρ') : St B ρ' σ H := ⟨s.ext, s.dr, by rw [s.good.1, w.len], fun i R' h => by
  obtain ⟨R, h1, h2⟩ := w.get i R' h
  obtain ⟨v, h3, h4⟩ := s.good.2 i R h1
  exact ⟨v, h3, h2 v H h4⟩⟩
/-! ### blocks -/
theorem bx_nil (h : ∀ σ H, Pre σ H → Po.nx σ H) : BX X [] Pre Po := PSs_wk pss_nil fun E σ H ⟨p, l⟩ => l.nx σ H (Tk.refl H) (h σ H p)
theorem bx_cons (h1 : SX X st Pre { Po with nx := Mid }) (h2 : BX X rest Mid Po) : BX X (st :: rest) Pre Po :=
  PSs_wk (pss_cons h1 h2) fun E σ H ⟨p, l⟩ => ⟨p, fun σ' H' k q => ⟨q, l.next k⟩, l.rt, l.bk, l.ct⟩
theorem bx_one (h1 : SX X st Pre Po) : BX X [st] Pre Po := pss_one h1
theorem bx_pre {Pre' : L2.St → Hp → Prop} (h : BX X rest Pre' Po) (w : ∀ σ H, Pre σ H → Pre' σ H) : BX X rest Pre Po := PSs_wk h fun E σ H ⟨p, l⟩ => ⟨w σ H p, l⟩
theorem bx_sub (w : Sub ρ ρ') (h : BX X rest (St B ρ') Po) : BX X rest (St B ρ) Po := bx_pre h fun σ H s => s.sub w
theorem bx_ex {α : Type} {P : α → Prop} {Pr : α → L2.St → Hp → Prop} (h : ∀ z, P z → BX X rest (Pr z) Po) : BX X rest (fun σ H => ∃ z, P z ∧ Pr z σ H) Po :=
  ⟨fun pins s σ H E I ⟨⟨z, hz, p⟩, l⟩ => (h z hz).run pins s σ H E I ⟨p, l⟩⟩
theorem bx_and {P : Prop} (h : P → BX X rest Pre Po) : BX X rest (fun σ H => P ∧ Pre σ H) Po := ⟨fun pins s σ H E I ⟨⟨hp, p⟩, l⟩ => (h hp).run pins s σ H E I ⟨p, l⟩⟩
theorem bx_false : BX X rest (fun _ _ => False) Po := ⟨fun pins s σ H E I ⟨p, l⟩ => p.elim⟩
/-- a slot's existential opened -/
theorem bx_open {α : Type} {P : α → Prop} {Rz : α → Rp d} (i : Nat) (hi : ρ[i]? = some (some (exR P Rz))) (h : ∀ z, P z → BX X rest (St B (ρ.set i (some (Rz z)))) Po) : BX X rest (St B ρ) Po := by
  refine ⟨fun pins s σ H E I ⟨p, l⟩ => ?_⟩
  obtain ⟨v, h1, z, hz, h2⟩ := p.good.get hi
  refine (h z hz).run pins s σ H E I ⟨⟨p.ext, p.dr, ?_⟩, l⟩
  have g := p.good.set i (R := Rz z) h2
  have e : σ.set i (some v) = σ := by
    apply List.ext_getElem?
    intro j
    by_cases hij : i = j
    · subst hij
      rw [List.getElem?_set_self (List.getElem?_eq_some_iff.mp h1).1, h1]
    · rw [List.getElem?_set_ne hij]
  rw [e] at g
  exact g
/-- a fact that a slot's reading holds -/
theorem bx_fact {i : Nat} {P : Prop} (hi : ρ[i]? = some (some R)) (w : ∀ v H, R.p v H → P) (h : P → BX X rest (St B ρ) Po) : BX X rest (St B ρ) Po := by
  refine ⟨fun pins s σ H E I ⟨p, l⟩ => ?_⟩
  obtain ⟨v, h1, h2⟩ := p.good.get hi
  exact (h (w v H h2)).run pins s σ H E I ⟨p, l⟩
/-! ### statements -/
theorem s_set (i : Nat) {x : Str} {pos' : Pos} (he : EX X B ρ e R) (hN : X.N.Nodup) (hi : X.N[i]? = some x := by rfl) (hx : Loc X.env.scope x := by first | exact Or.inl rfl | exact Or.inr rfl) (hs : swapsWith e (some (.Name x pos')) pos.line X.env = pure false := by rfl)
    (hf : X.fn x = true ∨ X.env.scope.names.lookup x = some .local := by first | exact .inl rfl | exact .inr rfl | assumption) : SX X (.Assign [.Name x pos'] e pos) (St B ρ) { Po with nx := St B (ρ.set i (some R)) } :=
  PS_wk (ps_set hN hi hx he hs hf) fun E σ H ⟨s, l⟩ => ⟨s, fun v H' e1 hv => l.nx _ H' e1.tk ⟨s.ext.trans e1, (s.mono e1).dr, (s.mono e1).good.set i hv⟩⟩
theorem bx_set (i : Nat) {x : Str} {pos' : Pos} (he : EX X B ρ e R) (h : BX X rest (St B (ρ.set i (some R))) Po) (hN : X.N.Nodup) (hi : X.N[i]? = some x := by rfl) (hx : Loc X.env.scope x := by first | exact Or.inl rfl | exact Or.inr rfl) (hs : swapsWith e (some (.Name x pos')) pos.line X.env = pure false := by rfl)
    (hf : X.fn x = true ∨ X.env.scope.names.lookup x = some .local := by first | exact .inl rfl | exact .inr rfl | assumption) : BX X (.Assign [.Name x pos'] e pos :: rest) (St B ρ) Po := bx_cons (s_set i he hN hi hx hs hf) h
theorem bx_setLast (i : Nat) {x : Str} {pos' : Pos} (he : EX X B ρ e R) (h : ∀ σ H, St B (ρ.set i (some R)) σ H → Po.nx σ H) (hN : X.N.Nodup) (hi : X.N[i]? = some x := by rfl) (hx : Loc X.env.scope x := by first | exact Or.inl rfl | exact Or.inr rfl) (hs : swapsWith e (some (.Name x pos')) pos.line X.env = pure false := by rfl)
    (hf : X.fn x = true ∨ X.env.scope.names.lookup x = some .local := by first | exact .inl rfl | exact .inr rfl | assumption) : BX X [.Assign [.Name x pos'] e pos] (St B ρ) Po := bx_set i he (bx_nil h) hN hi hx hs hf
theorem bx_expr (he : EX X B ρ e R) (h : BX X rest (St B ρ) Po) (hs : swapsWith e none pos.line X.env = pure false := by rfl) : BX X (.Expr e pos :: rest) (St B ρ) Po :=
  bx_cons (PS_wk (ps_expr he hs) fun E σ H ⟨s, l⟩ => ⟨s, fun v H' e1 hv => l.nx σ H' e1.tk (s.mono e1)⟩) h
theorem bx_ret (he : EX X B ρ e R) (h : ∀ v σ H, St B ρ σ H → R.p v H → Po.rt v H) : BX X (.Return (some e) pos :: rest) (St B ρ) Po :=
  bx_cons (Mid := fun _ _ => False) (PS_wk (ps_ret he) fun E σ H ⟨s, l⟩ => ⟨s, fun v H' e1 hv => l.rt v H' e1.tk (h v σ H' (s.mono e1) hv)⟩) bx_false
/-- if c: body (that leaves); then the rest -/
theorem bx_ifret {P : Bool → Prop} (hc : TX X B ρ c P) (h1 : P true → BX X body (St B ρ) { Po with nx := fun _ _ => False }) (h2 : P false → BX X rest (St B ρ) Po) : BX X (.If c body [] pos :: rest) (St B ρ) Po := by
  refine bx_cons (Mid := fun σ H => P false ∧ St B ρ σ H) ?_ (bx_and h2)
  by_cases hp : P true
  · refine PS_wk (ps_if hc (h1 hp) pss_nil) fun E σ H ⟨s, l⟩ => ⟨s, fun k H' e1 hk => ?_⟩
    cases k with
    | true => exact iteT ⟨s.mono e1, ⟨fun _ _ _ q => q.elim, fun v H2 k2 q => l.rt v H2 (e1.tk.trans k2) q, fun σ2 H2 k2 q => l.bk σ2 H2 (e1.tk.trans k2) q, fun σ2 H2 k2 q => l.ct σ2 H2 (e1.tk.trans k2) q⟩⟩
    | false => exact iteF (l.nx σ H' e1.tk ⟨hk, s.mono e1⟩)
  · refine PS_wk (ps_if (PT_wk hc (t' := fun σ H Q => St B ρ σ H ∧ ∀ H', Ext d H H' → P false → Q false H') fun σ H Q ⟨s, q⟩ => ⟨s, fun k H' e1 hk => by
      cases k with
      | true => exact absurd hk hp
      | false => exact q H' e1 hk⟩) (pss_never (X := X)) pss_nil) fun E σ H ⟨s, l⟩ => ⟨s, fun H' e1 hk => iteF (l.nx σ H' e1.tk ⟨hk, s.mono e1⟩)⟩
/-- if c: body else: orelse, both to Mid -/
theorem bx_if {P : Bool → Prop} (Mid : L2.St → Hp → Prop) (hc : TX X B ρ c P) (h1 : P true → BX X body (St B ρ) { Po with nx := Mid }) (h2 : P false → BX X orelse (St B ρ) { Po with nx := Mid }) (h3 : BX X rest Mid Po) : BX X (.If c body orelse pos :: rest) (St B ρ) Po := by
  refine bx_cons (Mid := Mid) ?_ h3
  refine ⟨fun pins s σ H E I ⟨st, l⟩ => ?_⟩
  refine wpAny_If (thn (hc.run pins s σ H (fun k H' => Ext d H H' ∧ P k) I ⟨st, fun k H' e1 hk => ⟨e1, hk⟩⟩) fun k s1 ⟨H1, I1, e1, hk⟩ => ?_)
  have l1 : Le H1 { Po with nx := Mid } E := l.next e1.tk
  cases k with
  | true => exact (h1 hk).run pins s1 σ H1 E I1 ⟨st.mono e1, l1⟩
  | false => exact (h2 hk).run pins s1 σ H1 E I1 ⟨st.mono e1, l1⟩
/-! ### a def -/
def Rt (B : Hp) (R : Rp d) : Ends := { nx := fun _ H => Ext d B H ∧ R.p .non H, rt := fun v H => Ext d B H ∧ R.p v H }
theorem bx_retR (he : EX X B ρ e R) (hp : Po.rt = fun v H => Ext d B H ∧ R.p v H) : BX X (.Return (some e) pos :: rest) (St B ρ) Po := bx_ret he fun v σ H s hv => by rw [hp]; exact ⟨s.ext, hv⟩
def ro (Rs : List (Rp d)) (k : Nat) : Ro d := Rs.map some ++ List.replicate k none
theorem RsH.len : ∀ {Rs : List (Rp d)} {vs : List V} {H : Hp}, RsH Rs vs H → vs.length = Rs.length
  | [], [], _, _ => rfl
  | [], _ :: _, _, h => h.elim
  | _ :: _, [], _, h => h.elim
  | _ :: _, _ :: _, _, h => by simp [RsH.len h.2]
theorem RsH.get : ∀ {Rs : List (Rp d)} {vs : List V} {H : Hp} {i : Nat} {R : Rp d}, RsH Rs vs H → Rs[i]? = some R → ∃ v, vs[i]? = some v ∧ R.p v H
  | [], _, _, _, _, _, h => by simp at h
  | _ :: _, [], _, _, _, h, _ => h.elim
  | R :: Rs, v :: vs, H, 0, R', h, e => by cases e; exact ⟨v, rfl, h.1⟩
  | R :: Rs, v :: vs, H, i + 1, R', h, e => RsH.get (Rs := Rs) (vs := vs) h.2 e
theorem st_start {N : List Str} {vs : List V} {H : Hp} (h : RsH Rs vs H) (hl : Rs.length ≤ N.length) (dr : ∀ a, d = some a → Drw H a) : St H (ro Rs (N.length - Rs.length)) (L2.start N vs) H := by
  refine ⟨Ext.refl H, dr, ?_, fun i R e => ?_⟩
  · unfold L2.start ro
    rw [List.length_append, List.length_append, List.length_map, List.length_map, List.length_replicate, List.length_replicate, h.len]
  · unfold ro at e
    by_cases hi : i < Rs.length
    · rw [List.getElem?_append_left (by simpa using hi), List.getElem?_map] at e
      cases q : Rs[i]? with
      | none => rw [q] at e; cases e
      | some R0 =>
        rw [q] at e
        have e' : R0 = R := Option.some.inj (Option.some.inj e)
        subst e'
        obtain ⟨v, h1, h2⟩ := h.get q
        refine ⟨v, ?_, h2⟩
        unfold L2.start
        rw [List.getElem?_append_left (by rw [List.length_map, h.len]; exact hi), List.getElem?_map, h1]
        rfl
    · rw [List.getElem?_append_right (by simpa using Nat.le_of_not_lt hi), List.getElem?_replicate] at e
      split at e <;> cases e
variable {Pg : Program} {w : World} {K : PySem.W.Frag} {mg : Str → Option Value} {base : Heap}
theorem fn_ok {α : Type} {As : α → List (Rp d)} {Rz : α → Hp → Rp d} {x qual : Str} {sd : Stmt} {f : Addr} {fd : FuncData} {N ps : List Str} {k : Nat} (F : Fun K x qual sd f fd) (S : FnScope N ps (defScope sd)) (hl : ∀ z, (As z).length = ps.length) (hN : ps.length ≤ N.length)
    (body : ∀ (z : α) (H : Hp) (cdv : Value) (A : Around) (outer : List Env) (s : Shared) (E : XK), Room k (A.deeper (envOfC qual (defScope sd) s.heap.objs.size f cdv)) →
      BX (cxOf CX0 Pg w K mg base N qual (defScope sd) f cdv A outer s H E).nox (defBody sd) (St H (ro (As z) (N.length - (As z).length))) (Rt H (Rz z H))) : FnOk Pg w K mg base CX0 (k + 1) f fd ps (spP d As Rz) := by
  refine F.ok S (fun vs H Q E ⟨z, h, _⟩ => by rw [h.len, hl]) (fun cdv A outer s H vs Q E hr h => ?_)
  obtain ⟨z, hz, dr, q⟩ := h
  refine ⟨_, body z H cdv A outer s E hr, st_start hz (by rw [hl]; exact hN) dr, ?_⟩
  exact ⟨fun σ' H' _ ⟨e1, h1⟩ => q _ H' e1 h1, fun v H' _ ⟨e1, h1⟩ => q v H' e1 h1, fun _ _ _ h => h.elim, fun _ _ _ h => h.elim⟩
end
end Cv

namespace Cv
open PySem PySem.Spec PyProof.Rows L2 RZ
section
variable {d : Option Addr} {X : Cx} {B : Hp} {ρ ρ' : Ro d} {a b c e iter : Expr} {es : List Expr} {R R' Ra Rb : Rp d} {Rs : List (Rp d)} {pos : Pos} {m n : Int} {st : Stmt} {rest body orelse : List Stmt} {Pre Mid : L2.St → Hp → Prop} {Po : Ends}
/-! ### loops -/
/-- the state between two turns: some z with P z, the slots as r z -/
def IS {α : Type} (B : Hp) (P : α → Prop) (r : α → Ro d) : L2.St → Hp → Prop := fun σ H => ∃ z, P z ∧ St B (r z) σ H
def Lp (Po : Ends) (I : L2.St → Hp → Prop) (M : L2.St → Hp → Prop) : Ends := { nx := I, rt := Po.rt, bk := M, ct := I }
def tBody {Z : Type} (B : Hp) (pr : Z → Ro d) (S : Z → Prop) (po : Z → Ends) : TS := fun E σ H => ∃ z, S z ∧ St B (pr z) σ H ∧ Le H (po z) E
theorem bx_forT {α : Type} {ds : List D} (j : Nat) {x : Str} {tpos : Pos} (P : Nat → α → Prop) (r : Nat → α → Ro d) (hi : EX X B ρ iter (dat X.K (.t ds))) (h0 : ∀ σ H, St B ρ σ H → IS B (P 0) (r 0) σ H)
    (hb : ∀ i w z, ds[i]? = some w → P i z → BX X body (St B ((r i z).set j (some (dat X.K w)))) (Lp Po (IS B (P (i + 1)) (r (i + 1))) (IS B (P ds.length) (r ds.length)))) (h : BX X rest (IS B (P ds.length) (r ds.length)) Po)
    (hN : X.N.Nodup) (hp : PassesOwn (model X.prog X.w) X.A X.env X.xe) (hj : X.N[j]? = some x := by rfl) (hc : X.calm = true := by rfl) (hx : Loc X.env.scope x := by first | exact Or.inl rfl | exact Or.inr rfl)
    (hf : X.fn x = true ∨ X.env.scope.names.lookup x = some .local := by first | exact .inl rfl | exact .inr rfl | assumption) (hs : ∀ x, foldedSetIterable iter X.env x = pure x := by intro _; rfl) : BX X (.For (.Name x tpos) iter body [] pos :: rest) (St B ρ) Po := by
  refine bx_cons (Mid := IS B (P ds.length) (r ds.length)) ?_ h
  refine PS_wk (t := tFor (iTup X.K fun σ H Q => St B ρ σ H ∧ ∀ v H', Ext d H H' → (dat X.K (.t ds)).p v H' → Q v H') (gName j) (tBody (Z := Nat × D × α) B (fun z => (r z.1 z.2.2).set j (some (dat X.K z.2.1))) (fun z => ds[z.1]? = some z.2.1 ∧ P z.1 z.2.2) (fun z => Lp Po (IS B (P (z.1 + 1)) (r (z.1 + 1))) (IS B (P ds.length) (r ds.length)))))
    (ps_for hp hc (pi_tup hi) (pg_name hN hj hx hf) ⟨fun pins s σ H E I ⟨⟨i, w, z⟩, ⟨hw, hz⟩, q, l⟩ => (hb i w z hw hz).run pins s σ H E I ⟨q, l⟩⟩ hs) fun E σ H ⟨s, l⟩ => ⟨s, fun v H1 e1 hv => ?_⟩
  obtain ⟨t, us, rfl, h1, h2⟩ := DR.tup hv
  refine ⟨t, rfl, ⟨us, h1⟩, for_tup (K := X.K) (a := t) (xs := us) (g := gName j) (tb := tBody (Z := Nat × D × α) B (fun z => (r z.1 z.2.2).set j (some (dat X.K z.2.1))) (fun z => ds[z.1]? = some z.2.1 ∧ P z.1 z.2.2) (fun z => Lp Po (IS B (P (z.1 + 1)) (r (z.1 + 1))) (IS B (P ds.length) (r ds.length)))) (fun i σ H => Tk H1 H ∧ IS B (P i) (r i) σ H) ⟨Tk.refl _, h0 _ _ (s.mono e1)⟩ (fun i σ H _ q => q.1.sqT h1) (fun i x σ H hx ⟨k, z, hz, q⟩ => ?_) (fun σ H ⟨k, q⟩ => l.nx σ H (e1.tk.trans k) (by rw [h2.1]; exact q))⟩
  obtain ⟨w, hw, hr⟩ := h2.getV hx
  refine ⟨(i, w, z), ⟨hw, hz⟩, ⟨q.ext, q.dr, q.good.set j (hr.tk k)⟩, ?_⟩
  refine ⟨fun σ' H' k' q' => ⟨k.trans k', q'⟩, fun v H' k' q' => l.rt v H' ((e1.tk.trans k).trans k') q', fun σ' H' k' q' => l.nx σ' H' ((e1.tk.trans k).trans k') q', fun σ' H' k' q' => ⟨k.trans k', q'⟩⟩
/-- over a list at l that the body leaves (the slots tell so: SqL) -/
theorem bx_forL {α : Type} {ds : List D} {la : Addr} (j : Nat) {x : Str} {tpos : Pos} (P : Nat → α → Prop) (r : Nat → α → Ro d) (hi : EX X B ρ iter (lstA X.K la ds)) (h0 : ∀ σ H, St B ρ σ H → IS B (P 0) (r 0) σ H)
    (hl : ∀ i z, P i z → ∃ (k : Nat) (R : Rp d), (r i z)[k]? = some (some R) ∧ ∀ v H, R.p v H → (lstA (d := d) X.K la ds).p v H)
    (hb : ∀ i w z, ds[i]? = some w → P i z → BX X body (St B ((r i z).set j (some (dat X.K w)))) (Lp Po (IS B (P (i + 1)) (r (i + 1))) (IS B (P ds.length) (r ds.length)))) (h : BX X rest (IS B (P ds.length) (r ds.length)) Po)
    (hN : X.N.Nodup) (hp : PassesOwn (model X.prog X.w) X.A X.env X.xe) (hj : X.N[j]? = some x := by rfl) (hc : X.calm = true := by rfl) (hx : Loc X.env.scope x := by first | exact Or.inl rfl | exact Or.inr rfl)
    (hf : X.fn x = true ∨ X.env.scope.names.lookup x = some .local := by first | exact .inl rfl | exact .inr rfl | assumption) (hs : ∀ x, foldedSetIterable iter X.env x = pure x := by intro _; rfl) : BX X (.For (.Name x tpos) iter body [] pos :: rest) (St B ρ) Po := by
  refine bx_cons (Mid := IS B (P ds.length) (r ds.length)) ?_ h
  refine PS_wk (t := tFor (iList X.K fun σ H Q => St B ρ σ H ∧ ∀ v H', Ext d H H' → (lstA X.K la ds).p v H' → Q v H') (gName j) (tBody (Z := Nat × D × α) B (fun z => (r z.1 z.2.2).set j (some (dat X.K z.2.1))) (fun z => ds[z.1]? = some z.2.1 ∧ P z.1 z.2.2) (fun z => Lp Po (IS B (P (z.1 + 1)) (r (z.1 + 1))) (IS B (P ds.length) (r ds.length)))))
    (ps_for hp hc (pi_list hi) (pg_name hN hj hx hf) ⟨fun pins s σ H E I ⟨⟨i, w, z⟩, ⟨hw, hz⟩, q, l⟩ => (hb i w z hw hz).run pins s σ H E I ⟨q, l⟩⟩ hs) fun E σ H ⟨s, l⟩ => ⟨s, fun v H1 e1 hv => ?_⟩
  obtain ⟨rfl, hld, us, h1, h2⟩ := hv
  have still : ∀ i σ H, Tk H1 H ∧ IS B (P i) (r i) σ H ∧ SqL X.K H la us → SqL X.K H la us := fun i σ H q => q.2.2
  -- the list as the slots tell it is the same list: its items are those of us
  refine ⟨la, rfl, ⟨us, h1.sq⟩, ?_⟩
  have key : ∀ i σ H, IS B (P i) (r i) σ H → ∃ vs, SqL X.K H la vs ∧ DRl X.K H ds vs := fun i σ H ⟨z, hz, q⟩ => by
    obtain ⟨k, R, hk, hR⟩ := hl i z hz
    obtain ⟨v, _, g⟩ := q.good.get hk
    obtain ⟨_, _, vs, a1, a2⟩ := hR v H g
    exact ⟨vs, a1.sq, a2⟩
  refine ⟨fun i m σ H => m = ds.length - i ∧ i ≤ ds.length ∧ Tk H1 H ∧ IS B (P i) (r i) σ H, ⟨ds.length, rfl, Nat.zero_le _, Tk.refl _, h0 _ _ (s.mono e1)⟩, ?_⟩
  rintro i m σ H ⟨rfl, hi', k, q⟩
  obtain ⟨vs, a1, a2⟩ := key i σ H q
  by_cases hlt : i < ds.length
  · have hv : i < vs.length := by rw [← a2.1]; exact hlt
    refine .inr ⟨⟨vs, vs[i], a1, List.getElem?_eq_getElem hv⟩, fun σ' H' => Tk H1 H' ∧ IS B (P (i + 1)) (r (i + 1)) σ' H', fun σ' H' p' => ⟨ds.length - (i + 1), by omega, rfl, hlt, p'.1, p'.2⟩, fun x H' y => ?_⟩
    obtain ⟨rfl, y⟩ := y
    obtain ⟨w, hw, hr⟩ := a2.getV (y vs a1)
    obtain ⟨z, hz, q⟩ := q
    refine ⟨(i, w, z), ⟨hw, hz⟩, ⟨q.ext, q.dr, q.good.set j hr⟩, ?_⟩
    exact ⟨fun σ' H' k' q' => ⟨k.trans k', q'⟩, fun v H' k' q' => l.rt v H' ((e1.tk.trans k).trans k') q', fun σ' H' k' q' => l.nx σ' H' ((e1.tk.trans k).trans k') q', fun σ' H' k' q' => ⟨k.trans k', q'⟩⟩
  · have e : i = ds.length := by omega
    subst e
    exact .inl ⟨⟨vs, a1, by rw [← a2.1]; exact Nat.le_refl _⟩, l.nx σ H (e1.tk.trans k) q⟩
/-- for x in range(n) -/
theorem bx_forR {α : Type} {nn : Int} (j : Nat) {x : Str} {tpos p p2 : Pos} (P : Nat → α → Prop) (r : Nat → α → Ro d) (hg : Gl X "range") (hm : X.mg "range" = none) (hi : EX X B ρ e (rI nn)) (hn : nn < 2 ^ 62 ∧ -(2 ^ 62) ≤ nn) (h0 : ∀ σ H, St B ρ σ H → IS B (P 0) (r 0) σ H)
    (hb : ∀ (i : Nat) z, (i : Int) < nn → P i z → BX X body (St B ((r i z).set j (some (rI (i : Int))))) (Lp Po (IS B (P (i + 1)) (r (i + 1))) (IS B (P nn.toNat) (r nn.toNat)))) (h : BX X rest (IS B (P nn.toNat) (r nn.toNat)) Po)
    (hN : X.N.Nodup) (hp : PassesOwn (model X.prog X.w) X.A X.env X.xe) (hj : X.N[j]? = some x := by rfl) (hc : X.calm = true := by rfl) (hx : Loc X.env.scope x := by first | exact Or.inl rfl | exact Or.inr rfl)
    (hf : X.fn x = true ∨ X.env.scope.names.lookup x = some .local := by first | exact .inl rfl | exact .inr rfl | assumption) (he : starEach [e] X.env = [(false, eval e X.env)] := by rfl) (hs : ∀ x, foldedSetIterable (.Call (.Name "range" p) [e] [] p2) X.env x = pure x := by intro _; rfl) :
    BX X (.For (.Name x tpos) (.Call (.Name "range" p) [e] [] p2) body [] pos :: rest) (St B ρ) Po := by
  refine bx_cons (Mid := IS B (P nn.toNat) (r nn.toNat)) ?_ h
  refine PS_wk (t := tFor (iRng1 fun σ H Q => St B ρ σ H ∧ ∀ vs H', Ext d H H' → RsH [rI nn] vs H' → Q vs H') (gName j) (tBody (Z := Nat × α) B (fun z => (r z.1 z.2).set j (some (rI (z.1 : Int)))) (fun z => (z.1 : Int) < nn ∧ P z.1 z.2) (fun z => Lp Po (IS B (P (z.1 + 1)) (r (z.1 + 1))) (IS B (P nn.toNat) (r nn.toNat)))))
    (ps_for hp hc (pi_range1 hg hm (a_cons hi a_nil he) he) (pg_name hN hj hx hf) ⟨fun pins s σ H E I ⟨⟨i, z⟩, ⟨hw, hz⟩, q, l⟩ => (hb i z hw hz).run pins s σ H E I ⟨q, l⟩⟩ hs) fun E σ H ⟨s, l⟩ => ⟨s, fun vs H1 e1 hv => ?_⟩
  obtain ⟨v, rfl, hv'⟩ := hv.one
  obtain rfl : v = .int nn := hv'
  refine ⟨nn, rfl, hn.2, hn.1, for_range (lo := 0) (n := nn.toNat) (g := gName j) (tb := tBody (Z := Nat × α) B (fun z => (r z.1 z.2).set j (some (rI (z.1 : Int)))) (fun z => (z.1 : Int) < nn ∧ P z.1 z.2) (fun z => Lp Po (IS B (P (z.1 + 1)) (r (z.1 + 1))) (IS B (P nn.toNat) (r nn.toNat)))) (fun i σ H => Tk H1 H ∧ IS B (P i) (r i) σ H) ⟨Tk.refl _, h0 _ _ (s.mono e1)⟩ (fun i σ H hlt ⟨k, z, hz, q⟩ => ?_) (fun σ H ⟨k, q⟩ => l.nx σ H (e1.tk.trans k) q)⟩
  refine ⟨(i, z), ⟨(by show (i : Int) < nn; omega), hz⟩, ⟨q.ext, q.dr, ?_⟩, ?_⟩
  · rw [Int.zero_add]
    exact q.good.set j (R := rI (i : Int)) (v := .int (i : Int)) rfl
  · exact ⟨fun σ' H' k' q' => ⟨k.trans k', q'⟩, fun v H' k' q' => l.rt v H' ((e1.tk.trans k).trans k') q', fun σ' H' k' q' => l.nx σ' H' ((e1.tk.trans k).trans k') q', fun σ' H' k' q' => ⟨k.trans k', q'⟩⟩
/-- for x, y in zip(t, u), two tuples of one length -/
theorem bx_forZ {α : Type} {ds es' : List D} (j k : Nat) {x y : Str} {kk : Nat} {tpos p1 p2 p p3 : Pos} (P : Nat → α → Prop) (r : Nat → α → Ro d) (hg : Gl X "zip") (hm : X.mg "zip" = none) (ha : EX X B ρ a (dat X.K (.t ds))) (hb' : EX X B ρ b (dat X.K (.t es'))) (hlen : ds.length = es'.length) (h0 : ∀ σ H, St B ρ σ H → IS B (P 0) (r 0) σ H)
    (hb : ∀ (i : Nat) w u z, ds[i]? = some w → es'[i]? = some u → P i z → BX X body (St B (((r i z).set j (some (dat X.K w))).set k (some (dat X.K u)))) (Lp Po (IS B (P (i + 1)) (r (i + 1))) (IS B (P ds.length) (r ds.length)))) (h : BX X rest (IS B (P ds.length) (r ds.length)) Po)
    (hN : X.N.Nodup) (hp : PassesOwn (model X.prog X.w) X.A X.env X.xe) (hj : X.N[j]? = some x := by rfl) (hk : X.N[k]? = some y := by rfl) (hc : X.calm = true := by rfl) (hx : Loc X.env.scope x := by first | exact Or.inl rfl | exact Or.inr rfl) (hy : Loc X.env.scope y := by first | exact Or.inl rfl | exact Or.inr rfl)
    (hf : X.fn x = true ∨ X.env.scope.names.lookup x = some .local := by first | exact .inl rfl | exact .inr rfl | assumption) (hfy : X.fn y = true ∨ X.env.scope.names.lookup y = some .local := by first | exact .inl rfl | exact .inr rfl | assumption)
    (he : starEach [a, b] X.env = (false, eval a X.env) :: starEach [b] X.env := by rfl) (he2 : starEach [b] X.env = (false, eval b X.env) :: starEach [] X.env := by rfl) (hpl : (backTo p3 (starEach [b] X.env)).any (·.1) = false := by rfl)
    (hs : ∀ x, foldedSetIterable (.Call (.Name "zip" p) [a, b] [] p3) X.env x = pure x := by intro _; rfl) :
    BX X (.For (.Tuple [.Name x p1, .Name y p2] kk tpos) (.Call (.Name "zip" p) [a, b] [] p3) body [] pos :: rest) (St B ρ) Po := by
  refine bx_cons (Mid := IS B (P ds.length) (r ds.length)) ?_ h
  refine PS_wk (t := tFor (iZipA X.K fun σ H Q => St B ρ σ H ∧ ∀ vs H', Ext d H H' → RsH [dat X.K (.t ds), dat X.K (.t es')] vs H' → Q vs H') (gTup X.K 2 (gCons (gName j) (gCons (gName k) gNil))) (tBody (Z := Nat × D × D × α) B (fun z => ((r z.1 z.2.2.2).set j (some (dat X.K z.2.1))).set k (some (dat X.K z.2.2.1))) (fun z => ds[z.1]? = some z.2.1 ∧ es'[z.1]? = some z.2.2.1 ∧ P z.1 z.2.2.2) (fun z => Lp Po (IS B (P (z.1 + 1)) (r (z.1 + 1))) (IS B (P ds.length) (r ds.length)))))
    (ps_for hp hc (pi_zipA hg hm (a_cons ha (a_cons hb' a_nil he2) he) he hpl) (pg_tup hc (pgs_cons (pg_name hN hj hx hf) (pgs_cons (pg_name hN hk hy hfy) pgs_nil))) ⟨fun pins s σ H E I ⟨⟨i, w, u, z⟩, ⟨hw, hu, hz⟩, q, l⟩ => (hb i w u z hw hu hz).run pins s σ H E I ⟨q, l⟩⟩ hs) fun E σ H ⟨s, l⟩ => ⟨s, fun vs H1 e1 hv => ?_⟩
  obtain ⟨v, v2, rfl, hv', hv2⟩ := hv.two
  obtain ⟨t, us, rfl, h1, h2⟩ := DR.tup hv'
  obtain ⟨t2, us2, rfl, h3, h4⟩ := DR.tup hv2
  have hl : us.length = us2.length := by rw [← h2.1, ← h4.1]; exact hlen
  refine ⟨t, t2, us, us2, rfl, .inr ⟨h1, h3, for_zipT (K := X.K) (a := t) (b := t2) (xs := us) (ys := us2) (g := gTup X.K 2 (gCons (gName j) (gCons (gName k) gNil))) (tb := tBody (Z := Nat × D × D × α) B (fun z => ((r z.1 z.2.2.2).set j (some (dat X.K z.2.1))).set k (some (dat X.K z.2.2.1))) (fun z => ds[z.1]? = some z.2.1 ∧ es'[z.1]? = some z.2.2.1 ∧ P z.1 z.2.2.2) (fun z => Lp Po (IS B (P (z.1 + 1)) (r (z.1 + 1))) (IS B (P ds.length) (r ds.length)))) hl (fun i σ H => Tk H1 H ∧ IS B (P i) (r i) σ H) ⟨Tk.refl _, h0 _ _ (s.mono e1)⟩ (fun i σ H q => ⟨q.1.sqT h1, q.1.sqT h3⟩) (fun i x' y' T σ H hx hy ⟨kk, z, hz, q⟩ hT => ?_) (fun σ H ⟨kk, q⟩ => l.nx σ H (e1.tk.trans kk) (by rw [h2.1]; exact q))⟩⟩
  obtain ⟨w, hw, hr⟩ := h2.getV hx
  obtain ⟨u, hu, hr2⟩ := h4.getV hy
  have eT : Ext d H (upd H T (.tup [x', y'])) := Ext.new hT
  have kT := kk.trans eT.tk
  refine ⟨T, [x', y'], rfl, SqT.of upd_same, rfl, x', [y'], rfl, y', [], rfl, rfl, (i, w, u, z), ⟨hw, hu, hz⟩, ⟨(q.mono eT).ext, (q.mono eT).dr, ((q.mono eT).good.set j (R := dat X.K w) (hr.tk kT)).set k (R := dat X.K u) (hr2.tk kT)⟩, ?_⟩
  exact ⟨fun σ' H' k' q' => ⟨kT.trans k', q'⟩, fun v H' k' q' => l.rt v H' ((e1.tk.trans kT).trans k') q', fun σ' H' k' q' => l.nx σ' H' ((e1.tk.trans kT).trans k') q', fun σ' H' k' q' => ⟨kT.trans k', q'⟩⟩
end
end Cv

namespace Cv
open PySem PySem.Spec PyProof.Rows L2 RZ
open AutoSeq1 (wpAny_loadPart')
/-! ### xs[i] by values -/
theorem get_list {X : Cx} : PGet X (rIxL X.K) := by
  intro pins s σ H o i ov iv Q I ro ri h
  obtain ⟨p, xs, k, z, rfl, rfl, hq, he, q⟩ := h
  cases ro
  obtain ⟨t, rfl⟩ := ri
  obtain ⟨its, r, pl, hz⟩ := I.list hq
  obtain ⟨j, h1, h2, h3, h4, h5⟩ := atI_get he
  obtain ⟨y, ey, ry⟩ := r.get h2
  have hl := r.length
  have hn := line63
  have fin : EP X pins σ Q y s := ⟨z, H, I, ry, q⟩
  by_cases h0 : 0 ≤ k
  · have hj : k.toNat = j := by
      rw [seqIndex_of h0 h5] at h1
      exact Option.some.inj h1
    exact wpAny_getItem_list pl.isList h0 (by omega) (by rw [hj]; simpa using ey) fin
  · have hj : (k + (its.toArray.size : Int)).toNat = j := by
      rw [seqIndex_neg (by omega) h4] at h1
      rw [List.size_toArray, ← hl]
      exact Option.some.inj h1
    exact wpAny_getItem_list_neg pl.isList (by omega) (by rw [List.size_toArray] <;> omega) (by omega) (by rw [hj]; simpa using ey) fin
/-! ### enumerate(t), t a tuple -/
theorem meets_enumT (l : Addr) (its : Array Value) (n : Nat) (dc : Option Addr) (sl : Array (Option Value)) :
    Meets (Builtin.«enumerate.__new__» ⟨[.type "enumerate", .ref l], []⟩) (fun _ R s => s.heap.get? l = some { cls := .type "tuple", dict := dc, data := .seq its n, slots := sl } ∧
      R (.ok (.ret (.ref (s.heap.push { cls := .type "tuple_iterator", data := .fields #[.ref l, .int 0 0] }).objs.size)))
        { s with heap := (s.heap.push { cls := .type "tuple_iterator", data := .fields #[.ref l, .int 0 0] }).push { cls := .type "enumerate", data := .fields #[.none, .bool false, .ref s.heap.objs.size, rawInt 0, .none, .none] } }) :=
  .of_wp fun prog w A R s h => by
    obtain ⟨hp, gs, dr, tk, os⟩ := s
    obtain ⟨hl, h⟩ := h
    have hsub := sub_enumerate
    have hT : Heap.IsTuple (Shared.heap ⟨hp, gs, dr, tk, os⟩) l its := ⟨_, hl, rfl, n, rfl⟩
    wp_walk using wpAny_loadPart' hl
    refine wpAny_stack_any fun st => wpAny_pure ?_
    split
    · rename_i c _ _ _ _ _
      cases (c == Value.type "enumerate") <;> (wp_walk using wpAny_loadPart' hl, wpAny_pyIter_tuple hT; exact ⟨_, rfl, h⟩)
    · wp_walk using wpAny_loadPart' hl, wpAny_pyIter_tuple hT
      exact ⟨_, rfl, h⟩
section
variable {prog : Program} {w : World} {A : Around} {E : Value → Shared → Prop} {s : Shared}
theorem call_enumT {l : Addr} {its : Array Value} {Q : Value → Shared → Prop} (hL : s.heap.IsTuple l its)
    (h : ∀ h', IsEnum h' (s.heap.objs.size + 1) s.heap.objs.size 0 .none → h'.IsTupleIter s.heap.objs.size l 0 → h'.objs.size = s.heap.objs.size + 2 →
      (∀ b o, s.heap.get? b = some o → h'.get? b = some o) → Q (.ref (s.heap.objs.size + 1)) { s with heap := h' }) :
    wpAny (model prog w) A (call (.type "enumerate") [.ref l]) Q E s := by
  obtain ⟨⟨c, dct, dt, sl⟩, hl, hc, n, hd⟩ := hL
  obtain rfl : c = .type "tuple" := hc
  obtain rfl : dt = .seq its n := hd
  refine callType_new F.called_enumerate (by decide) (F.typeCall_enumerate_1 _) (F.newCall_enumerate_1 _) (fun obj => F.args_object_init_2 obj _) F.entry_enumerate_new (meets_enumT l its n dct sl) ⟨hl, ?_⟩
  have hz : (s.heap.push { cls := .type "tuple_iterator", data := .fields #[.ref l, .int 0 0] }).objs.size = s.heap.objs.size + 1 := Heap.size_push ..
  show _ ∧ _
  rw [hz]
  have he : IsEnum ((s.heap.push { cls := .type "tuple_iterator", data := .fields #[.ref l, .int 0 0] }).push
      { cls := .type "enumerate", data := .fields #[.none, .bool false, .ref s.heap.objs.size, rawInt 0, .none, .none] }) (s.heap.objs.size + 1) s.heap.objs.size 0 .none := by
    have := Heap.get?_push_size (s.heap.push { cls := .type "tuple_iterator", data := .fields #[.ref l, .int 0 0] })
      (o := { cls := .type "enumerate", data := .fields #[.none, .bool false, .ref s.heap.objs.size, rawInt 0, .none, .none] }) rfl
    rw [hz] at this; exact this
  exact ⟨⟨_, he, rfl⟩, h _ he ⟨_, Heap.get?_push_of_some _ (Heap.get?_push_size _ rfl), rfl, rfl⟩ (by rw [Heap.size_push, hz]) fun b o x => Heap.get?_push_of_some _ (Heap.get?_push_of_some _ x)⟩
end
/-- the tuple at a as it stands at each turn, each item in a new pair -/
def IteT (K : PySem.W.Frag) (a : Addr) : It :=
  ⟨fun i H => ∃ (xs : List V) (x : V), SqT K H a xs ∧ xs[i]? = some x, fun i H v H' => ∃ T x, v = .ref T ∧ H T = none ∧ H' = upd H T (.tup [.int (i : Nat), x]) ∧ ∀ xs, SqT K H a xs → xs[i]? = some x, fun i H => ∃ xs : List V, SqT K H a xs ∧ xs.length ≤ i⟩
theorem turn_enumT {P : Program} {w : World} {K : PySem.W.Frag} {elts : List Expr} {kk : Nat} {tpos : Pos} (a e it : Addr) (hai : a ≠ it) :
    Turn P w K (.Tuple elts kk tpos) (IteT K a) [e, it] e (fun i h => (∃ old, IsEnum h e it ((i : Nat) : Int) old) ∧ h.IsTupleIter it a i ∧ e ≠ it) where
  mem := by simp
  obj := fun i h st b hb => by
    obtain ⟨⟨old, he⟩, ⟨o, ho, hc, hd⟩, _⟩ := st
    have e' : b = e ∨ b = it := by simpa using hb
    rcases e' with z | z
    · subst z; exact ⟨_, he, fun v q => nomatch q⟩
    · subst z; exact ⟨o, ho, fun v q => by rw [hd] at q; cases q⟩
  keep := fun i h h' st k => let ⟨⟨old, he⟩, hi, hne⟩ := st; ⟨⟨old, k e (by simp) _ he⟩, hi.at fun o q => k it (by simp) o q, hne⟩
  item := by
    intro X hP hw hK hc i pins s σ H E I hf st hg
    subst hP hw hK
    obtain ⟨⟨old, he⟩, hit, hne⟩ := st
    obtain ⟨xs, x, hq, hx⟩ := hg
    obtain ⟨its, rv, pt, hz⟩ := I.tuple hq
    obtain ⟨u, hu, ru⟩ := rv.get hx
    have hel : e < s.heap.objs.size := Heap.lt_size he
    have hil : it < s.heap.objs.size := by obtain ⟨_, q, _⟩ := hit; exact Heap.lt_size q
    have hlt : i < its.toArray.size := by
      rw [List.size_toArray, ← rv.length]
      exact (List.getElem?_eq_some_iff.mp hx).1
    have hea : e ≠ a := fun z => by
      obtain ⟨o, ho, hc1, _⟩ := pt
      have he' : s.heap.get? e = some _ := he
      rw [z, ho] at he'
      cases he'
      have q1 : Value.type "enumerate" = Value.type "tuple" := hc1
      injection q1 with q2
      exact absurd q2 (by decide)
    refine wpAny_pyNext_enum_itemD (Draws.tuple (A := X.A.in1) (by exact I.ok.hd hc) it a hai its.toArray) he ⟨hit, pt⟩ hlt hne (by simp only [List.mem_cons, List.not_mem_nil, or_false, not_or]; exact ⟨hne, hea⟩) fun y h' tk hy ho st' hT hsz hk => ?_
    obtain ⟨hit', _⟩ := st'
    have eyu : y = u := by
      have h1 : its.toArray[i]? = some u := by simpa using hu
      exact Option.some.inj (hy.symm.trans h1)
    subst eyu
    refine ⟨_, rfl, wpAny_letOwnedTupleGo_enum (s := { s with heap := h', toks := tk + 1 }) ho fun h'' he' sb => ?_⟩
    have hT2 : h''.get? s.heap.objs.size = some { cls := .type "tuple", data := .seq #[.int i tk, y] } := (sb.2 _ (Nat.ne_of_gt hel)).trans hT
    have new : ObjOk X.prog X.w (upd H s.heap.objs.size (.tup [.int (i : Nat), x])) h'' s.heap.objs.size (.tup [.int (i : Nat), x]) :=
      ⟨by show 2 ≤ sizeLine; decide, [.int i tk, y], .cons ⟨_, rfl⟩ (.cons ru .nil), ⟨_, hT2, rfl, _, rfl⟩⟩
    have I1 : Inv X pins σ (upd H s.heap.objs.size (.tup [.int (i : Nat), x])) { s with heap := h'', toks := tk + 1 } :=
      I.turnedNew (ch := [e, it]) (fun b ob hb q => (sb.2 b (fun z => hb (by simp [z]))).trans (hk b ob (fun z => hb (by simp [z])) (fun z => hb (by simp [z])) q)) hf (Nat.le_refl _) new
    refine ⟨.ref s.heap.objs.size, _, I1, rfl, ⟨_, x, rfl, I.hok.fresh (Nat.le_refl _), rfl, fun ys hy => by rw [I.tuple_inj hy hq]; exact hx⟩, ⟨⟨y, ?_⟩, hit'.at fun o q => (sb.2 it (Ne.symm hne)).trans q, hne⟩, fun b hb => ?_⟩
    · have e1 : ((i + 1 : Nat) : Int) = (i : Int) + 1 := by omega
      rw [e1]; exact he'
    · have hb' : b < s.heap.objs.size := by
        have e' : b = e ∨ b = it := by simpa using hb
        rcases e' with z | z
        · subst z; exact hel
        · subst z; exact hil
      rw [upd_ne (Nat.ne_of_lt hb')]
      exact (hf b hb).1
  done := by
    intro X hP hw hK hc i pins s σ H E I hf st hg
    subst hP hw hK
    obtain ⟨⟨old, he⟩, hit, hne⟩ := st
    obtain ⟨xs, hq, hx⟩ := hg
    obtain ⟨its, rv, pt, hz⟩ := I.tuple hq
    obtain ⟨f0, f1, f2, f3, f4, f5⟩ := hf it (by simp)
    have hl := rv.length
    have hD := Draws.tuple (prog := X.prog) (w := X.w) (A := X.A.in1) (by exact I.ok.hd hc) it a hai its.toArray
    have hT : s.TypeIs (.ref e) "enumerate" := ⟨_, he, rfl⟩
    unfold pyNext
    refine wpAny_bind (wpAny_attempt (wpAny_callSpecial?_slot (name := Str.ofString "__next__") hT F.slot_enumerate_next (wpAny_call_entry F.slot_enumerate_next hT F.entry_enumerate_next ?_ (F.args_enumerate_next_1 _))))
    show wpAny _ _ (field (.ref e) 2 >>= _) _ _ _
    refine wpAny_bind (wpAny_field he rfl (x := .ref it) rfl ?_)
    refine wpAny_bind (wpAny_nextOf_tuple_end (by exact I.ok.hd hc) hit pt (by simp; omega) fun h' x he' hx' => ?_)
    obtain ⟨o, ho, hc'⟩ := hx'
    refine wpAny_bind (wpAny_isInstance (T := "StopIteration") (b := true) ⟨o, ho, hc'⟩ isSubtype_stop ?_)
    exact wpAny_pure ⟨rfl, I.turned (t' := s.toks) (fun b o hb q => he' b o hb q) f0 f1 f3 f4 f5⟩
  self := fun A i s Q E st h => let ⟨⟨_, he⟩, _⟩ := st; wpAny_pyIter_enum he h
def iEnumT (K : PySem.W.Frag) (ta : TA) : TI := fun σ H R => ta σ H fun vs H1 => ∃ a xs, vs = [.ref a] ∧ SqT K H1 a xs ∧ R (IteT K a) H1
theorem pi_enumT {X : Cx} {e : Expr} {ta : TA} {p pos tpos : Pos} {elts : List Expr} {kk : Nat} (hg : Gl X "enumerate") (hm : X.mg "enumerate" = none) (ha : PA X [e] ta) (hs : starEach [e] X.env = [(false, eval e X.env)] := by rfl) :
    PI X (.Tuple elts kk tpos) (.Call (.Name "enumerate" p) [e] [] pos) (iEnumT X.K ta) := by
  refine ⟨fun pins s σ H R I h => ?_⟩
  refine Call_ (ld_blt I hg hm boot_enumerate (PyProof.Rows.callWith_type1 (thn (ha.run pos pins s σ H _ I h) fun us s1 ⟨vs, H1, I1, r1, q1⟩ => ?_) hs rfl))
  obtain ⟨a, xs, ex, hq, q⟩ := q1
  subst ex
  cases r1 with
  | cons r rr =>
    cases rr
    cases r
    obtain ⟨its, rv, pt, hz⟩ := I1.tuple hq
    refine call_enumT (show s1.heap.IsTuple a its.toArray from pt) fun h' he hit hsz hk => wpAny_pyIter_enum he ?_
    have I2 : Inv X pins σ H1 { s1 with heap := h' } := I1.kept (t' := s1.toks) hk
    have hlt : a < s1.heap.objs.size := by obtain ⟨o, ho, _⟩ := pt; exact Heap.lt_size ho
    refine ⟨s1.heap.objs.size + 1, [s1.heap.objs.size + 1, s1.heap.objs.size], _, _, H1, rfl, I2, turn_enumT a (s1.heap.objs.size + 1) s1.heap.objs.size (Nat.ne_of_lt hlt), ⟨⟨.none, he⟩, hit, Nat.succ_ne_self _⟩, fun b hb => ?_, q⟩
    have hle : s1.heap.objs.size ≤ b := by
      have e' : b = s1.heap.objs.size + 1 ∨ b = s1.heap.objs.size := by simpa using hb
      rcases e' with z | z
      · rw [z]; exact Nat.le_succ _
      · rw [z]; exact Nat.le_refl _
    exact I1.fpOk hle (I1.hok.fresh hle)
end Cv

namespace Cv
open PySem PySem.Spec PyProof.Rows L2 RZ
section
variable {d : Option Addr} {X : Cx} {B : Hp} {ρ ρ' : Ro d} {a b c e iter elt : Expr} {es : List Expr} {R R' Ra Rb : Rp d} {Rs : List (Rp d)} {pos : Pos} {m n : Int} {st : Stmt} {rest body orelse : List Stmt} {Pre Mid : L2.St → Hp → Prop} {Po : Ends}
/-- for x, y in enumerate(t) -/
theorem bx_forE {α : Type} {ds : List D} (j k : Nat) {x y : Str} {kk : Nat} {tpos p1 p2 p p3 : Pos} (P : Nat → α → Prop) (r : Nat → α → Ro d) (hg : Gl X "enumerate") (hm : X.mg "enumerate" = none) (ha : EX X B ρ a (dat X.K (.t ds))) (h0 : ∀ σ H, St B ρ σ H → IS B (P 0) (r 0) σ H)
    (hb : ∀ (i : Nat) w z, ds[i]? = some w → P i z → BX X body (St B (((r i z).set j (some (rI (i : Int)))).set k (some (dat X.K w)))) (Lp Po (IS B (P (i + 1)) (r (i + 1))) (IS B (P ds.length) (r ds.length)))) (h : BX X rest (IS B (P ds.length) (r ds.length)) Po)
    (hN : X.N.Nodup) (hp : PassesOwn (model X.prog X.w) X.A X.env X.xe) (hj : X.N[j]? = some x := by rfl) (hk : X.N[k]? = some y := by rfl) (hc : X.calm = true := by rfl) (hx : Loc X.env.scope x := by first | exact Or.inl rfl | exact Or.inr rfl) (hy : Loc X.env.scope y := by first | exact Or.inl rfl | exact Or.inr rfl)
    (hf : X.fn x = true ∨ X.env.scope.names.lookup x = some .local := by first | exact .inl rfl | exact .inr rfl | assumption) (hfy : X.fn y = true ∨ X.env.scope.names.lookup y = some .local := by first | exact .inl rfl | exact .inr rfl | assumption)
    (he : starEach [a] X.env = [(false, eval a X.env)] := by rfl) (hs : ∀ x, foldedSetIterable (.Call (.Name "enumerate" p) [a] [] p3) X.env x = pure x := by intro _; rfl) :
    BX X (.For (.Tuple [.Name x p1, .Name y p2] kk tpos) (.Call (.Name "enumerate" p) [a] [] p3) body [] pos :: rest) (St B ρ) Po := by
  refine bx_cons (Mid := IS B (P ds.length) (r ds.length)) ?_ h
  refine PS_wk (t := tFor (iEnumT X.K fun σ H Q => St B ρ σ H ∧ ∀ vs H', Ext d H H' → RsH [dat X.K (.t ds)] vs H' → Q vs H') (gTup X.K 2 (gCons (gName j) (gCons (gName k) gNil))) (tBody (Z := Nat × D × α) B (fun z => ((r z.1 z.2.2).set j (some (rI (z.1 : Int)))).set k (some (dat X.K z.2.1))) (fun z => ds[z.1]? = some z.2.1 ∧ P z.1 z.2.2) (fun z => Lp Po (IS B (P (z.1 + 1)) (r (z.1 + 1))) (IS B (P ds.length) (r ds.length)))))
    (ps_for hp hc (pi_enumT hg hm (a_cons ha a_nil he) he) (pg_tup hc (pgs_cons (pg_name hN hj hx hf) (pgs_cons (pg_name hN hk hy hfy) pgs_nil))) ⟨fun pins s σ H E I ⟨⟨i, w, z⟩, ⟨hw, hz⟩, q, l⟩ => (hb i w z hw hz).run pins s σ H E I ⟨q, l⟩⟩ hs) fun E σ H ⟨s, l⟩ => ⟨s, fun vs H1 e1 hv => ?_⟩
  obtain ⟨v, rfl, hv'⟩ := hv.one
  obtain ⟨t, us, rfl, h1, h2⟩ := DR.tup hv'
  refine ⟨t, us, rfl, h1, fun i m σ H => m = us.length - i ∧ i ≤ us.length ∧ Tk H1 H ∧ IS B (P i) (r i) σ H, ⟨us.length, rfl, Nat.zero_le _, Tk.refl _, h0 _ _ (s.mono e1)⟩, ?_⟩
  rintro i m σ H ⟨rfl, hi, kk, q⟩
  have a1 := kk.sqT h1
  by_cases hlt : i < us.length
  · refine .inr ⟨⟨us, us[i], a1, List.getElem?_eq_getElem hlt⟩, fun σ' H' => Tk H1 H' ∧ IS B (P (i + 1)) (r (i + 1)) σ' H', fun σ' H' p' => ⟨us.length - (i + 1), by omega, rfl, hlt, p'.1, p'.2⟩, fun v H' yl => ?_⟩
    obtain ⟨T, x', rfl, hT, rfl, f1⟩ := yl
    obtain ⟨w, hw, hr⟩ := h2.getV (f1 us a1)
    obtain ⟨z, hz, q⟩ := q
    have eT : Ext d H (upd H T (.tup [.int (i : Nat), x'])) := Ext.new hT
    have kT := kk.trans eT.tk
    refine ⟨T, [.int (i : Nat), x'], rfl, SqT.of upd_same, rfl, .int (i : Nat), [x'], rfl, x', [], rfl, rfl, (i, w, z), ⟨hw, hz⟩, ⟨(q.mono eT).ext, (q.mono eT).dr, ((q.mono eT).good.set j (R := rI (i : Int)) rfl).set k (R := dat X.K w) (hr.tk kT)⟩, ?_⟩
    exact ⟨fun σ' H' k' q' => ⟨kT.trans k', q'⟩, fun v H' k' q' => l.rt v H' ((e1.tk.trans kT).trans k') q', fun σ' H' k' q' => l.nx σ' H' ((e1.tk.trans kT).trans k') q', fun σ' H' k' q' => ⟨kT.trans k', q'⟩⟩
  · have e' : i = us.length := by omega
    subst e'
    exact .inl ⟨⟨us, a1, Nat.le_refl _⟩, l.nx σ H (e1.tk.trans kk) (by rw [h2.1]; exact q)⟩
/-! ### unpacking -/
theorem bx_unp3 {A1 A2 A3 : D} (i1 i2 i3 : Nat) {x1 x2 x3 : Str} {q1 q2 q3 q4 : Pos} {kk : Nat} (he : EX X B ρ e (dat X.K (.t [A1, A2, A3]))) (h : BX X rest (St B (((ρ.set i1 (some (dat X.K A1))).set i2 (some (dat X.K A2))).set i3 (some (dat X.K A3)))) Po)
    (hN : X.N.Nodup) (h1 : X.N[i1]? = some x1 := by rfl) (h2 : X.N[i2]? = some x2 := by rfl) (h3 : X.N[i3]? = some x3 := by rfl) (hc : X.calm = true := by rfl) (l1 : Loc X.env.scope x1 := by first | exact Or.inl rfl | exact Or.inr rfl) (l2 : Loc X.env.scope x2 := by first | exact Or.inl rfl | exact Or.inr rfl) (l3 : Loc X.env.scope x3 := by first | exact Or.inl rfl | exact Or.inr rfl)
    (f1 : X.fn x1 = true ∨ X.env.scope.names.lookup x1 = some .local := by first | exact .inl rfl | exact .inr rfl | assumption) (f2 : X.fn x2 = true ∨ X.env.scope.names.lookup x2 = some .local := by first | exact .inl rfl | exact .inr rfl | assumption) (f3 : X.fn x3 = true ∨ X.env.scope.names.lookup x3 = some .local := by first | exact .inl rfl | exact .inr rfl | assumption)
    (hs : swapsWithSole [.Tuple [.Name x1 q1, .Name x2 q2, .Name x3 q3] kk q4] e pos.line X.env = pure false := by rfl) (hw : swappedStores [.Tuple [.Name x1 q1, .Name x2 q2, .Name x3 q3] kk q4] e X.env = pure none := by rfl) :
    BX X (.Assign [.Tuple [.Name x1 q1, .Name x2 q2, .Name x3 q3] kk q4] e pos :: rest) (St B ρ) Po := by
  refine bx_cons (Mid := St B (((ρ.set i1 (some (dat X.K A1))).set i2 (some (dat X.K A2))).set i3 (some (dat X.K A3)))) ?_ h
  refine PS_wk (ps_asg he (pg_tup hc (pgs_cons (pg_name hN h1 l1 f1) (pgs_cons (pg_name hN h2 l2 f2) (pgs_cons (pg_name hN h3 l3 f3) pgs_nil)))) hs hw) fun E σ H ⟨s, l⟩ => ⟨s, fun v H' e1 hv => ?_⟩
  obtain ⟨t, us, rfl, g1, g2⟩ := DR.tup hv
  match us, g2 with
  | [v1, v2, v3], g2 =>
    refine ⟨t, [v1, v2, v3], rfl, g1, rfl, v1, [v2, v3], rfl, v2, [v3], rfl, v3, [], rfl, rfl, ?_⟩
    exact l.nx _ H' e1.tk ⟨(s.mono e1).ext, (s.mono e1).dr, (((s.mono e1).good.set i1 (R := dat X.K A1) (g2.2 0 A1 v1 rfl rfl)).set i2 (R := dat X.K A2) (g2.2 1 A2 v2 rfl rfl)).set i3 (R := dat X.K A3) (g2.2 2 A3 v3 rfl rfl)⟩
  | [], g2 => exact absurd g2.1 (by simp)
  | [_], g2 => exact absurd g2.1 (by simp)
  | [_, _], g2 => exact absurd g2.1 (by simp)
  | _ :: _ :: _ :: _ :: _, g2 => exact absurd g2.1 (by simp)
/-! ### own lists changed -/
/-- what stands when the list at l changes -/
def Ind (l : Addr) (R : Rp d) : Prop := ∀ v H xs ys, H l = some (.lst xs) → R.p v H → R.p v (upd H l (.lst ys))
theorem ind_I {l : Addr} {n : Int} : Ind l (rI (d := d) n) := fun _ _ _ _ _ h => h
theorem ind_B {l : Addr} {n : Bool} : Ind l (rB (d := d) n) := fun _ _ _ _ _ h => h
theorem ind_any {l : Addr} : Ind l (rAny (d := d)) := fun _ _ _ _ _ h => h
theorem ind_drw {l : Addr} : Ind l (drw (d := d)) := fun _ _ _ _ _ h => h
theorem ind_dat {l : Addr} {K : PySem.W.Frag} {w : D} : Ind l (dat (d := d) K w) := fun _ _ _ _ hl h => h.tk (Tk.lst hl)
theorem ind_ex {l : Addr} {α : Type} {P : α → Prop} {Rz : α → Rp d} (h : ∀ z, Ind l (Rz z)) : Ind l (exR P Rz) := fun v H xs ys hl ⟨z, hz, q⟩ => ⟨z, hz, h z v H xs ys hl q⟩
theorem ind_own {l l' : Addr} {K : PySem.W.Frag} {ds : List D} (hne : l' ≠ l) : Ind l (own (d := d) K l' ds) := fun v H xs ys hl ⟨h1, h2, us, h3, h4⟩ => ⟨h1, h2, us, by rw [upd_ne hne]; exact h3, h4.tk (Tk.lst hl)⟩
theorem ind_lstA {l l' : Addr} {K : PySem.W.Frag} {ds : List D} (hne : l' ≠ l) : Ind l (lstA (d := d) K l' ds) := fun v H xs ys hl ⟨h1, h2, us, h3, h4⟩ => ⟨h1, h2, us, by
  rcases h3 with ⟨k, h⟩ | ⟨o, h⟩ | h
  · exact .inl ⟨k, by rw [upd_ne hne]; exact h⟩
  · exact .inr (.inl ⟨o, by rw [upd_ne hne]; exact h⟩)
  · exact .inr (.inr h), h4.tk (Tk.lst hl)⟩
/-- every slot (but i) stands -/
def IndA (l : Addr) (r : Ro d) : Prop := ∀ (j : Nat) (R : Rp d), r[j]? = some (some R) → Ind l R
def IndBut (l : Addr) (i : Nat) (r : Ro d) : Prop := ∀ (j : Nat) (R : Rp d), j ≠ i → r[j]? = some (some R) → Ind l R
theorem ia_nil {l : Addr} : IndA l ([] : Ro d) := fun j R h => by cases h
theorem ia_none {l : Addr} {r : Ro d} (h : IndA l r) : IndA l (none :: r) := fun j R e => by
  cases j with
  | zero => cases e
  | succ j => exact h j R e
theorem ia_some {l : Addr} {r : Ro d} {R : Rp d} (w : Ind l R) (h : IndA l r) : IndA l (some R :: r) := fun j R' e => by
  cases j with
  | zero => cases e; exact w
  | succ j => exact h j R' e
theorem ib_here {l : Addr} {o : Option (Rp d)} {r : Ro d} (h : IndA l r) : IndBut l 0 (o :: r) := fun j R hj e => by
  cases j with
  | zero => exact absurd rfl hj
  | succ j => exact h j R e
theorem ib_none {l : Addr} {i : Nat} {r : Ro d} (h : IndBut l i r) : IndBut l (i + 1) (none :: r) := fun j R hj e => by
  cases j with
  | zero => cases e
  | succ j => exact h j R (fun z => hj (by rw [z])) e
theorem ib_some {l : Addr} {i : Nat} {r : Ro d} {R : Rp d} (w : Ind l R) (h : IndBut l i r) : IndBut l (i + 1) (some R :: r) := fun j R' hj e => by
  cases j with
  | zero => cases e; exact w
  | succ j => exact h j R' (fun z => hj (by rw [z])) e
theorem st_own {K : PySem.W.Frag} {l : Addr} {ds ds' : List D} {vs' : List V} {i : Nat} {σ : L2.St} {H : Hp} (s : St B ρ σ H) (hi : ρ[i]? = some (some (own K l ds))) (hB : B l = none) (hb : IndBut l i ρ) (hd : DRl K H ds' vs') : St B (ρ.set i (some (own K l ds'))) σ (upd H l (.lst vs')) := by
  obtain ⟨v, h1, rfl, hl, vs, h2, h3⟩ := s.good.get hi
  refine ⟨s.ext.mut hB hl, fun a e => ?_, by simp [s.good.1], fun j R e => ?_⟩
  · obtain ⟨ns, hn, q⟩ := s.dr a e
    have : a ≠ l := fun z => hl (by rw [e, z])
    exact ⟨ns, hn, by rw [upd_ne this]; exact q⟩
  · by_cases hj : j = i
    · subst hj
      have hlt : j < ρ.length := (List.getElem?_eq_some_iff.mp hi).1
      rw [List.getElem?_set_self hlt] at e
      cases e
      exact ⟨_, h1, rfl, hl, vs', upd_same, hd.tk (Tk.lst h2)⟩
    · rw [List.getElem?_set_ne (fun z => hj z.symm)] at e
      obtain ⟨v', a1, a2⟩ := s.good.get e
      exact ⟨v', a1, hb j R hj e v' H vs vs' h2 a2⟩
/-- x.append(e), x in slot i -/
theorem bx_append (i : Nat) {x : Str} {p1 p2 p3 p4 : Pos} {K : PySem.W.Frag} {l : Addr} {ds : List D} {w : D} (hi : ρ[i]? = some (some (own K l ds))) (hK : X.K = K) (he : EX X B ρ e (dat K w)) (hB : B l = none) (hb : IndBut l i ρ) (hz : ds.length ≤ 1000) (h : BX X rest (St B (ρ.set i (some (own K l (ds ++ [w]))))) Po)
    (hN : X.N[i]? = some x := by rfl) (hv : Vis X.env.scope x := by first | exact Or.inl rfl | exact Or.inr (Or.inl rfl) | exact Or.inr (Or.inr rfl)) (hd : (x == ("__debug__" : Str)) = false := by decide) (hcd : (x == ("__classdict__" : Str)) = false := by decide)
    (hbase : attributeBase (.Name x p1) "append" X.env (eval (.Name x p1) X.env) = eval (.Name x p1) X.env := by rfl)
    (hfew : ((backTo p3 (starEach (e :: []) X.env)).all (fun x => !x.1) && (backToKw p3 (keywordEach [] X.env)).all (fun x => x.1.isSome)
      && decide ((e :: []).length + ([] : List Keyword).length + (if ([] : List Keyword).isEmpty then 0 else 1) < 30)) = true := by rfl)
    (hline : (p2.endLine == p3.line) = true := by rfl) (hs : starEach (e :: []) X.env = (false, eval e X.env) :: starEach [] X.env := by rfl) (hplain : (backTo p3 (starEach [] X.env)).any (·.1) = false := by rfl)
    (hsw : swapsWith (.Call (.Attribute (.Name x p1) "append" p2) [e] [] p3) none p4.line X.env = pure false := by rfl) :
    BX X (.Expr (.Call (.Attribute (.Name x p1) "append" p2) [e] [] p3) p4 :: rest) (St B ρ) Po := by
  subst hK
  refine bx_cons (Mid := St B (ρ.set i (some (own X.K l (ds ++ [w]))))) ?_ h
  refine PS_wk (ps_expr (pe_bm PySem.F.plainAttrs_list PySem.F.slot_list_append PySem.F.type_list_append mt_append (pe_var hN hv hd hcd) (a_cons he a_nil hs) hbase hfew hline hs hplain) hsw) fun E σ H ⟨s, q⟩ => ?_
  obtain ⟨v, h1, rfl, hl, vs, h2, h3⟩ := s.good.get hi
  refine ⟨_, h1, Or.inl ⟨rfl, _, SqL.of h2⟩, s, fun us H1 e1 hus => ?_⟩
  obtain ⟨y, rfl, hy⟩ := hus.one
  have s1 := s.mono e1
  have g2 := e1.at h2 hl
  refine ⟨l, vs, y, rfl, rfl, g2, small1000 (by rw [← h3.1]; exact hz), ?_⟩
  exact q.nx σ _ (e1.tk.trans (Tk.lst g2)) (st_own s1 hi hB hb ((h3.tk e1.tk).snoc hy))
/-- x[k] = e, x in slot i -/
theorem bx_setitem (i : Nat) {x : Str} {p1 p2 p3 : Pos} {K : PySem.W.Frag} {l : Addr} {ds : List D} {w : D} {k : Nat} (hi : ρ[i]? = some (some (own K l ds))) (hK : X.K = K) (he : EX X B ρ e (dat K w)) (hk : EX X B ρ b (rI (k : Int))) (hkl : k < ds.length) (hB : B l = none) (hb : IndBut l i ρ) (h : BX X rest (St B (ρ.set i (some (own K l (ds.set k w))))) Po)
    (hN : X.N[i]? = some x := by rfl) (hv : Vis X.env.scope x := by first | exact Or.inl rfl | exact Or.inr (Or.inl rfl) | exact Or.inr (Or.inr rfl)) (hd : (x == ("__debug__" : Str)) = false := by decide) (hcd : (x == ("__classdict__" : Str)) = false := by decide)
    (ha : ∀ v, assign (.Subscript (.Name x p1) b p2) X.env v = (do
      let ov ← holding [v] (eval (.Name x p1) X.env)
      let iv ← holding [v, ov] (eval b X.env)
      standAt p2
      holding [v, ov, iv] (setItem ov iv v)
      release [v, ov, iv] []) := by intro _; rfl)
    (hs : swapsWithSole [.Subscript (.Name x p1) b p2] e p3.line X.env = pure false := by rfl) (hw : swappedStores [.Subscript (.Name x p1) b p2] e X.env = pure none := by rfl) (h1 : (assignEach [.Subscript (.Name x p1) b p2] X.env).map (·.2) = [assign (.Subscript (.Name x p1) b p2) X.env] := by rfl) :
    BX X (.Assign [.Subscript (.Name x p1) b p2] e p3 :: rest) (St B ρ) Po := by
  subst hK
  refine bx_cons (Mid := St B (ρ.set i (some (own X.K l (ds.set k w))))) ?_ h
  refine PS_wk (ps_asg he (pg_sub (pe_var hN hv hd hcd) hk set_list ha) hs hw h1) fun E σ H ⟨s, q⟩ => ⟨s, fun y H1 e1 hy => ?_⟩
  have s1 := s.mono e1
  obtain ⟨v, a1, rfl, hl, vs, a2, a3⟩ := s1.good.get hi
  refine ⟨_, a1, s1, fun iv H2 e2 hiv => ?_⟩
  have s2 := s1.mono e2
  have g2 := e2.at a2 hl
  have a3' := a3.tk e2.tk
  have hkv : k < vs.length := by rw [← a3.1]; exact hkl
  refine ⟨l, vs, k, k, rfl, hiv, g2, by unfold ixN; rw [if_pos (by omega), if_pos (by omega)]; simp, ?_⟩
  refine q.nx σ _ ((e1.tk.trans e2.tk).trans (Tk.lst g2)) (st_own s2 hi hB hb ⟨by simp [a3.1], fun j e' v' b1 b2 => ?_⟩)
  by_cases hj : k = j
  · subst hj
    rw [List.getElem?_set_self hkl] at b1
    rw [List.getElem?_set_self hkv] at b2
    cases b1; cases b2
    exact DR.tk e2.tk hy
  · rw [List.getElem?_set_ne hj] at b1 b2
    exact a3'.2 j e' v' b1 b2
/-- x[k] += e, a list of ints, the place and the number told by P and S -/
theorem bx_augitem (i : Nat) {x : Str} {p1 p2 p3 : Pos} {K : PySem.W.Frag} {l : Addr} {ns : List Int} {P : Int → Prop} (hi : ρ[i]? = some (some (own K l (ns.map D.i)))) (hK : X.K = K) (hk : EX X B ρ b (iE P)) (hP : ∀ k, P k → 0 ≤ k ∧ k < ns.length) (he : EX X B ρ e (rI n)) (hB : B l = none) (hb : IndBut l i ρ)
    (h : ∀ (k : Nat) (z : Int), P k → ns[k]? = some z → BX X rest (St B (ρ.set i (some (own K l ((ns.set k (z + n)).map D.i))))) Po)
    (hN : X.N[i]? = some x := by rfl) (hv : Vis X.env.scope x := by first | exact Or.inl rfl | exact Or.inr (Or.inl rfl) | exact Or.inr (Or.inr rfl)) (hd : (x == ("__debug__" : Str)) = false := by decide) (hcd : (x == ("__classdict__" : Str)) = false := by decide)
    (ha : ∀ ov iv new, augStore b ov iv new = (do holding [new, ov, iv] (setItem ov iv new); release [new, ov, iv] []; pure .next) := by intros; rfl) :
    BX X (.AugAssign (.Subscript (.Name x p1) b p2) .Add e p3 :: rest) (St B ρ) Po := by
  subst hK
  refine bx_cons (Mid := fun σ H => ∃ kz : Nat × Int, (P kz.1 ∧ ns[kz.1]? = some kz.2) ∧ St B (ρ.set i (some (own X.K l ((ns.set kz.1 (kz.2 + n)).map D.i)))) σ H) ?_ (bx_ex fun kz hkz => h kz.1 kz.2 hkz.1 hkz.2)
  refine PS_wk (ps_augS (pe_var hN hv hd hcd) hk get_list he ip_add set_list ha) fun E σ H ⟨s, q⟩ => ?_
  obtain ⟨v, a1, rfl, hl, vs, a2, a3⟩ := s.good.get hi
  refine ⟨_, a1, s, fun iv H1 e1 ⟨k, hPk, hiv⟩ => ?_⟩
  obtain ⟨h0, hkl⟩ := hP k hPk
  obtain ⟨j, rfl⟩ : ∃ j : Nat, k = (j : Int) := ⟨k.toNat, by omega⟩
  have hj : j < ns.length := by omega
  obtain rfl := a3.ints
  have g2 := e1.at a2 hl
  obtain rfl : iv = .int (j : Int) := hiv
  have hz : (ns.map V.int)[j]? = some (.int ns[j]) := by rw [List.getElem?_map, List.getElem?_eq_getElem hj]; rfl
  refine ⟨l, ns.map V.int, j, .int ns[j], rfl, rfl, SqL.of g2, atI_nat hz, s.mono e1, fun y H2 e2 hy => ?_⟩
  obtain rfl : y = .int n := hy
  have g3 := e2.at g2 hl
  refine ⟨ns[j], n, rfl, rfl, l, ns.map V.int, j, j, rfl, rfl, g3, by unfold ixN; rw [if_pos (by omega), if_pos (by rw [List.length_map]; omega)]; simp, ?_⟩
  refine q.nx σ _ ((e1.tk.trans e2.tk).trans (Tk.lst g3)) ⟨(j, ns[j]), ⟨hPk, List.getElem?_eq_getElem hj⟩, ?_⟩
  refine st_own ((s.mono e1).mono e2) hi hB hb ?_
  have eq : (ns.map V.int).set j (.int (ns[j] + n)) = (ns.set j (ns[j] + n)).map V.int := by rw [List.map_set]
  rw [eq]
  exact DRl.of_ints _
end
end Cv

namespace Cv
open PySem PySem.Spec PyProof.Rows L2 RZ
section
variable {d : Option Addr} {X : Cx} {B : Hp} {ρ ρ' : Ro d} {a b c e iter elt : Expr} {es : List Expr} {R R' Ra Rb : Rp d} {Rs : List (Rp d)} {pos : Pos} {m n : Int} {st : Stmt} {rest body orelse : List Stmt} {Pre Mid : L2.St → Hp → Prop} {Po : Ends}
/-! ### comprehensions -/
theorem wipe1 (σ : L2.St) (j : Nat) (x : V) : wipe ((wipe σ [j]).set j (some x)) [j] = wipe σ [j] := by
  show ((σ.set j none).set j (some x)).set j none = σ.set j none
  rw [List.set_set, List.set_set]
/-- the items so far, in the new list at D -/
def Lc (H1 : Hp) (K : PySem.W.Frag) (Dl : Addr) (d : Option Addr) (P : Nat → D → Prop) (i : Nat) (H : Hp) : Prop :=
  Ext d H1 H ∧ ∃ vs ds, H Dl = some (.lst vs) ∧ DRl K H ds vs ∧ ds.length = i ∧ ∀ k w, ds[k]? = some w → P k w
theorem lc_step {H1 H H2 : Hp} {K : PySem.W.Frag} {Dl : Addr} {P : Nat → D → Prop} {i : Nat} {y : V} (hn : H1 Dl = none) (hd : some Dl ≠ d) (h : Lc H1 K Dl d P i H) (e : Ext d H H2) (hy : ∃ w, P i w ∧ DR K H2 w y) (hi : i < 2000) :
    ∃ acc, H2 Dl = some (.lst acc) ∧ acc.length < sizeLine ∧ Lc H1 K Dl d P (i + 1) (upd H2 Dl (.lst (acc ++ [y]))) := by
  obtain ⟨h0, vs, ds, h1, h2, h3, h4⟩ := h
  obtain ⟨w, hw, hr⟩ := hy
  have g := e.at h1 hd
  refine ⟨vs, g, Nat.lt_of_lt_of_le (show vs.length < 2000 by rw [← h2.1, h3]; exact hi) (by decide), (h0.trans e).mut hn hd, _, ds ++ [w], upd_same, ((h2.tk e.tk).snoc hr).tk (Tk.lst g), by simp [h3], fun k u hk => ?_⟩
  by_cases hlt : k < ds.length
  · rw [List.getElem?_append_left hlt] at hk
    exact h4 k u hk
  · rw [List.getElem?_append_right (by omega)] at hk
    have : k - ds.length = 0 := by
      cases q : k - ds.length with
      | zero => rfl
      | succ z => rw [q] at hk; simp at hk
    rw [this] at hk
    cases hk
    have : k = i := by omega
    subst this
    exact hw
def tElt {Z : Type} (B : Hp) (K : PySem.W.Frag) (pr : Z → Ro d) (S : Z → Prop) (P : Z → D → Prop) : TE := fun σ H Q => ∃ z, S z ∧ St B (pr z) σ H ∧ ∀ v H', Ext d H H' → (∃ w, P z w ∧ DR K H' w v) → Q v H'
theorem elt_of {Z : Type} {K : PySem.W.Frag} {pr : Z → Ro d} {S : Z → Prop} {P : Z → D → Prop} {Y : Cx} (h : ∀ z, S z → EX Y B (pr z) elt (dE K (P z))) : PE Y elt (tElt B K pr S P) := ⟨fun pins s σ H Q I ⟨z, hz, st, q⟩ => (h z hz).run pins s σ H Q I ⟨st, fun v H' e1 hv => q v H' e1 hv⟩⟩
theorem st_wipe {σ : L2.St} {H : Hp} {j : Nat} {v : V} (s : St B ρ σ H) (h : R.p v H) : St B (ρ.set j (some R)) ((wipe σ [j]).set j (some v)) H := by
  have e : (wipe σ [j]).set j (some v) = σ.set j (some v) := by show (σ.set j none).set j (some v) = _; rw [List.set_set]
  rw [e]
  exact ⟨s.ext, s.dr, s.good.set j h⟩
/-- [elt for x in range(e)] -/
theorem x_lcR {nn : Int} (j : Nat) {x : Str} {scope : Scope} {tpos p p2 : Pos} (P : Nat → D → Prop) (hg : Gl X "range") (hm : X.mg "range" = none) (hi : EX X B ρ e (rI nn)) (hn : nn < 2000 ∧ -(2 ^ 62) ≤ nn) (hN : X.N.Nodup) (hok : BlkOk X.N X.env.scope scope [(x, j)])
    (hgn : ∀ (s : Shared) (H : Hp) (C : Addr) (cl : List (Str × Addr)) (fp : List Addr), PG (X.blk s H scope (compEnvC scope cl C X.env) fp) (.Name x tpos) (gName j))
    (hb : ∀ (s : Shared) (H : Hp) (C : Addr) (cl : List (Str × Addr)) (fp : List Addr) (i : Nat), (i : Int) < nn → EX (X.blk s H scope (compEnvC scope cl C X.env) fp) B (ρ.set j (some (rI (i : Int)))) elt (dE X.K (P i)))
    (hc : X.calm = true := by rfl) (he : starEach [e] X.env = [(false, eval e X.env)] := by rfl) (hs : ∀ x, foldedSetIterable (.Call (.Name "range" p) [e] [] p2) X.env x = pure x := by intro _; rfl) :
    EX X B ρ (.ListComp elt [⟨.Name x tpos, .Call (.Name "range" p) [e] [] p2, [], 0⟩] scope pos) (newE B X.K fun ds => ds.length = nn.toNat ∧ ∀ k w, ds[k]? = some w → P k w) := by
  refine PE_wk (pe_lc (own := [(x, j)]) (g := gName j) (tt := tYes) (te := tElt (Z := Nat) B X.K (fun i => ρ.set j (some (rI (i : Int)))) (fun i => (i : Int) < nn) P) hc hN (pi_range1 hg hm (a_cons hi a_nil he) he) hok hgn (fun _ _ _ _ _ => pts_nil) (fun s H C cl fp => elt_of fun i hi' => hb s H C cl fp i hi') hs) fun σ H Q ⟨s, q⟩ => ⟨s, fun vs H1 e1 hv => ?_⟩
  obtain ⟨v, rfl, hv'⟩ := hv.one
  obtain rfl : v = .int nn := hv'
  have s1 := s.mono e1
  refine ⟨nn, rfl, hn.2, by have := hn.1; omega, fun Dl hD => ?_⟩
  obtain ⟨hB, hDd⟩ := s1.fresh hD
  refine lc_range (lo := 0) (n := nn.toNat) (Lc H1 X.K Dl d P) ⟨Ext.new hD, [], [], upd_same, DRl.nil, rfl, fun k w h => by cases h⟩ (fun i H' hlt L => ?_) (fun H' L => ?_)
  · refine ⟨wipe1 _ _ _, ?_⟩
    refine ⟨i, by omega, ?_, fun y H2 e2 hy => lc_step hD hDd L e2 hy (by have := hn.1; omega)⟩
    rw [Int.zero_add]
    exact st_wipe (s1.mono L.1) (R := rI (i : Int)) rfl
  · obtain ⟨h0, us, ds, h1, h2, h3, h4⟩ := L
    exact q _ H' (e1.trans h0) ⟨ds, ⟨h3, h4⟩, Dl, hB, rfl, hDd, us, h1, h2⟩
/-- [elt for x in t] -/
theorem x_lcT {src : List D} (j : Nat) {x : Str} {scope : Scope} {tpos : Pos} (P : Nat → D → Prop) (hi : EX X B ρ iter (dat X.K (.t src))) (hn : src.length < 2000) (hN : X.N.Nodup) (hok : BlkOk X.N X.env.scope scope [(x, j)])
    (hgn : ∀ (s : Shared) (H : Hp) (C : Addr) (cl : List (Str × Addr)) (fp : List Addr), PG (X.blk s H scope (compEnvC scope cl C X.env) fp) (.Name x tpos) (gName j))
    (hb : ∀ (s : Shared) (H : Hp) (C : Addr) (cl : List (Str × Addr)) (fp : List Addr) (i : Nat) (w : D), src[i]? = some w → EX (X.blk s H scope (compEnvC scope cl C X.env) fp) B (ρ.set j (some (dat X.K w))) elt (dE X.K (P i)))
    (hc : X.calm = true := by rfl) (hs : ∀ x, foldedSetIterable iter X.env x = pure x := by intro _; rfl) :
    EX X B ρ (.ListComp elt [⟨.Name x tpos, iter, [], 0⟩] scope pos) (newE B X.K fun ds => ds.length = src.length ∧ ∀ k w, ds[k]? = some w → P k w) := by
  refine PE_wk (pe_lc (own := [(x, j)]) (g := gName j) (tt := tYes) (te := tElt (Z := Nat × D) B X.K (fun z => ρ.set j (some (dat X.K z.2))) (fun z => src[z.1]? = some z.2) (fun z => P z.1)) hc hN (pi_tup hi) hok hgn (fun _ _ _ _ _ => pts_nil) (fun s H C cl fp => elt_of fun z hz => hb s H C cl fp z.1 z.2 hz) hs) fun σ H Q ⟨s, q⟩ => ⟨s, fun v H1 e1 hv => ?_⟩
  obtain ⟨t, us, rfl, g1, g2⟩ := DR.tup hv
  have s1 := s.mono e1
  refine ⟨t, rfl, ⟨us, g1⟩, fun Dl hD => ?_⟩
  obtain ⟨hB, hDd⟩ := s1.fresh hD
  refine lc_tup (K := X.K) (a := t) (xs := us) (Lc H1 X.K Dl d P) ⟨Ext.new hD, [], [], upd_same, DRl.nil, rfl, fun k w h => by cases h⟩ (fun i H' _ L => L.1.tk.sqT g1) (fun i y H' hy L => ?_) (fun H' L => ?_)
  · obtain ⟨w, hw, hr⟩ := g2.getV hy
    refine ⟨wipe1 _ _ _, ?_⟩
    exact ⟨(i, w), hw, st_wipe (s1.mono L.1) (R := dat X.K w) (hr.tk L.1.tk), fun y H2 e2 hy => lc_step hD hDd L e2 hy (Nat.lt_trans (List.getElem?_eq_some_iff.mp hw).1 hn)⟩
  · obtain ⟨h0, vs, ds, h1, h2, h3, h4⟩ := L
    exact q _ H' (e1.trans h0) ⟨ds, ⟨by rw [h3, g2.1], h4⟩, Dl, hB, rfl, hDd, vs, h1, h2⟩
/-- [elt for x in xs], xs a list at l -/
theorem x_lcL {src : List D} {l : Addr} (j : Nat) {x : Str} {scope : Scope} {tpos : Pos} (P : Nat → D → Prop) (hi : EX X B ρ iter (lstA X.K l src)) (hn : src.length < 2000) (hN : X.N.Nodup) (hok : BlkOk X.N X.env.scope scope [(x, j)])
    (hgn : ∀ (s : Shared) (H : Hp) (C : Addr) (cl : List (Str × Addr)) (fp : List Addr), PG (X.blk s H scope (compEnvC scope cl C X.env) fp) (.Name x tpos) (gName j))
    (hb : ∀ (s : Shared) (H : Hp) (C : Addr) (cl : List (Str × Addr)) (fp : List Addr) (i : Nat) (w : D), src[i]? = some w → EX (X.blk s H scope (compEnvC scope cl C X.env) fp) B (ρ.set j (some (dat X.K w))) elt (dE X.K (P i)))
    (hc : X.calm = true := by rfl) (hs : ∀ x, foldedSetIterable iter X.env x = pure x := by intro _; rfl) :
    EX X B ρ (.ListComp elt [⟨.Name x tpos, iter, [], 0⟩] scope pos) (newE B X.K fun ds => ds.length = src.length ∧ ∀ k w, ds[k]? = some w → P k w) := by
  refine PE_wk (pe_lc (own := [(x, j)]) (g := gName j) (tt := tYes) (te := tElt (Z := Nat × D) B X.K (fun z => ρ.set j (some (dat X.K z.2))) (fun z => src[z.1]? = some z.2) (fun z => P z.1)) hc hN (pi_list hi) hok hgn (fun _ _ _ _ _ => pts_nil) (fun s H C cl fp => elt_of fun z hz => hb s H C cl fp z.1 z.2 hz) hs) fun σ H Q ⟨s, q⟩ => ⟨s, fun v H1 e1 hv => ?_⟩
  obtain ⟨rfl, hld, us, g1, g2⟩ := hv
  have s1 := s.mono e1
  refine ⟨l, rfl, ⟨us, g1.sq⟩, fun Dl hD => ?_⟩
  obtain ⟨hB, hDd⟩ := s1.fresh hD
  refine lc_list (K := X.K) (a := l) (xs := us) (Lc H1 X.K Dl d P) ⟨Ext.new hD, [], [], upd_same, DRl.nil, rfl, fun k w h => by cases h⟩ (fun i H' _ L => (g1.ext L.1).sq) (fun i y H' hy L => ?_) (fun H' L => ?_)
  · obtain ⟨w, hw, hr⟩ := g2.getV hy
    refine ⟨wipe1 _ _ _, ?_⟩
    exact ⟨(i, w), hw, st_wipe (s1.mono L.1) (R := dat X.K w) (hr.tk L.1.tk), fun y H2 e2 hy => lc_step hD hDd L e2 hy (Nat.lt_trans (List.getElem?_eq_some_iff.mp hw).1 hn)⟩
  · obtain ⟨h0, vs, ds, h1, h2, h3, h4⟩ := L
    exact q _ H' (e1.trans h0) ⟨ds, ⟨by rw [h3, g2.1], h4⟩, Dl, hB, rfl, hDd, vs, h1, h2⟩
/-- what is told of each item makes the list, where it is one thing -/
theorem ds_of {F : Nat → D} : ∀ {ds : List D} {n : Nat}, ds.length = n → (∀ k w, ds[k]? = some w → w = F k) → ds = (List.range n).map F := fun {ds n} h1 h2 => by
  apply List.ext_getElem?
  intro i
  rw [List.getElem?_map, ]
  by_cases hi : i < n
  · rw [List.getElem?_range hi, List.getElem?_eq_getElem (by rw [h1]; exact hi)]
    show _ = some (F i)
    rw [← h2 i _ (List.getElem?_eq_getElem (by rw [h1]; exact hi))]
  · rw [List.getElem?_eq_none (by rw [h1]; exact Nat.le_of_not_lt hi), List.getElem?_eq_none (by rw [List.length_range]; exact Nat.le_of_not_lt hi)]
    rfl
theorem ints_of {P : Nat → Int → Prop} : ∀ {ds : List D}, (∀ k w, ds[k]? = some w → ∃ z, w = .i z ∧ P k z) → ∃ ns : List Int, ds = ns.map D.i ∧ ∀ k z, ns[k]? = some z → P k z := fun {ds} => by
  induction ds generalizing P with
  | nil => exact fun _ => ⟨[], rfl, fun k z h => by cases h⟩
  | cons e ds ih =>
    intro h
    obtain ⟨z, rfl, hz⟩ := h 0 e rfl
    obtain ⟨ns, rfl, hns⟩ := ih (P := fun k => P (k + 1)) fun k w hk => h (k + 1) w hk
    refine ⟨z :: ns, rfl, fun k y hk => ?_⟩
    cases k with
    | zero => cases hk; exact hz
    | succ k => exact hns k y hk
/-! ### a list times a number; a range's list; reverse -/
theorem x_rep {l0 : List D} (ha : EX X B ρ a (newL B X.K l0)) (hb : EX X B ρ b (rI n)) (hn : l0.length * n.toNat ≤ 1000) (h1 : -(2 ^ 62) ≤ n ∧ n < 2 ^ 62) : EX X B ρ (.BinOp a .Mult b pos) (newL B X.K (List.replicate n.toNat l0).flatten) :=
  x_op2 op_rep ha hb fun x y H σ Q s hx hy q => by
    obtain ⟨l, _, rfl, hl, vs, g1, g2⟩ := hx
    refine ⟨l, n, vs, rfl, hy, g1, by omega, by omega, by rw [← g2.1]; exact Nat.le_of_lt (small1000 hn), fun p hp => q _ _ (Ext.new hp) ?_⟩
    obtain ⟨hB, hpd⟩ := s.fresh hp
    refine ⟨p, hB, rfl, hpd, _, upd_same, DRl.tk (Ext.new (d := d) hp).tk ?_⟩
    have key : ∀ k : Nat, DRl X.K H (List.replicate k l0).flatten (List.replicate k vs).flatten := fun k => by
      induction k with
      | zero => exact DRl.nil
      | succ k ih =>
        rw [List.replicate_succ, List.replicate_succ, List.flatten_cons, List.flatten_cons]
        refine ⟨by rw [List.length_append, List.length_append, g2.1, ih.1], fun i e' v' h1 h2 => ?_⟩
        by_cases hi : i < l0.length
        · rw [List.getElem?_append_left hi] at h1
          rw [List.getElem?_append_left (by rw [← g2.1]; exact hi)] at h2
          exact g2.2 i e' v' h1 h2
        · rw [List.getElem?_append_right (by omega)] at h1
          rw [List.getElem?_append_right (by rw [← g2.1]; omega), ← g2.1] at h2
          exact ih.2 _ e' v' h1 h2
    exact key n.toNat
theorem x_listR {p p2 p3 : Pos} (hg : Gl X "list") (hm : X.mg "list" = none) (hg2 : Gl X "range") (hm2 : X.mg "range" = none) (hi : EX X B ρ e (rI n)) (hn : 0 ≤ n ∧ n ≤ 1000) (hc : X.calm = true := by rfl) (na : starEach [e] X.env = (false, eval e X.env) :: starEach [] X.env := by rfl)
    (na2 : starEach [.Call (.Name "range" p2) [e] [] p3] X.env = (false, eval (.Call (.Name "range" p2) [e] [] p3) X.env) :: starEach [] X.env := by rfl) : EX X B ρ (.Call (.Name "list" p) [.Call (.Name "range" p2) [e] [] p3] [] pos) (newL B X.K ((List.range n.toNat).map fun (i : Nat) => D.i (i : Int))) :=
  PE_wk (pe_listRg hc hg hm (prg_1 hg2 hm2 hi na) na2) fun σ H Q ⟨s, q⟩ => ⟨s, fun v H1 e1 hv => by
    obtain rfl : v = .int n := hv
    refine ⟨n, rfl, RgOk.of_le (by omega) (by omega) (by omega) (by omega), fun r hr => q _ _ (e1.trans (Ext.new hr)) ?_⟩
    obtain ⟨hB, hpd⟩ := (s.mono e1).fresh hr
    refine ⟨r, hB, rfl, hpd, _, upd_same, ?_⟩
    have e0 : rgV 0 n = ((List.range n.toNat).map fun (i : Nat) => (i : Int)).map V.int := by
      unfold rgV
      rw [List.map_map, Int.sub_zero]
      apply List.map_congr_left
      intro i _
      show V.int ((0 : Int) + (i : Nat)) = V.int (i : Int)
      rw [Int.zero_add]
    have e2 : ((List.range n.toNat).map fun (i : Nat) => D.i (i : Int)) = ((List.range n.toNat).map fun (i : Nat) => (i : Int)).map D.i := by rw [List.map_map]; rfl
    rw [e0, e2]
    exact DRl.of_ints _⟩
theorem x_tupR {p p2 p3 : Pos} (hg : Gl X "tuple") (hm : X.mg "tuple" = none) (hg2 : Gl X "range") (hm2 : X.mg "range" = none) (hi : EX X B ρ e (rI n)) (hn : 0 ≤ n ∧ n ≤ 1000) (hc : X.calm = true := by rfl) (na : starEach [e] X.env = (false, eval e X.env) :: starEach [] X.env := by rfl)
    (na2 : starEach [.Call (.Name "range" p2) [e] [] p3] X.env = (false, eval (.Call (.Name "range" p2) [e] [] p3) X.env) :: starEach [] X.env := by rfl) : EX X B ρ (.Call (.Name "tuple" p) [.Call (.Name "range" p2) [e] [] p3] [] pos) (dat X.K (tI ((List.range n.toNat).map fun (i : Nat) => (i : Int)))) :=
  PE_wk (pe_tupRg hc hg hm (prg_1 hg2 hm2 hi na) na2) fun σ H Q ⟨s, q⟩ => ⟨s, fun v H1 e1 hv => by
    obtain rfl : v = .int n := hv
    refine ⟨n, rfl, RgOk.of_le (by omega) (by omega) (by omega) (by omega), fun r hr => q _ _ (e1.trans (Ext.new hr)) ?_⟩
    have e0 : rgV 0 n = ((List.range n.toNat).map fun (i : Nat) => (i : Int)).map V.int := by
      unfold rgV
      rw [List.map_map, Int.sub_zero]
      apply List.map_congr_left
      intro i _
      show V.int ((0 : Int) + (i : Nat)) = V.int (i : Int)
      rw [Int.zero_add]
    rw [e0]
    exact DR.of_tup (SqT.of upd_same) (DRl.of_ints _)⟩
/-- x.reverse(), x in slot i -/
theorem bx_reverse (i : Nat) {x : Str} {p1 p2 p3 p4 : Pos} {K : PySem.W.Frag} {l : Addr} {ds : List D} (hi : ρ[i]? = some (some (own K l ds))) (hK : X.K = K) (hB : B l = none) (hb : IndBut l i ρ) (h : BX X rest (St B (ρ.set i (some (own K l ds.reverse)))) Po)
    (hN : X.N[i]? = some x := by rfl) (hv : Vis X.env.scope x := by first | exact Or.inl rfl | exact Or.inr (Or.inl rfl) | exact Or.inr (Or.inr rfl)) (hd : (x == ("__debug__" : Str)) = false := by decide) (hcd : (x == ("__classdict__" : Str)) = false := by decide)
    (hbase : attributeBase (.Name x p1) "reverse" X.env (eval (.Name x p1) X.env) = eval (.Name x p1) X.env := by rfl) (hline : (p2.endLine == p3.line) = true := by rfl)
    (hsw : swapsWith (.Call (.Attribute (.Name x p1) "reverse" p2) [] [] p3) none p4.line X.env = pure false := by rfl) :
    BX X (.Expr (.Call (.Attribute (.Name x p1) "reverse" p2) [] [] p3) p4 :: rest) (St B ρ) Po := by
  subst hK
  refine bx_cons (Mid := St B (ρ.set i (some (own X.K l ds.reverse)))) ?_ h
  refine PS_wk (ps_expr (pe_bm0 PySem.F.plainAttrs_list PySem.F.slot_list_reverse PySem.F.type_list_reverse mt_reverse (pe_var hN hv hd hcd) hbase hline) hsw) fun E σ H ⟨s, q⟩ => ?_
  obtain ⟨v, h1, rfl, hl, vs, h2, h3⟩ := s.good.get hi
  refine ⟨_, h1, Or.inl ⟨rfl, _, SqL.of h2⟩, l, vs, rfl, rfl, h2, ?_⟩
  refine q.nx σ _ (Tk.lst h2) (st_own s hi hB hb ⟨by simp [h3.1], fun j e' v' b1 b2 => ?_⟩)
  have hj : j < ds.length := by
    have := (List.getElem?_eq_some_iff.mp b1).1
    simpa using this
  rw [List.getElem?_reverse hj] at b1
  rw [List.getElem?_reverse (by rw [← h3.1]; exact hj), ← h3.1] at b2
  exact h3.2 _ e' v' b1 b2
end
end Cv

namespace Cv
open PySem PySem.Spec PyProof.Rows L2 RZ
/-! ### data compared -/
mutual
def D.py : D → PyData
  | .i n => .int n
  | .b k => .bool k
  | .n => .none
  | .s x => .str x
  | .t xs => .tuple (pyL xs)
def pyL : List D → List PyData
  | [] => []
  | e :: r => e.py :: pyL r
end
theorem dpAll_of {K : PySem.W.Frag} {H : Hp} : ∀ {ds : List D} {vs : List V}, ds.length = vs.length → (∀ (i : Nat) (e : D) (v : V), ds[i]? = some e → vs[i]? = some v → Dp K H v e.py) → DpAll K H vs (pyL ds)
  | [], [], _, _ => .nil
  | [], _ :: _, h, _ => absurd h (by simp)
  | _ :: _, [], h, _ => absurd h (by simp)
  | e :: ds, v :: vs, h, g => .cons (g 0 e v rfl rfl) (dpAll_of (by simpa using h) fun i e' v' a b => g (i + 1) e' v' a b)
theorem dp_of {K : PySem.W.Frag} {H : Hp} {e : D} {v : V} (h : DR K H e v) : Dp K H v e.py := by
  induction h with
  | i n => exact .int n
  | b k => exact .bl k
  | n => exact .non
  | s x => exact .str x
  | t h hl _ ih => exact .tup h (dpAll_of hl ih)
/-- plain data (no bools) of a depth -/
inductive Shp : Nat → D → Prop
  | i {k : Nat} (n : Int) : Shp k (.i n)
  | n {k : Nat} : Shp k .n
  | s {k : Nat} (x : Str) (h : PyData.strOk x = true) : Shp k (.s x)
  | t {k : Nat} {xs : List D} (h : ∀ e ∈ xs, Shp k e) : Shp (k + 1) (.t xs)
theorem shpL {k : Nat} : ∀ {xs : List D}, (∀ e ∈ xs, e.py.canLay0 = true ∧ e.py.depth ≤ k) → PyData.canLayAll0 (pyL xs) = true ∧ PyData.depthAll (pyL xs) ≤ k
  | [], _ => ⟨by simp [pyL, PyData.canLayAll0], by simp [pyL, PyData.depthAll]⟩
  | e :: r, h => by
    obtain ⟨h1, h2⟩ := h e List.mem_cons_self
    obtain ⟨h3, h4⟩ := shpL (xs := r) fun e' he => h e' (List.mem_cons_of_mem _ he)
    refine ⟨?_, ?_⟩
    · simp only [pyL, PyData.canLayAll0, h1, h3, Bool.and_self]
    · simp only [pyL, PyData.depthAll]
      exact Nat.max_le.mpr ⟨h2, h4⟩
theorem Shp.lay {k : Nat} {e : D} (h : Shp k e) : e.py.canLay0 = true ∧ e.py.depth ≤ k := by
  induction h with
  | i n => exact ⟨by simp [D.py, PyData.canLay0], by simp [D.py, PyData.depth]⟩
  | n => exact ⟨by simp [D.py, PyData.canLay0], by simp [D.py, PyData.depth]⟩
  | s x h => exact ⟨by simpa [D.py, PyData.canLay0] using h, by simp [D.py, PyData.depth]⟩
  | t _ ih =>
    obtain ⟨h1, h2⟩ := shpL ih
    exact ⟨by simpa [D.py, PyData.canLay0] using h1, by simpa [D.py, PyData.depth] using h2⟩
theorem Shp.shaped {k : Nat} {e : D} (h : Shp k e) (hk : k ≤ 64) : SeqAt.shaped e.py = true := by
  obtain ⟨h1, h2⟩ := h.lay
  unfold SeqAt.shaped
  rw [h1, Bool.true_and]
  exact decide_eq_true (Nat.le_trans h2 hk)
theorem eqvL : ∀ {xs ys : List D}, (∀ e ∈ xs, ∀ {f : D}, (∃ k, Shp k f) → (PyData.eqv e.py f.py = true ↔ e = f)) → (∀ f ∈ ys, ∃ k, Shp k f) → (PyData.eqvAll (pyL xs) (pyL ys) = true ↔ xs = ys)
  | [], [], _, _ => by simp [pyL, PyData.eqvAll]
  | [], _ :: _, _, _ => by simp [pyL, PyData.eqvAll]
  | _ :: _, [], _, _ => by simp [pyL, PyData.eqvAll]
  | x :: xs, y :: ys, h, g => by
    have h1 := h x List.mem_cons_self (f := y) (g y List.mem_cons_self)
    have h2 := eqvL (xs := xs) (ys := ys) (fun e he => h e (List.mem_cons_of_mem _ he)) fun f hf => g f (List.mem_cons_of_mem _ hf)
    simp only [pyL, PyData.eqvAll, Bool.and_eq_true, h1, h2, List.cons.injEq]
theorem Shp.eqv {k : Nat} {e : D} (h : Shp k e) : ∀ {f : D}, (∃ j, Shp j f) → (PyData.eqv e.py f.py = true ↔ e = f) := by
  induction h with
  | i n =>
    rintro f ⟨j, hf⟩
    cases hf with
    | i m => simp [D.py, PyData.eqv]
    | n => simp [D.py, PyData.eqv]
    | s y _ => simp [D.py, PyData.eqv]
    | t _ => simp [D.py, PyData.eqv]
  | n =>
    rintro f ⟨j, hf⟩
    cases hf with
    | i m => simp [D.py, PyData.eqv]
    | n => simp [D.py, PyData.eqv]
    | s y _ => simp [D.py, PyData.eqv]
    | t _ => simp [D.py, PyData.eqv]
  | s x _ =>
    rintro f ⟨j, hf⟩
    cases hf with
    | i m => simp [D.py, PyData.eqv]
    | n => simp [D.py, PyData.eqv]
    | s y _ => simp [D.py, PyData.eqv]
    | t _ => simp [D.py, PyData.eqv]
  | @t k xs _ ih =>
    rintro f ⟨j, hf⟩
    cases hf with
    | i m => simp [D.py, PyData.eqv]
    | n => simp [D.py, PyData.eqv]
    | s y _ => simp [D.py, PyData.eqv]
    | @t j' ys g =>
      have := eqvL (xs := xs) (ys := ys) (fun e he {f} hf => ih e he hf) fun f hf => ⟨_, g f hf⟩
      simpa [D.py, PyData.eqv] using this
theorem shp_tI {k : Nat} (ns : List Int) : Shp (k + 1) (tI ns) := .t fun e he => by
  obtain ⟨n, _, rfl⟩ := List.mem_map.mp he
  exact .i n
section
variable {d : Option Addr} {X : Cx} {B : Hp} {ρ ρ' : Ro d} {a b c e iter elt : Expr} {es : List Expr} {R R' Ra Rb : Rp d} {Rs : List (Rp d)} {pos : Pos} {m n : Int} {st : Stmt} {rest body orelse : List Stmt} {Pre Mid : L2.St → Hp → Prop} {Po : Ends}
theorem bool_iff {k : Bool} {P : Prop} [Decidable P] (h : k = true ↔ P) : k = decide P := by
  by_cases hp : P
  · rw [decide_eq_true hp]; exact h.mpr hp
  · rw [decide_eq_false hp]
    cases k with
    | true => exact absurd (h.mp rfl) hp
    | false => rfl
theorem t_eqD {x y : D} {k j : Nat} (hu : X.A.units + 64 < cLine) (ha : EX X B ρ a (dat X.K x)) (hb : EX X B ρ b (dat X.K y)) (hx : Shp k x) (hy : Shp j y) (hk : k ≤ 64 := by decide) (hj : j ≤ 64 := by decide) : TX X B ρ (.Compare a [.Eq] [b] pos) (fun q => q = true ↔ x = y) :=
  t_cmp (op_eqD hu) (nomark _) ha hb fun u v H σ Q _ hx' hy' q => ⟨x.py, y.py, dp_of hx', dp_of hy', hx.shaped hk, hy.shaped hj, q _ H (Ext.refl H) (hx.eqv ⟨_, hy⟩)⟩
theorem t_neD {x y : D} {k j : Nat} (hu : X.A.units + 64 < cLine) (ha : EX X B ρ a (dat X.K x)) (hb : EX X B ρ b (dat X.K y)) (hx : Shp k x) (hy : Shp j y) (hk : k ≤ 64 := by decide) (hj : j ≤ 64 := by decide) : TX X B ρ (.Compare a [.NotEq] [b] pos) (fun q => q = false ↔ x = y) :=
  t_cmp (op_neD hu) (nomark _) ha hb fun u v H σ Q _ hx' hy' q => ⟨x.py, y.py, dp_of hx', dp_of hy', hx.shaped hk, hy.shaped hj, q _ H (Ext.refl H) (by have := hx.eqv ⟨_, hy⟩; rw [← this]; cases PyData.eqv x.py y.py <;> simp)⟩
theorem x_eqD {x y : D} {k j : Nat} (hu : X.A.units + 64 < cLine) (ha : EX X B ρ a (dat X.K x)) (hb : EX X B ρ b (dat X.K y)) (hx : Shp k x) (hy : Shp j y) (hk : k ≤ 64 := by decide) (hj : j ≤ 64 := by decide) : EX X B ρ (.Compare a [.Eq] [b] pos) (exR (fun q => q = true ↔ x = y) rB) :=
  x_cmp (op_eqD hu) (nomark _) ha hb fun u v H σ Q _ hx' hy' q => ⟨x.py, y.py, dp_of hx', dp_of hy', hx.shaped hk, hy.shaped hj, q _ H (Ext.refl H) ⟨_, hx.eqv ⟨_, hy⟩, rfl⟩⟩
theorem t_isN {x : D} {K : PySem.W.Frag} {j : Nat} {p2 : Pos} (ha : EX X B ρ a (dat K x)) : TX X B ρ (.Compare a [.Is] [.Constant .none j p2] pos) (fun q => q = true ↔ x = .n) :=
  t_cmp op_isN (nomark _) ha (x_non (K := K)) fun u v H σ Q _ hx' hy' q => by
    cases hy'
    refine ⟨rfl, q _ H (Ext.refl H) ?_⟩
    cases hx' <;> simp
theorem x_isN {x : D} {K : PySem.W.Frag} {j : Nat} {p2 : Pos} (ha : EX X B ρ a (dat K x)) : EX X B ρ (.Compare a [.Is] [.Constant .none j p2] pos) (exR (fun q => q = true ↔ x = .n) rB) :=
  x_cmp op_isN (nomark _) ha (x_non (K := K)) fun u v H σ Q _ hx' hy' q => by
    cases hy'
    refine ⟨rfl, q _ H (Ext.refl H) ⟨_, ?_, rfl⟩⟩
    cases hx' <;> simp
theorem t_notN {x : D} {K : PySem.W.Frag} {j : Nat} {p2 : Pos} (ha : EX X B ρ a (dat K x)) : TX X B ρ (.Compare a [.IsNot] [.Constant .none j p2] pos) (fun q => q = false ↔ x = .n) :=
  t_cmp op_notN (nomark _) ha (x_non (K := K)) fun u v H σ Q _ hx' hy' q => by
    cases hy'
    refine ⟨rfl, q _ H (Ext.refl H) ?_⟩
    cases hx' <;> simp
theorem x_notN {x : D} {K : PySem.W.Frag} {j : Nat} {p2 : Pos} (ha : EX X B ρ a (dat K x)) : EX X B ρ (.Compare a [.IsNot] [.Constant .none j p2] pos) (exR (fun q => q = false ↔ x = .n) rB) :=
  x_cmp op_notN (nomark _) ha (x_non (K := K)) fun u v H σ Q _ hx' hy' q => by
    cases hy'
    refine ⟨rfl, q _ H (Ext.refl H) ⟨_, ?_, rfl⟩⟩
    cases hx' <;> simp
theorem t_neB {p q : Bool} (ha : EX X B ρ a (rB p)) (hb : EX X B ρ b (rB q)) : TX X B ρ (.Compare a [.NotEq] [b] pos) (is (!decide (p = q))) := t_cmp op_ne (nomark _) ha hb fun x y H σ Q _ hx hy k => by
  subst hx; subst hy
  exact ⟨rfl, k _ H (Ext.refl H) (by show (!decide (V.bl p = V.bl q)) = _; rw [dec_bl, Bool.beq_eq_decide_eq])⟩
theorem t_neBE {P S : Bool → Prop} (ha : EX X B ρ a (exR P rB)) (hb : EX X B ρ b (exR S rB)) : TX X B ρ (.Compare a [.NotEq] [b] pos) (fun k => ∃ p q, P p ∧ S q ∧ k = !decide (p = q)) := t_cmp op_ne (nomark _) ha hb fun x y H σ Q _ hx hy k => by
  obtain ⟨p, hp, hx⟩ := hx
  obtain ⟨q, hq, hy⟩ := hy
  subst hx; subst hy
  exact ⟨rfl, k _ H (Ext.refl H) ⟨p, q, hp, hq, by show (!decide (V.bl p = V.bl q)) = _; rw [dec_bl, Bool.beq_eq_decide_eq]⟩⟩
theorem t_eqBE {P S : Bool → Prop} (ha : EX X B ρ a (exR P rB)) (hb : EX X B ρ b (exR S rB)) : TX X B ρ (.Compare a [.Eq] [b] pos) (fun k => ∃ p q, P p ∧ S q ∧ k = decide (p = q)) := t_cmp op_eq (nomark _) ha hb fun x y H σ Q _ hx hy k => by
  obtain ⟨p, hp, hx⟩ := hx
  obtain ⟨q, hq, hy⟩ := hy
  subst hx; subst hy
  exact ⟨rfl, k _ H (Ext.refl H) ⟨p, q, hp, hq, by rw [dec_bl, Bool.beq_eq_decide_eq]⟩⟩
theorem x_B {k : Bool} (h : EX X B ρ e (rB k)) : EX X B ρ e (exR (is k) rB) := x_sub h fun v H hv => ⟨k, rfl, hv⟩
theorem t_valE {P : Bool → Prop} (h : EX X B ρ e (exR P rB)) (he : ∀ whole, isTrue e X.env whole = (do let v ← whole; standAt e.pos; holding [v] (truthy v)) := by intro _; rfl) : TX X B ρ e P :=
  PT_wk (pt_val h he) fun σ H Q ⟨s, q⟩ => ⟨s, fun v H' e1 ⟨k, hk, hv⟩ => ⟨k, hv, q k H' e1 hk⟩⟩
theorem t_eqE {P S : Int → Prop} (ha : EX X B ρ a (iE P)) (hb : EX X B ρ b (iE S)) : TX X B ρ (.Compare a [.Eq] [b] pos) (fun k => ∃ i j, P i ∧ S j ∧ k = decide (i = j)) := t_cmp op_eq (nomark _) ha hb fun x y H σ Q _ hx hy q => by
  obtain ⟨i, hi, hx⟩ := hx
  obtain ⟨j, hj, hy⟩ := hy
  subst hx; subst hy
  exact ⟨rfl, q _ H (Ext.refl H) ⟨i, j, hi, hj, by rw [dec_int, Bool.beq_eq_decide_eq]⟩⟩
/-! ### isinstance of data -/
def tyD : D → String
  | .i _ => "int"
  | .b _ => "bool"
  | .n => "NoneType"
  | .s _ => "str"
  | .t _ => "tuple"
theorem tyX_of {K : PySem.W.Frag} {H : Hp} {x : D} {v : V} (h : DR K H x v) : TyX K H v (.type (tyD x)) := by
  cases h with
  | i n => exact .base (.int n)
  | b k => exact .base (.bl k)
  | n => exact .base .non
  | s z => exact .base (.str z)
  | t h _ _ =>
    rcases h with (h | ⟨o, h⟩) | ⟨o, its, n, h1, h2, _⟩
    · exact .base (.tup h)
    · exact .fTuple h
    · exact .kTuple h1 h2
theorem x_isi {x : D} {T : Str} (t ty0 : String) (r : Bool) {p p2 : Pos} (hg : Gl X "isinstance") (hm : X.mg "isinstance" = none) (hgT : Gl X T) (hmT : X.mg T = none) (hT : bootBuiltins T = some (.type t)) (hty : tyD x = ty0) (hk : kitB ty0 t = some r) (h : EX X B ρ e (dat X.K x)) (hn : T ≠ "__name__" := by decide) (hdb : (T == ("__debug__" : Str)) = false := by decide)
    (he : starEach [e, .Name T p2] X.env = (false, eval e X.env) :: starEach [.Name T p2] X.env := by rfl) (he2 : starEach [.Name T p2] X.env = (false, eval (.Name T p2) X.env) :: starEach [] X.env := by rfl) (hpl : (backTo pos (starEach [.Name T p2] X.env)).any (·.1) = false := by rfl) : EX X B ρ (.Call (.Name "isinstance" p) [e, .Name T p2] [] pos) (rB r) :=
  x_callB (Rs := [dat X.K x, ⟨fun v _ => v = .ty t, fun _ h => h⟩]) call_isi hg hm (by decide +kernel) (a_cons h (a_cons (PE_wk (pe_bltn (v := .ty t) hgT hmT hT rfl hn hdb) fun σ H Q ⟨s, q⟩ => q _ H (Ext.refl H) rfl) a_nil he2) he) (fun vs H σ Q s hv q => by
    obtain ⟨u, w, rfl, h1, h2⟩ := hv.two
    subst hty
    exact ⟨u, w, .type (tyD x), .type t, r, rfl, by rw [show w = .ty t from h2]; exact .ty t, tyX_of h1, kit_ty hk, q _ H (Ext.refl H) rfl⟩) (he := he) (hpl := hpl)
/-! ### and, or, not as values (bools) -/
theorem x_one {op : BoolOp} (h : EX X B ρ a R) : EX X B ρ (.BoolOp op [a] pos) R := pe_one h
theorem x_and {P S : Bool → Prop} (ha : EX X B ρ a (exR P rB)) (hb : P true → EX X B ρ (.BoolOp .And (b :: es) pos) (exR S rB)) : EX X B ρ (.BoolOp .And (a :: b :: es) pos) (exR (fun k => (P true ∧ S k) ∨ (P false ∧ k = false)) rB) := by
  by_cases hp : P true
  · exact PE_wk (pe_and ha (hb hp)) fun σ H Q ⟨s, q⟩ => ⟨s, fun v H1 e1 ⟨k, hk, hv⟩ => ⟨k, hv, by
      cases k with
      | true => exact iteT ⟨s.mono e1, fun v2 H2 e2 ⟨k2, hk2, hv2⟩ => q v2 H2 (e1.trans e2) ⟨k2, .inl ⟨hp, hk2⟩, hv2⟩⟩
      | false => exact iteF (q _ H1 e1 ⟨false, .inr ⟨hk, rfl⟩, rfl⟩)⟩⟩
  · refine ⟨fun pins s σ H Q I ⟨st, q⟩ => ?_⟩
    refine BoolOp_and (thn (ha.run pins s σ H (fun v H' => v = .bl false ∧ Q v H') I ⟨st, fun v H' e1 ⟨k, hk, hv⟩ => ?_⟩) fun v s1 ⟨x, H1, I1, r1, q1⟩ => ?_)
    · cases k with
      | true => exact absurd hk hp
      | false => exact ⟨hv, q v H' e1 ⟨false, .inr ⟨hk, rfl⟩, hv⟩⟩
    · obtain ⟨rfl, q1⟩ := q1
      cases r1
      exact wpAny_truthy_bool ⟨.bl false, H1, I1, rfl, q1⟩
theorem x_or {P S : Bool → Prop} (ha : EX X B ρ a (exR P rB)) (hb : P false → EX X B ρ (.BoolOp .Or (b :: es) pos) (exR S rB)) : EX X B ρ (.BoolOp .Or (a :: b :: es) pos) (exR (fun k => (P false ∧ S k) ∨ (P true ∧ k = true)) rB) := by
  by_cases hp : P false
  · exact PE_wk (pe_or ha (hb hp)) fun σ H Q ⟨s, q⟩ => ⟨s, fun v H1 e1 ⟨k, hk, hv⟩ => ⟨k, hv, by
      cases k with
      | true => exact iteT (q _ H1 e1 ⟨true, .inr ⟨hk, rfl⟩, rfl⟩)
      | false => exact iteF ⟨s.mono e1, fun v2 H2 e2 ⟨k2, hk2, hv2⟩ => q v2 H2 (e1.trans e2) ⟨k2, .inl ⟨hp, hk2⟩, hv2⟩⟩⟩⟩
  · refine ⟨fun pins s σ H Q I ⟨st, q⟩ => ?_⟩
    refine BoolOp_or (thn (ha.run pins s σ H (fun v H' => v = .bl true ∧ Q v H') I ⟨st, fun v H' e1 ⟨k, hk, hv⟩ => ?_⟩) fun v s1 ⟨x, H1, I1, r1, q1⟩ => ?_)
    · cases k with
      | false => exact absurd hk hp
      | true => exact ⟨hv, q v H' e1 ⟨true, .inr ⟨hk, rfl⟩, hv⟩⟩
    · obtain ⟨rfl, q1⟩ := q1
      cases r1
      exact wpAny_truthy_bool ⟨.bl true, H1, I1, rfl, q1⟩
theorem x_not {P : Bool → Prop} (h : EX X B ρ a (exR P rB)) : EX X B ρ (.UnaryOp .Not a pos) (exR (fun k => P (!k)) rB) :=
  PE_wk (pe_not h) fun σ H Q ⟨s, q⟩ => ⟨s, fun v H1 e1 ⟨k, hk, hv⟩ => ⟨k, hv, q _ H1 e1 ⟨!k, by show P (!!k); rw [Bool.not_not]; exact hk, rfl⟩⟩⟩
theorem x_bE {P S : Bool → Prop} (h : EX X B ρ e (exR P rB)) (w : ∀ k, P k → S k) : EX X B ρ e (exR S rB) := x_sub h fun v H ⟨k, hk, hv⟩ => ⟨k, w k hk, hv⟩
theorem x_bIs {P : Bool → Prop} {k : Bool} (h : EX X B ρ e (exR P rB)) (w : ∀ q, P q → q = k) : EX X B ρ e (rB k) := x_sub h fun v H ⟨q, hq, hv⟩ => by rw [w q hq] at hv; exact hv
end
end Cv

namespace Cv
open PySem PySem.Spec PyProof.Rows L2 RZ
section
variable {d : Option Addr} {X : Cx} {B : Hp} {ρ ρ' : Ro d} {a b c e iter elt : Expr} {es : List Expr} {R R' Ra Rb : Rp d} {Rs : List (Rp d)} {pos : Pos} {m n : Int} {st : Stmt} {rest body orelse : List Stmt} {Pre Mid : L2.St → Hp → Prop} {Po : Ends}
/-! ### instances -/
def FsH (F : List (Str × Rp d)) (fs : List (Str × V)) (H : Hp) : Prop := ∀ (i : Nat) (f : Str) (R : Rp d), F[i]? = some (f, R) → ∃ v, fs.lookup f = some v ∧ R.p v H
theorem FsH.mono {F : List (Str × Rp d)} {fs : List (Str × V)} {H H' : Hp} (e : Ext d H H') (h : FsH F fs H) : FsH F fs H' := fun i f R k => let ⟨v, a, b⟩ := h i f R k; ⟨v, a, R.st e b⟩
/-- an instance of the class at C, at x -/
def insA (C x : Addr) (F : List (Str × Rp d)) : Rp d := ⟨fun v H => v = .ref x ∧ ∃ dx fs, H x = some (.ins C dx fs) ∧ fs.length ≤ F.length ∧ FsH F fs H, fun e ⟨h0, dx, fs, h1, h2, h3⟩ => ⟨h0, dx, fs, e.keep _ _ h1 fun _ _ q => (by cases q), h2, h3.mono e⟩⟩
def insR (C : Addr) (F : List (Str × Rp d)) : Rp d := exR (fun _ => True) fun x => insA C x F
theorem x_insR {C x : Addr} {F : List (Str × Rp d)} (h : EX X B ρ e (insA C x F)) : EX X B ρ e (insR C F) := x_sub h fun v H hv => ⟨x, trivial, hv⟩
theorem x_fld {C : Addr} {F : List (Str × Rp d)} {f : Str} (i : Nat) (cl : Cls X.K C) (na : NoAttr X.K C f) (h : EX X B ρ e (insR C F)) (hi : F[i]? = some (f, R) := by rfl) (hb : attributeBase e f X.env (eval e X.env) = eval e X.env := by rfl) : EX X B ρ (.Attribute e f pos) R :=
  PE_wk (pe_fld h hb) fun σ H Q ⟨s, q⟩ => ⟨s, fun v H1 e1 hv => by
    obtain ⟨x, _, rfl, dx, fs, h1, h2, h3⟩ := hv
    obtain ⟨u, hu, hr⟩ := h3 i f R hi
    exact ⟨x, C, dx, fs, u, rfl, h1, cl, na, hu, q u H1 e1 hr⟩⟩
def IndO (x : Addr) (R : Rp d) : Prop := ∀ v H C dx fs fs', H x = some (.ins C dx fs) → R.p v H → R.p v (upd H x (.ins C dx fs'))
theorem tk_ins {H : Hp} {x C dx : Addr} {fs fs' : List (Str × V)} (h : H x = some (.ins C dx fs)) : Tk H (upd H x (.ins C dx fs')) := by
  refine ⟨fun a zs e => ?_, fun a o u e => ?_⟩
  · have : a ≠ x := fun q => by rw [q, h] at e; cases e
    rw [upd_ne this]; exact e
  · have : a ≠ x := fun q => by rw [q, h] at e; cases e
    rw [upd_ne this]; exact e
theorem io_I {x : Addr} {n : Int} : IndO x (rI (d := d) n) := fun _ _ _ _ _ _ _ h => h
theorem io_any {x : Addr} : IndO x (rAny (d := d)) := fun _ _ _ _ _ _ _ h => h
theorem io_dat {x : Addr} {K : PySem.W.Frag} {w : D} : IndO x (dat (d := d) K w) := fun _ _ _ _ _ _ hx h => h.tk (tk_ins hx)
theorem io_own {x l : Addr} {K : PySem.W.Frag} {ds : List D} : IndO x (own (d := d) K l ds) := fun _ H _ _ _ _ hx ⟨h1, h2, us, h3, h4⟩ => ⟨h1, h2, us, by rw [upd_ne (show l ≠ x from fun z => by rw [z, hx] at h3; cases h3)]; exact h3, h4.tk (tk_ins hx)⟩
theorem io_lstA {x l : Addr} {K : PySem.W.Frag} {ds : List D} : IndO x (lstA (d := d) K l ds) := fun _ H _ _ _ _ hx ⟨h1, h2, us, h3, h4⟩ => ⟨h1, h2, us, by
  rcases h3 with ⟨k, h⟩ | ⟨o, h⟩ | h
  · exact .inl ⟨k, by rw [upd_ne (show l ≠ x from fun z => by rw [z, hx] at h; cases h)]; exact h⟩
  · exact .inr (.inl ⟨o, by rw [upd_ne (show l ≠ x from fun z => by rw [z, hx] at h; cases h)]; exact h⟩)
  · exact .inr (.inr h), h4.tk (tk_ins hx)⟩
theorem io_ex {x : Addr} {α : Type} {P : α → Prop} {Rz : α → Rp d} (h : ∀ z, IndO x (Rz z)) : IndO x (exR P Rz) := fun v H C dx fs fs' hx ⟨z, hz, q⟩ => ⟨z, hz, h z v H C dx fs fs' hx q⟩
def IoBut (x : Addr) (i : Nat) (r : Ro d) : Prop := ∀ (j : Nat) (R : Rp d), j ≠ i → r[j]? = some (some R) → IndO x R
/-- self.f = e (self in slot i) -/
theorem bx_setfld (i : Nat) {x : Str} {p1 p2 : Pos} {C y : Addr} {F : List (Str × Rp d)} {f : Str} (hi : ρ[i]? = some (some (insA C y F))) (hF : F.length ≤ 50) (cl : Cls X.K C) (na : NoAttr X.K C f) (he : EX X B ρ e R) (hB : B y = none) (hb : IoBut y i ρ) (hR : IndO y R) (hFs : ∀ p ∈ F, IndO y p.2 ∧ p.1 ≠ f)
    (h : BX X rest (St B (ρ.set i (some (insA C y ((f, R) :: F))))) Po)
    (hN : X.N[i]? = some x := by rfl) (hv : Vis X.env.scope x := by first | exact Or.inl rfl | exact Or.inr (Or.inl rfl) | exact Or.inr (Or.inr rfl)) (hd : (x == ("__debug__" : Str)) = false := by decide) (hcd : (x == ("__classdict__" : Str)) = false := by decide)
    (hs : swapsWith e (some (.Attribute (.Name x p1) f p2)) pos.line X.env = pure false := by rfl) :
    BX X (.Assign [.Attribute (.Name x p1) f p2] e pos :: rest) (St B ρ) Po := by
  refine bx_cons (Mid := St B (ρ.set i (some (insA C y ((f, R) :: F))))) ?_ h
  refine PS_wk (ps_fld (pe_var hN hv hd hcd) he hs) fun E σ H ⟨s, q⟩ => ⟨s, fun v H1 e1 hvv => ?_⟩
  have s1 := s.mono e1
  obtain ⟨u, a1, rfl, dx, fs, a2, a3, a4⟩ := s1.good.get hi
  refine ⟨_, a1, y, C, dx, fs, rfl, a2, cl, na, by omega, ?_⟩
  have hyd : some y ≠ d := fun z => by
    obtain ⟨ns, _, q'⟩ := s1.dr y z.symm
    rw [a2] at q'; cases q'
  refine q.nx σ _ (e1.tk.trans (tk_ins a2)) ⟨s1.ext.mut hB hyd, fun a' z => ?_, by simp [s1.good.1], fun j R' hj => ?_⟩
  · obtain ⟨ns, hn, q'⟩ := s1.dr a' z
    have : a' ≠ y := fun w => hyd (by rw [z, w])
    exact ⟨ns, hn, by rw [upd_ne this]; exact q'⟩
  · by_cases hij : j = i
    · subst hij
      have hlt : j < ρ.length := (List.getElem?_eq_some_iff.mp hi).1
      rw [List.getElem?_set_self hlt] at hj
      cases hj
      refine ⟨_, a1, rfl, dx, _, upd_same, ?_, fun k g R'' hk => ?_⟩
      · exact Nat.le_trans (length_putF f v fs) (by simpa using a3)
      · rw [lookup_putF]
        cases k with
        | zero => cases hk; rw [if_pos rfl]; exact ⟨v, rfl, hR v H1 C dx fs _ a2 hvv⟩
        | succ k =>
          have hm : (g, R'') ∈ F := List.mem_of_getElem? hk
          obtain ⟨w1, w2⟩ := hFs _ hm
          rw [if_neg w2]
          obtain ⟨v', b1, b2⟩ := a4 k g R'' hk
          exact ⟨v', b1, w1 v' H1 C dx fs _ a2 b2⟩
    · rw [List.getElem?_set_ne (fun z => hij z.symm)] at hj
      obtain ⟨v', b1, b2⟩ := s1.good.get hj
      exact ⟨v', b1, hb j R' hij hj v' H1 C dx fs _ a2 b2⟩
theorem io_insA {x y C' : Addr} {F : List (Str × Rp d)} (hne : y ≠ x) (h : ∀ p ∈ F, IndO x p.2) : IndO x (insA C' y F) := fun v H C dx fs fs' hx ⟨h0, dy, gs, h1, h2, h3⟩ => ⟨h0, dy, gs, by rw [upd_ne hne]; exact h1, h2, fun i f R k => let ⟨u, p, q⟩ := h3 i f R k; ⟨u, p, h _ (List.mem_of_getElem? k) u H C dx fs fs' hx q⟩⟩
theorem ib_all {x : Addr} {i : Nat} {r : Ro d} (h : ∀ (j : Nat) (R : Rp d), j ≠ i → r[j]? = some (some R) → IndO x R) : IoBut x i r := h
theorem io_nil {x : Addr} : ∀ (j : Nat) (R : Rp d), ([] : Ro d)[j]? = some (some R) → IndO x R := fun j R h => by cases h
theorem io_none {x : Addr} {r : Ro d} (h : ∀ (j : Nat) (R : Rp d), r[j]? = some (some R) → IndO x R) : ∀ (j : Nat) (R : Rp d), ((none :: r : Ro d))[j]? = some (some R) → IndO x R := fun j R e => by
  cases j with
  | zero => cases e
  | succ j => exact h j R e
theorem io_some {x : Addr} {r : Ro d} {R : Rp d} (w : IndO x R) (h : ∀ (j : Nat) (R : Rp d), r[j]? = some (some R) → IndO x R) : ∀ (j : Nat) (R' : Rp d), ((some R :: r : Ro d))[j]? = some (some R') → IndO x R' := fun j R' e => by
  cases j with
  | zero => cases e; exact w
  | succ j => exact h j R' e
theorem io_here {x : Addr} {o : Option (Rp d)} {r : Ro d} (h : ∀ (j : Nat) (R : Rp d), r[j]? = some (some R) → IndO x R) : IoBut x 0 (o :: r) := fun j R hj e => by
  cases j with
  | zero => exact absurd rfl hj
  | succ j => exact h j R e
theorem ind_insA {l C y : Addr} {F : List (Str × Rp d)} (h : ∀ p ∈ F, Ind l p.2) : Ind l (insA C y F) := fun v H xs ys hl ⟨h0, dy, gs, h1, h2, h3⟩ => ⟨h0, dy, gs, by rw [upd_ne (show y ≠ l from fun z => by rw [z, hl] at h1; cases h1)]; exact h1, h2, fun i f R k => let ⟨u, p, q⟩ := h3 i f R k; ⟨u, p, h _ (List.mem_of_getElem? k) u H xs ys hl q⟩⟩
/-! ### defs with any promise -/
variable {Pg : Program} {w : World} {K : PySem.W.Frag} {mg : Str → Option Value} {base : Heap}
theorem fn_okG {x qual : Str} {sd : Stmt} {f : Addr} {fd : FuncData} {N ps : List Str} {k : Nat} {sp : Sp} (F : Fun K x qual sd f fd) (S : FnScope N ps (defScope sd)) (len : ∀ vs H Q E, sp vs H Q E → vs.length = ps.length)
    (body : ∀ (vs : List V) (H : Hp) (Q : VK) (E : XK), sp vs H Q E → ∀ (cdv : Value) (A : Around) (outer : List Env) (s : Shared), Room k (A.deeper (envOfC qual (defScope sd) s.heap.objs.size f cdv)) →
      ∃ (Pre : L2.St → Hp → Prop) (Po : Ends), Pre (L2.start N vs) H ∧ BX (cxOf CX0 Pg w K mg base N qual (defScope sd) f cdv A outer s H E).nox (defBody sd) Pre Po ∧ Le H Po { nx := fun _ H' => Q .non H', rt := Q }) : FnOk Pg w K mg base CX0 (k + 1) f fd ps sp := by
  refine F.ok S len (fun cdv A outer s H vs Q E hr h => ?_)
  obtain ⟨Pre, Po, h1, h2, h3⟩ := body vs H Q E h cdv A outer s hr
  exact ⟨_, h2, h1, h3⟩
theorem fn_okX {x qual : Str} {sd : Stmt} {f : Addr} {fd : FuncData} {N ps : List Str} {k : Nat} {sp : Sp} (F : Fun K x qual sd f fd) (S : FnScope N ps (defScope sd)) (len : ∀ vs H Q E, sp vs H Q E → vs.length = ps.length)
    (body : ∀ (vs : List V) (H : Hp) (Q : VK) (E : XK), sp vs H Q E → ∀ (cdv : Value) (A : Around) (outer : List Env) (s : Shared), Room k (A.deeper (envOfC qual (defScope sd) s.heap.objs.size f cdv)) →
      ∃ (Pre : L2.St → Hp → Prop) (Po : Ends), Pre (L2.start N vs) H ∧ BX (cxOf (L2.CX Pg w) Pg w K mg base N qual (defScope sd) f cdv A outer s H E) (defBody sd) Pre Po ∧ Le H Po { nx := fun _ H' => Q .non H', rt := Q }) : FnOk Pg w K mg base (L2.CX Pg w) (k + 1) f fd ps sp := by
  refine F.okX S len (fun cdv A outer s H vs Q E hr h => ?_)
  obtain ⟨Pre, Po, h1, h2, h3⟩ := body vs H Q E h cdv A outer s hr
  exact ⟨_, h2, h1, h3⟩
/-- the heap without x -/
def del (H : Hp) (x : Addr) : Hp := fun b => if b = x then none else H b
theorem del_same {H : Hp} {x : Addr} : del H x x = none := if_pos rfl
theorem del_ne {H : Hp} {x b : Addr} (h : b ≠ x) : del H x b = H b := if_neg h
theorem del_ext {H : Hp} {x : Addr} (hx : some x ≠ d) : Ext d (del H x) H := ⟨fun a o h _ => by
    by_cases z : a = x
    · rw [z, del_same] at h; cases h
    · rw [del_ne z] at h; exact h,
  fun a e ⟨ns, hn, h⟩ => ⟨ns, hn, by rw [del_ne (fun z => hx (by rw [e, z]))] at h; exact h⟩⟩
/-- an __init__'s promise: the new instance at x gets the fields told by F z -/
def spI {α : Type} (d : Option Addr) (C : Addr) (As : α → List (Rp d)) (F : α → List (Str × Rp d)) : Sp := fun vs H Q _ => ∃ (z : α) (x dx : Addr) (us : List V), vs = .ref x :: us ∧ H x = some (.ins C dx []) ∧ RsH (As z) us (del H x) ∧ (∀ a, d = some a → Drw H a) ∧ ∀ H', Ext d (del H x) H' → (insA C x (F z)).p (.ref x) H' → Q .non H'
/-- C(e, ..) -/
theorem x_make {α : Type} {C : Addr} {As : α → List (Rp d)} {F : α → List (Str × Rp d)} {x : Str} {p : Pos} {f : Addr} {fd : FuncData} {ps : List Str} {k : Nat} {CX : CXT} {E : XK} (M : Mk X.K C f) (G : FnOk X.prog X.w X.K X.mg X.base CX k f fd ps (spI d C As F)) (hr : Room (k + 1) X.A) (hg : Gl X x) (hm : X.mg x = some (.ref C)) (hb : Binds X.K fd ps []) (hx : Passes CX X E)
    (z : α) (ha : AX X B ρ (e :: es) (As z))
    (hdb : (x == ("__debug__" : Str)) = false := by decide) (he : starEach (e :: es) X.env = (false, eval e X.env) :: starEach es X.env := by rfl) (hpl : (backTo pos (starEach es X.env)).any (·.1) = false := by rfl) : EX X B ρ (.Call (.Name x p) (e :: es) [] pos) (insR C (F z)) :=
  PE_wk (pe_make (dvs := []) (E := E) M G hr hg hm hb .nil hx ha (hdb := hdb) (he := he) (hpl := hpl)) fun σ H Q ⟨s, q⟩ => ⟨s, fun vs H1 e1 hvs y dy ny ndy hne => by
    rw [List.append_nil]
    have s1 := s.mono e1
    have hyd : some y ≠ d := (s1.fresh ny).2
    have n2 : (upd H1 dy (.own y)) y = none := by rw [upd_ne hne.symm]; exact ny
    have x1 : Ext d H1 (upd H1 dy (.own y)) := Ext.new ndy
    have e2 : del (upd (upd H1 dy (.own y)) y (.ins C dy [])) y = upd H1 dy (.own y) := by
      funext b
      by_cases hb : b = y
      · rw [hb, del_same, n2]
      · rw [del_ne hb, upd_ne hb]
    refine ⟨z, y, dy, vs, rfl, upd_same, by rw [e2]; exact hvs.mono x1, ((s1.mono x1).mono (Ext.new n2)).dr, fun H' e3 h3 => ⟨rfl, ?_⟩⟩
    rw [e2] at e3
    exact q _ H' (e1.trans (x1.trans e3)) ⟨y, trivial, h3⟩⟩
/-! ### draws -/
/-- _law_take(draws, limit) -/
def spTake : Sp := fun vs H Q _ => ∃ (a : Addr) (ns : List Int) (n : Int), vs = [.ref a, .int n] ∧ H a = some (.lst (ns.map V.int)) ∧ ns.length ≤ 1000 ∧ 0 < n ∧
  ∀ (z : Int) (ms : List Int) H', 0 ≤ z → z < n → H' a = some (.lst (ms.map V.int)) → ms.length ≤ 1000 → (∀ b o, b ≠ a → H b = some o → H' b = some o) → Q (.int z) H'
theorem x_take {x : Str} {p : Pos} {f : Addr} {fd : FuncData} {ps : List Str} {k : Nat} {E : XK} {CX : CXT} (F : FnOk X.prog X.w X.K X.mg X.base CX k f fd ps spTake) (hr : Room k X.A) (hg : Gl X x) (hm : X.mg x = some (.ref f)) (hk : PySem.W.keepIn X.K (.ref f) = true) (hb : Binds X.K fd ps []) (hx : Passes CX X E)
    (ha : EX X B ρ a drw) (hn : EX X B ρ b (rI n)) (h0 : 0 < n)
    (hdb : (x == ("__debug__" : Str)) = false := by decide) (he : starEach [a, b] X.env = (false, eval a X.env) :: starEach [b] X.env := by rfl) (he2 : starEach [b] X.env = (false, eval b X.env) :: starEach [] X.env := by rfl) (hpl : (backTo pos (starEach [b] X.env)).any (·.1) = false := by rfl) : EX X B ρ (.Call (.Name x p) [a, b] [] pos) (iE fun z => 0 ≤ z ∧ z < n) :=
  PE_wk (pe_call (dvs := []) (E := E) F hr hg hm hk hb .nil hx (a_cons ha (a_cons hn a_nil he2) he) (hdb := hdb) (he := he) (hpl := hpl)) fun σ H Q ⟨s, q⟩ => ⟨s, fun vs H1 e1 hvs => by
    obtain ⟨u, v, rfl, ⟨t, rfl, hd⟩, rfl⟩ := hvs.two
    obtain ⟨ns, hl, hns⟩ := (s.mono e1).dr t hd
    refine ⟨t, ns, n, rfl, hns, hl, h0, fun z ms H' z0 z1 hm hml hk => q _ H' (e1.trans ⟨fun c o hc hq => ?_, fun c hc _ => ?_⟩) ⟨z, ⟨z0, z1⟩, rfl⟩⟩
    · by_cases hct : c = t
      · subst hct
        rw [hns] at hc
        cases hc
        exact absurd rfl (hq hd.symm _)
      · exact hk c o hct hc
    · rw [hd] at hc
      cases hc
      exact ⟨ms, hml, hm⟩⟩
end
end Cv

namespace Cv
open PySem PySem.Spec PyProof.Rows L2 RZ
section
variable {d : Option Addr} {X : Cx} {B : Hp} {ρ ρ' : Ro d} {a b c e iter elt : Expr} {es : List Expr} {R R' Ra Rb : Rp d} {Rs : List (Rp d)} {pos : Pos} {m n : Int} {st : Stmt} {rest body orelse : List Stmt} {Pre Mid : L2.St → Hp → Prop} {Po : Ends}
/-! ### a list that was there at the start -/
def lstB (B : Hp) (K : PySem.W.Frag) (a : Addr) (ds : List D) : Rp d := ⟨fun v H => v = .ref a ∧ ∃ vs, ((B a ≠ none ∧ SqX d K H a vs) ∨ KL K a vs) ∧ DRl K H ds vs,
  fun e ⟨h1, vs, h2, h3⟩ => ⟨h1, vs, h2.imp (fun h => ⟨h.1, h.2.ext e⟩) id, h3.tk e.tk⟩⟩
theorem lstB_A {B : Hp} {K : PySem.W.Frag} {a : Addr} {ds : List D} {v : V} {H : Hp} (h : (lstB (d := d) B K a ds).p v H) : (lstA (d := d) K a ds).p v H := by
  obtain ⟨h1, vs, h2 | h2, h3⟩ := h
  · exact ⟨h1, trivial, vs, h2.2, h3⟩
  · exact ⟨h1, trivial, vs, .inr (.inr h2), h3⟩
theorem x_lstB {B' : Hp} {K : PySem.W.Frag} {l : Addr} {ds : List D} (h : EX X B ρ e (lstB B' K l ds)) : EX X B ρ e (lstA K l ds) := x_sub h fun v H hv => lstB_A hv
theorem ind_lstB {l a' : Addr} {K : PySem.W.Frag} {ds : List D} (hB : B l = none) : Ind l (lstB (d := d) B K a' ds) := fun v H xs ys hl ⟨h1, us, h2, h3⟩ => by
  refine ⟨h1, us, ?_, h3.tk (Tk.lst hl)⟩
  rcases h2 with ⟨hb, h⟩ | h
  · have hne : a' ≠ l := fun z => hb (by rw [z]; exact hB)
    refine .inl ⟨hb, ?_⟩
    rcases h with ⟨k, h⟩ | ⟨o, h⟩ | h
    · exact .inl ⟨k, by rw [upd_ne hne]; exact h⟩
    · exact .inr (.inl ⟨o, by rw [upd_ne hne]; exact h⟩)
    · exact .inr (.inr h)
  · exact .inr h
theorem io_lstB {x l : Addr} {K : PySem.W.Frag} {ds : List D} : IndO x (lstB (d := d) B K l ds) := fun v H C dx fs fs' hx ⟨h1, us, h2, h3⟩ => by
  refine ⟨h1, us, ?_, h3.tk (tk_ins hx)⟩
  rcases h2 with ⟨hb, h⟩ | h
  · refine .inl ⟨hb, ?_⟩
    rcases h with ⟨k, h⟩ | ⟨o, h⟩ | h
    · exact .inl ⟨k, by rw [upd_ne (show l ≠ x from fun z => by rw [z, hx] at h; cases h)]; exact h⟩
    · exact .inr (.inl ⟨o, by rw [upd_ne (show l ≠ x from fun z => by rw [z, hx] at h; cases h)]; exact h⟩)
    · exact .inr (.inr h)
  · exact .inr h
theorem st_toB {K : PySem.W.Frag} {l : Addr} {ds : List D} {σ : L2.St} {H : Hp} (i : Nat) (hi : ρ[i]? = some (some (lstA K l ds))) (s : St H ρ σ H) : St H (ρ.set i (some (lstB H K l ds))) σ H := by
  refine ⟨s.ext, s.dr, by simp [s.good.1], fun j R e => ?_⟩
  by_cases hj : i = j
  · subst hj
    have hlt : i < ρ.length := (List.getElem?_eq_some_iff.mp hi).1
    rw [List.getElem?_set_self hlt] at e
    cases e
    obtain ⟨v, h1, rfl, _, us, h3, h4⟩ := s.good.get hi
    refine ⟨_, h1, rfl, us, ?_, h4⟩
    rcases h3 with ⟨k, h⟩ | ⟨o, h⟩ | h
    · exact .inl ⟨by rw [h]; exact fun z => (by cases z), .inl ⟨k, h⟩⟩
    · exact .inl ⟨by rw [h]; exact fun z => (by cases z), .inr (.inl ⟨o, h⟩)⟩
    · exact .inr h
  · rw [List.getElem?_set_ne hj] at e
    exact s.good.get e
/-- the draws' address becomes known -/
theorem lstB_d {d' : Option Addr} {B : Hp} {K : PySem.W.Frag} {a : Addr} {ds : List D} {v : V} {H : Hp} (hd : ∀ l, d' = some l → B l = none) (h : (lstB (d := none) B K a ds).p v H) : (lstB (d := d') B K a ds).p v H := by
  obtain ⟨h1, vs, h2, h3⟩ := h
  refine ⟨h1, vs, ?_, h3⟩
  rcases h2 with ⟨hb, h⟩ | h
  · refine .inl ⟨hb, ?_⟩
    rcases h with ⟨k, h⟩ | ⟨o, h⟩ | h
    · exact .inl ⟨fun z => hb (hd a z.symm), h⟩
    · exact .inr (.inl ⟨o, h⟩)
    · exact .inr (.inr h)
  · exact .inr h
theorem newE_up {ρ1 : Ro d} {K : PySem.W.Frag} {S : List D → Prop} {σ : L2.St} {H H' : Hp} {v : V} (s : St B ρ1 σ H) (h : (newE (d := d) H K S).p v H') : (newE (d := d) B K S).p v H' := by
  obtain ⟨ds, hS, l, hl, h⟩ := h
  exact ⟨ds, hS, l, (s.fresh hl).1, h⟩
/-- a list that a new one can't be -/
def Known (l : Addr) (ρ : Ro d) : Prop := ∃ (k : Nat) (R : Rp d), ρ[k]? = some (some R) ∧ ∀ v H, R.p v H → H l ≠ none
theorem known_own {K : PySem.W.Frag} {l : Addr} {ds : List D} (k : Nat) (h : ρ[k]? = some (some (own K l ds))) : Known l ρ := ⟨k, _, h, fun v H ⟨_, _, us, q, _⟩ => by rw [q]; exact fun z => by cases z⟩
/-- x = a new list: it is none of those that are known -/
theorem bx_new (i : Nat) {x : Str} {pos' : Pos} {K : PySem.W.Frag} {ds : List D} (ls : List Addr) (hls : ∀ l ∈ ls, Known l ρ) (he : ∀ B' : Hp, EX X B' ρ e (newL B' K ds)) (h : ∀ l, B l = none → (∀ l' ∈ ls, l ≠ l') → BX X rest (St B (ρ.set i (some (own K l ds)))) Po) (hN : X.N.Nodup) (hi : X.N[i]? = some x := by rfl) (hx : Loc X.env.scope x := by first | exact Or.inl rfl | exact Or.inr rfl) (hs : swapsWith e (some (.Name x pos')) pos.line X.env = pure false := by rfl)
    (hf : X.fn x = true ∨ X.env.scope.names.lookup x = some .local := by first | exact .inl rfl | exact .inr rfl | assumption) : BX X (.Assign [.Name x pos'] e pos :: rest) (St B ρ) Po := by
  refine bx_cons (Mid := fun σ H => ∃ l, (B l = none ∧ ∀ l' ∈ ls, l ≠ l') ∧ St B (ρ.set i (some (own K l ds))) σ H) ?_ (bx_ex fun l hl => h l hl.1 hl.2)
  refine ⟨fun pins s σ H E I ⟨st, q⟩ => ?_⟩
  have hE := ps_set (X := X) (pos := pos) (pos' := pos') hN hi hx (he H) hs hf
  refine hE.run pins s σ H E I ⟨⟨Ext.refl H, st.dr, st.good⟩, fun v H' e1 hv => ?_⟩
  obtain ⟨l, hl, hv⟩ := hv
  have hld : some l ≠ d := hv.2.1
  refine q.nx _ H' e1.tk ⟨l, ⟨?_, fun l' hl' z => ?_⟩, st.ext.trans e1, (st.mono e1).dr, (st.mono e1).good.set i hv⟩
  · cases e2 : B l with
    | none => rfl
    | some o =>
      have := st.ext.at e2 hld
      rw [hl] at this; cases this
  · obtain ⟨k, R, h1, h2⟩ := hls l' hl'
    obtain ⟨w, _, h3⟩ := st.good.get h1
    exact h2 w H h3 (by rw [← z]; exact hl)
theorem bx_newE (i : Nat) {x : Str} {pos' : Pos} {K : PySem.W.Frag} {S : List D → Prop} (ls : List Addr) (hls : ∀ l ∈ ls, Known l ρ) (he : ∀ B' : Hp, EX X B' ρ e (newE B' K S)) (h : ∀ l ds, S ds → B l = none → (∀ l' ∈ ls, l ≠ l') → BX X rest (St B (ρ.set i (some (own K l ds)))) Po) (hN : X.N.Nodup) (hi : X.N[i]? = some x := by rfl) (hx : Loc X.env.scope x := by first | exact Or.inl rfl | exact Or.inr rfl) (hs : swapsWith e (some (.Name x pos')) pos.line X.env = pure false := by rfl)
    (hf : X.fn x = true ∨ X.env.scope.names.lookup x = some .local := by first | exact .inl rfl | exact .inr rfl | assumption) : BX X (.Assign [.Name x pos'] e pos :: rest) (St B ρ) Po := by
  refine bx_cons (Mid := fun σ H => ∃ z : Addr × List D, (S z.2 ∧ B z.1 = none ∧ ∀ l' ∈ ls, z.1 ≠ l') ∧ St B (ρ.set i (some (own K z.1 z.2))) σ H) ?_ (bx_ex fun z hz => h z.1 z.2 hz.1 hz.2.1 hz.2.2)
  refine ⟨fun pins s σ H E I ⟨st, q⟩ => ?_⟩
  have hE := ps_set (X := X) (pos := pos) (pos' := pos') hN hi hx (he H) hs hf
  refine hE.run pins s σ H E I ⟨⟨Ext.refl H, st.dr, st.good⟩, fun v H' e1 hv => ?_⟩
  obtain ⟨ds, hS, l, hl, hv⟩ := hv
  have hld : some l ≠ d := hv.2.1
  refine q.nx _ H' e1.tk ⟨(l, ds), ⟨hS, ?_, fun l' hl' z => ?_⟩, st.ext.trans e1, (st.mono e1).dr, (st.mono e1).good.set i hv⟩
  · cases e2 : B l with
    | none => rfl
    | some o =>
      have := st.ext.at e2 hld
      rw [hl] at this; cases this
  · obtain ⟨k, R, h1, h2⟩ := hls l' hl'
    obtain ⟨w, _, h3⟩ := st.good.get h1
    exact h2 w H h3 (by have z' : l = l' := z; rw [← z']; exact hl)
variable {Pg : Program} {w : World} {K : PySem.W.Frag} {mg : Str → Option Value} {base : Heap}
/-- a def, its slots at the start told anew -/
theorem fn_okB {α : Type} {As : α → List (Rp d)} {Rz : α → Hp → Rp d} {x qual : Str} {sd : Stmt} {f : Addr} {fd : FuncData} {N ps : List Str} {k : Nat} (F : Fun K x qual sd f fd) (S : FnScope N ps (defScope sd)) (hl : ∀ z, (As z).length = ps.length) (hN : ps.length ≤ N.length) (r0 : α → Hp → Ro d) (h0 : ∀ z H σ, St H (ro (As z) (N.length - (As z).length)) σ H → St H (r0 z H) σ H)
    (body : ∀ (z : α) (H : Hp) (cdv : Value) (A : Around) (outer : List Env) (s : Shared) (E : XK), Room k (A.deeper (envOfC qual (defScope sd) s.heap.objs.size f cdv)) →
      BX (cxOf CX0 Pg w K mg base N qual (defScope sd) f cdv A outer s H E).nox (defBody sd) (St H (r0 z H)) (Rt H (Rz z H))) : FnOk Pg w K mg base CX0 (k + 1) f fd ps (spP d As Rz) := by
  refine F.ok S (fun vs H Q E ⟨z, h, _⟩ => by rw [h.len, hl]) (fun cdv A outer s H vs Q E hr h => ?_)
  obtain ⟨z, hz, dr, q⟩ := h
  refine ⟨_, body z H cdv A outer s E hr, h0 z H _ (st_start hz (by rw [hl]; exact hN) dr), ?_⟩
  exact ⟨fun σ' H' _ ⟨e1, h1⟩ => q _ H' e1 h1, fun v H' _ ⟨e1, h1⟩ => q v H' e1 h1, fun _ _ _ h => h.elim, fun _ _ _ h => h.elim⟩
end
section
variable {d : Option Addr} {X : Cx} {B : Hp} {ρ ρ' : Ro d} {a b c e iter elt : Expr} {es : List Expr} {R R' Ra Rb : Rp d} {Rs : List (Rp d)} {pos : Pos} {m n : Int} {st : Stmt} {rest body orelse : List Stmt} {Pre Mid : L2.St → Hp → Prop} {Po : Ends}
/-- for x in range(n), n only told by S -/
theorem bx_forRE {α : Type} {S : Int → Prop} (j : Nat) {x : Str} {tpos p p2 : Pos} (P : Nat → α → Prop) (r : Nat → α → Ro d) (hg : Gl X "range") (hm : X.mg "range" = none) (hi : EX X B ρ e (iE S)) (hn : ∀ nn, S nn → nn < 2 ^ 62 ∧ -(2 ^ 62) ≤ nn) (h0 : ∀ σ H, St B ρ σ H → IS B (P 0) (r 0) σ H)
    (hb : ∀ (nn : Int), S nn → ∀ (i : Nat) z, (i : Int) < nn → P i z → BX X body (St B ((r i z).set j (some (rI (i : Int))))) (Lp Po (IS B (P (i + 1)) (r (i + 1))) (fun σ H => ∃ nn : Int, S nn ∧ IS B (P nn.toNat) (r nn.toNat) σ H))) (h : ∀ nn : Int, S nn → BX X rest (IS B (P nn.toNat) (r nn.toNat)) Po)
    (hN : X.N.Nodup) (hp : PassesOwn (model X.prog X.w) X.A X.env X.xe) (hj : X.N[j]? = some x := by rfl) (hc : X.calm = true := by rfl) (hx : Loc X.env.scope x := by first | exact Or.inl rfl | exact Or.inr rfl)
    (hf : X.fn x = true ∨ X.env.scope.names.lookup x = some .local := by first | exact .inl rfl | exact .inr rfl | assumption) (he : starEach [e] X.env = [(false, eval e X.env)] := by rfl) (hs : ∀ x, foldedSetIterable (.Call (.Name "range" p) [e] [] p2) X.env x = pure x := by intro _; rfl) :
    BX X (.For (.Name x tpos) (.Call (.Name "range" p) [e] [] p2) body [] pos :: rest) (St B ρ) Po := by
  refine bx_cons (Mid := fun σ H => ∃ nn : Int, S nn ∧ IS B (P nn.toNat) (r nn.toNat) σ H) ?_ (bx_ex h)
  refine PS_wk (t := tFor (iRng1 fun σ H Q => St B ρ σ H ∧ ∀ vs H', Ext d H H' → RsH [iE S] vs H' → Q vs H') (gName j) (tBody (Z := Int × Nat × α) B (fun z => (r z.2.1 z.2.2).set j (some (rI (z.2.1 : Int)))) (fun z => S z.1 ∧ (z.2.1 : Int) < z.1 ∧ P z.2.1 z.2.2) (fun z => Lp Po (IS B (P (z.2.1 + 1)) (r (z.2.1 + 1))) (fun σ H => ∃ nn : Int, S nn ∧ IS B (P nn.toNat) (r nn.toNat) σ H))))
    (ps_for hp hc (pi_range1 hg hm (a_cons hi a_nil he) he) (pg_name hN hj hx hf) ⟨fun pins s σ H E I ⟨⟨nn, i, z⟩, ⟨hnn, hw, hz⟩, q, l⟩ => (hb nn hnn i z hw hz).run pins s σ H E I ⟨q, l⟩⟩ hs) fun E σ H ⟨s, l⟩ => ⟨s, fun vs H1 e1 hv => ?_⟩
  obtain ⟨v, rfl, hv'⟩ := hv.one
  obtain ⟨nn, hnn, hv'⟩ := hv'
  obtain rfl : v = .int nn := hv'
  refine ⟨nn, rfl, (hn nn hnn).2, (hn nn hnn).1, for_range (lo := 0) (n := nn.toNat) (g := gName j) (tb := tBody (Z := Int × Nat × α) B (fun z => (r z.2.1 z.2.2).set j (some (rI (z.2.1 : Int)))) (fun z => S z.1 ∧ (z.2.1 : Int) < z.1 ∧ P z.2.1 z.2.2) (fun z => Lp Po (IS B (P (z.2.1 + 1)) (r (z.2.1 + 1))) (fun σ H => ∃ nn : Int, S nn ∧ IS B (P nn.toNat) (r nn.toNat) σ H))) (fun i σ H => Tk H1 H ∧ IS B (P i) (r i) σ H) ⟨Tk.refl _, h0 _ _ (s.mono e1)⟩ (fun i σ H hlt ⟨k, z, hz, q⟩ => ?_) (fun σ H ⟨k, q⟩ => l.nx σ H (e1.tk.trans k) ⟨nn, hnn, q⟩)⟩
  refine ⟨(nn, i, z), ⟨hnn, (by show (i : Int) < nn; omega), hz⟩, ⟨q.ext, q.dr, ?_⟩, ?_⟩
  · rw [Int.zero_add]
    exact q.good.set j (R := rI (i : Int)) (v := .int (i : Int)) rfl
  · exact ⟨fun σ' H' k' q' => ⟨k.trans k', q'⟩, fun v H' k' q' => l.rt v H' ((e1.tk.trans k).trans k') q', fun σ' H' k' q' => l.nx σ' H' ((e1.tk.trans k).trans k') q', fun σ' H' k' q' => ⟨k.trans k', q'⟩⟩
/-- x[k] = e, the value told by S -/
theorem bx_setitemE (i : Nat) {x : Str} {p1 p2 p3 : Pos} {K : PySem.W.Frag} {l : Addr} {ds : List D} {S : D → Prop} {k : Nat} (hi : ρ[i]? = some (some (own K l ds))) (hK : X.K = K) (he : EX X B ρ e (dE K S)) (hk : EX X B ρ b (rI (k : Int))) (hkl : k < ds.length) (hB : B l = none) (hb : IndBut l i ρ) (h : ∀ w, S w → BX X rest (St B (ρ.set i (some (own K l (ds.set k w))))) Po)
    (hN : X.N[i]? = some x := by rfl) (hv : Vis X.env.scope x := by first | exact Or.inl rfl | exact Or.inr (Or.inl rfl) | exact Or.inr (Or.inr rfl)) (hd : (x == ("__debug__" : Str)) = false := by decide) (hcd : (x == ("__classdict__" : Str)) = false := by decide)
    (ha : ∀ v, assign (.Subscript (.Name x p1) b p2) X.env v = (do
      let ov ← holding [v] (eval (.Name x p1) X.env)
      let iv ← holding [v, ov] (eval b X.env)
      standAt p2
      holding [v, ov, iv] (setItem ov iv v)
      release [v, ov, iv] []) := by intro _; rfl)
    (hs : swapsWithSole [.Subscript (.Name x p1) b p2] e p3.line X.env = pure false := by rfl) (hw : swappedStores [.Subscript (.Name x p1) b p2] e X.env = pure none := by rfl) (h1 : (assignEach [.Subscript (.Name x p1) b p2] X.env).map (·.2) = [assign (.Subscript (.Name x p1) b p2) X.env] := by rfl) :
    BX X (.Assign [.Subscript (.Name x p1) b p2] e p3 :: rest) (St B ρ) Po := by
  subst hK
  refine bx_cons (Mid := fun σ H => ∃ w, S w ∧ St B (ρ.set i (some (own X.K l (ds.set k w)))) σ H) ?_ (bx_ex h)
  refine PS_wk (ps_asg he (pg_sub (pe_var hN hv hd hcd) hk set_list ha) hs hw h1) fun E σ H ⟨s, q⟩ => ⟨s, fun y H1 e1 ⟨w, hSw, hy⟩ => ?_⟩
  have s1 := s.mono e1
  obtain ⟨v, a1, rfl, hl, vs, a2, a3⟩ := s1.good.get hi
  refine ⟨_, a1, s1, fun iv H2 e2 hiv => ?_⟩
  have s2 := s1.mono e2
  have g2 := e2.at a2 hl
  have a3' := a3.tk e2.tk
  have hkv : k < vs.length := by rw [← a3.1]; exact hkl
  refine ⟨l, vs, k, k, rfl, hiv, g2, by unfold ixN; rw [if_pos (by omega), if_pos (by omega)]; simp, ?_⟩
  refine q.nx σ _ ((e1.tk.trans e2.tk).trans (Tk.lst g2)) ⟨w, hSw, st_own s2 hi hB hb ⟨by simp [a3.1], fun j e' v' b1 b2 => ?_⟩⟩
  by_cases hj : k = j
  · subst hj
    rw [List.getElem?_set_self hkl] at b1
    rw [List.getElem?_set_self hkv] at b2
    cases b1; cases b2
    exact DR.tk e2.tk hy
  · rw [List.getElem?_set_ne hj] at b1 b2
    exact a3'.2 j e' v' b1 b2
theorem x_iEd {K : PySem.W.Frag} {P : Int → Prop} (h : EX X B ρ e (iE P)) : EX X B ρ e (dE K fun w => ∃ z, P z ∧ w = .i z) := x_sub h fun v H ⟨z, hz, hv⟩ => ⟨_, ⟨z, hz, rfl⟩, by cases hv; exact .i z⟩
theorem x_dE {K : PySem.W.Frag} {P S : D → Prop} (h : EX X B ρ e (dE K P)) (w : ∀ z, P z → S z) : EX X B ρ e (dE K S) := x_sub h fun v H ⟨z, hz, hv⟩ => ⟨z, w z hz, hv⟩
theorem x_d {K : PySem.W.Frag} {x : D} (h : EX X B ρ e (dat K x)) : EX X B ρ e (dE K fun w => w = x) := x_sub h fun v H hv => ⟨x, rfl, hv⟩
theorem x_ixtI {ns : List Int} {k : Nat} {z : Int} (ha : EX X B ρ a (dat X.K (tI ns))) (hb : EX X B ρ b (rI (k : Int))) (hz : ns[k]? = some z) (hs : PlainIx b := by exact (fun _ _ => rfl)) : EX X B ρ (.Subscript a b pos) (rI z) := x_dI (x_ixt ha hb (atI_nat (by rw [List.getElem?_map, hz]; rfl)) hs)
theorem x_ixlI {l : Addr} {ns : List Int} {k : Nat} {z : Int} (ha : EX X B ρ a (lstA X.K l (ns.map D.i))) (hb : EX X B ρ b (rI (k : Int))) (hz : ns[k]? = some z) (hs : PlainIx b := by exact (fun _ _ => rfl)) : EX X B ρ (.Subscript a b pos) (rI z) := x_dI (x_ixl ha hb (atI_nat (by rw [List.getElem?_map, hz]; rfl)) hs)
theorem x_ixnE {ds : List D} {P : Int → Prop} (ha : EX X B ρ a (newL B X.K ds)) (hb : EX X B ρ b (iE P)) (hw : ∀ j, P j → 0 ≤ j ∧ j < ds.length) (hs : PlainIx b := by exact (fun _ _ => rfl)) : EX X B ρ (.Subscript a b pos) (dE X.K fun w => ∃ k : Nat, P k ∧ ds[k]? = some w) :=
  PE_wk (pe_ix ix_list ha hb hs) fun σ H Q ⟨s, q⟩ => ⟨s, fun x H1 e1 hx => ⟨s.mono e1, fun y H2 e2 hy => by
    obtain ⟨l, _, rfl, hd, us, h1, h2⟩ := hx
    obtain ⟨j, hj, hy⟩ := hy
    obtain ⟨h0, hl⟩ := hw j hj
    obtain ⟨k, rfl⟩ : ∃ k : Nat, j = (k : Int) := ⟨j.toNat, by omega⟩
    have hk : k < ds.length := by omega
    obtain ⟨v, hv, hr⟩ := h2.get (List.getElem?_eq_getElem hk)
    exact ⟨l, us, _, v, rfl, hy, SqL.of (e2.at h1 hd), atI_nat hv, q v H2 (e1.trans e2) ⟨_, ⟨k, hj, List.getElem?_eq_getElem hk⟩, hr.tk e2.tk⟩⟩⟩⟩
/-- [elt for x in range(e)], e told by S -/
theorem x_lcRE {S : Int → Prop} (j : Nat) {x : Str} {scope : Scope} {tpos p p2 : Pos} (P : Nat → D → Prop) (hg : Gl X "range") (hm : X.mg "range" = none) (hi : EX X B ρ e (iE S)) (hn : ∀ nn, S nn → nn < 2000 ∧ -(2 ^ 62) ≤ nn) (hN : X.N.Nodup) (hok : BlkOk X.N X.env.scope scope [(x, j)])
    (hgn : ∀ (s : Shared) (H : Hp) (C : Addr) (cl : List (Str × Addr)) (fp : List Addr), PG (X.blk s H scope (compEnvC scope cl C X.env) fp) (.Name x tpos) (gName j))
    (hb : ∀ (s : Shared) (H : Hp) (C : Addr) (cl : List (Str × Addr)) (fp : List Addr) (i : Nat), EX (X.blk s H scope (compEnvC scope cl C X.env) fp) B (ρ.set j (some (rI (i : Int)))) elt (dE X.K (P i)))
    (hc : X.calm = true := by rfl) (he : starEach [e] X.env = [(false, eval e X.env)] := by rfl) (hs : ∀ x, foldedSetIterable (.Call (.Name "range" p) [e] [] p2) X.env x = pure x := by intro _; rfl) :
    EX X B ρ (.ListComp elt [⟨.Name x tpos, .Call (.Name "range" p) [e] [] p2, [], 0⟩] scope pos) (newE B X.K fun ds => (∃ nn, S nn ∧ ds.length = nn.toNat) ∧ ∀ k w, ds[k]? = some w → P k w) := by
  refine PE_wk (pe_lc (own := [(x, j)]) (g := gName j) (tt := tYes) (te := tElt (Z := Nat) B X.K (fun i => ρ.set j (some (rI (i : Int)))) (fun i => True) P) hc hN (pi_range1 hg hm (a_cons hi a_nil he) he) hok hgn (fun _ _ _ _ _ => pts_nil) (fun s H C cl fp => elt_of fun i _ => hb s H C cl fp i) hs) fun σ H Q ⟨s, q⟩ => ⟨s, fun vs H1 e1 hv => ?_⟩
  obtain ⟨v, rfl, hv'⟩ := hv.one
  obtain ⟨nn, hnn, hv'⟩ := hv'
  obtain rfl : v = .int nn := hv'
  have hn' := hn nn hnn
  have s1 := s.mono e1
  refine ⟨nn, rfl, hn'.2, by omega, fun Dl hD => ?_⟩
  obtain ⟨hB, hDd⟩ := s1.fresh hD
  refine lc_range (lo := 0) (n := nn.toNat) (Lc H1 X.K Dl d P) ⟨Ext.new hD, [], [], upd_same, DRl.nil, rfl, fun k w h => by cases h⟩ (fun i H' hlt L => ?_) (fun H' L => ?_)
  · refine ⟨wipe1 _ _ _, ?_⟩
    refine ⟨i, trivial, ?_, fun y H2 e2 hy => lc_step hD hDd L e2 hy (by omega)⟩
    rw [Int.zero_add]
    exact st_wipe (s1.mono L.1) (R := rI (i : Int)) rfl
  · obtain ⟨h0, us, ds, h1, h2, h3, h4⟩ := L
    exact q _ H' (e1.trans h0) ⟨ds, ⟨⟨nn, hnn, h3⟩, h4⟩, Dl, hB, rfl, hDd, us, h1, h2⟩
/-- a <= b <= c -/
theorem t_chainLe {i j k : Int} (ha : EX X B ρ a (rI i)) (hb : EX X B ρ b (rI j)) (hc : EX X B ρ c (rI k)) (hm : lastMarks [CmpOp.LtE, CmpOp.LtE] [b, c] = false := by with_unfolding_all rfl) : TX X B ρ (.Compare a [.LtE, .LtE] [b, c] pos) (is (decide (i ≤ j) && decide (j ≤ k))) :=
  PT_wk (pt_chain op_le op_le ha hb hc hm) fun σ H Q ⟨s, q⟩ => ⟨s, fun x H1 e1 hx => ⟨s.mono e1, fun y H2 e2 hy => by
    obtain rfl : x = .int i := hx
    obtain rfl : y = .int j := hy
    refine ⟨i, j, rfl, rfl, _, rfl, ?_⟩
    by_cases h : i ≤ j
    · rw [if_pos (decide_eq_true h)]
      refine ⟨(s.mono e1).mono e2, fun z H3 e3 hz => ?_⟩
      obtain rfl : z = .int k := hz
      exact ⟨j, k, rfl, rfl, _, rfl, q _ H3 (e1.trans (e2.trans e3)) (by rw [decide_eq_true h, Bool.true_and])⟩
    · rw [if_neg (by rw [decide_eq_false h]; exact Bool.false_ne_true)]
      exact ⟨false, rfl, q _ H2 (e1.trans e2) (by rw [decide_eq_false h, Bool.false_and])⟩⟩⟩
/-- [elt for x in t], t told by S -/
theorem x_lcTE {S : List D → Prop} (j : Nat) {x : Str} {scope : Scope} {tpos : Pos} (P : Nat → D → Prop) (hi : EX X B ρ iter (dE X.K fun w => ∃ src, S src ∧ w = .t src)) (hn : ∀ src, S src → src.length < 2000) (hN : X.N.Nodup) (hok : BlkOk X.N X.env.scope scope [(x, j)])
    (hgn : ∀ (s : Shared) (H : Hp) (C : Addr) (cl : List (Str × Addr)) (fp : List Addr), PG (X.blk s H scope (compEnvC scope cl C X.env) fp) (.Name x tpos) (gName j))
    (hb : ∀ (s : Shared) (H : Hp) (C : Addr) (cl : List (Str × Addr)) (fp : List Addr) (src : List D), S src → ∀ (i : Nat) (w : D), src[i]? = some w → EX (X.blk s H scope (compEnvC scope cl C X.env) fp) B (ρ.set j (some (dat X.K w))) elt (dE X.K (P i)))
    (hc : X.calm = true := by rfl) (hs : ∀ x, foldedSetIterable iter X.env x = pure x := by intro _; rfl) :
    EX X B ρ (.ListComp elt [⟨.Name x tpos, iter, [], 0⟩] scope pos) (newE B X.K fun ds => ∃ src, S src ∧ ds.length = src.length ∧ ∀ k w, ds[k]? = some w → P k w) := by
  refine PE_wk (pe_lc (own := [(x, j)]) (g := gName j) (tt := tYes) (te := tElt (Z := List D × Nat × D) B X.K (fun z => ρ.set j (some (dat X.K z.2.2))) (fun z => S z.1 ∧ z.1[z.2.1]? = some z.2.2) (fun z => P z.2.1)) hc hN (pi_tup hi) hok hgn (fun _ _ _ _ _ => pts_nil) (fun s H C cl fp => elt_of fun z hz => hb s H C cl fp z.1 hz.1 z.2.1 z.2.2 hz.2) hs) fun σ H Q ⟨s, q⟩ => ⟨s, fun v H1 e1 hv => ?_⟩
  obtain ⟨w0, ⟨src, hS, rfl⟩, hv⟩ := hv
  obtain ⟨t, us, rfl, g1, g2⟩ := DR.tup hv
  have s1 := s.mono e1
  refine ⟨t, rfl, ⟨us, g1⟩, fun Dl hD => ?_⟩
  obtain ⟨hB, hDd⟩ := s1.fresh hD
  refine lc_tup (K := X.K) (a := t) (xs := us) (Lc H1 X.K Dl d P) ⟨Ext.new hD, [], [], upd_same, DRl.nil, rfl, fun k w h => by cases h⟩ (fun i H' _ L => L.1.tk.sqT g1) (fun i y H' hy L => ?_) (fun H' L => ?_)
  · obtain ⟨w, hw, hr⟩ := g2.getV hy
    refine ⟨wipe1 _ _ _, ?_⟩
    exact ⟨(src, i, w), ⟨hS, hw⟩, st_wipe (s1.mono L.1) (R := dat X.K w) (hr.tk L.1.tk), fun y H2 e2 hy => lc_step hD hDd L e2 hy (Nat.lt_trans (List.getElem?_eq_some_iff.mp hw).1 (hn src hS))⟩
  · obtain ⟨h0, vs, ds, h1, h2, h3, h4⟩ := L
    exact q _ H' (e1.trans h0) ⟨ds, ⟨src, hS, by rw [h3, g2.1], h4⟩, Dl, hB, rfl, hDd, vs, h1, h2⟩
end
end Cv

namespace Cv
open PySem PySem.Spec PyProof.Rows L2 RZ
/-! ### the greatest of a tuple -/
theorem mx2 {i j : Int} : (if j > i then j else i) = max i j := by
  rw [Int.max_def]
  split <;> split <;> omega
theorem ints_at : ∀ {us : List Value} {ns : List Int}, IntsAre us ns → ∀ (i : Nat) (v : Value), us[i]? = some v → ∃ t, v = Value.int (ns.getD i 0) t
  | _, _, .nil, i, v, h => by cases h
  | _, _, .cons n t h, 0, v, e => by cases e; exact ⟨t, rfl⟩
  | _, _, .cons n t h, i + 1, v, e => ints_at h i v e
theorem ints_len : ∀ {us : List Value} {ns : List Int}, IntsAre us ns → us.length = ns.length
  | _, _, .nil => rfl
  | _, _, .cons n t h => congrArg (· + 1) (ints_len h)
theorem maxT_raw {prog : Program} {w : World} {A : Around} {E : Value → Shared → Prop} {s : Shared} {l : Addr} {its : List Value} {ns : List Int} {Q : Value → Shared → Prop} (hh : A.handled = none) (hl : s.heap.IsTuple l its.toArray) (hi : IntsAre its ns) (hne : 0 < ns.length)
    (h : ∀ (h' : Heap) (tk : Nat) (M : Int) (t' : Tok), (∀ (b : Addr) (o : Obj), s.heap.get? b = some o → h'.get? b = some o) → M ∈ ns → (∀ a, a ∈ ns → a ≤ M) → Q (Value.int M t') { heap := h', gens := s.gens, drawn := s.drawn, toks := tk, os := s.os }) :
    wpAny (model prog w) A (call (Value.builtin "max") [Value.ref l]) Q E s := by
  have hlen := ints_len hi
  have hlt : ∀ (b : Addr) (o : Obj), s.heap.get? b = some o → b < s.heap.objs.size := fun b o h => by
    unfold Heap.get? at h
    cases q : s.heap.objs[b]? with
    | none => rw [q] at h; cases h
    | some x => exact (Array.getElem?_eq_some_iff.mp q).1
  have hll : l < s.heap.objs.size := by
    obtain ⟨o, ho, _⟩ := hl
    exact hlt _ _ ho
  refine call_max_walk (wpAny_pyIter_tuple hl ?_)
  refine ⟨s.heap.objs.size, _, _, its.toArray.size, _, _, fun i j => decide (ns.getD i 0 > ns.getD j 0), rfl, Walks.tuple (A := A.in1) hh s.heap.objs.size l (Nat.ne_of_lt hll) its.toArray, ⟨⟨_, Heap.get?_push_size _ rfl, rfl, rfl⟩, ?_⟩, ?_, ?_, CmpOf.ints_gt (fun i => ns.getD i 0) ?_, ?_⟩
  · obtain ⟨o, ho, h1⟩ := hl
    exact ⟨o, Heap.get?_push_of_some _ ho, h1⟩
  · intro b hb
    show b < (s.heap.push _).objs.size
    rw [Heap.size_push]
    rcases List.mem_cons.mp hb with rfl | hb
    · exact Nat.lt_succ_self _
    · rcases List.mem_cons.mp hb with rfl | hb
      · exact Nat.lt_succ_of_lt hll
      · cases hb
  · simpa [hlen] using hne
  · intro i v hv
    rw [List.getElem?_toArray] at hv
    exact ints_at hi i v hv
  · intro v h' tk hP hk
    rw [List.getElem?_toArray] at hP
    obtain ⟨t, rfl⟩ := ints_at hi _ v hP
    obtain ⟨h1, h2⟩ := argBest_gt (fun i => ns.getD i 0) (its.toArray.size - 1)
    have hsz : its.toArray.size = ns.length := by rw [List.size_toArray, hlen]
    rw [hsz] at h1 h2 ⊢
    refine h h' tk _ t (fun b o ho => hk b o (fun hb => ?_) (Heap.get?_push_of_some _ ho)) ?_ fun a ha => ?_
    · rcases List.mem_cons.mp hb with rfl | hb
      · exact absurd (hlt _ _ ho) (Nat.lt_irrefl _)
      · cases hb
    · have hlt' : argBest (fun i j => decide (ns.getD i 0 > ns.getD j 0)) (ns.length - 1) < ns.length := by omega
      rw [List.getD_eq_getElem?_getD, List.getElem?_eq_getElem hlt']
      exact List.getElem_mem hlt'
    · obtain ⟨k, hk'⟩ := List.getElem?_of_mem ha
      have hkl := (List.getElem?_eq_some_iff.mp hk').1
      have := h2 k (by omega)
      rw [List.getD_eq_getElem?_getD, hk'] at this
      exact this
theorem cr_maxT {X : Cx} (hc : X.calm = true) : CallR X (.builtin "max") (fun vs H Q => ∃ (a : Addr) (ns : List Int), vs = [V.ref a] ∧ SqT X.K H a (ns.map V.int) ∧ 0 < ns.length ∧ ∀ m, m ∈ ns → (∀ y, y ∈ ns → y ≤ m) → Q (.int m) H) := by
  rintro pins s σ H vs us Q I r ⟨a, ns, rfl, hs, hne, q⟩
  obtain ⟨its, rv, hl, _⟩ := I.tuple hs
  rw [Vals.ref1 r]
  exact maxT_raw (I.ok.hd hc) hl (Vals.ints rv) hne fun h' tk m t' hk h1 h2 => ⟨V.int m, H, Inv.kept I hk, ⟨t', rfl⟩, q m h1 h2⟩
section
variable {d : Option Addr} {X : Cx} {B : Hp} {ρ ρ' : Ro d} {a b c e iter elt : Expr} {es : List Expr} {R R' Ra Rb : Rp d} {Rs : List (Rp d)} {pos : Pos} {m n : Int} {st : Stmt} {rest body orelse : List Stmt} {Pre Mid : L2.St → Hp → Prop} {Po : Ends}
theorem x_maxT {ns : List Int} {p : Pos} (hg : Gl X "max") (hm : X.mg "max" = none) (h : EX X B ρ e (dat X.K (tI ns))) (hne : 0 < ns.length) (hc : X.calm = true := by rfl) (he : starEach [e] X.env = (false, eval e X.env) :: starEach [] X.env := by rfl) (hpl : (backTo pos (starEach [] X.env)).any (·.1) = false := by rfl) : EX X B ρ (.Call (.Name "max" p) [e] [] pos) (iE fun M => M ∈ ns ∧ ∀ y, y ∈ ns → y ≤ M) :=
  x_callB (cr_maxT hc) hg hm (by decide +kernel) (a_cons h a_nil he) (fun vs H σ Q s hv q => by
    obtain ⟨x, rfl, hx⟩ := hv.one
    obtain ⟨t, rfl, h1⟩ := hx.tupI
    exact ⟨t, ns, rfl, h1, hne, fun M h2 h3 => q _ H (Ext.refl H) ⟨M, ⟨h2, h3⟩, rfl⟩⟩) (he := he) (hpl := hpl)
theorem x_max2 {p : Pos} (hg : Gl X "max") (hm : X.mg "max" = none) (ha : EX X B ρ a (rI m)) (hb : EX X B ρ b (rI n)) (hc : X.calm = true := by rfl) (he : starEach [a, b] X.env = (false, eval a X.env) :: starEach [b] X.env := by rfl) (he2 : starEach [b] X.env = (false, eval b X.env) :: starEach [] X.env := by rfl) (hpl : (backTo pos (starEach [b] X.env)).any (·.1) = false := by rfl) : EX X B ρ (.Call (.Name "max" p) [a, b] [] pos) (rI (max m n)) :=
  x_callB (call_max2 hc) hg hm (by decide +kernel) (a_cons ha (a_cons hb a_nil he2) he) (fun vs H σ Q s hv q => by
    obtain ⟨x, y, rfl, h1, h2⟩ := hv.two
    obtain rfl : x = .int m := h1
    obtain rfl : y = .int n := h2
    exact ⟨m, n, rfl, q _ H (Ext.refl H) (by show V.int _ = V.int _; rw [mx2])⟩) (he := he) (hpl := hpl)
/-! ### parts of lists and tuples -/
theorem DRl.drop {K : PySem.W.Frag} {H : Hp} {ds : List D} {vs : List V} (h : DRl K H ds vs) (k : Nat) : DRl K H (ds.drop k) (vs.drop k) := ⟨by rw [List.length_drop, List.length_drop, h.1], fun i e v a b => by
  rw [List.getElem?_drop] at a b
  exact h.2 _ e v a b⟩
theorem DRl.take {K : PySem.W.Frag} {H : Hp} {ds : List D} {vs : List V} (h : DRl K H ds vs) (k : Nat) : DRl K H (ds.take k) (vs.take k) := ⟨by rw [List.length_take, List.length_take, h.1], fun i e v a b => by
  rw [List.getElem?_take] at a b
  split at a
  · rw [if_pos (by assumption)] at b
    exact h.2 _ e v a b
  · cases a⟩
theorem DRl.app {K : PySem.W.Frag} {H : Hp} {ds es : List D} {vs us : List V} (h : DRl K H ds vs) (g : DRl K H es us) : DRl K H (ds ++ es) (vs ++ us) := ⟨by rw [List.length_append, List.length_append, h.1, g.1], fun i e v a b => by
  by_cases hi : i < ds.length
  · rw [List.getElem?_append_left hi] at a
    rw [List.getElem?_append_left (by rw [← h.1]; exact hi)] at b
    exact h.2 i e v a b
  · rw [List.getElem?_append_right (by omega)] at a
    rw [List.getElem?_append_right (by rw [← h.1]; omega), ← h.1] at b
    exact g.2 _ e v a b⟩
theorem cut_hi (vs : List V) (k : Nat) : cutV vs none (some (k : Int)) = vs.take k := by
  have e1 : HT.sIx vs.length 0 none = 0 := rfl
  have e2 : HT.sIx vs.length vs.length (some (k : Int)) = min k vs.length := by
    unfold HT.sIx
    dsimp only
    rw [if_neg (by omega)]
    rfl
  unfold cutV
  rw [e1, e2, List.drop_zero, Nat.sub_zero, ← List.take_eq_take_min]
theorem cut_lo (vs : List V) (k : Nat) : cutV vs (some (k : Int)) none = vs.drop k := by
  have e1 : HT.sIx vs.length 0 (some (k : Int)) = min k vs.length := by
    unfold HT.sIx
    dsimp only
    rw [if_neg (by omega)]
    rfl
  have e2 : HT.sIx vs.length vs.length none = vs.length := rfl
  unfold cutV
  rw [e1, e2]
  rw [List.take_of_length_le (by rw [List.length_drop]; omega)]
  by_cases h : k ≤ vs.length
  · rw [Nat.min_eq_left h]
  · rw [Nat.min_eq_right (by omega), List.drop_length, List.drop_eq_nil_of_le (by omega)]
theorem x_slHi {l : Addr} {ds : List D} {k : Nat} {p2 : Pos} (ha : EX X B ρ a (lstA X.K l ds)) (hb : EX X B ρ b (rI (k : Int))) : EX X B ρ (.Subscript a (.Slice none (some b) none p2) pos) (newL B X.K (ds.take k)) :=
  PE_wk (pe_slice sl_list ha po_none (po_some hb)) fun σ H Q ⟨s, q⟩ => ⟨s, fun x H1 e1 hx => ⟨s.mono e1, fun y H2 e2 hy => ⟨(k : Int), hy, by
    obtain ⟨rfl, _, us, h1, h2⟩ := hx
    refine ⟨l, us, rfl, (h1.ext e2).sq, fun p hp => q _ _ (e1.trans (e2.trans (Ext.new hp))) ?_⟩
    obtain ⟨hB, hd⟩ := ((s.mono e1).mono e2).fresh hp
    rw [cut_hi]
    exact ⟨p, hB, rfl, hd, us.take k, upd_same, (h2.take k).tk (e2.trans (Ext.new (d := d) hp)).tk⟩⟩⟩⟩
theorem x_slLo {l : Addr} {ds : List D} {k : Nat} {p2 : Pos} (ha : EX X B ρ a (lstA X.K l ds)) (hb : EX X B ρ b (rI (k : Int))) : EX X B ρ (.Subscript a (.Slice (some b) none none p2) pos) (newL B X.K (ds.drop k)) :=
  PE_wk (pe_slice sl_list ha (po_some hb) po_none) fun σ H Q ⟨s, q⟩ => ⟨s, fun x H1 e1 hx => ⟨s.mono e1, fun y H2 e2 hy => ⟨(k : Int), hy, by
    obtain ⟨rfl, _, us, h1, h2⟩ := hx
    refine ⟨l, us, rfl, (h1.ext e2).sq, fun p hp => q _ _ (e1.trans (e2.trans (Ext.new hp))) ?_⟩
    obtain ⟨hB, hd⟩ := ((s.mono e1).mono e2).fresh hp
    rw [cut_lo]
    exact ⟨p, hB, rfl, hd, us.drop k, upd_same, (h2.drop k).tk (e2.trans (Ext.new (d := d) hp)).tk⟩⟩⟩⟩
theorem x_tlHi {ds : List D} {k : Nat} {p2 : Pos} (ha : EX X B ρ a (dat X.K (.t ds))) (hb : EX X B ρ b (rI (k : Int))) : EX X B ρ (.Subscript a (.Slice none (some b) none p2) pos) (dat X.K (.t (ds.take k))) :=
  PE_wk (pe_slice sl_tupA ha po_none (po_some hb)) fun σ H Q ⟨s, q⟩ => ⟨s, fun x H1 e1 hx => ⟨s.mono e1, fun y H2 e2 hy => ⟨(k : Int), hy, by
    obtain ⟨t, us, rfl, h1, h2⟩ := DR.tup hx
    refine ⟨t, us, rfl, e2.tk.sqT h1, fun h => q _ _ (e1.trans e2) ?_, fun h p hp => q _ _ (e1.trans (e2.trans (Ext.new hp))) ?_⟩
    · have e : us.take k = us := by
        rw [← cut_hi]
        unfold cutV
        rw [h.1, h.2, Nat.sub_zero, List.drop_zero, List.take_length]
      have := h2.take k
      rw [e] at this
      exact DR.of_tup (e2.tk.sqT h1) (this.tk e2.tk)
    · rw [cut_hi]
      exact DR.of_tup (SqT.of upd_same) ((h2.take k).tk (e2.trans (Ext.new (d := d) hp)).tk)⟩⟩⟩
theorem x_tlLo {ds : List D} {k : Nat} {p2 : Pos} (ha : EX X B ρ a (dat X.K (.t ds))) (hb : EX X B ρ b (rI (k : Int))) : EX X B ρ (.Subscript a (.Slice (some b) none none p2) pos) (dat X.K (.t (ds.drop k))) :=
  PE_wk (pe_slice sl_tupA ha (po_some hb) po_none) fun σ H Q ⟨s, q⟩ => ⟨s, fun x H1 e1 hx => ⟨s.mono e1, fun y H2 e2 hy => ⟨(k : Int), hy, by
    obtain ⟨t, us, rfl, h1, h2⟩ := DR.tup hx
    refine ⟨t, us, rfl, e2.tk.sqT h1, fun h => q _ _ (e1.trans e2) ?_, fun h p hp => q _ _ (e1.trans (e2.trans (Ext.new hp))) ?_⟩
    · have e : us.drop k = us := by
        rw [← cut_lo]
        unfold cutV
        rw [h.1, h.2, Nat.sub_zero, List.drop_zero, List.take_length]
      have := h2.drop k
      rw [e] at this
      exact DR.of_tup (e2.tk.sqT h1) (this.tk e2.tk)
    · rw [cut_lo]
      exact DR.of_tup (SqT.of upd_same) ((h2.drop k).tk (e2.trans (Ext.new (d := d) hp)).tk)⟩⟩⟩
/-! ### lists and tuples joined -/
theorem x_catL {ds es' : List D} (ha : EX X B ρ a (newL B X.K ds)) (hb : EX X B ρ b (newL B X.K es')) (hl : ds.length + es'.length ≤ 1000) : EX X B ρ (.BinOp a .Add b pos) (newL B X.K (ds ++ es')) :=
  x_op2 op_cat ha hb fun x y H σ Q s hx hy q => by
    obtain ⟨l, _, rfl, _, us, h1, h2⟩ := hx
    obtain ⟨l2, _, rfl, _, us2, h3, h4⟩ := hy
    refine ⟨l, l2, us, us2, rfl, rfl, h1, h3, by rw [← h2.1, ← h4.1]; exact Nat.le_of_lt (small1000 hl), fun p hp => q _ _ (Ext.new hp) ?_⟩
    obtain ⟨hB, hd⟩ := s.fresh hp
    exact ⟨p, hB, rfl, hd, us ++ us2, upd_same, (h2.app h4).tk (Ext.new (d := d) hp).tk⟩
theorem x_catT {ds es' : List D} (ha : EX X B ρ a (dat X.K (.t ds))) (hb : EX X B ρ b (dat X.K (.t es'))) (hl : ds.length + es'.length ≤ 1000) : EX X B ρ (.BinOp a .Add b pos) (dat X.K (.t (ds ++ es'))) :=
  x_op2 op_catA ha hb fun x y H σ Q s hx hy q => by
    obtain ⟨l, us, rfl, h1, h2⟩ := DR.tup hx
    obtain ⟨l2, us2, rfl, h3, h4⟩ := DR.tup hy
    have h5 := h2.app h4
    refine ⟨l, l2, us, us2, rfl, rfl, h1, h3, by rw [← h2.1, ← h4.1]; exact Nat.le_of_lt (small1000 hl), fun z => q _ _ (Ext.refl H) ?_, fun _ z => q _ _ (Ext.refl H) ?_, fun _ _ p hp => q _ _ (Ext.new hp) ?_⟩
    · rw [z, List.nil_append] at h5
      exact DR.of_tup h3 h5
    · rw [z, List.append_nil] at h5
      exact DR.of_tup h1 h5
    · exact DR.of_tup (SqT.of upd_same) (h5.tk (Ext.new (d := d) hp).tk)
/-! ### texts; lists compared -/
theorem x_str {K : PySem.W.Frag} {j : Nat} {x : Str} : EX X B ρ (.Constant (.str x) j pos) (dat K (.s x)) := PE_wk pe_str fun σ H Q ⟨s, q⟩ => q _ H (Ext.refl H) (.s x)
theorem t_eqS {K : PySem.W.Frag} {x y : Str} (ha : EX X B ρ a (dat K (.s x))) (hb : EX X B ρ b (dat K (.s y))) : TX X B ρ (.Compare a [.Eq] [b] pos) (is (decide (x = y))) := t_cmp op_eq (nomark _) ha hb fun u v H σ Q _ hx hy q => by
  cases hx; cases hy
  refine ⟨rfl, q _ H (Ext.refl H) ?_⟩
  by_cases h : x = y
  · rw [h, decide_eq_true rfl, decide_eq_true rfl]
  · rw [decide_eq_false h, decide_eq_false fun z => h (V.str.inj z)]
theorem shpLs {k : Nat} {xs : List D} (h : ∀ e ∈ xs, Shp k e) (hk : k < 64) : SeqAt.shaped (.list (pyL xs)) = true := by
  obtain ⟨h1, h2⟩ := shpL fun e he => (h e he).lay
  unfold SeqAt.shaped
  have e1 : (PyData.list (pyL xs)).canLay0 = true := by simpa [PyData.canLay0] using h1
  have e2 : (PyData.list (pyL xs)).depth ≤ 64 := by
    have : (PyData.list (pyL xs)).depth ≤ k + 1 := by simpa [PyData.depth] using h2
    omega
  rw [e1, Bool.true_and]
  exact decide_eq_true e2
theorem eqvLs {k j : Nat} {xs ys : List D} (h : ∀ e ∈ xs, Shp k e) (g : ∀ e ∈ ys, Shp j e) : PyData.eqv (.list (pyL xs)) (.list (pyL ys)) = true ↔ xs = ys := by
  have := eqvL (xs := xs) (ys := ys) (fun e he {f} hf => (h e he).eqv hf) fun f hf => ⟨_, g f hf⟩
  simpa [PyData.eqv] using this
theorem dpLs {K : PySem.W.Frag} {l : Addr} {ds : List D} {v : V} {H : Hp} (h : (lstA (d := d) K l ds).p v H) : Dp K H v (.list (pyL ds)) := by
  obtain ⟨rfl, _, us, h1, h2⟩ := h
  exact .lst h1.sq (dpAll_of h2.1 fun i e v a b => dp_of (h2.2 i e v a b))
theorem t_eqL {l1 l2 : Addr} {xs ys : List D} {k j : Nat} (hu : X.A.units + 64 < cLine) (ha : EX X B ρ a (lstA X.K l1 xs)) (hb : EX X B ρ b (lstA X.K l2 ys)) (hx : ∀ e ∈ xs, Shp k e) (hy : ∀ e ∈ ys, Shp j e) (hk : k < 64 := by decide) (hj : j < 64 := by decide) : TX X B ρ (.Compare a [.Eq] [b] pos) (fun q => q = true ↔ xs = ys) :=
  t_cmp (op_eqD hu) (nomark _) ha hb fun u v H σ Q _ hx' hy' q => ⟨_, _, dpLs hx', dpLs hy', shpLs hx hk, shpLs hy hj, q _ H (Ext.refl H) (eqvLs hx hy)⟩
theorem t_neL {l1 l2 : Addr} {xs ys : List D} {k j : Nat} (hu : X.A.units + 64 < cLine) (ha : EX X B ρ a (lstA X.K l1 xs)) (hb : EX X B ρ b (lstA X.K l2 ys)) (hx : ∀ e ∈ xs, Shp k e) (hy : ∀ e ∈ ys, Shp j e) (hk : k < 64 := by decide) (hj : j < 64 := by decide) : TX X B ρ (.Compare a [.NotEq] [b] pos) (fun q => q = false ↔ xs = ys) :=
  t_cmp (op_neD hu) (nomark _) ha hb fun u v H σ Q _ hx' hy' q => ⟨_, _, dpLs hx', dpLs hy', shpLs hx hk, shpLs hy hj, q _ H (Ext.refl H) (by have := eqvLs hx hy; rw [← this]; cases PyData.eqv (.list (pyL xs)) (.list (pyL ys)) <;> simp)⟩
theorem x_eqL {l1 l2 : Addr} {xs ys : List D} {k j : Nat} (hu : X.A.units + 64 < cLine) (ha : EX X B ρ a (lstA X.K l1 xs)) (hb : EX X B ρ b (lstA X.K l2 ys)) (hx : ∀ e ∈ xs, Shp k e) (hy : ∀ e ∈ ys, Shp j e) (hk : k < 64 := by decide) (hj : j < 64 := by decide) : EX X B ρ (.Compare a [.Eq] [b] pos) (exR (fun q => q = true ↔ xs = ys) rB) :=
  x_cmp (op_eqD hu) (nomark _) ha hb fun u v H σ Q _ hx' hy' q => ⟨_, _, dpLs hx', dpLs hy', shpLs hx hk, shpLs hy hj, q _ H (Ext.refl H) ⟨_, eqvLs hx hy, rfl⟩⟩
/-! ### a tuple of what is no data -/
def tupR (K : PySem.W.Frag) (Rs : List (Rp d)) : Rp d := ⟨fun v H => ∃ t vs, v = .ref t ∧ SqT K H t vs ∧ RsH Rs vs H, fun e ⟨t, vs, h1, h2, h3⟩ => ⟨t, vs, h1, e.tk.sqT h2, h3.mono e⟩⟩
theorem x_tupX {x1} (h : AX X B ρ es Rs) (hl : Rs.length ≤ 1000 := by first | decide | simp) : EX X B ρ (.Tuple es x1 pos) (tupR X.K Rs) :=
  PE_wk (pe_tup h) fun σ H Q ⟨s, q⟩ => ⟨s, fun vs H1 e1 hv => by
    refine ⟨by rw [hv.len]; exact Nat.le_of_lt (small1000 hl), fun p hp => q _ _ (e1.trans (Ext.new hp)) ?_⟩
    exact ⟨p, vs, rfl, SqT.of upd_same, hv.mono (Ext.new hp)⟩⟩
theorem x_ixX (k : Nat) (ha : EX X B ρ a (tupR X.K Rs)) (hb : EX X B ρ b (rI (k : Int))) (hw : Rs[k]? = some R) (hs : PlainIx b := by exact (fun _ _ => rfl)) : EX X B ρ (.Subscript a b pos) R :=
  PE_wk (pe_ix ix_tup ha hb hs) fun σ H Q ⟨s, q⟩ => ⟨s, fun x H1 e1 hx => ⟨s.mono e1, fun y H2 e2 hy => by
    obtain ⟨t, us, rfl, h1, h2⟩ := hx
    obtain ⟨v, hv, hr⟩ := h2.get hw
    exact ⟨t, us, _, v, rfl, hy, e2.tk.sqT h1, atI_nat hv, q v H2 (e1.trans e2) (R.st e2 hr)⟩⟩⟩
/-- for x, y in enumerate(a list that the slots tell) -/
theorem bx_forEL {α : Type} {ds : List D} {la : Addr} (j k : Nat) {x y : Str} {kk : Nat} {tpos p1 p2 p p3 : Pos} (P : Nat → α → Prop) (r : Nat → α → Ro d) (hg : Gl X "enumerate") (hm : X.mg "enumerate" = none) (ha : EX X B ρ a (lstA X.K la ds)) (h0 : ∀ σ H, St B ρ σ H → IS B (P 0) (r 0) σ H)
    (hl : ∀ i z, P i z → ∃ (k : Nat) (R : Rp d), (r i z)[k]? = some (some R) ∧ ∀ v H, R.p v H → (lstA (d := d) X.K la ds).p v H)
    (hb : ∀ (i : Nat) w z, ds[i]? = some w → P i z → BX X body (St B (((r i z).set j (some (rI (i : Int)))).set k (some (dat X.K w)))) (Lp Po (IS B (P (i + 1)) (r (i + 1))) (IS B (P ds.length) (r ds.length)))) (h : BX X rest (IS B (P ds.length) (r ds.length)) Po)
    (hN : X.N.Nodup) (hp : PassesOwn (model X.prog X.w) X.A X.env X.xe) (hj : X.N[j]? = some x := by rfl) (hk : X.N[k]? = some y := by rfl) (hc : X.calm = true := by rfl) (hx : Loc X.env.scope x := by first | exact Or.inl rfl | exact Or.inr rfl) (hy : Loc X.env.scope y := by first | exact Or.inl rfl | exact Or.inr rfl)
    (hf : X.fn x = true ∨ X.env.scope.names.lookup x = some .local := by first | exact .inl rfl | exact .inr rfl | assumption) (hfy : X.fn y = true ∨ X.env.scope.names.lookup y = some .local := by first | exact .inl rfl | exact .inr rfl | assumption)
    (he : starEach [a] X.env = [(false, eval a X.env)] := by rfl) (hs : ∀ x, foldedSetIterable (.Call (.Name "enumerate" p) [a] [] p3) X.env x = pure x := by intro _; rfl) :
    BX X (.For (.Tuple [.Name x p1, .Name y p2] kk tpos) (.Call (.Name "enumerate" p) [a] [] p3) body [] pos :: rest) (St B ρ) Po := by
  refine bx_cons (Mid := IS B (P ds.length) (r ds.length)) ?_ h
  refine PS_wk (t := tFor (iEnum X.K fun σ H Q => St B ρ σ H ∧ ∀ vs H', Ext d H H' → RsH [lstA X.K la ds] vs H' → Q vs H') (gTup X.K 2 (gCons (gName j) (gCons (gName k) gNil))) (tBody (Z := Nat × D × α) B (fun z => ((r z.1 z.2.2).set j (some (rI (z.1 : Int)))).set k (some (dat X.K z.2.1))) (fun z => ds[z.1]? = some z.2.1 ∧ P z.1 z.2.2) (fun z => Lp Po (IS B (P (z.1 + 1)) (r (z.1 + 1))) (IS B (P ds.length) (r ds.length)))))
    (ps_for hp hc (pi_enum hg hm (a_cons ha a_nil he) he) (pg_tup hc (pgs_cons (pg_name hN hj hx hf) (pgs_cons (pg_name hN hk hy hfy) pgs_nil))) ⟨fun pins s σ H E I ⟨⟨i, w, z⟩, ⟨hw, hz⟩, q, l⟩ => (hb i w z hw hz).run pins s σ H E I ⟨q, l⟩⟩ hs) fun E σ H ⟨s, l⟩ => ⟨s, fun vs H1 e1 hv => ?_⟩
  obtain ⟨v, rfl, hv'⟩ := hv.one
  obtain ⟨rfl, hld, us, h1, h2⟩ := hv'
  have key : ∀ i σ H, IS B (P i) (r i) σ H → ∃ vs, SqL X.K H la vs ∧ DRl X.K H ds vs := fun i σ H ⟨z, hz, q⟩ => by
    obtain ⟨k, R, hk, hR⟩ := hl i z hz
    obtain ⟨v, _, g⟩ := q.good.get hk
    obtain ⟨_, _, vs, a1, a2⟩ := hR v H g
    exact ⟨vs, a1.sq, a2⟩
  refine ⟨la, us, rfl, h1.sq, fun i m σ H => m = ds.length - i ∧ i ≤ ds.length ∧ Tk H1 H ∧ IS B (P i) (r i) σ H, ⟨ds.length, rfl, Nat.zero_le _, Tk.refl _, h0 _ _ (s.mono e1)⟩, ?_⟩
  rintro i m σ H ⟨rfl, hi, kk, q⟩
  obtain ⟨vs, a1, a2⟩ := key i σ H q
  by_cases hlt : i < ds.length
  · have hv : i < vs.length := by rw [← a2.1]; exact hlt
    refine .inr ⟨⟨vs, vs[i], a1, List.getElem?_eq_getElem hv⟩, fun σ' H' => Tk H1 H' ∧ IS B (P (i + 1)) (r (i + 1)) σ' H', fun σ' H' p' => ⟨ds.length - (i + 1), by omega, rfl, hlt, p'.1, p'.2⟩, fun v H' yl => ?_⟩
    obtain ⟨T, x', rfl, hT, rfl, f1⟩ := yl
    obtain ⟨w, hw, hr⟩ := a2.getV (f1 vs a1)
    obtain ⟨z, hz, q⟩ := q
    have eT : Ext d H (upd H T (.tup [.int (i : Nat), x'])) := Ext.new hT
    have kT := kk.trans eT.tk
    refine ⟨T, [.int (i : Nat), x'], rfl, SqT.of upd_same, rfl, .int (i : Nat), [x'], rfl, x', [], rfl, rfl, (i, w, z), ⟨hw, hz⟩, ⟨(q.mono eT).ext, (q.mono eT).dr, ((q.mono eT).good.set j (R := rI (i : Int)) rfl).set k (R := dat X.K w) (hr.tk eT.tk)⟩, ?_⟩
    exact ⟨fun σ' H' k' q' => ⟨kT.trans k', q'⟩, fun v H' k' q' => l.rt v H' ((e1.tk.trans kT).trans k') q', fun σ' H' k' q' => l.nx σ' H' ((e1.tk.trans kT).trans k') q', fun σ' H' k' q' => ⟨kT.trans k', q'⟩⟩
  · have e' : i = ds.length := by omega
    subst e'
    exact .inl ⟨⟨vs, a1, by rw [← a2.1]; exact Nat.le_refl _⟩, l.nx σ H (e1.tk.trans kk) q⟩
theorem t_ltE {P S : Int → Prop} (ha : EX X B ρ a (iE P)) (hb : EX X B ρ b (iE S)) : TX X B ρ (.Compare a [.Lt] [b] pos) (fun k => ∃ i j, P i ∧ S j ∧ k = decide (i < j)) := t_cmp op_lt (nomark _) ha hb fun x y H σ Q _ ⟨i, hi, hx⟩ ⟨j, hj, hy⟩ q => ⟨i, j, hx, hy, q _ H (Ext.refl H) ⟨i, j, hi, hj, rfl⟩⟩
theorem t_gtE {P S : Int → Prop} (ha : EX X B ρ a (iE P)) (hb : EX X B ρ b (iE S)) : TX X B ρ (.Compare a [.Gt] [b] pos) (fun k => ∃ i j, P i ∧ S j ∧ k = decide (j < i)) := t_cmp op_gt (nomark _) ha hb fun x y H σ Q _ ⟨i, hi, hx⟩ ⟨j, hj, hy⟩ q => ⟨i, j, hx, hy, q _ H (Ext.refl H) ⟨i, j, hi, hj, rfl⟩⟩
theorem x_newE {ds : List D} {K : PySem.W.Frag} (h : EX X B ρ e (newL B K ds)) : EX X B ρ e (newE B K fun es => es = ds) := x_sub h fun v H hv => ⟨ds, rfl, hv⟩
theorem x_lstE {P : Int → Prop} (h : EX X B ρ e (iE P)) (hs : starEach [e] X.env = (false, eval e X.env) :: starEach [] X.env := by rfl) : EX X B ρ (.List [e] pos) (newE B X.K fun ds => ∃ z, P z ∧ ds = [.i z]) :=
  PE_wk (pe_lst (a_cons h a_nil hs)) fun σ H Q ⟨s, q⟩ => ⟨s, fun vs H1 e1 hv => by
    obtain ⟨v, rfl, z, hz, hv⟩ := hv.one
    obtain rfl : v = .int z := hv
    refine ⟨Nat.le_of_lt (small1000 (by simp)), fun p hp => q _ _ (e1.trans (Ext.new hp)) ?_⟩
    obtain ⟨hB, hpd⟩ := (s.mono e1).fresh hp
    exact ⟨_, ⟨z, hz, rfl⟩, p, hB, rfl, hpd, [.int z], upd_same, DRl.of_ints [z]⟩⟩
theorem x_catLE {P S : List D → Prop} (ha : EX X B ρ a (newE B X.K P)) (hb : EX X B ρ b (newE B X.K S)) (hl : ∀ x y, P x → S y → x.length + y.length ≤ 1000) : EX X B ρ (.BinOp a .Add b pos) (newE B X.K fun ds => ∃ x y, P x ∧ S y ∧ ds = x ++ y) :=
  x_op2 op_cat ha hb fun x y H σ Q s hx hy q => by
    obtain ⟨ds, hds, l, _, rfl, _, us, h1, h2⟩ := hx
    obtain ⟨es', hes, l2, _, rfl, _, us2, h3, h4⟩ := hy
    refine ⟨l, l2, us, us2, rfl, rfl, h1, h3, by rw [← h2.1, ← h4.1]; exact Nat.le_of_lt (small1000 (hl _ _ hds hes)), fun p hp => q _ _ (Ext.new hp) ?_⟩
    obtain ⟨hB, hd⟩ := s.fresh hp
    exact ⟨_, ⟨ds, es', hds, hes, rfl⟩, p, hB, rfl, hd, us ++ us2, upd_same, (h2.app h4).tk (Ext.new (d := d) hp).tk⟩
/-- y = [elt for ..]: a store of its own kind -/
def AsgX (X : Cx) (B : Hp) (ρ : Ro d) (i : Nat) (st : Stmt) (R : Rp d) : Prop := PS X st fun E σ H => St B ρ σ H ∧ ∀ v H', Ext d H H' → R.p v H' → E.nx (σ.set i (some v)) H'
theorem as_sub {i : Nat} (h : AsgX X B ρ i st R) (w : ∀ v H, R.p v H → R'.p v H) : AsgX X B ρ i st R' := PS_wk h fun E σ H ⟨s, q⟩ => ⟨s, fun v H' e1 hv => q v H' e1 (w v H' hv)⟩
theorem bx_newA (i : Nat) {K : PySem.W.Frag} {S : List D → Prop} (ls : List Addr) (hls : ∀ l ∈ ls, Known l ρ) (he : ∀ B' : Hp, AsgX X B' ρ i st (newE B' K S)) (h : ∀ l ds, S ds → B l = none → (∀ l' ∈ ls, l ≠ l') → BX X rest (St B (ρ.set i (some (own K l ds)))) Po) : BX X (st :: rest) (St B ρ) Po := by
  refine bx_cons (Mid := fun σ H => ∃ z : Addr × List D, (S z.2 ∧ B z.1 = none ∧ ∀ l' ∈ ls, z.1 ≠ l') ∧ St B (ρ.set i (some (own K z.1 z.2))) σ H) ?_ (bx_ex fun z hz => h z.1 z.2 hz.1 hz.2.1 hz.2.2)
  refine ⟨fun pins s σ H E I ⟨st, q⟩ => ?_⟩
  refine (he H).run pins s σ H E I ⟨⟨Ext.refl H, st.dr, st.good⟩, fun v H' e1 hv => ?_⟩
  obtain ⟨ds, hS, l, hl, hv⟩ := hv
  have hld : some l ≠ d := hv.2.1
  refine q.nx _ H' e1.tk ⟨(l, ds), ⟨hS, ?_, fun l' hl' z => ?_⟩, st.ext.trans e1, (st.mono e1).dr, (st.mono e1).good.set i hv⟩
  · cases e2 : B l with
    | none => rfl
    | some o =>
      have := st.ext.at e2 hld
      rw [hl] at this; cases this
  · obtain ⟨k, R, h1, h2⟩ := hls l' hl'
    obtain ⟨w, _, h3⟩ := st.good.get h1
    exact h2 w H h3 (by have z' : l = l' := z; rw [← z']; exact hl)
theorem as_lcRE {S : Int → Prop} (i0 j : Nat) {x y : Str} {py spos : Pos} {scope : Scope} {tpos p p2 : Pos} (P : Nat → D → Prop) (hg : Gl X "range") (hm : X.mg "range" = none) (hi : EX X B ρ e (iE S)) (hn : ∀ nn, S nn → nn < 2000 ∧ -(2 ^ 62) ≤ nn) (hN : X.N.Nodup) (hok : BlkOk X.N X.env.scope scope [(x, j)])
    (hgn : ∀ (s : Shared) (H : Hp) (C : Addr) (cl : List (Str × Addr)) (fp : List Addr), PG (X.blk s H scope (compEnvC scope cl C X.env) fp) (.Name x tpos) (gName j))
    (hb : ∀ (s : Shared) (H : Hp) (C : Addr) (cl : List (Str × Addr)) (fp : List Addr) (i : Nat), EX (X.blk s H scope (compEnvC scope cl C X.env) fp) B (ρ.set j (some (rI (i : Int)))) elt (dE X.K (P i)))
    (hc : X.calm = true := by rfl) (he : starEach [e] X.env = [(false, eval e X.env)] := by rfl) (hs : ∀ x, foldedSetIterable (.Call (.Name "range" p) [e] [] p2) X.env x = pure x := by intro _; rfl)
    (hy : X.N[i0]? = some y := by rfl) (hyl : X.env.scope.names.lookup y = some .local := by rfl) (hsw : swapsWith (.ListComp elt [⟨.Name x tpos, .Call (.Name "range" p) [e] [] p2, [], 0⟩] scope pos) (some (.Name y py)) spos.line X.env = pure true := by rfl) :
    AsgX X B ρ i0 (.Assign [.Name y py] (.ListComp elt [⟨.Name x tpos, .Call (.Name "range" p) [e] [] p2, [], 0⟩] scope pos) spos) (newE B X.K fun ds => (∃ nn, S nn ∧ ds.length = nn.toNat) ∧ ∀ k w, ds[k]? = some w → P k w) := by
  refine PS_wk (ps_setLc (own := [(x, j)]) (g := gName j) (tt := tYes) (te := tElt (Z := Nat) B X.K (fun i => ρ.set j (some (rI (i : Int)))) (fun i => True) P) hc hN hy hyl hsw (pi_range1 hg hm (a_cons hi a_nil he) he) hok hgn (fun _ _ _ _ _ => pts_nil) (fun s H C cl fp => elt_of fun i _ => hb s H C cl fp i) hs) fun E σ H ⟨s, q⟩ => ⟨s, fun vs H1 e1 hv => ?_⟩
  obtain ⟨v, rfl, hv'⟩ := hv.one
  obtain ⟨nn, hnn, hv'⟩ := hv'
  obtain rfl : v = .int nn := hv'
  have hn' := hn nn hnn
  have s1 := s.mono e1
  refine ⟨nn, rfl, hn'.2, by omega, fun Dl hD => ?_⟩
  obtain ⟨hB, hDd⟩ := s1.fresh hD
  refine lc_range (lo := 0) (n := nn.toNat) (Lc H1 X.K Dl d P) ⟨Ext.new hD, [], [], upd_same, DRl.nil, rfl, fun k w h => by cases h⟩ (fun i H' hlt L => ?_) (fun H' L => ?_)
  · refine ⟨wipe1 _ _ _, ?_⟩
    refine ⟨i, trivial, ?_, fun y H2 e2 hy => lc_step hD hDd L e2 hy (by omega)⟩
    rw [Int.zero_add]
    exact st_wipe (s1.mono L.1) (R := rI (i : Int)) rfl
  · obtain ⟨h0, us, ds, h1, h2, h3, h4⟩ := L
    exact q _ H' (e1.trans h0) ⟨ds, ⟨⟨nn, hnn, h3⟩, h4⟩, Dl, hB, rfl, hDd, us, h1, h2⟩
theorem tupR2_up {ρ1 : Ro d} {K : PySem.W.Frag} {S : List D → Prop} {σ : L2.St} {H H' : Hp} {v : V} (s : St B ρ1 σ H) (h : (tupR (d := d) K [newE H K S, rAny]).p v H') : (tupR (d := d) K [newE B K S, rAny]).p v H' := by
  obtain ⟨t, vs, h1, h2, h3⟩ := h
  obtain ⟨x, y, rfl, h4, h5⟩ := h3.two
  exact ⟨t, [x, y], h1, h2, newE_up s h4, trivial, trivial⟩
end
end Cv

namespace Cv
open PySem PySem.Spec PyProof.Rows L2 RZ
section
variable {d : Option Addr} {X : Cx} {B : Hp} {ρ ρ' : Ro d} {a b c e iter elt : Expr} {es : List Expr} {R R' Ra Rb : Rp d} {Rs : List (Rp d)} {pos : Pos} {m n : Int} {st : Stmt} {rest body orelse : List Stmt} {Pre Mid : L2.St → Hp → Prop} {Po : Ends}
theorem bx_unp2 {A1 A2 : D} (i1 i2 : Nat) {x1 x2 : Str} {q1 q2 q4 : Pos} {kk : Nat} (he : EX X B ρ e (dat X.K (.t [A1, A2]))) (h : BX X rest (St B ((ρ.set i1 (some (dat X.K A1))).set i2 (some (dat X.K A2)))) Po)
    (hN : X.N.Nodup) (h1 : X.N[i1]? = some x1 := by rfl) (h2 : X.N[i2]? = some x2 := by rfl) (hc : X.calm = true := by rfl) (l1 : Loc X.env.scope x1 := by first | exact Or.inl rfl | exact Or.inr rfl) (l2 : Loc X.env.scope x2 := by first | exact Or.inl rfl | exact Or.inr rfl)
    (f1 : X.fn x1 = true ∨ X.env.scope.names.lookup x1 = some .local := by first | exact .inl rfl | exact .inr rfl | assumption) (f2 : X.fn x2 = true ∨ X.env.scope.names.lookup x2 = some .local := by first | exact .inl rfl | exact .inr rfl | assumption)
    (hs : swapsWithSole [.Tuple [.Name x1 q1, .Name x2 q2] kk q4] e pos.line X.env = pure false := by rfl) (hw : swappedStores [.Tuple [.Name x1 q1, .Name x2 q2] kk q4] e X.env = pure none := by rfl) :
    BX X (.Assign [.Tuple [.Name x1 q1, .Name x2 q2] kk q4] e pos :: rest) (St B ρ) Po := by
  refine bx_cons (Mid := St B ((ρ.set i1 (some (dat X.K A1))).set i2 (some (dat X.K A2)))) ?_ h
  refine PS_wk (ps_asg he (pg_tup hc (pgs_cons (pg_name hN h1 l1 f1) (pgs_cons (pg_name hN h2 l2 f2) pgs_nil))) hs hw) fun E σ H ⟨s, l⟩ => ⟨s, fun v H' e1 hv => ?_⟩
  obtain ⟨t, us, rfl, g1, g2⟩ := DR.tup hv
  match us, g2 with
  | [v1, v2], g2 =>
    refine ⟨t, [v1, v2], rfl, g1, rfl, v1, [v2], rfl, v2, [], rfl, rfl, ?_⟩
    exact l.nx _ H' e1.tk ⟨(s.mono e1).ext, (s.mono e1).dr, ((s.mono e1).good.set i1 (R := dat X.K A1) (g2.2 0 A1 v1 rfl rfl)).set i2 (R := dat X.K A2) (g2.2 1 A2 v2 rfl rfl)⟩
  | [], g2 => exact absurd g2.1 (by simp)
  | [_], g2 => exact absurd g2.1 (by simp)
  | _ :: _ :: _ :: _, g2 => exact absurd g2.1 (by simp)
theorem passX : Passes (L2.CX X.prog X.w) X E0 := fun _ _ _ _ _ _ _ h => by
  obtain ⟨_, _, _, _, _, _, _, _, _, _, _, _, z⟩ := h
  exact z.elim
/-- a class of errors of the program's own, made with a text -/
structure ErrTxt (K : PySem.W.Frag) (mg : Str → Option Value) (C : Addr) (x : Str) : Prop where
  gC : mg x = some (.ref C)
  exc : PySem.W.excIn K C [Value.type "ValueError", Value.type "Exception", Value.type "BaseException", Value.type "object"] "ValueError.__new__" = true
  kC : PySem.W.keepIn K (.ref C) = true
  exB : PySem.W.subIn K (.ref C) (.type "BaseException") = some true
  tyC : PySem.W.typeIn K (.ref C) = some (.type "type")
  te : PySem.W.exmOne K (.ref C) (.ref C) = some true
/-- raise C('text') -/
theorem bx_raiseC {C : Addr} {x m : Str} {j : Nat} {p p2 pos2 : Pos} {E : XK} {W : L2.WX} (T : ErrTxt X.K X.mg C x) (tk : L2.Takes X W) (hW : ∀ σ H, E (.ref C) none H → W (.ref C) none σ H) (hE : ∀ H1, Ext d B H1 → E (.ref C) none H1)
    (hc : X.calm = true := by rfl) (hg : Gl X x := by rfl) (hd : (x == ("__debug__" : Str)) = false := by decide) :
    BX X (.Raise (some (.Call (.Name x p) [.Constant (.str m) j p2] [] pos)) none pos2 :: rest) (St B ρ) Po :=
  bx_cons (Mid := fun _ _ => False) (PS_wk (L2.ps_raise hc tk (L2.pmk_own PySem.F.excBase_ValueError T.exc T.gC T.kC (raises_own T.exB T.tyC) hg hd)) fun D σ H ⟨s, _⟩ => hW σ H (hE H s.ext)) bx_false
/-- the call's promise tells of results and errors -/
def spE {α : Type} (d : Option Addr) (As : α → List (Rp d)) (Ok : α → Prop) (Rz : α → Rp d) (Bad : α → Prop) (c : Value) : Sp := fun vs H Q E => ∃ z : α, RsH (As z) vs H ∧ (∀ a, d = some a → Drw H a) ∧ (Ok z → ∀ v H', Ext d H H' → (Rz z).p v H' → Q v H') ∧ (Bad z → ∀ H', Ext d H H' → E c none H') ∧ (Ok z ∨ Bad z)
end
section
variable {d : Option Addr} {Pg : Program} {w : World} {K : PySem.W.Frag} {mg : Str → Option Value} {base : Heap}
/-- a def that may raise c: its body with B := the heap at the start -/
theorem fn_okE {α : Type} {As : α → List (Rp d)} {Ok : α → Prop} {Rz : α → Rp d} {Bad : α → Prop} {c : Value} {x qual : Str} {sd : Stmt} {f : Addr} {fd : FuncData} {N ps : List Str} {k : Nat} (F : Fun K x qual sd f fd) (S : FnScope N ps (defScope sd)) (hl : ∀ z, (As z).length = ps.length) (hN : ps.length ≤ N.length)
    (body : ∀ (z : α) (H : Hp) (cdv : Value) (A : Around) (outer : List Env) (s : Shared) (E : XK), Room k (A.deeper (envOfC qual (defScope sd) s.heap.objs.size f cdv)) → (Bad z → ∀ H', Ext d H H' → E c none H') → (Ok z ∨ Bad z) →
      BX (cxOf (L2.CX Pg w) Pg w K mg base N qual (defScope sd) f cdv A outer s H E) (defBody sd) (St H (ro (As z) (N.length - (As z).length))) { nx := fun _ H' => Ok z ∧ Ext d H H' ∧ (Rz z).p .non H', rt := fun v H' => Ok z ∧ Ext d H H' ∧ (Rz z).p v H' }) : FnOk Pg w K mg base (L2.CX Pg w) (k + 1) f fd ps (spE d As Ok Rz Bad c) := by
  refine fn_okX F S (fun vs H Q E ⟨z, h, _⟩ => by rw [h.len, hl]) fun vs H Q E h cdv A outer s hr => ?_
  obtain ⟨z, hz, dr, q, qe, ob⟩ := h
  refine ⟨_, _, st_start hz (by rw [hl]; exact hN) dr, body z H cdv A outer s E hr qe ob, ?_⟩
  exact ⟨fun σ' H' _ ⟨o, e1, h1⟩ => q o _ H' e1 h1, fun v H' _ ⟨o, e1, h1⟩ => q o v H' e1 h1, fun _ _ _ h => h.elim, fun _ _ _ h => h.elim⟩
end
end Cv

namespace Cv
open PySem PySem.Spec PyProof.Rows L2 RZ
/-! ### zip(a, b, c), tuples of one length -/
def IteZ (K : PySem.W.Frag) (a b c : Addr) : It :=
  ⟨fun i H => ∃ (xs ys zs : List V) (x y z : V), SqT K H a xs ∧ SqT K H b ys ∧ SqT K H c zs ∧ xs[i]? = some x ∧ ys[i]? = some y ∧ zs[i]? = some z,
    fun i H v H' => ∃ T x y z, v = .ref T ∧ H T = none ∧ H' = upd H T (.tup [x, y, z]) ∧ (∀ xs, SqT K H a xs → xs[i]? = some x) ∧ (∀ xs, SqT K H b xs → xs[i]? = some y) ∧ (∀ xs, SqT K H c xs → xs[i]? = some z),
    fun i H => ∃ xs ys zs : List V, SqT K H a xs ∧ SqT K H b ys ∧ SqT K H c zs ∧ xs.length = i ∧ ys.length = i ∧ zs.length = i⟩
theorem turn_zip3 {P : Program} {w : World} {K : PySem.W.Frag} {elts : List Expr} {kk : Nat} {tpos : Pos} {a b c z TI TO i1 i2 i3 : Addr} (sep : ZipSep3 z TI TO i1 i2 i3 [i1, a] [i2, b] [i3, c]) (h1 : a ≠ i1) (h2 : b ≠ i2) (h3 : c ≠ i3) :
    Turn P w K (.Tuple elts kk tpos) (IteZ K a b c) [z, TI, TO, i1, i2, i3] z (fun i h => IsZip h z TI TO .none ∧ IsTupOf3 h TI (.ref i1) (.ref i2) (.ref i3) ∧ (∃ a1 a2 a3, IsTupOf3 h TO a1 a2 a3) ∧ h.IsTupleIter i1 a i ∧ h.IsTupleIter i2 b i ∧ h.IsTupleIter i3 c i) where
  mem := by simp
  obj := fun i h ⟨q1, q2, ⟨_, _, _, q3⟩, ⟨o4, q4, _, d4⟩, ⟨o5, q5, _, d5⟩, ⟨o6, q6, _, d6⟩⟩ x hx => by
    have e : x = z ∨ x = TI ∨ x = TO ∨ x = i1 ∨ x = i2 ∨ x = i3 := by simpa using hx
    rcases e with e | e | e | e | e | e
    · rw [e]; exact ⟨_, q1, fun v q => nomatch q⟩
    · rw [e]; exact ⟨_, q2, fun v q => nomatch q⟩
    · rw [e]; exact ⟨_, q3, fun v q => nomatch q⟩
    · rw [e]; exact ⟨_, q4, fun v q => by rw [d4] at q; cases q⟩
    · rw [e]; exact ⟨_, q5, fun v q => by rw [d5] at q; cases q⟩
    · rw [e]; exact ⟨_, q6, fun v q => by rw [d6] at q; cases q⟩
  keep := fun i h h' ⟨q1, q2, ⟨a1, a2, a3, q3⟩, q4, q5, q6⟩ k => ⟨k z (by simp) _ q1, k TI (by simp) _ q2, ⟨a1, a2, a3, k TO (by simp) _ q3⟩, q4.at fun o q => k i1 (by simp) o q, q5.at fun o q => k i2 (by simp) o q, q6.at fun o q => k i3 (by simp) o q⟩
  item := by
    intro X hP hw hK hc i pins s σ H E I hf st hg
    subst hP hw hK
    obtain ⟨xs, ys, zs, x, y, u, hx, hy, hu, ex, ey, eu⟩ := hg
    obtain ⟨s1, s2, s3, s4, s5, s6⟩ := st
    obtain ⟨t1, r1, p1, _⟩ := I.tuple hx
    obtain ⟨t2, r2, p2, _⟩ := I.tuple hy
    obtain ⟨t3, r3, p3, _⟩ := I.tuple hu
    obtain ⟨x', hx', rx⟩ := r1.get ex
    obtain ⟨y', hy', ry⟩ := r2.get ey
    obtain ⟨u', hu', ru⟩ := r3.get eu
    have l1 : i < t1.toArray.size := by rw [List.size_toArray, ← r1.length]; exact (List.getElem?_eq_some_iff.mp ex).1
    have l2 : i < t2.toArray.size := by rw [List.size_toArray, ← r2.length]; exact (List.getElem?_eq_some_iff.mp ey).1
    have l3 : i < t3.toArray.size := by rw [List.size_toArray, ← r3.length]; exact (List.getElem?_eq_some_iff.mp eu).1
    have G := GoesN.zip3 (prog := X.prog) (w := X.w) (A := X.A) (elts := elts) (x1 := kk) (pos := tpos) sep (Draws.tuple (A := X.A.in1) (by exact I.ok.hd hc) i1 a h1 t1.toArray) (Draws.tuple (A := X.A.in1) (by exact I.ok.hd hc) i2 b h2 t2.toArray) (Draws.tuple (A := X.A.in1) (by exact I.ok.hd hc) i3 c h3 t3.toArray)
    refine G.goes i s _ E (by omega) ⟨s1, s2, s3, ⟨s4, p1⟩, ⟨s5, p2⟩, ⟨s6, p3⟩⟩ fun v h' tk hY hS hk _ => ?_
    obtain ⟨T, x2, y2, u2, rfl, hT, e1, e2, e3, hTup⟩ := hY
    obtain ⟨k1, k2, k3, ⟨k4, _⟩, ⟨k5, _⟩, ⟨k6, _⟩⟩ := hS
    have e1 : x2 = x' := by
      have q : t1.toArray[i]? = some x' := by simpa using hx'
      exact Option.some.inj (e1.symm.trans q)
    have e2 : y2 = y' := by
      have q : t2.toArray[i]? = some y' := by simpa using hy'
      exact Option.some.inj (e2.symm.trans q)
    have e3 : u2 = u' := by
      have q : t3.toArray[i]? = some u' := by simpa using hu'
      exact Option.some.inj (e3.symm.trans q)
    subst e1 e2 e3
    have new : ObjOk X.prog X.w (upd H T (.tup [x, y, u])) h' T (.tup [x, y, u]) :=
      ⟨by show 3 ≤ sizeLine; exact Nat.le_of_lt (small1000 (by decide)), [x2, y2, u2], .cons rx (.cons ry (.cons ru .nil)), hTup⟩
    have I1 : Inv X pins σ (upd H T (.tup [x, y, u])) { s with heap := h', toks := tk } :=
      I.turnedNew (ch := [z, TO, i1, i2, i3]) (fun b' ob hb q => hk b' ob hb q) (fun b' hb => hf b' (by simp at hb ⊢; rcases hb with e | e | e | e | e <;> simp [e])) hT new
    refine ⟨.ref T, _, I1, rfl, ⟨T, x, y, u, rfl, I.hok.fresh hT, rfl, fun q hq => by rw [I.tuple_inj hq hx]; exact ex, fun q hq => by rw [I.tuple_inj hq hy]; exact ey, fun q hq => by rw [I.tuple_inj hq hu]; exact eu⟩, ⟨k1, k2, k3, k4, k5, k6⟩, fun b' hb => ?_⟩
    have hb' : b' < s.heap.objs.size := by
      have e : b' = z ∨ b' = TI ∨ b' = TO ∨ b' = i1 ∨ b' = i2 ∨ b' = i3 := by simpa using hb
      obtain ⟨_, _, _, s3⟩ := s3
      obtain ⟨_, s4, _⟩ := s4
      obtain ⟨_, s5, _⟩ := s5
      obtain ⟨_, s6, _⟩ := s6
      rcases e with e | e | e | e | e | e
      · rw [e]; exact Heap.lt_size s1
      · rw [e]; exact Heap.lt_size s2
      · rw [e]; exact Heap.lt_size s3
      · rw [e]; exact Heap.lt_size s4
      · rw [e]; exact Heap.lt_size s5
      · rw [e]; exact Heap.lt_size s6
    rw [upd_ne (Nat.ne_of_lt (Nat.lt_of_lt_of_le hb' hT))]
    exact (hf b' hb).1
  done := by
    intro X hP hw hK hc i pins s σ H E I hf st hg
    subst hP hw hK
    obtain ⟨xs, ys, zs, hx, hy, hu, ex, ey, eu⟩ := hg
    obtain ⟨s1, s2, s3, s4, s5, s6⟩ := st
    obtain ⟨t1, r1, p1, _⟩ := I.tuple hx
    obtain ⟨t2, r2, p2, _⟩ := I.tuple hy
    obtain ⟨t3, r3, p3, _⟩ := I.tuple hu
    have l1 : t1.toArray.size = i := by rw [List.size_toArray, ← r1.length]; exact ex
    have l2 : t2.toArray.size = i := by rw [List.size_toArray, ← r2.length]; exact ey
    have l3 : t3.toArray.size = i := by rw [List.size_toArray, ← r3.length]; exact eu
    have G := GoesN.zip3 (prog := X.prog) (w := X.w) (A := X.A) (elts := elts) (x1 := kk) (pos := tpos) sep (Draws.tuple (A := X.A.in1) (by exact I.ok.hd hc) i1 a h1 t1.toArray) (Draws.tuple (A := X.A.in1) (by exact I.ok.hd hc) i2 b h2 t2.toArray) (Draws.tuple (A := X.A.in1) (by exact I.ok.hd hc) i3 c h3 t3.toArray)
    have en : min (min t1.toArray.size t2.toArray.size) t3.toArray.size = i := by omega
    refine G.stops s _ E (by rw [en]; exact ⟨s1, s2, s3, ⟨s4, p1⟩, ⟨s5, p2⟩, ⟨s6, p3⟩⟩) fun h' tk hk _ => ?_
    exact I.turnedL (ch := [z, TO, i1, i2, i3]) (fun b' o hb q => hk b' o hb q) (fun b' hb => hf b' (by simp at hb ⊢; rcases hb with e | e | e | e | e <;> simp [e]))
  self := fun A i s Q E ⟨s1, _⟩ h => wpAny_pyIter_zip s1 h
def iZip3 (K : PySem.W.Frag) (ta : TA) : TI := fun σ H R => ta σ H fun vs H1 => ∃ a b c xs ys zs, vs = [.ref a, .ref b, .ref c] ∧ SqT K H1 a xs ∧ SqT K H1 b ys ∧ SqT K H1 c zs ∧ R (IteZ K a b c) H1
theorem pi_zip3 {X : Cx} {e e2 e3 : Expr} {ta : TA} {p pos tpos : Pos} {elts : List Expr} {kk : Nat} (hg : Gl X "zip") (hm : X.mg "zip" = none) (ha : PA X [e, e2, e3] ta) (hs : starEach [e, e2, e3] X.env = (false, eval e X.env) :: starEach [e2, e3] X.env := by rfl) (hpl : (backTo pos (starEach [e2, e3] X.env)).any (·.1) = false := by rfl) :
    PI X (.Tuple elts kk tpos) (.Call (.Name "zip" p) [e, e2, e3] [] pos) (iZip3 X.K ta) := by
  refine ⟨fun pins s σ H R I h => ?_⟩
  refine Call_ (ld_blt I hg hm boot_zip (PyProof.Rows.callWith_type1 (thn (ha.run pos pins s σ H _ I h) fun us s1 ⟨vs, H1, I1, r1, q1⟩ => ?_) hs hpl))
  obtain ⟨a, b, c, xs, ys, zs, ex, hx, hy, hz, q⟩ := q1
  subst ex
  cases r1 with
  | cons ra rr =>
    cases rr with
    | cons rb rr =>
      cases rr with
      | cons rc rr =>
        cases rr
        cases ra
        cases rb
        cases rc
        obtain ⟨t1, rv1, p1, _⟩ := I1.tuple hx
        obtain ⟨t2, rv2, p2, _⟩ := I1.tuple hy
        obtain ⟨t3, rv3, p3, _⟩ := I1.tuple hz
        have la : a < s1.heap.objs.size := by obtain ⟨o, ho, _⟩ := p1; exact Heap.lt_size ho
        have lb : b < s1.heap.objs.size := by obtain ⟨o, ho, _⟩ := p2; exact Heap.lt_size ho
        have lc : c < s1.heap.objs.size := by obtain ⟨o, ho, _⟩ := p3; exact Heap.lt_size ho
        refine zip_begins3 (begins_tuple a t1.toArray) (begins_tuple b t2.toArray) (begins_tuple c t3.toArray) p1 p2 p3 fun h' hz hTI hTO o1 o2 o3 hsz hk => wpAny_pyIter_zip hz ?_
        have I2 : Inv X pins σ H1 { s1 with heap := h' } := I1.kept (t' := s1.toks) hk
        refine ⟨_, _, _, _, H1, rfl, I2, turn_zip3 (zip_sep3 (N := s1.heap.objs.size) (fp1 := [a]) (fp2 := [b]) (fp3 := [c]) (by simpa using la) (by simpa using lb) (by simpa using lc)) (Nat.ne_of_lt la) (Nat.ne_of_lt (Nat.lt_succ_of_lt lb)) (Nat.ne_of_lt (Nat.lt_succ_of_lt (Nat.lt_succ_of_lt lc))), ⟨hz, hTI, ⟨_, _, _, hTO⟩, ⟨_, o1, rfl, rfl⟩, ⟨_, o2, rfl, rfl⟩, ⟨_, o3, rfl, rfl⟩⟩, fun b' hb => ?_, q⟩
        have hle : s1.heap.objs.size ≤ b' := by
          simp at hb
          rcases hb with e | e | e | e | e | e <;> (rw [e]; first | exact Nat.le_refl _ | exact Nat.le_add_right _ _)
        exact I1.fpOk hle (I1.hok.fresh hle)
section
variable {d : Option Addr} {X : Cx} {B : Hp} {ρ ρ' : Ro d} {a b c e iter elt : Expr} {es : List Expr} {R R' Ra Rb : Rp d} {Rs : List (Rp d)} {pos : Pos} {m n : Int} {st : Stmt} {rest body orelse : List Stmt} {Pre Mid : L2.St → Hp → Prop} {Po : Ends}
/-- for x, y, z in zip(a, b, c), tuples of one length -/
theorem bx_forZ3 {α : Type} {ds es' fs : List D} (j k l0 : Nat) {x y z : Str} {kk : Nat} {tpos p1 p2 p4 p p3 : Pos} (P : Nat → α → Prop) (r : Nat → α → Ro d) (hg : Gl X "zip") (hm : X.mg "zip" = none) (ha : EX X B ρ a (dat X.K (.t ds))) (hb' : EX X B ρ b (dat X.K (.t es'))) (hc' : EX X B ρ c (dat X.K (.t fs))) (hlen : ds.length = es'.length) (hlen2 : ds.length = fs.length) (h0 : ∀ σ H, St B ρ σ H → IS B (P 0) (r 0) σ H)
    (hb : ∀ (i : Nat) w u t z, ds[i]? = some w → es'[i]? = some u → fs[i]? = some t → P i z → BX X body (St B ((((r i z).set j (some (dat X.K w))).set k (some (dat X.K u))).set l0 (some (dat X.K t)))) (Lp Po (IS B (P (i + 1)) (r (i + 1))) (IS B (P ds.length) (r ds.length)))) (h : BX X rest (IS B (P ds.length) (r ds.length)) Po)
    (hN : X.N.Nodup) (hp : PassesOwn (model X.prog X.w) X.A X.env X.xe) (hj : X.N[j]? = some x := by rfl) (hk : X.N[k]? = some y := by rfl) (hl : X.N[l0]? = some z := by rfl) (hc : X.calm = true := by rfl) (hx : Loc X.env.scope x := by first | exact Or.inl rfl | exact Or.inr rfl) (hy : Loc X.env.scope y := by first | exact Or.inl rfl | exact Or.inr rfl) (hz : Loc X.env.scope z := by first | exact Or.inl rfl | exact Or.inr rfl)
    (hf : X.fn x = true ∨ X.env.scope.names.lookup x = some .local := by first | exact .inl rfl | exact .inr rfl | assumption) (hfy : X.fn y = true ∨ X.env.scope.names.lookup y = some .local := by first | exact .inl rfl | exact .inr rfl | assumption) (hfz : X.fn z = true ∨ X.env.scope.names.lookup z = some .local := by first | exact .inl rfl | exact .inr rfl | assumption)
    (he : starEach [a, b, c] X.env = (false, eval a X.env) :: starEach [b, c] X.env := by rfl) (he2 : starEach [b, c] X.env = (false, eval b X.env) :: starEach [c] X.env := by rfl) (he3 : starEach [c] X.env = (false, eval c X.env) :: starEach [] X.env := by rfl) (hpl : (backTo p3 (starEach [b, c] X.env)).any (·.1) = false := by rfl)
    (hs : ∀ x, foldedSetIterable (.Call (.Name "zip" p) [a, b, c] [] p3) X.env x = pure x := by intro _; rfl) :
    BX X (.For (.Tuple [.Name x p1, .Name y p2, .Name z p4] kk tpos) (.Call (.Name "zip" p) [a, b, c] [] p3) body [] pos :: rest) (St B ρ) Po := by
  refine bx_cons (Mid := IS B (P ds.length) (r ds.length)) ?_ h
  refine PS_wk (t := tFor (iZip3 X.K fun σ H Q => St B ρ σ H ∧ ∀ vs H', Ext d H H' → RsH [dat X.K (.t ds), dat X.K (.t es'), dat X.K (.t fs)] vs H' → Q vs H') (gTup X.K 3 (gCons (gName j) (gCons (gName k) (gCons (gName l0) gNil)))) (tBody (Z := Nat × D × D × D × α) B (fun z => (((r z.1 z.2.2.2.2).set j (some (dat X.K z.2.1))).set k (some (dat X.K z.2.2.1))).set l0 (some (dat X.K z.2.2.2.1))) (fun z => ds[z.1]? = some z.2.1 ∧ es'[z.1]? = some z.2.2.1 ∧ fs[z.1]? = some z.2.2.2.1 ∧ P z.1 z.2.2.2.2) (fun z => Lp Po (IS B (P (z.1 + 1)) (r (z.1 + 1))) (IS B (P ds.length) (r ds.length)))))
    (ps_for hp hc (pi_zip3 hg hm (a_cons ha (a_cons hb' (a_cons hc' a_nil he3) he2) he) he hpl) (pg_tup hc (pgs_cons (pg_name hN hj hx hf) (pgs_cons (pg_name hN hk hy hfy) (pgs_cons (pg_name hN hl hz hfz) pgs_nil)))) ⟨fun pins s σ H E I ⟨⟨i, w, u, t, z⟩, ⟨hw, hu, ht, hz⟩, q, l⟩ => (hb i w u t z hw hu ht hz).run pins s σ H E I ⟨q, l⟩⟩ hs) fun E σ H ⟨s, l⟩ => ⟨s, fun vs H1 e1 hv => ?_⟩
  match vs, hv with
  | [v1, v2, v3], ⟨g1, g2, g3, _⟩ =>
    obtain ⟨t1, us, rfl, h1, h2⟩ := DR.tup g1
    obtain ⟨t2, us2, rfl, h3, h4⟩ := DR.tup g2
    obtain ⟨t3, us3, rfl, h5, h6⟩ := DR.tup g3
    have k1 : us.length = us2.length := by rw [← h2.1, ← h4.1]; exact hlen
    have k2 : us.length = us3.length := by rw [← h2.1, ← h6.1]; exact hlen2
    refine ⟨t1, t2, t3, us, us2, us3, rfl, h1, h3, h5, fun i m σ H => m = us.length - i ∧ i ≤ us.length ∧ Tk H1 H ∧ IS B (P i) (r i) σ H, ⟨us.length, rfl, Nat.zero_le _, Tk.refl _, h0 _ _ (s.mono e1)⟩, ?_⟩
    rintro i m σ H ⟨rfl, hi, kk, q⟩
    have a1 := kk.sqT h1
    have a2 := kk.sqT h3
    have a3 := kk.sqT h5
    by_cases hlt : i < us.length
    · refine .inr ⟨⟨us, us2, us3, us[i], us2[i]'(by omega), us3[i]'(by omega), a1, a2, a3, List.getElem?_eq_getElem hlt, List.getElem?_eq_getElem (by omega), List.getElem?_eq_getElem (by omega)⟩, fun σ' H' => Tk H1 H' ∧ IS B (P (i + 1)) (r (i + 1)) σ' H', fun σ' H' p' => ⟨us.length - (i + 1), by omega, rfl, hlt, p'.1, p'.2⟩, fun v H' yl => ?_⟩
      obtain ⟨T, x', y', z', rfl, hT, rfl, f1, f2, f3⟩ := yl
      obtain ⟨w, hw, hr⟩ := h2.getV (f1 us a1)
      obtain ⟨u, hu, hr2⟩ := h4.getV (f2 us2 a2)
      obtain ⟨t, ht, hr3⟩ := h6.getV (f3 us3 a3)
      obtain ⟨z, hz, q⟩ := q
      have eT : Ext d H (upd H T (.tup [x', y', z'])) := Ext.new hT
      have kT := kk.trans eT.tk
      refine ⟨T, [x', y', z'], rfl, SqT.of upd_same, rfl, x', [y', z'], rfl, y', [z'], rfl, z', [], rfl, rfl, (i, w, u, t, z), ⟨hw, hu, ht, hz⟩, ⟨(q.mono eT).ext, (q.mono eT).dr, (((q.mono eT).good.set j (R := dat X.K w) (hr.tk kT)).set k (R := dat X.K u) (hr2.tk kT)).set l0 (R := dat X.K t) (hr3.tk kT)⟩, ?_⟩
      exact ⟨fun σ' H' k' q' => ⟨kT.trans k', q'⟩, fun v H' k' q' => l.rt v H' ((e1.tk.trans kT).trans k') q', fun σ' H' k' q' => l.nx σ' H' ((e1.tk.trans kT).trans k') q', fun σ' H' k' q' => ⟨kT.trans k', q'⟩⟩
    · have e' : i = us.length := by omega
      subst e'
      exact .inl ⟨⟨us, us2, us3, a1, a2, a3, rfl, by omega, by omega⟩, l.nx σ H (e1.tk.trans kk) (by rw [h2.1]; exact q)⟩
theorem mn2 {i j : Int} : (if j < i then j else i) = min i j := by
  rw [Int.min_def]
  split <;> split <;> omega
theorem x_min2 {p : Pos} (hg : Gl X "min") (hm : X.mg "min" = none) (ha : EX X B ρ a (rI m)) (hb : EX X B ρ b (rI n)) (hc : X.calm = true := by rfl) (he : starEach [a, b] X.env = (false, eval a X.env) :: starEach [b] X.env := by rfl) (he2 : starEach [b] X.env = (false, eval b X.env) :: starEach [] X.env := by rfl) (hpl : (backTo pos (starEach [b] X.env)).any (·.1) = false := by rfl) : EX X B ρ (.Call (.Name "min" p) [a, b] [] pos) (rI (min m n)) :=
  x_callB (call_min2 hc) hg hm (by decide +kernel) (a_cons ha (a_cons hb a_nil he2) he) (fun vs H σ Q s hv q => by
    obtain ⟨x, y, rfl, h1, h2⟩ := hv.two
    obtain rfl : x = .int m := h1
    obtain rfl : y = .int n := h2
    exact ⟨m, n, rfl, q _ H (Ext.refl H) (by show V.int _ = V.int _; rw [mn2])⟩) (he := he) (hpl := hpl)
/-- x.append(e), e told by S -/
theorem bx_appendE (i : Nat) {x : Str} {p1 p2 p3 p4 : Pos} {K : PySem.W.Frag} {l : Addr} {ds : List D} {S : D → Prop} (hi : ρ[i]? = some (some (own K l ds))) (hK : X.K = K) (he : EX X B ρ e (dE K S)) (hB : B l = none) (hb : IndBut l i ρ) (hz : ds.length ≤ 1000) (h : ∀ w, S w → BX X rest (St B (ρ.set i (some (own K l (ds ++ [w]))))) Po)
    (hN : X.N[i]? = some x := by rfl) (hv : Vis X.env.scope x := by first | exact Or.inl rfl | exact Or.inr (Or.inl rfl) | exact Or.inr (Or.inr rfl)) (hd : (x == ("__debug__" : Str)) = false := by decide) (hcd : (x == ("__classdict__" : Str)) = false := by decide)
    (hbase : attributeBase (.Name x p1) "append" X.env (eval (.Name x p1) X.env) = eval (.Name x p1) X.env := by rfl)
    (hfew : ((backTo p3 (starEach (e :: []) X.env)).all (fun x => !x.1) && (backToKw p3 (keywordEach [] X.env)).all (fun x => x.1.isSome)
      && decide ((e :: []).length + ([] : List Keyword).length + (if ([] : List Keyword).isEmpty then 0 else 1) < 30)) = true := by rfl)
    (hline : (p2.endLine == p3.line) = true := by rfl) (hs : starEach (e :: []) X.env = (false, eval e X.env) :: starEach [] X.env := by rfl) (hplain : (backTo p3 (starEach [] X.env)).any (·.1) = false := by rfl)
    (hsw : swapsWith (.Call (.Attribute (.Name x p1) "append" p2) [e] [] p3) none p4.line X.env = pure false := by rfl) :
    BX X (.Expr (.Call (.Attribute (.Name x p1) "append" p2) [e] [] p3) p4 :: rest) (St B ρ) Po := by
  subst hK
  refine bx_cons (Mid := fun σ H => ∃ w, S w ∧ St B (ρ.set i (some (own X.K l (ds ++ [w])))) σ H) ?_ (bx_ex fun w hw => h w hw)
  refine PS_wk (ps_expr (pe_bm PySem.F.plainAttrs_list PySem.F.slot_list_append PySem.F.type_list_append mt_append (pe_var hN hv hd hcd) (a_cons he a_nil hs) hbase hfew hline hs hplain) hsw) fun E σ H ⟨s, q⟩ => ?_
  obtain ⟨v, h1, rfl, hl, vs, h2, h3⟩ := s.good.get hi
  refine ⟨_, h1, Or.inl ⟨rfl, _, SqL.of h2⟩, s, fun us H1 e1 hus => ?_⟩
  obtain ⟨y, rfl, w, hw, hy⟩ := hus.one
  have s1 := s.mono e1
  have g2 := e1.at h2 hl
  refine ⟨l, vs, y, rfl, rfl, g2, small1000 (by rw [← h3.1]; exact hz), ?_⟩
  exact q.nx σ _ (e1.tk.trans (Tk.lst g2)) ⟨w, hw, st_own s1 hi hB hb ((h3.tk e1.tk).snoc hy)⟩
end
end Cv

namespace Cv
open PySem PySem.Spec PyProof.Rows L2 RZ
/-! ### try, an except that names the error and one more behind it -/
def wAs2 (K : PySem.W.Frag) (c c2 : Value) (i : Nat) (ts ts2 : Addr → Value → Option Addr → TS) (D : Ends) : L2.WX := fun cls d σ H =>
  ∃ b, PySem.W.exmOne K cls c = some b ∧ (b = true → ∀ a, H a = none → ts a cls d { nx := fun σ' H' => D.nx (σ'.set i none) H', rt := D.rt, bk := fun σ' H' => D.bk (σ'.set i none) H', ct := fun σ' H' => D.ct (σ'.set i none) H' } (σ.set i (some (.ref a))) H) ∧
    (b = false → PySem.W.exmOne K cls c2 = some true ∧ ∀ a, H a = none → ts2 a cls d D σ H)
theorem ps_try_as2 {X : Cx} {x n x2 : Str} {c c2 : Value} {i : Nat} {body suite suite2 : List Stmt} {b₀ b₂ : Stmt} {np np2 pos pos' pos2 : Pos} {tb : L2.WX → TS} {ts ts2 : Addr → Value → Option Addr → TS} (hs : X.stack = X.env :: X.outer) (hf : X.env.frame = some X.env.locals) (hN : X.N.Nodup) (hi : X.N[i]? = some n) (hln : X.env.kindOf n = some .local)
    (hg : Gl X x) (hdbg : (x == ("__debug__" : Str)) = false) (hm : X.mg x = some c) (hg2 : Gl X x2) (hdbg2 : (x2 == ("__debug__" : Str)) = false) (hm2 : X.mg x2 = some c2)
    (hb : ∀ (W : L2.WX) (pn : List (Addr × Obj)) (xe : Value → Shared → Prop), L2N.Takes (X.tr pn xe) W → PassesOwn (model X.prog X.w) X.A X.env xe → PSs (X.tr pn xe) body (tb W))
    (hsu : ∀ (a : Addr) (oe : Obj) (cls : Value) (d : Option Addr) (pn : List (Addr × Obj)), L2N.Zn cls d oe → (∃ vs, oe.data = .fields vs) → PSs (X.suite a ((a, oe) :: pn)) (b₀ :: suite) (ts a cls d))
    (hsu2 : ∀ (a : Addr) (oe : Obj) (cls : Value) (d : Option Addr) (pn : List (Addr × Obj)), L2N.Zn cls d oe → (∃ vs, oe.data = .fields vs) → PSs (X.suite a ((a, oe) :: pn)) (b₂ :: suite2) (ts2 a cls d)) :
    PS X (.Try body [.ExceptHandler (some (.Name x np)) (some n) (b₀ :: suite) pos', .ExceptHandler (some (.Name x2 np2)) none (b₂ :: suite2) pos2] [] [] pos) fun D σ H => tb (wAs2 X.K c c2 i ts ts2 D) D σ H := by
  refine ⟨fun pins s σ H D I h => ?_⟩
  have ok := I.ok
  have hfr : X.A.frames = some (X.env :: X.outer) := by rw [ok.frames, hs]
  have hloc : Loc X.env.scope n := Or.inl hln
  refine wpAny_Try_except (wpAny_mono ((hb (wAs2 X.K c c2 i ts ts2 D) (X.pn ++ pins)
    (fun e s₁ => wpAny (model X.prog X.w) X.A (noteFrame e X.env) (fun _ s₂ => wpAny (model X.prog X.w) X.A (setFlight e none) (fun _ s₃ => wpAny (model X.prog X.w) X.A (handleBy e X.env [.ExceptHandler (some (.Name x np)) (some n) (b₀ :: suite) pos', .ExceptHandler (some (.Name x2 np2)) none (b₂ :: suite2) pos2]) (SP X pins D) X.xe s₃) X.xe s₂) X.xe s₁)
    (fun u s' xx => ?_) PassesOwn.looking).run [] s σ H D (I.toTry _) h) (fun f s1 hsp => ?_) (fun e s1 he => he))
  · obtain ⟨a, B, sI, pins', σ', H', cls, d, rfl, J', nb, up, sky, na, os, ag, b, hb1, hyes, hno⟩ := xx
    have J := J'.ofTry ok
    have sky' : Sky B (X.env :: X.outer) a (L2N.Zn cls d) X.env.locals s'.heap := by rw [← hs]; exact sky
    show wpAny (model X.prog X.w) X.A (noteFrame (.ref a) X.env) _ _ _
    refine L2N.Sky.land L2N.Zn.steady hfr hf sky' fun h3 fl3 up3 => ?_
    have J3 : L2.Inv X pins σ' H' { heap := h3, gens := s'.gens, drawn := s'.drawn, toks := s'.toks, os := s'.os } := J.landed nb fl3.left (Heap.UpToSlots.trans up up3) os ag
    obtain ⟨oe3, vs3, he3, hz3, hd3⟩ := HandSPX.FlyingZ.there fl3
    have nfr : ¬ a ∈ (X.env :: X.outer).filterMap (·.frame) := fun hm => by
      obtain ⟨_, o', e', hnf⟩ := Heap.FunFrames.mem fl3.right.right.left hm
      rw [he3] at e'
      cases e'
      exact hnf vs3 hd3
    have nL : a ≠ X.env.locals := fun z => nfr (List.mem_filterMap.mpr ⟨X.env, List.mem_cons_self, by rw [hf, z]⟩)
    have nF : ¬ a ∈ X.outer.filterMap (·.frame) := fun hm => by
      obtain ⟨e, he, q⟩ := List.mem_filterMap.mp hm
      exact nfr (List.mem_filterMap.mpr ⟨e, List.mem_cons_of_mem X.env he, q⟩)
    have S3 := J3.suite he3 hd3 na nL nF
    have LM := PySem.W.exm_one (M := model X.prog X.w) J3.kIn (fun A Q E s k q => wpAny_typeOf_ref (k a oe3 he3) (by rw [hz3.left]; exact q)) hb1
    refine wpAny_handleBy_cons (codeAny_handlers_test (ld_glob S3 hg hm (PySem.W.Looks.here LM ?_) hdbg)) (fun q => by cases q)
    cases b with
    | true =>
      refine codeAny_handlers_suite_as (HandSPX.lands_againZ fl3 fun h4 fl4 up4 => ?_)
      have J4 : L2.Inv X pins σ' H' { heap := h4, gens := s'.gens, drawn := s'.drawn, toks := s'.toks, os := s'.os } := J.landed nb fl4.left (Heap.UpToSlots.trans (Heap.UpToSlots.trans up up3) up4) os ag
      obtain ⟨oe4, vs4, he4, hz4, hd4⟩ := HandSPX.FlyingZ.there fl4
      have S4 := J4.suite he4 hd4 na nL nF
      refine store_ok (X := X.suite a ((a, oe4) :: (X.pn ++ pins))) S4 hN hi hloc (show RelV (.ref a) (Value.ref a) from rfl) (fun s5 S5 => wpAny_mono ((hsu a oe4 cls d (X.pn ++ pins) hz4 ⟨vs4, hd4⟩).run [] s5 _ H' _ S5 (hyes rfl a na)) (fun f s6 hsp => ?_) (fun _ _ z => z.elim)) (Or.inr hln)
      cases f with
      | next =>
        obtain ⟨σ6, H6, S6, q6⟩ := hsp
        exact gone_ok (S6.unsuite ok) hN hi hln fun s7 J7 => ⟨σ6.set i none, H6, J7, q6⟩
      | brk =>
        obtain ⟨σ6, H6, S6, q6⟩ := hsp
        exact gone_ok (S6.unsuite ok) hN hi hln fun s7 J7 => ⟨σ6.set i none, H6, J7, q6⟩
      | cont =>
        obtain ⟨σ6, H6, S6, q6⟩ := hsp
        exact gone_ok (S6.unsuite ok) hN hi hln fun s7 J7 => ⟨σ6.set i none, H6, J7, q6⟩
      | ret u =>
        obtain ⟨v6, σ6, H6, S6, r6, q6⟩ := hsp
        exact gone_ok (S6.unsuite ok) hN hi hln fun s7 J7 => ⟨v6, σ6.set i none, H6, J7, r6, q6⟩
    | false =>
      obtain ⟨hb2, hy2⟩ := hno rfl
      have LM2 := PySem.W.exm_one (M := model X.prog X.w) J3.kIn (fun A Q E s k q => wpAny_typeOf_ref (k a oe3 he3) (by rw [hz3.left]; exact q)) hb2
      refine wpAny_handleBy_cons (codeAny_handlers_test (ld_glob S3 hg2 hm2 (PySem.W.Looks.here LM2 ?_) hdbg2)) (fun q => by cases q)
      refine codeAny_handlers_suite (HandSPX.lands_againZ fl3 fun h4 fl4 up4 => ?_)
      have J4 : L2.Inv X pins σ' H' { heap := h4, gens := s'.gens, drawn := s'.drawn, toks := s'.toks, os := s'.os } := J.landed nb fl4.left (Heap.UpToSlots.trans (Heap.UpToSlots.trans up up3) up4) os ag
      obtain ⟨oe4, vs4, he4, hz4, hd4⟩ := HandSPX.FlyingZ.there fl4
      have S4 := J4.suite he4 hd4 na nL nF
      refine wpAny_mono ((hsu2 a oe4 cls d (X.pn ++ pins) hz4 ⟨vs4, hd4⟩).run [] _ σ' H' D S4 (hy2 a na)) (fun f s6 hsp => ?_) (fun _ _ z => z.elim)
      cases f with
      | next =>
        obtain ⟨σ6, H6, S6, q6⟩ := hsp
        exact ⟨σ6, H6, S6.unsuite ok, q6⟩
      | brk =>
        obtain ⟨σ6, H6, S6, q6⟩ := hsp
        exact ⟨σ6, H6, S6.unsuite ok, q6⟩
      | cont =>
        obtain ⟨σ6, H6, S6, q6⟩ := hsp
        exact ⟨σ6, H6, S6.unsuite ok, q6⟩
      | ret u =>
        obtain ⟨v6, σ6, H6, S6, r6, q6⟩ := hsp
        exact ⟨v6, σ6, H6, S6.unsuite ok, r6, q6⟩
  · cases f with
    | next =>
      obtain ⟨σ', H', J', q⟩ := hsp
      exact wpAny_execs_nil ⟨σ', H', J'.ofTry ok, q⟩
    | brk =>
      obtain ⟨σ', H', J', q⟩ := hsp
      exact ⟨σ', H', J'.ofTry ok, q⟩
    | cont =>
      obtain ⟨σ', H', J', q⟩ := hsp
      exact ⟨σ', H', J'.ofTry ok, q⟩
    | ret u =>
      obtain ⟨v, σ', H', J', r, q⟩ := hsp
      exact ⟨v, σ', H', J'.ofTry ok, r, q⟩
end Cv

namespace Cv
open PySem PySem.Spec PyProof.Rows L2 RZ
theorem set4 {α : Type} {σ : List α} {j k : Nat} {a b x y : α} : ((((σ.set k b).set j a).set j x).set k y) = (σ.set j x).set k y := by
  apply List.ext_getElem?
  intro i
  simp only [List.getElem?_set, List.length_set]
  by_cases h1 : k = i
  · simp [h1]
  · by_cases h2 : j = i
    · simp [h1, h2]
    · simp [h1, h2]
theorem set6 {α : Type} {σ : List α} {j k : Nat} {a b x y : α} : ((((((σ.set k b).set j a).set j x).set k y).set k b).set j a) = (σ.set k b).set j a := by
  apply List.ext_getElem?
  intro i
  simp only [List.getElem?_set, List.length_set]
  by_cases h1 : k = i
  · simp [h1]
  · by_cases h2 : j = i
    · simp [h1, h2]
    · simp [h1, h2]
theorem wipe2 (σ : L2.St) (j k : Nat) (x y : V) : wipe (((wipe σ [j, k]).set j (some x)).set k (some y)) [j, k] = wipe σ [j, k] := by
  show ((((((σ.set k none).set j none).set j (some x)).set k (some y)).set k none).set j none) = ((σ.set k none).set j none)
  exact set6
section
variable {d : Option Addr} {X : Cx} {B : Hp} {ρ ρ' : Ro d} {a b c e iter elt : Expr} {es : List Expr} {R R' Ra Rb : Rp d} {Rs : List (Rp d)} {pos : Pos} {m n : Int} {st : Stmt} {rest body orelse : List Stmt} {Pre Mid : L2.St → Hp → Prop} {Po : Ends}
/-- [elt for x, y in zip(a, b)], tuples of one length -/
theorem x_lcZ {ds es' : List D} (j k : Nat) {x y : Str} {kk : Nat} {scope : Scope} {tpos p1 p2 p p3 : Pos} (P : Nat → D → Prop) (hg : Gl X "zip") (hm : X.mg "zip" = none) (ha : EX X B ρ a (dat X.K (.t ds))) (hb' : EX X B ρ b (dat X.K (.t es'))) (hlen : ds.length = es'.length) (hn : ds.length < 2000) (hN : X.N.Nodup) (hok : BlkOk X.N X.env.scope scope [(x, j), (y, k)])
    (hgn : ∀ (s : Shared) (H : Hp) (C : Addr) (cl : List (Str × Addr)) (fp : List Addr), PG (X.blk s H scope (compEnvC scope cl C X.env) fp) (.Tuple [.Name x p1, .Name y p2] kk tpos) (gTup X.K 2 (gCons (gName j) (gCons (gName k) gNil))))
    (hb : ∀ (s : Shared) (H : Hp) (C : Addr) (cl : List (Str × Addr)) (fp : List Addr) (i : Nat) (w u : D), ds[i]? = some w → es'[i]? = some u → EX (X.blk s H scope (compEnvC scope cl C X.env) fp) B ((ρ.set j (some (dat X.K w))).set k (some (dat X.K u))) elt (dE X.K (P i)))
    (hc : X.calm = true := by rfl) (he : starEach [a, b] X.env = (false, eval a X.env) :: starEach [b] X.env := by rfl) (he2 : starEach [b] X.env = (false, eval b X.env) :: starEach [] X.env := by rfl) (hpl : (backTo p3 (starEach [b] X.env)).any (·.1) = false := by rfl) (hs : ∀ x, foldedSetIterable (.Call (.Name "zip" p) [a, b] [] p3) X.env x = pure x := by intro _; rfl) :
    EX X B ρ (.ListComp elt [⟨.Tuple [.Name x p1, .Name y p2] kk tpos, .Call (.Name "zip" p) [a, b] [] p3, [], 0⟩] scope pos) (newE B X.K fun fs => fs.length = ds.length ∧ ∀ k w, fs[k]? = some w → P k w) := by
  refine PE_wk (pe_lc (own := [(x, j), (y, k)]) (g := gTup X.K 2 (gCons (gName j) (gCons (gName k) gNil))) (tt := tYes) (te := tElt (Z := Nat × D × D) B X.K (fun z => (ρ.set j (some (dat X.K z.2.1))).set k (some (dat X.K z.2.2))) (fun z => ds[z.1]? = some z.2.1 ∧ es'[z.1]? = some z.2.2) (fun z => P z.1)) hc hN (pi_zipA hg hm (a_cons ha (a_cons hb' a_nil he2) he) he hpl) hok hgn (fun _ _ _ _ _ => pts_nil) (fun s H C cl fp => elt_of fun z hz => hb s H C cl fp z.1 z.2.1 z.2.2 hz.1 hz.2) hs) fun σ H Q ⟨s, q⟩ => ⟨s, fun vs H1 e1 hv => ?_⟩
  obtain ⟨v, v2, rfl, hv', hv2⟩ := hv.two
  obtain ⟨t, us, rfl, h1, h2⟩ := DR.tup hv'
  obtain ⟨t2, us2, rfl, h3, h4⟩ := DR.tup hv2
  have hl : us.length = us2.length := by rw [← h2.1, ← h4.1]; exact hlen
  have s1 := s.mono e1
  refine ⟨t, t2, us, us2, rfl, .inr ⟨h1, h3, fun Dl hD => ?_⟩⟩
  obtain ⟨hB, hDd⟩ := s1.fresh hD
  refine ⟨fun i m H => m = us.length - i ∧ i ≤ us.length ∧ Lc H1 X.K Dl d P i H, ⟨us.length, rfl, Nat.zero_le _, Ext.new hD, [], [], upd_same, DRl.nil, rfl, fun k w h => by cases h⟩, ?_⟩
  rintro i m H' ⟨rfl, hi, L⟩
  by_cases hlt : i < us.length
  · refine .inr ⟨⟨us, us2, us[i], us2[i]'(by omega), L.1.tk.sqT h1, L.1.tk.sqT h3, List.getElem?_eq_getElem hlt, List.getElem?_eq_getElem (by omega)⟩, fun H'' => Lc H1 X.K Dl d P (i + 1) H'', fun H'' p => ⟨us.length - (i + 1), by omega, rfl, hlt, p⟩, fun v H'' yl => ?_⟩
    obtain ⟨T, x', y', rfl, hT, rfl, f1, f2⟩ := yl
    obtain ⟨w, hw, hr⟩ := h2.getV (f1 us (L.1.tk.sqT h1))
    obtain ⟨u, hu, hr2⟩ := h4.getV (f2 us2 (L.1.tk.sqT h3))
    have eT : Ext d H' (upd H' T (.tup [x', y'])) := Ext.new hT
    have kT := L.1.tk.trans eT.tk
    have s2 := (s1.mono L.1).mono eT
    refine ⟨T, [x', y'], rfl, SqT.of upd_same, rfl, x', [y'], rfl, y', [], rfl, rfl, wipe2 _ _ _ _ _, (i, w, u), ⟨hw, hu⟩, ?_, fun y H2 e2 hy => lc_step hD hDd L (eT.trans e2) hy (by rw [h2.1] at hn; omega)⟩
    have e : ((wipe σ [j, k]).set j (some x')).set k (some y') = (σ.set j (some x')).set k (some y') := by
      show ((((σ.set k none).set j none).set j (some x')).set k (some y')) = _
      exact set4
    show St B _ (((wipe σ [j, k]).set j (some x')).set k (some y')) _
    rw [e]
    exact ⟨s2.ext, s2.dr, (s2.good.set j (R := dat X.K w) (hr.tk kT)).set k (R := dat X.K u) (hr2.tk kT)⟩
  · obtain ⟨h0, vs, fs, g1, g2, g3, g4⟩ := L
    exact .inl ⟨⟨us, us2, h0.tk.sqT h1, h0.tk.sqT h3, .inl (by omega)⟩, q _ H' (e1.trans h0) ⟨fs, ⟨by rw [g3, h2.1]; omega, g4⟩, Dl, hB, rfl, hDd, vs, g1, g2⟩⟩
/-- x.extend(a new list), x in slot i -/
theorem bx_extend (i : Nat) {x : Str} {p1 p2 p3 p4 : Pos} {K : PySem.W.Frag} {l : Addr} {ds es' : List D} (hi : ρ[i]? = some (some (own K l ds))) (hK : X.K = K) (he : EX X B ρ e (newL B K es')) (hB : B l = none) (hb : IndBut l i ρ) (hz : ds.length + es'.length ≤ 1000) (h : BX X rest (St B (ρ.set i (some (own K l (ds ++ es'))))) Po)
    (hN : X.N[i]? = some x := by rfl) (hv : Vis X.env.scope x := by first | exact Or.inl rfl | exact Or.inr (Or.inl rfl) | exact Or.inr (Or.inr rfl)) (hd : (x == ("__debug__" : Str)) = false := by decide) (hcd : (x == ("__classdict__" : Str)) = false := by decide)
    (hbase : attributeBase (.Name x p1) "extend" X.env (eval (.Name x p1) X.env) = eval (.Name x p1) X.env := by rfl)
    (hfew : ((backTo p3 (starEach (e :: []) X.env)).all (fun x => !x.1) && (backToKw p3 (keywordEach [] X.env)).all (fun x => x.1.isSome)
      && decide ((e :: []).length + ([] : List Keyword).length + (if ([] : List Keyword).isEmpty then 0 else 1) < 30)) = true := by rfl)
    (hline : (p2.endLine == p3.line) = true := by rfl) (hs : starEach (e :: []) X.env = (false, eval e X.env) :: starEach [] X.env := by rfl) (hplain : (backTo p3 (starEach [] X.env)).any (·.1) = false := by rfl)
    (hsw : swapsWith (.Call (.Attribute (.Name x p1) "extend" p2) [e] [] p3) none p4.line X.env = pure false := by rfl) :
    BX X (.Expr (.Call (.Attribute (.Name x p1) "extend" p2) [e] [] p3) p4 :: rest) (St B ρ) Po := by
  subst hK
  refine bx_cons (Mid := St B (ρ.set i (some (own X.K l (ds ++ es'))))) ?_ h
  refine PS_wk (ps_expr (pe_bm PySem.F.plainAttrs_list PySem.F.slot_list_extend PySem.F.type_list_extend mt_extend (pe_var hN hv hd hcd) (a_cons he a_nil hs) hbase hfew hline hs hplain) hsw) fun E σ H ⟨s, q⟩ => ?_
  obtain ⟨v, h1, rfl, hl, vs, h2, h3⟩ := s.good.get hi
  refine ⟨_, h1, Or.inl ⟨rfl, _, SqL.of h2⟩, s, fun us H1 e1 hus => ?_⟩
  obtain ⟨y, rfl, l2, _, rfl, _, us2, g1, g3⟩ := hus.one
  have s1 := s.mono e1
  have g2 := e1.at h2 hl
  refine ⟨l, l2, vs, us2, rfl, rfl, g2, g1, by rw [← h3.1, ← g3.1]; exact Nat.le_of_lt (small1000 hz), ?_⟩
  exact q.nx σ _ (e1.tk.trans (Tk.lst g2)) (st_own s1 hi hB hb ((h3.tk e1.tk).app g3))
/-- for x, y in xs, its items pairs -/
theorem bx_forL2 {α : Type} {ds : List D} {la : Addr} (j k : Nat) {x y : Str} {kk : Nat} {tpos p1 p2 : Pos} (P : Nat → α → Prop) (r : Nat → α → Ro d) (hi : EX X B ρ iter (lstA X.K la ds)) (h0 : ∀ σ H, St B ρ σ H → IS B (P 0) (r 0) σ H)
    (hl : ∀ i z, P i z → ∃ (k : Nat) (R : Rp d), (r i z)[k]? = some (some R) ∧ ∀ v H, R.p v H → (lstA (d := d) X.K la ds).p v H) (hd : ∀ (i : Nat) w, ds[i]? = some w → ∃ A C, w = .t [A, C])
    (hb : ∀ (i : Nat) A C z, ds[i]? = some (.t [A, C]) → P i z → BX X body (St B (((r i z).set j (some (dat X.K A))).set k (some (dat X.K C)))) (Lp Po (IS B (P (i + 1)) (r (i + 1))) (IS B (P ds.length) (r ds.length)))) (h : BX X rest (IS B (P ds.length) (r ds.length)) Po)
    (hN : X.N.Nodup) (hp : PassesOwn (model X.prog X.w) X.A X.env X.xe) (hj : X.N[j]? = some x := by rfl) (hk : X.N[k]? = some y := by rfl) (hc : X.calm = true := by rfl) (hx : Loc X.env.scope x := by first | exact Or.inl rfl | exact Or.inr rfl) (hy : Loc X.env.scope y := by first | exact Or.inl rfl | exact Or.inr rfl)
    (hf : X.fn x = true ∨ X.env.scope.names.lookup x = some .local := by first | exact .inl rfl | exact .inr rfl | assumption) (hfy : X.fn y = true ∨ X.env.scope.names.lookup y = some .local := by first | exact .inl rfl | exact .inr rfl | assumption) (hs : ∀ x, foldedSetIterable iter X.env x = pure x := by intro _; rfl) :
    BX X (.For (.Tuple [.Name x p1, .Name y p2] kk tpos) iter body [] pos :: rest) (St B ρ) Po := by
  refine bx_cons (Mid := IS B (P ds.length) (r ds.length)) ?_ h
  refine PS_wk (t := tFor (iList X.K fun σ H Q => St B ρ σ H ∧ ∀ v H', Ext d H H' → (lstA X.K la ds).p v H' → Q v H') (gTup X.K 2 (gCons (gName j) (gCons (gName k) gNil))) (tBody (Z := Nat × D × D × α) B (fun z => ((r z.1 z.2.2.2).set j (some (dat X.K z.2.1))).set k (some (dat X.K z.2.2.1))) (fun z => ds[z.1]? = some (.t [z.2.1, z.2.2.1]) ∧ P z.1 z.2.2.2) (fun z => Lp Po (IS B (P (z.1 + 1)) (r (z.1 + 1))) (IS B (P ds.length) (r ds.length)))))
    (ps_for hp hc (pi_list hi) (pg_tup hc (pgs_cons (pg_name hN hj hx hf) (pgs_cons (pg_name hN hk hy hfy) pgs_nil))) ⟨fun pins s σ H E I ⟨⟨i, A, C, z⟩, ⟨hw, hz⟩, q, l⟩ => (hb i A C z hw hz).run pins s σ H E I ⟨q, l⟩⟩ hs) fun E σ H ⟨s, l⟩ => ⟨s, fun v H1 e1 hv => ?_⟩
  obtain ⟨rfl, hld, us, h1, h2⟩ := hv
  refine ⟨la, rfl, ⟨us, h1.sq⟩, ?_⟩
  have key : ∀ i σ H, IS B (P i) (r i) σ H → ∃ vs, SqL X.K H la vs ∧ DRl X.K H ds vs := fun i σ H ⟨z, hz, q⟩ => by
    obtain ⟨k, R, hk, hR⟩ := hl i z hz
    obtain ⟨v, _, g⟩ := q.good.get hk
    obtain ⟨_, _, vs, a1, a2⟩ := hR v H g
    exact ⟨vs, a1.sq, a2⟩
  refine ⟨fun i m σ H => m = ds.length - i ∧ i ≤ ds.length ∧ Tk H1 H ∧ IS B (P i) (r i) σ H, ⟨ds.length, rfl, Nat.zero_le _, Tk.refl _, h0 _ _ (s.mono e1)⟩, ?_⟩
  rintro i m σ H ⟨rfl, hi', k', q⟩
  obtain ⟨vs, a1, a2⟩ := key i σ H q
  by_cases hlt : i < ds.length
  · have hv : i < vs.length := by rw [← a2.1]; exact hlt
    refine .inr ⟨⟨vs, vs[i], a1, List.getElem?_eq_getElem hv⟩, fun σ' H' => Tk H1 H' ∧ IS B (P (i + 1)) (r (i + 1)) σ' H', fun σ' H' p' => ⟨ds.length - (i + 1), by omega, rfl, hlt, p'.1, p'.2⟩, fun x H' y => ?_⟩
    obtain ⟨rfl, y⟩ := y
    obtain ⟨w, hw, hr⟩ := a2.getV (y vs a1)
    obtain ⟨A, C, rfl⟩ := hd i w hw
    obtain ⟨z, hz, q⟩ := q
    obtain ⟨t, ws, rfl, g1, g2⟩ := DR.tup hr
    match ws, g2 with
    | [w1, w2], g2 =>
      refine ⟨t, [w1, w2], rfl, g1, rfl, w1, [w2], rfl, w2, [], rfl, rfl, (i, A, C, z), ⟨hw, hz⟩, ⟨q.ext, q.dr, (q.good.set j (R := dat X.K A) (g2.2 0 A w1 rfl rfl)).set k (R := dat X.K C) (g2.2 1 C w2 rfl rfl)⟩, ?_⟩
      exact ⟨fun σ' H' k2 q' => ⟨k'.trans k2, q'⟩, fun v H' k2 q' => l.rt v H' ((e1.tk.trans k').trans k2) q', fun σ' H' k2 q' => l.nx σ' H' ((e1.tk.trans k').trans k2) q', fun σ' H' k2 q' => ⟨k'.trans k2, q'⟩⟩
    | [], g2 => exact absurd g2.1 (by simp)
    | [_], g2 => exact absurd g2.1 (by simp)
    | _ :: _ :: _ :: _, g2 => exact absurd g2.1 (by simp)
  · have e : i = ds.length := by omega
    subst e
    exact .inl ⟨⟨vs, a1, by rw [← a2.1]; exact Nat.le_refl _⟩, l.nx σ H (e1.tk.trans k') q⟩
/-- for x, (y, z) in enumerate(xs), its items pairs -/
theorem bx_forEL2 {α : Type} {ds : List D} {la : Addr} (j k l0 : Nat) {x y z : Str} {kk k2 : Nat} {tpos tp2 p1 p2 p4 p p3 : Pos} (P : Nat → α → Prop) (r : Nat → α → Ro d) (hg : Gl X "enumerate") (hm : X.mg "enumerate" = none) (ha : EX X B ρ a (lstA X.K la ds)) (h0 : ∀ σ H, St B ρ σ H → IS B (P 0) (r 0) σ H)
    (hl : ∀ i z, P i z → ∃ (k : Nat) (R : Rp d), (r i z)[k]? = some (some R) ∧ ∀ v H, R.p v H → (lstA (d := d) X.K la ds).p v H) (hd : ∀ (i : Nat) w, ds[i]? = some w → ∃ A C, w = .t [A, C])
    (hb : ∀ (i : Nat) A C z, ds[i]? = some (.t [A, C]) → P i z → BX X body (St B ((((r i z).set j (some (rI (i : Int)))).set k (some (dat X.K A))).set l0 (some (dat X.K C)))) (Lp Po (IS B (P (i + 1)) (r (i + 1))) (IS B (P ds.length) (r ds.length)))) (h : BX X rest (IS B (P ds.length) (r ds.length)) Po)
    (hN : X.N.Nodup) (hp : PassesOwn (model X.prog X.w) X.A X.env X.xe) (hj : X.N[j]? = some x := by rfl) (hk : X.N[k]? = some y := by rfl) (hz : X.N[l0]? = some z := by rfl) (hc : X.calm = true := by rfl) (hx : Loc X.env.scope x := by first | exact Or.inl rfl | exact Or.inr rfl) (hy : Loc X.env.scope y := by first | exact Or.inl rfl | exact Or.inr rfl) (hlz : Loc X.env.scope z := by first | exact Or.inl rfl | exact Or.inr rfl)
    (hf : X.fn x = true ∨ X.env.scope.names.lookup x = some .local := by first | exact .inl rfl | exact .inr rfl | assumption) (hfy : X.fn y = true ∨ X.env.scope.names.lookup y = some .local := by first | exact .inl rfl | exact .inr rfl | assumption) (hfz : X.fn z = true ∨ X.env.scope.names.lookup z = some .local := by first | exact .inl rfl | exact .inr rfl | assumption)
    (he : starEach [a] X.env = [(false, eval a X.env)] := by rfl) (hs : ∀ x, foldedSetIterable (.Call (.Name "enumerate" p) [a] [] p3) X.env x = pure x := by intro _; rfl) :
    BX X (.For (.Tuple [.Name x p1, .Tuple [.Name y p2, .Name z p4] k2 tp2] kk tpos) (.Call (.Name "enumerate" p) [a] [] p3) body [] pos :: rest) (St B ρ) Po := by
  refine bx_cons (Mid := IS B (P ds.length) (r ds.length)) ?_ h
  refine PS_wk (t := tFor (iEnum X.K fun σ H Q => St B ρ σ H ∧ ∀ vs H', Ext d H H' → RsH [lstA X.K la ds] vs H' → Q vs H') (gTup X.K 2 (gCons (gName j) (gCons (gTup X.K 2 (gCons (gName k) (gCons (gName l0) gNil))) gNil))) (tBody (Z := Nat × D × D × α) B (fun z => (((r z.1 z.2.2.2).set j (some (rI (z.1 : Int)))).set k (some (dat X.K z.2.1))).set l0 (some (dat X.K z.2.2.1))) (fun z => ds[z.1]? = some (.t [z.2.1, z.2.2.1]) ∧ P z.1 z.2.2.2) (fun z => Lp Po (IS B (P (z.1 + 1)) (r (z.1 + 1))) (IS B (P ds.length) (r ds.length)))))
    (ps_for hp hc (pi_enum hg hm (a_cons ha a_nil he) he) (pg_tup hc (pgs_cons (pg_name hN hj hx hf) (pgs_cons (pg_tup hc (pgs_cons (pg_name hN hk hy hfy) (pgs_cons (pg_name hN hz hlz hfz) pgs_nil))) pgs_nil))) ⟨fun pins s σ H E I ⟨⟨i, A, C, z⟩, ⟨hw, hz⟩, q, l⟩ => (hb i A C z hw hz).run pins s σ H E I ⟨q, l⟩⟩ hs) fun E σ H ⟨s, l⟩ => ⟨s, fun vs H1 e1 hv => ?_⟩
  obtain ⟨v, rfl, hv'⟩ := hv.one
  obtain ⟨rfl, hld, us, h1, h2⟩ := hv'
  have key : ∀ i σ H, IS B (P i) (r i) σ H → ∃ vs, SqL X.K H la vs ∧ DRl X.K H ds vs := fun i σ H ⟨z, hz, q⟩ => by
    obtain ⟨k, R, hk, hR⟩ := hl i z hz
    obtain ⟨v, _, g⟩ := q.good.get hk
    obtain ⟨_, _, vs, a1, a2⟩ := hR v H g
    exact ⟨vs, a1.sq, a2⟩
  refine ⟨la, us, rfl, h1.sq, fun i m σ H => m = ds.length - i ∧ i ≤ ds.length ∧ Tk H1 H ∧ IS B (P i) (r i) σ H, ⟨ds.length, rfl, Nat.zero_le _, Tk.refl _, h0 _ _ (s.mono e1)⟩, ?_⟩
  rintro i m σ H ⟨rfl, hi, kk, q⟩
  obtain ⟨vs, a1, a2⟩ := key i σ H q
  by_cases hlt : i < ds.length
  · have hv : i < vs.length := by rw [← a2.1]; exact hlt
    refine .inr ⟨⟨vs, vs[i], a1, List.getElem?_eq_getElem hv⟩, fun σ' H' => Tk H1 H' ∧ IS B (P (i + 1)) (r (i + 1)) σ' H', fun σ' H' p' => ⟨ds.length - (i + 1), by omega, rfl, hlt, p'.1, p'.2⟩, fun v H' yl => ?_⟩
    obtain ⟨T, x', rfl, hT, rfl, f1⟩ := yl
    obtain ⟨w, hw, hr⟩ := a2.getV (f1 vs a1)
    obtain ⟨A, C, rfl⟩ := hd i w hw
    obtain ⟨z, hz, q⟩ := q
    have eT : Ext d H (upd H T (.tup [.int (i : Nat), x'])) := Ext.new hT
    have kT := kk.trans eT.tk
    obtain ⟨t, ws, rfl, g1, g2⟩ := DR.tup (hr.tk eT.tk)
    match ws, g2 with
    | [w1, w2], g2 =>
      refine ⟨T, [.int (i : Nat), .ref t], rfl, SqT.of upd_same, rfl, .int (i : Nat), [.ref t], rfl, .ref t, [], rfl, ⟨t, [w1, w2], rfl, g1, rfl, w1, [w2], rfl, w2, [], rfl, rfl, rfl, (i, A, C, z), ⟨hw, hz⟩, ⟨(q.mono eT).ext, (q.mono eT).dr, (((q.mono eT).good.set j (R := rI (i : Int)) rfl).set k (R := dat X.K A) (g2.2 0 A w1 rfl rfl)).set l0 (R := dat X.K C) (g2.2 1 C w2 rfl rfl)⟩, ?_⟩⟩
      exact ⟨fun σ' H' k' q' => ⟨kT.trans k', q'⟩, fun v H' k' q' => l.rt v H' ((e1.tk.trans kT).trans k') q', fun σ' H' k' q' => l.nx σ' H' ((e1.tk.trans kT).trans k') q', fun σ' H' k' q' => ⟨kT.trans k', q'⟩⟩
    | [], g2 => exact absurd g2.1 (by simp)
    | [_], g2 => exact absurd g2.1 (by simp)
    | _ :: _ :: _ :: _, g2 => exact absurd g2.1 (by simp)
  · have e' : i = ds.length := by omega
    subst e'
    exact .inl ⟨⟨vs, a1, by rw [← a2.1]; exact Nat.le_refl _⟩, l.nx σ H (e1.tk.trans kk) q⟩
end
end Cv

set_option maxHeartbeats 4000000
namespace PySem
namespace LowX
open PySem.W PySem.Calls PyProof.Rows PySem.HandSPX
/-! ### the text of __init__ -/
def iA (p1 p2 : Pos) : Arguments := { posonlyargs := [], args := [{ arg := "self", annotation := none, pos := p1 }, { arg := "position", annotation := none, pos := p2 }], vararg := none, kwonlyargs := [], kw_defaults := [], kwarg := none, defaults := [] }
def iB (q1 q2 q3 q4 : Pos) : List Stmt := [.Assign [.Attribute (.Name "self" q1) "position" q2] (.Name "position" q3) q4]
def iS : Scope := { kind := .function, names := [(PySem.Str.ofString "self", .local), (PySem.Str.ofString "position", .local)], isGenerator := false, isCoroutine := false, more := [] }
/-- what the written part says of Low, at C, and of its __init__, at fI -/
structure LowTxt (K : Frag) (mg : Str → Option Value) (C fI : Addr) : Prop where
  gC : mg "NotEnabled" = some (.ref C)
  cls : ∃ nm q N bs bm sn sub ab col dd k0 k1 k2 k3 k5, K.lookup C = some (excClassObj nm q C N bs bm true sn sub ab col dd k0 k1 k2 k3 k5 "ValueError.__new__") ∧ refsVE bm = true
  sa : findIn K (.ref C) "__setattr__" = some (some (.builtin "object.__setattr__"))
  ga : findIn K (.ref C) "__getattribute__" = some (some (.builtin "BaseException.__getattribute__"))
  gg : findIn K (.ref C) "__getattr__" = some none
  noN : findIn K (.ref C) "position" = some none
  iC : findIn K (.ref C) "__init__" = some (some (.ref fI))
  tC : typeIn K (.ref fI) = some (.type "function")
  kC : keepIn K (.ref C) = true
  exC : subIn K (.ref C) (.type "BaseException") = some true
  tyC : typeIn K (.ref C) = some (.type "type")
  hdC : hasDictIn K C = true
  te : exmOne K (.ref C) (.ref C) = some true
  fn : ∃ (oc : Value) (od : Option Addr) (doc pm : Value) (an : Option Addr) (cdv ct : Value) (osl : Array (Option Value)) (p1 p2 q1 q2 q3 q4 : Pos),
    K.lookup fI = some ⟨oc, od, .func (fnOf "__init__" "NotEnabled.__init__" (iA p1 p2) (iB q1 q2 q3 q4) iS .none .none doc pm an cdv ct), osl⟩ ∧ codeIn K cdv "NotEnabled.__init__" = true
theorem one_size (v : Value) : [v].length ≤ sizeLine := by
  rw [sizeLine_eq]
  exact (by decide : 1 ≤ 16777216)
theorem kept_but {K : Frag} {h h' : Heap} {x : Addr} (X : K.In h) (hx : K.lookup x = none) (k : ∀ b o, b ≠ x → h.get? b = some o → h'.get? b = some o) : K.In h' := fun a o e =>
  k a o (fun z => by rw [z, hx] at e; cases e) (X a o e)
theorem ldC {M : Model} {s : Shared} {name : Str} {scope : Scope} {L a : Addr} {cd : Value} {m : Str → Option Value} {x : Str} {pos : Pos} {v : Value} {Q : Value → Shared → Prop} {A : Around} {E : Value → Shared → Prop} (hn : s.heap.Ns L m) (hv : m x = some v) (h : Q v s)
    (hk : scope.kind = .function := by rfl) (hl : (envOfC name scope L a cd).kindOf x = some .local := by rfl) (hd : (x == ("__debug__" : Str)) = false := by decide) :
    wpAny M A (eval (.Name x pos) (envOfC name scope L a cd)) Q E s := wpAny_Name (wpAny_loadName_local hk hl hn hv h) hd
/-- what __init__ leaves of a fresh exception at x -/
structure InitEnd (h h' : Heap) (x C dx t1 : Addr) (v : Value) : Prop where
  keep : ∀ b o, b ≠ x → h.get? b = some o → h'.get? b = some o
  obj : h'.get? x = some { cls := .ref C, dict := some dx, data := .fields #[.ref t1, .none, .none, .none, .bool false, .none] }
  dbig : h.objs.size ≤ dx
  dne : dx ≠ x
  ns : h'.Ns1 dx (fun y => if y = "position" then some v else none)
/-- a made Low -/
structure OwnMade (h h' : Heap) (e C d : Addr) (v : Value) : Prop where
  keep : ∀ b o, h.get? b = some o → h'.get? b = some o
  new : h.objs.size ≤ e
  obj : ∃ oe vs, h'.get? e = some oe ∧ oe.cls = .ref C ∧ oe.dict = some d ∧ oe.data = .fields vs ∧ vs[1]? = some .none ∧ vs[2]? = some .none
  dbig : h.objs.size ≤ d
  dne : d ≠ e
  ns : h'.Ns1 d (fun y => if y = "position" then some v else none)
section
variable {prog : Program} {w : World} {A : Around} {E : Value → Shared → Prop} {R : Result → Shared → Prop} {s : Shared} {K : Frag} {mg : Str → Option Value} {C fI : Addr}
theorem low_init (T : LowTxt K mg C fI) {x t0 : Addr} {v : Value} (X : K.In s.heap) (hlim : s.heap.NoLimit) (hx : s.heap.get? x = some (excO C t0)) (hnx : K.lookup x = none) (hroom : A.depth < recursionLimit)
    (hq : ∀ h' tk dx, InitEnd s.heap h' x C dx t0 v → R (.ok (.ret .none)) { s with heap := h', toks := tk }) :
    codeAny (model prog w) A (.call (.ref fI) ⟨[.ref x, v], []⟩) R s := by
  obtain ⟨oc, od, doc, pm, an, cdv, ct, osl, p1, p2, q1, q2, q3, q4, ho, hcd⟩ := T.fn
  obtain ⟨nm, q, N, bs, bm, sn, sub, ab, col, dd, k0, k1, k2, k3, k5, hC, hbm⟩ := T.cls
  have hcl : clsIn K C = some { name := nm, bases := bs, mro := .ref C :: bm, ns := N, qualname := q, hasDict := true, slotNames := sn, subclasses := sub, abstract := ab, collection := col, hasDel := false } := by unfold clsIn; rw [hC] <;> rfl
  refine Att.call_fn (binds := [("self", .ref x), ("position", v)]) X hlim ho hcd hroom (BindsTo.of_eq (by first | rfl | with_unfolding_all rfl)) (by first | rfl | decide | with_unfolding_all rfl) (fun s₁ IC => ?_) rfl rfl rfl
  obtain ⟨h₁, tk₁, rfl⟩ := IC.toInCall.same
  have k : ∀ b o, s.heap.get? b = some o → h₁.get? b = some o := IC.toInCall.keep
  have hn := IC.toInCall.ns
  have hxL : s.heap.objs.size ≠ x := Nat.ne_of_gt (Heap.lt_size hx)
  have X₁ : K.In h₁ := X.keeps k
  have hx₁ := k _ _ hx
  -- self.by = by
  show wpAny _ _ (execs _ _) _ _ _
  refine wpAny_execs_cons (plainObj_wpAny_Assign_Attribute ?_)
  refine ldC (v := v) hn (by first | rfl | with_unfolding_all rfl | kernel_rfl) (ldC (v := .ref x) hn (by first | rfl | with_unfolding_all rfl | kernel_rfl) ?_)
  refine set_plain X₁ (ox := excO C t0) (od := none) ⟨hx₁, rfl, rfl, trivial⟩ T.sa ?_
  refine exc_osa X₁ hx₁ hcl (show refsVE (.ref C :: bm) = true from hbm) rfl T.noN (fun h₃ tk₃ dx k₃ dn dne hx₃ hn₃ => ?_)
  show wpAny _ _ (execs _ _) _ _ _
  have z : s.heap.objs.size < h₁.objs.size := hn.lt
  exact wpAny_execs_nil (hq h₃ tk₃ dx ⟨fun b o hb e => k₃ b o hb (k b o e), hx₃, Nat.le_of_lt (Nat.lt_of_lt_of_le z dn), dne, hn₃⟩)
theorem low_made (T : LowTxt K mg C fI) {v : Value} (X : K.In s.heap) (hlim : s.heap.NoLimit) (hroom : A.depth + 1 < recursionLimit)
    (hq : ∀ h' tk e d, OwnMade s.heap h' e C d v → R (.ok (.ret (.ref e))) { s with heap := h', toks := tk }) :
    codeAny (model prog w) A (.call (.ref C) ⟨[v], []⟩) R s := by
  obtain ⟨nm, q, N, bs, bm, sn, sub, ab, col, dd, k0, k1, k2, k3, k5, hC, hbm⟩ := T.cls
  obtain ⟨hp, g, dr, tk, os⟩ := s
  have k : ∀ b o, hp.get? b = some o → ((hp.push (kdv_tup [v])).push (excO C hp.objs.size)).get? b = some o := fun b o e => Heap.get?_push_of_some _ (Heap.get?_push_of_some _ e)
  have hget : ((hp.push (kdv_tup [v])).push (excO C hp.objs.size)).get? (hp.objs.size + 1) = some (excO C hp.objs.size) := by heap_get
  have hnx : K.lookup (hp.objs.size + 1) = none := by
    cases e : K.lookup (hp.objs.size + 1) with
    | none => rfl
    | some o =>
      have z : hp.get? (hp.objs.size + 1) = some o := X _ _ e
      exact absurd (Nat.lt_of_succ_lt (Heap.lt_size z)) (Nat.lt_irrefl _)
  refine call_own F.excBase_ValueError (fun X => refsVE_contains X bm hbm) (X _ _ hC) (looks_findIn X T.iC) (fun self => bind_fn X self T.tC) (one_size v) ?_
  refine low_init (s := ⟨(hp.push (kdv_tup [v])).push (excO C hp.objs.size), g, dr, tk, os⟩) T (X.keeps k) (hlim.keeps k) hget hnx ?_ fun h' tk' dx ⟨k', hx, dn, dne, hns⟩ => ?_
  · show A.depth + 1 < recursionLimit
    exact hroom
  · have old : ∀ b o, hp.get? b = some o → h'.get? b = some o := fun b o e => k' b o (Nat.ne_of_lt (Nat.lt_succ_of_lt (Heap.lt_size e))) (k b o e)
    have z : hp.objs.size + 1 + 1 ≤ dx := by
      first
        | (simpa only [Heap.size_push] using dn)
        | exact dn
        | (have q := dn; rw [Heap.size_push, Heap.size_push] at q; exact q)
    exact ⟨rfl, hq h' tk' (hp.objs.size + 1) dx ⟨old, Nat.le_succ _, ⟨_, _, hx, rfl, rfl, rfl, rfl, rfl⟩, Nat.le_trans (Nat.le_trans (Nat.le_succ _) (Nat.le_succ _)) z, dne, hns⟩⟩
end
end LowX
end PySem
namespace L2
open PySem PySem.Spec PyProof.Rows
theorem relO_low {v : V} {v' : Value} (r : RelV v v') (f : Str) : RelO (List.lookup f [(("position" : Str), v)]) (if f = "position" then some v' else none) := by
  by_cases hw : f = "position"
  · subst hw
    rw [if_pos rfl]
    have q : List.lookup ("position" : Str) [(("position" : Str), v)] = some v := by simp [List.lookup]
    rw [q]
    exact r
  · rw [if_neg hw]
    have qw : (f == ("position" : Str)) = false := by simpa using hw
    have q2 : List.lookup f [(("position" : Str), v)] = none := by simp [List.lookup, qw]
    rw [q2]
    trivial
section
variable {X : Cx} {C fI : Addr}
/-- Low(e) -/
def tMkLow (C : Addr) (ta : TA) : St → Hp → XK → Prop := fun σ H Q => ta σ H fun vs H1 => ∃ v, vs = [v] ∧ ∀ d, H1 d = none → Q (.ref C) (some d) (upd H1 d (.xd [(("position" : Str), v)]))
theorem pmk_low {a : Expr} {ta : TA} {p pos : Pos} {k : Nat} (T : PySem.LowX.LowTxt X.K X.mg C fI) (hr : Room k X.A) (ha : PA X [a] ta) (hg : Gl X "NotEnabled" := by rfl)
    (he : starEach (a :: []) X.env = (false, eval a X.env) :: starEach [] X.env := by rfl) (hpl : (backTo pos (starEach [] X.env)).any (·.1) = false := by rfl) :
    L2N.PMk X (.Call (.Name "NotEnabled" p) [a] [] pos) (tMkLow C ta) := by
  intro pins s σ H Q I h
  refine wpAny_Call_Name_kw (ld_glob I hg T.gC ?_)
  refine PySem.W.callWith_K (h₀ := X.base) I.ok.mod.kin T.kC (thn (ha.run pos pins s σ H _ I h) fun us s1 hh => ?_) he hpl
  obtain ⟨vs, H1, I1, r1, v, ev, q1⟩ := hh
  subst ev
  refine ⟨I1.kIn, ?_⟩
  cases r1 with
  | cons rv rn =>
    rename_i v' us'
    cases rn
    show wpAny _ _ (call (.ref C) [v']) _ _ _
    have hlim := I1.nolimit
    obtain ⟨hp, g, dr, tk, os⟩ := s1
    refine wpAny_call (PySem.LowX.low_made T I1.kIn hlim (by have := hr.dp; omega) fun h' tk' e d M => ?_)
    show L2N.MkP X pins σ Q (.ref e) ⟨h', g, dr, tk', os⟩
    obtain ⟨oe, fv, hoe, hc, hd, hdat, h1, h2⟩ := M.obj
    have hns := M.ns
    obtain ⟨G', g1, g2⟩ := restrict h' fun b => decide (b ≠ e)
    have gk : ∀ b, b ≠ e → G'.get? b = h'.get? b := fun b hb => g1 b (decide_eq_true hb)
    have ge : G'.get? e = none := g2 e (by simp)
    have old : ∀ b o, hp.get? b = some o → G'.get? b = some o := fun b o q => (gk b (Nat.ne_of_lt (Nat.lt_of_lt_of_le (Heap.lt_size q) M.new))).trans (M.keep b o q)
    have ob : ObjOk X.prog X.w (upd H1 d (.xd [(("position" : Str), v)])) G' d (.xd [(("position" : Str), v)]) :=
      ⟨_, hns.at (fun o q => (gk d M.dne).trans q), fun f => relO_low rv f⟩
    have J : Inv X pins σ (upd H1 d (.xd [(("position" : Str), v)])) ⟨G', g, dr, tk', os⟩ := I1.laid (t' := tk') old M.dbig ob
    refine ⟨e, oe, fv, ⟨G', g, dr, tk', os⟩, _, .ref C, some d, rfl, J, fun b o q => ?_, ge, hoe, ⟨hc, hd, fun vs e => by rw [hdat] at e; cases e; exact h2⟩, hdat, h1, ?_, rfl, I1.bare, raises_own T.exC T.tyC, q1 d (I1.hok.fresh M.dbig)⟩
    · by_cases hb : b = e
      · have q' : G'.get? b = some o := q
        rw [hb, ge] at q'; cases q'
      · exact (gk b hb).symm.trans q
    · rw [upd_ne (Ne.symm M.dne)]
      exact I1.hok.fresh M.new
/-- raise Low(e) -/
def tRaiseLow (C : Addr) (W : WX) (ta : TA) : TS := fun _ σ H => tMkLow C ta σ H fun cls d H' => W cls d σ H'
theorem ps_raiseLow {a : Expr} {ta : TA} {W : WX} {p pos pos2 : Pos} {k : Nat} (hc : X.calm = true) (T : PySem.LowX.LowTxt X.K X.mg C fI) (hr : Room k X.A) (tk : L2N.Takes X W) (ha : PA X [a] ta) (hg : Gl X "NotEnabled" := by rfl)
    (he : starEach (a :: []) X.env = (false, eval a X.env) :: starEach [] X.env := by rfl) (hpl : (backTo pos (starEach [] X.env)).any (·.1) = false := by rfl) :
    PS X (.Raise (some (.Call (.Name "NotEnabled" p) [a] [] pos)) none pos2) (tRaiseLow C W ta)   := L2N.ps_raise hc tk (pmk_low T hr ha hg he hpl)
/-- low.by, low the exception that the suite holds (at a; its class cls, its dict d) -/
def tByLow (C : Addr) (a : Addr) (cls : Value) (d : Option Addr) (te : TE) : TE := fun σ H Q => te σ H fun x H1 => x = .ref a ∧ cls = .ref C ∧ ∃ (dd : Addr) (v : V), d = some dd ∧ H1 dd = some (.xd [(("position" : Str), v)]) ∧ Q v H1
theorem pe_byLow {a : Addr} {oe : Obj} {cls : Value} {d : Option Addr} {pn : List (Addr × Obj)} {e : Expr} {te : TE} {pos : Pos} (T : PySem.LowX.LowTxt X.K X.mg C fI) (hz : L2N.Zn cls d oe) (hf : ∃ vs, oe.data = .fields vs) (he : PE (X.suite a ((a, oe) :: pn)) e te)
    (hb : attributeBase e "position" X.env (eval e X.env) = eval e X.env := by rfl) :
    PE (X.suite a ((a, oe) :: pn)) (.Attribute e "position" pos) (tByLow C a cls d te) := by
  refine ⟨fun pins s σ H Q I h => ?_⟩
  refine attr_of hb (thn (he.run pins s σ H _ I h) fun u s1 hh => ?_)
  obtain ⟨x, H1, I1, rx, ex, ec, dd, v, ed, ea, q⟩ := hh
  subst ex
  obtain rfl : u = Value.ref a := rx
  subst ec
  subst ed
  obtain ⟨ha, _⟩ := I1.pin (a, oe) (List.mem_append_left _ List.mem_cons_self)
  obtain ⟨vs, hd⟩ := hf
  have hx : ObjOk X.prog X.w H1 s1.heap dd (.xd [(("position" : Str), v)]) := I1.hok dd _ ea
  obtain ⟨mA, hns, hr⟩ := hx
  obtain ⟨od, ho, hl⟩ := lookIn_ns hns
  have l : List.lookup ("position" : Str) [(("position" : Str), v)] = some v := by simp [List.lookup]
  obtain ⟨u, hu, ru⟩ := RelO.some_of (v := v) (o := mA "position") (by rw [← l]; exact hr "position")
  have J : PySem.W.InstAt s1.heap a oe C (some od) := ⟨ha, hz.1, by unfold PySem.W.notCls; rw [hd] <;> rfl, by rw [hz.2.1]; exact ho⟩
  exact HandSPX.exc_get I1.kIn J T.ga T.gg T.exC (PySem.W.findObj_own T.hdC T.noN rfl (by rw [hl, hu])) (handed_of ru) ⟨v, H1, I1.tok _, ru, q⟩
end
end L2


namespace Cv
open PySem PySem.Spec PyProof.Rows L2 RZ
section
variable {d : Option Addr} {X : Cx} {B : Hp} {ρ ρ' : Ro d} {a b c e iter elt : Expr} {es : List Expr} {R R' Ra Rb : Rp d} {Rs : List (Rp d)} {pos : Pos} {m n : Int} {st : Stmt} {rest body orelse : List Stmt} {Pre Mid : L2.St → Hp → Prop} {Po : Ends}
/-- a <= b < c -/
theorem t_chainLt {i j k : Int} (ha : EX X B ρ a (rI i)) (hb : EX X B ρ b (rI j)) (hc : EX X B ρ c (rI k)) (hm : lastMarks [CmpOp.LtE, CmpOp.Lt] [b, c] = false := by with_unfolding_all rfl) : TX X B ρ (.Compare a [.LtE, .Lt] [b, c] pos) (is (decide (i ≤ j) && decide (j < k))) :=
  PT_wk (pt_chain op_le op_lt ha hb hc hm) fun σ H Q ⟨s, q⟩ => ⟨s, fun x H1 e1 hx => ⟨s.mono e1, fun y H2 e2 hy => by
    obtain rfl : x = .int i := hx
    obtain rfl : y = .int j := hy
    refine ⟨i, j, rfl, rfl, _, rfl, ?_⟩
    by_cases h : i ≤ j
    · rw [if_pos (decide_eq_true h)]
      refine ⟨(s.mono e1).mono e2, fun z H3 e3 hz => ?_⟩
      obtain rfl : z = .int k := hz
      exact ⟨j, k, rfl, rfl, _, rfl, q _ H3 (e1.trans (e2.trans e3)) (by rw [decide_eq_true h, Bool.true_and])⟩
    · rw [if_neg (by rw [decide_eq_false h]; exact Bool.false_ne_true)]
      exact ⟨false, rfl, q _ H2 (e1.trans e2) (by rw [decide_eq_false h, Bool.false_and])⟩⟩⟩
/-- a <= b < c, c only asked where a <= b -/
theorem t_chainLtG {i j k : Int} (ha : EX X B ρ a (rI i)) (hb : EX X B ρ b (rI j)) (hc : i ≤ j → EX X B ρ c (rI k)) (hm : lastMarks [CmpOp.LtE, CmpOp.Lt] [b, c] = false := by with_unfolding_all rfl) : TX X B ρ (.Compare a [.LtE, .Lt] [b, c] pos) (is (decide (i ≤ j) && decide (j < k))) := by
  by_cases h : i ≤ j
  · exact t_chainLt ha hb (hc h) hm
  · have hc' : PE X c fun _ _ _ => False := ⟨fun pins s σ H Q I q => q.elim⟩
    exact PT_wk (pt_chain op_le op_lt ha hb hc' hm) fun σ H Q ⟨s, q⟩ => ⟨s, fun x H1 e1 hx => ⟨s.mono e1, fun y H2 e2 hy => by
      obtain rfl : x = .int i := hx
      obtain rfl : y = .int j := hy
      refine ⟨i, j, rfl, rfl, _, rfl, ?_⟩
      rw [if_neg (by rw [decide_eq_false h]; exact Bool.false_ne_true)]
      exact ⟨false, rfl, q _ H2 (e1.trans e2) (by rw [decide_eq_false h, Bool.false_and])⟩⟩⟩
/-- the same as a value -/
theorem x_chainLt {i j k : Int} (ha : EX X B ρ a (rI i)) (hb : EX X B ρ b (rI j)) (hc : EX X B ρ c (rI k)) (hm : lastMarks [CmpOp.LtE, CmpOp.Lt] [b, c] = false := by with_unfolding_all rfl) : EX X B ρ (.Compare a [.LtE, .Lt] [b, c] pos) (rB (decide (i ≤ j) && decide (j < k))) :=
  PE_wk (pe_chain op_le op_lt ha hb hc hm) fun σ H Q ⟨s, q⟩ => ⟨s, fun x H1 e1 hx => ⟨s.mono e1, fun y H2 e2 hy => by
    obtain rfl : x = .int i := hx
    obtain rfl : y = .int j := hy
    refine ⟨i, j, rfl, rfl, _, rfl, ?_⟩
    by_cases h : i ≤ j
    · rw [if_pos (decide_eq_true h)]
      refine ⟨(s.mono e1).mono e2, fun z H3 e3 hz => ?_⟩
      obtain rfl : z = .int k := hz
      exact ⟨j, k, rfl, rfl, q _ H3 (e1.trans (e2.trans e3)) (by rw [decide_eq_true h, Bool.true_and]; exact rfl)⟩
    · rw [if_neg (by rw [decide_eq_false h]; exact Bool.false_ne_true)]
      exact q _ H2 (e1.trans e2) (by rw [decide_eq_false h, Bool.false_and]; exact rfl)⟩⟩
/-- for x, y in t, its items pairs -/
theorem bx_forT2 {α : Type} {ds : List D} (j k : Nat) {x y : Str} {kk : Nat} {tpos p1 p2 : Pos} (P : Nat → α → Prop) (r : Nat → α → Ro d) (hi : EX X B ρ iter (dat X.K (.t ds))) (h0 : ∀ σ H, St B ρ σ H → IS B (P 0) (r 0) σ H)
    (hd : ∀ (i : Nat) w, ds[i]? = some w → ∃ A C, w = .t [A, C])
    (hb : ∀ (i : Nat) A C z, ds[i]? = some (.t [A, C]) → P i z → BX X body (St B (((r i z).set j (some (dat X.K A))).set k (some (dat X.K C)))) (Lp Po (IS B (P (i + 1)) (r (i + 1))) (IS B (P ds.length) (r ds.length)))) (h : BX X rest (IS B (P ds.length) (r ds.length)) Po)
    (hN : X.N.Nodup) (hp : PassesOwn (model X.prog X.w) X.A X.env X.xe) (hj : X.N[j]? = some x := by rfl) (hk : X.N[k]? = some y := by rfl) (hc : X.calm = true := by rfl) (hx : Loc X.env.scope x := by first | exact Or.inl rfl | exact Or.inr rfl) (hy : Loc X.env.scope y := by first | exact Or.inl rfl | exact Or.inr rfl)
    (hf : X.fn x = true ∨ X.env.scope.names.lookup x = some .local := by first | exact .inl rfl | exact .inr rfl | assumption) (hfy : X.fn y = true ∨ X.env.scope.names.lookup y = some .local := by first | exact .inl rfl | exact .inr rfl | assumption) (hs : ∀ x, foldedSetIterable iter X.env x = pure x := by intro _; rfl) :
    BX X (.For (.Tuple [.Name x p1, .Name y p2] kk tpos) iter body [] pos :: rest) (St B ρ) Po := by
  refine bx_cons (Mid := IS B (P ds.length) (r ds.length)) ?_ h
  refine PS_wk (t := tFor (iTup X.K fun σ H Q => St B ρ σ H ∧ ∀ v H', Ext d H H' → (dat X.K (.t ds)).p v H' → Q v H') (gTup X.K 2 (gCons (gName j) (gCons (gName k) gNil))) (tBody (Z := Nat × D × D × α) B (fun z => ((r z.1 z.2.2.2).set j (some (dat X.K z.2.1))).set k (some (dat X.K z.2.2.1))) (fun z => ds[z.1]? = some (.t [z.2.1, z.2.2.1]) ∧ P z.1 z.2.2.2) (fun z => Lp Po (IS B (P (z.1 + 1)) (r (z.1 + 1))) (IS B (P ds.length) (r ds.length)))))
    (ps_for hp hc (pi_tup hi) (pg_tup hc (pgs_cons (pg_name hN hj hx hf) (pgs_cons (pg_name hN hk hy hfy) pgs_nil))) ⟨fun pins s σ H E I ⟨⟨i, A, C, z⟩, ⟨hw, hz⟩, q, l⟩ => (hb i A C z hw hz).run pins s σ H E I ⟨q, l⟩⟩ hs) fun E σ H ⟨s, l⟩ => ⟨s, fun v H1 e1 hv => ?_⟩
  obtain ⟨t, us, rfl, h1, h2⟩ := DR.tup hv
  refine ⟨t, rfl, ⟨us, h1⟩, for_tup (K := X.K) (a := t) (xs := us) (g := gTup X.K 2 (gCons (gName j) (gCons (gName k) gNil))) (tb := tBody (Z := Nat × D × D × α) B (fun z => ((r z.1 z.2.2.2).set j (some (dat X.K z.2.1))).set k (some (dat X.K z.2.2.1))) (fun z => ds[z.1]? = some (.t [z.2.1, z.2.2.1]) ∧ P z.1 z.2.2.2) (fun z => Lp Po (IS B (P (z.1 + 1)) (r (z.1 + 1))) (IS B (P ds.length) (r ds.length)))) (fun i σ H => Tk H1 H ∧ IS B (P i) (r i) σ H) ⟨Tk.refl _, h0 _ _ (s.mono e1)⟩ (fun i σ H _ q => q.1.sqT h1) (fun i x σ H hx ⟨k', z, hz, q⟩ => ?_) (fun σ H ⟨k', q⟩ => l.nx σ H (e1.tk.trans k') (by rw [h2.1]; exact q))⟩
  obtain ⟨w, hw, hr⟩ := h2.getV hx
  obtain ⟨A, C, rfl⟩ := hd i w hw
  obtain ⟨t2, ws, rfl, g1, g2⟩ := DR.tup (hr.tk k')
  match ws, g2 with
  | [w1, w2], g2 =>
    refine ⟨t2, [w1, w2], rfl, g1, rfl, w1, [w2], rfl, w2, [], rfl, rfl, (i, A, C, z), ⟨hw, hz⟩, ⟨q.ext, q.dr, (q.good.set j (R := dat X.K A) (g2.2 0 A w1 rfl rfl)).set k (R := dat X.K C) (g2.2 1 C w2 rfl rfl)⟩, ?_⟩
    exact ⟨fun σ' H' k2 q' => ⟨k'.trans k2, q'⟩, fun v H' k2 q' => l.rt v H' ((e1.tk.trans k').trans k2) q', fun σ' H' k2 q' => l.nx σ' H' ((e1.tk.trans k').trans k2) q', fun σ' H' k2 q' => ⟨k'.trans k2, q'⟩⟩
  | [], g2 => exact absurd g2.1 (by simp)
  | [_], g2 => exact absurd g2.1 (by simp)
  | _ :: _ :: _ :: _, g2 => exact absurd g2.1 (by simp)

/-! ### dicts -/
def valD {κ : Type} [DecidableEq κ] (kvs : List (κ × D)) (k : κ) : Option D := (kvs.find? fun kv => decide (kv.1 = k)).map (·.2)
/-- the pairs of a dict: keys alike, values told -/
def KD {κ : Type} (K : PySem.W.Frag) (H : Hp) (kvs : List (κ × D)) (us : List (κ × V)) : Prop := us.map (·.1) = kvs.map (·.1) ∧ DRl K H (kvs.map (·.2)) (us.map (·.2))
theorem KD.tk {κ : Type} {K : PySem.W.Frag} {H H' : Hp} {kvs : List (κ × D)} {us : List (κ × V)} (k : Tk H H') (h : KD K H kvs us) : KD K H' kvs us := ⟨h.1, h.2.tk k⟩
theorem KD.len {κ : Type} {K : PySem.W.Frag} {H : Hp} {kvs : List (κ × D)} {us : List (κ × V)} (h : KD K H kvs us) : us.length = kvs.length := by have := congrArg List.length h.1; simpa using this
theorem DRl.cons_ {K : PySem.W.Frag} {H : Hp} {e : D} {ds : List D} {v : V} {vs : List V} (h : DRl K H (e :: ds) (v :: vs)) : DR K H e v ∧ DRl K H ds vs := ⟨h.2 0 e v rfl rfl, by have := h.1; simpa using this, fun i e' v' a b => h.2 (i + 1) e' v' a b⟩
theorem KD.val {κ : Type} [DecidableEq κ] {K : PySem.W.Frag} {H : Hp} : ∀ {kvs : List (κ × D)} {us : List (κ × V)} (k : κ), KD K H kvs us → (valV us k = none ∧ valD kvs k = none) ∨ ∃ v w, valV us k = some v ∧ valD kvs k = some w ∧ DR K H w v
  | [], [], k, _ => .inl ⟨rfl, rfl⟩
  | [], _ :: _, k, h => by have := h.len; simp at this
  | _ :: _, [], k, h => by have := h.len; simp at this
  | (k1, w) :: kvs, (k2, v) :: us, k, h => by
    have e : k2 = k1 := (List.cons.inj h.1).1
    subst e
    have hd := DRl.cons_ h.2
    by_cases hk : k2 = k
    · exact .inr ⟨v, w, by simp [valV, hk], by simp [valD, hk], hd.1⟩
    · have ih := KD.val (kvs := kvs) (us := us) k ⟨(List.cons.inj h.1).2, hd.2⟩
      have e1 : valV ((k2, v) :: us) k = valV us k := by simp [valV, hk]
      have e2 : valD ((k2, w) :: kvs) k = valD kvs k := by simp [valD, hk]
      rw [e1, e2]
      exact ih
theorem KD.isSome {κ : Type} [DecidableEq κ] {K : PySem.W.Frag} {H : Hp} {kvs : List (κ × D)} {us : List (κ × V)} (k : κ) (h : KD K H kvs us) : (valV us k).isSome = (valD kvs k).isSome := by
  rcases h.val k with ⟨a, b⟩ | ⟨v, w, a, b, _⟩
  · rw [a, b]; rfl
  · rw [a, b]; rfl
theorem KD.snoc {κ : Type} {K : PySem.W.Frag} {H : Hp} {kvs : List (κ × D)} {us : List (κ × V)} {k : κ} {w : D} {v : V} (h : KD K H kvs us) (hv : DR K H w v) : KD K H (kvs ++ [(k, w)]) (us ++ [(k, v)]) := by
  refine ⟨by simp [h.1], ?_⟩
  rw [List.map_append, List.map_append]
  exact h.2.snoc hv
/-- a dict of keys that are ints and texts, at a -/
def dct (K : PySem.W.Frag) (a : Addr) (kvs : List (Key × D)) : Rp d := ⟨fun v H => v = .ref a ∧ ∃ us, H a = some (.dK us) ∧ KD K H kvs us, fun e ⟨h1, us, h2, h3⟩ => ⟨h1, us, e.keep _ _ h2 fun _ _ q => (by cases q), h3.tk e.tk⟩⟩
/-- a dict whose keys are tuples of ints, at a -/
def dcT (K : PySem.W.Frag) (a : Addr) (kvs : List (List Key × D)) : Rp d := ⟨fun v H => v = .ref a ∧ ∃ us, H a = some (.dT us) ∧ KD K H kvs us, fun e ⟨h1, us, h2, h3⟩ => ⟨h1, us, e.keep _ _ h2 fun _ _ q => (by cases q), h3.tk e.tk⟩⟩
/-- x = {}, x in slot i -/
theorem bx_dict (i : Nat) {x : Str} {pos' pos2 : Pos} {K : PySem.W.Frag} (hK : X.K = K) (h : ∀ l, B l = none → BX X rest (St B (ρ.set i (some (dct K l [])))) Po) (hN : X.N.Nodup) (hi : X.N[i]? = some x := by rfl) (hx : Loc X.env.scope x := by first | exact Or.inl rfl | exact Or.inr rfl) (hs : swapsWith (.Dict [] [] pos2) (some (.Name x pos')) pos.line X.env = pure false := by rfl) (hf : X.fn x = true ∨ X.env.scope.names.lookup x = some .local := by first | exact .inl rfl | exact .inr rfl | assumption) :
    BX X (.Assign [.Name x pos'] (.Dict [] [] pos2) pos :: rest) (St B ρ) Po := by
  subst hK
  refine bx_cons (Mid := fun σ H => ∃ l, B l = none ∧ St B (ρ.set i (some (dct X.K l []))) σ H) ?_ (bx_ex fun l hl => h l hl)
  refine PS_wk (ps_set hN hi hx pe_dnewK hs hf) fun E σ H ⟨s, q⟩ => fun l hl => ?_
  obtain ⟨hB, hd⟩ := s.fresh hl
  have e1 : Ext d H (upd H l (.dK [])) := Ext.new hl
  exact q.nx _ _ e1.tk ⟨l, hB, (s.mono e1).ext, (s.mono e1).dr, (s.mono e1).good.set i (R := dct X.K l []) ⟨rfl, [], upd_same, rfl, DRl.nil⟩⟩
theorem bx_dictT (i : Nat) {x : Str} {pos' pos2 : Pos} {K : PySem.W.Frag} (hK : X.K = K) (h : ∀ l, B l = none → BX X rest (St B (ρ.set i (some (dcT K l [])))) Po) (hN : X.N.Nodup) (hi : X.N[i]? = some x := by rfl) (hx : Loc X.env.scope x := by first | exact Or.inl rfl | exact Or.inr rfl) (hs : swapsWith (.Dict [] [] pos2) (some (.Name x pos')) pos.line X.env = pure false := by rfl) (hf : X.fn x = true ∨ X.env.scope.names.lookup x = some .local := by first | exact .inl rfl | exact .inr rfl | assumption) :
    BX X (.Assign [.Name x pos'] (.Dict [] [] pos2) pos :: rest) (St B ρ) Po := by
  subst hK
  refine bx_cons (Mid := fun σ H => ∃ l, B l = none ∧ St B (ρ.set i (some (dcT X.K l []))) σ H) ?_ (bx_ex fun l hl => h l hl)
  refine PS_wk (ps_set hN hi hx pe_dnewT hs hf) fun E σ H ⟨s, q⟩ => fun l hl => ?_
  obtain ⟨hB, hd⟩ := s.fresh hl
  have e1 : Ext d H (upd H l (.dT [])) := Ext.new hl
  exact q.nx _ _ e1.tk ⟨l, hB, (s.mono e1).ext, (s.mono e1).dr, (s.mono e1).good.set i (R := dcT X.K l []) ⟨rfl, [], upd_same, rfl, DRl.nil⟩⟩
/-- a value that is a key -/
def keyD : Key → D
  | .inl i => .i i
  | .inr x => .s x
theorem key_of_dr {K : PySem.W.Frag} {H : Hp} {k : Key} {v : V} (h : DR K H (keyD k) v) : v = kV k := by
  cases k with
  | inl i => cases h; rfl
  | inr x => cases h; rfl
/-- k in x, k not in x -/
theorem t_din {l : Addr} {kvs : List (Key × D)} {k : Key} (hu : X.A.units + 1 < cLine) (ha : EX X B ρ a (dat X.K (keyD k))) (hb : EX X B ρ b (dct X.K l kvs)) (hm : behindInMarks CmpOp.In b = false := by rfl) : TX X B ρ (.Compare a [.In] [b] pos) (is (valD kvs k).isSome) :=
  PT_wk (pt_cmp (pc_din hu ha hb) hm) fun σ H Q ⟨s, q⟩ => ⟨s, fun x H1 e1 hx => ⟨s.mono e1, fun y H2 e2 hy => by
    obtain ⟨rfl, us, h1, h2⟩ := hy
    obtain rfl := key_of_dr hx
    exact ⟨l, _, rfl, DGet.k h1, _, rfl, q _ H2 (e1.trans e2) (h2.isSome k)⟩⟩⟩
theorem t_dnotin {l : Addr} {kvs : List (Key × D)} {k : Key} (hu : X.A.units + 1 < cLine) (ha : EX X B ρ a (dat X.K (keyD k))) (hb : EX X B ρ b (dct X.K l kvs)) (hm : behindInMarks CmpOp.NotIn b = false := by rfl) : TX X B ρ (.Compare a [.NotIn] [b] pos) (is (!(valD kvs k).isSome)) :=
  PT_wk (pt_cmp (pc_dnotin hu ha hb) hm) fun σ H Q ⟨s, q⟩ => ⟨s, fun x H1 e1 hx => ⟨s.mono e1, fun y H2 e2 hy => by
    obtain ⟨rfl, us, h1, h2⟩ := hy
    obtain rfl := key_of_dr hx
    exact ⟨l, _, rfl, DGet.k h1, _, rfl, q _ H2 (e1.trans e2) (by show (!(valV us k).isSome) = _; rw [h2.isSome k])⟩⟩⟩
/-- x[k], there -/
theorem x_dget {l : Addr} {kvs : List (Key × D)} {k : Key} {w : D} (hu : X.A.units + 1 < cLine) (ha : EX X B ρ a (dct X.K l kvs)) (hb : EX X B ρ b (dat X.K (keyD k))) (hw : valD kvs k = some w) (hs : NoSl b := by exact (fun _ _ => rfl)) : EX X B ρ (.Subscript a b pos) (dat X.K w) :=
  PE_wk (pe_dget hu ha hb hs) fun σ H Q ⟨s, q⟩ => ⟨s, fun x H1 e1 hx => ⟨s.mono e1, fun y H2 e2 hy => by
    obtain ⟨rfl, us, h1, h2⟩ := (dct (d := d) X.K l kvs).st e2 hx
    obtain rfl := key_of_dr hy
    rcases h2.val k with ⟨_, z⟩ | ⟨v, w', z1, z2, z3⟩
    · rw [hw] at z; cases z
    · rw [hw] at z2; cases z2
      exact ⟨l, v, rfl, by rw [← z1]; exact DGet.k h1, q v H2 (e1.trans e2) z3⟩⟩⟩
/-! ### what does not care for dicts -/
/-- a reading that a change of the dict at l leaves -/
def Ink (l : Addr) (R : Rp d) : Prop := ∀ v H o o', H l = some o → ((∃ us, o = .dK us) ∨ ∃ us, o = .dT us) → R.p v H → R.p v (upd H l o')
theorem tk_dk {H : Hp} {l : Addr} {o o' : HO} (h : H l = some o) (ho : (∃ us, o = .dK us) ∨ ∃ us, o = .dT us) : Tk H (upd H l o') := by
  refine ⟨fun a zs e => ?_, fun a o u e => ?_⟩
  · have : a ≠ l := fun q => by rw [q, h] at e; cases e; rcases ho with ⟨_, h⟩ | ⟨_, h⟩ <;> cases h
    rw [upd_ne this]; exact e
  · have : a ≠ l := fun q => by rw [q, h] at e; cases e; rcases ho with ⟨_, h⟩ | ⟨_, h⟩ <;> cases h
    rw [upd_ne this]; exact e
theorem ne_dk {H : Hp} {l a : Addr} {o o2 : HO} (h : H l = some o) (ho : (∃ us, o = .dK us) ∨ ∃ us, o = .dT us) (h2 : H a = some o2) (h3 : ∀ us, o2 ≠ .dK us) (h4 : ∀ us, o2 ≠ .dT us) : a ≠ l := fun q => by
  rw [q, h] at h2; cases h2
  rcases ho with ⟨us, h⟩ | ⟨us, h⟩
  · exact h3 us h
  · exact h4 us h
theorem ink_I {l : Addr} {n : Int} : Ink l (rI (d := d) n) := fun _ _ _ _ _ _ h => h
theorem ink_B {l : Addr} {n : Bool} : Ink l (rB (d := d) n) := fun _ _ _ _ _ _ h => h
theorem ink_any {l : Addr} : Ink l (rAny (d := d)) := fun _ _ _ _ _ _ h => h
theorem ink_drw {l : Addr} : Ink l (drw (d := d)) := fun _ _ _ _ _ _ h => h
theorem ink_dat {l : Addr} {K : PySem.W.Frag} {w : D} : Ink l (dat (d := d) K w) := fun _ _ _ _ hl ho h => h.tk (tk_dk hl ho)
theorem ink_ex {l : Addr} {α : Type} {P : α → Prop} {Rz : α → Rp d} (h : ∀ z, Ink l (Rz z)) : Ink l (exR P Rz) := fun v H o o' hl ho ⟨z, hz, q⟩ => ⟨z, hz, h z v H o o' hl ho q⟩
theorem ink_own {l l' : Addr} {K : PySem.W.Frag} {ds : List D} : Ink l (own (d := d) K l' ds) := fun v H o o' hl ho ⟨h1, h2, us, h3, h4⟩ => ⟨h1, h2, us, by rw [upd_ne (ne_dk hl ho h3 (fun _ q => nomatch q) (fun _ q => nomatch q))]; exact h3, h4.tk (tk_dk hl ho)⟩
theorem ink_sqx {l la : Addr} {K : PySem.W.Frag} {H : Hp} {us : List V} {o o' : HO} (hl : H l = some o) (ho : (∃ us, o = .dK us) ∨ ∃ us, o = .dT us) (h : SqX d K H la us) : SqX d K (upd H l o') la us := by
  rcases h with ⟨h1, h⟩ | ⟨q, h⟩ | h
  · exact .inl ⟨h1, by rw [upd_ne (ne_dk hl ho h (fun _ q => nomatch q) (fun _ q => nomatch q))]; exact h⟩
  · exact .inr (.inl ⟨q, (tk_dk hl ho).frz _ _ _ h⟩)
  · exact .inr (.inr h)
theorem ink_lstA {l la : Addr} {K : PySem.W.Frag} {ds : List D} : Ink l (lstA (d := d) K la ds) := fun v H o o' hl ho ⟨h1, h2, us, h3, h4⟩ => ⟨h1, h2, us, ink_sqx hl ho h3, h4.tk (tk_dk hl ho)⟩
theorem ink_lstB {B' : Hp} {l la : Addr} {K : PySem.W.Frag} {ds : List D} : Ink l (lstB (d := d) B' K la ds) := fun v H o o' hl ho ⟨h1, us, h2, h3⟩ => ⟨h1, us, by
    rcases h2 with ⟨h2, h⟩ | h
    · exact .inl ⟨h2, ink_sqx hl ho h⟩
    · exact .inr h, h3.tk (tk_dk hl ho)⟩
theorem ink_insA {l C y : Addr} {F : List (Str × Rp d)} (h : ∀ p ∈ F, Ink l p.2) : Ink l (insA C y F) := fun v H o o' hl ho ⟨h0, dy, gs, h1, h2, h3⟩ => ⟨h0, dy, gs, by rw [upd_ne (ne_dk hl ho h1 (fun _ q => nomatch q) (fun _ q => nomatch q))]; exact h1, h2, fun i f R k => let ⟨u, p, q⟩ := h3 i f R k; ⟨u, p, h _ (List.mem_of_getElem? k) u H o o' hl ho q⟩⟩
theorem ink_dct {l l' : Addr} {K : PySem.W.Frag} {kvs : List (Key × D)} (hne : l' ≠ l) : Ink l (dct (d := d) K l' kvs) := fun v H o o' hl ho ⟨h1, us, h2, h3⟩ => ⟨h1, us, by rw [upd_ne hne]; exact h2, h3.tk (tk_dk hl ho)⟩
theorem ind_dct {l l' : Addr} {K : PySem.W.Frag} {kvs : List (Key × D)} : Ind l (dct (d := d) K l' kvs) := fun v H xs ys hl ⟨h1, us, h2, h3⟩ => ⟨h1, us, by rw [upd_ne (show l' ≠ l from fun z => by rw [z, hl] at h2; cases h2)]; exact h2, h3.tk (Tk.lst hl)⟩
theorem ind_dcT {l l' : Addr} {K : PySem.W.Frag} {kvs : List (List Key × D)} : Ind l (dcT (d := d) K l' kvs) := fun v H xs ys hl ⟨h1, us, h2, h3⟩ => ⟨h1, us, by rw [upd_ne (show l' ≠ l from fun z => by rw [z, hl] at h2; cases h2)]; exact h2, h3.tk (Tk.lst hl)⟩
def InkBut (l : Addr) (i : Nat) (r : Ro d) : Prop := ∀ (j : Nat) (R : Rp d), j ≠ i → r[j]? = some (some R) → Ink l R
def InkA (l : Addr) (r : Ro d) : Prop := ∀ (j : Nat) (R : Rp d), r[j]? = some (some R) → Ink l R
theorem ka_nil {l : Addr} : InkA l ([] : Ro d) := fun j R h => by cases h
theorem ka_none {l : Addr} {r : Ro d} (h : InkA l r) : InkA l (none :: r) := fun j R e => by
  cases j with
  | zero => cases e
  | succ j => exact h j R e
theorem ka_some {l : Addr} {r : Ro d} {R : Rp d} (w : Ink l R) (h : InkA l r) : InkA l (some R :: r) := fun j R' e => by
  cases j with
  | zero => cases e; exact w
  | succ j => exact h j R' e
theorem kb_here {l : Addr} {o : Option (Rp d)} {r : Ro d} (h : InkA l r) : InkBut l 0 (o :: r) := fun j R hj e => by
  cases j with
  | zero => exact absurd rfl hj
  | succ j => exact h j R e
theorem kb_none {l : Addr} {i : Nat} {r : Ro d} (h : InkBut l i r) : InkBut l (i + 1) (none :: r) := fun j R hj e => by
  cases j with
  | zero => cases e
  | succ j => exact h j R (fun z => hj (by rw [z])) e
theorem kb_some {l : Addr} {i : Nat} {r : Ro d} {R : Rp d} (w : Ink l R) (h : InkBut l i r) : InkBut l (i + 1) (some R :: r) := fun j R' hj e => by
  cases j with
  | zero => cases e; exact w
  | succ j => exact h j R' (fun z => hj (by rw [z])) e
theorem st_dk {l : Addr} {o o' : HO} {R' : Rp d} {i : Nat} {σ : L2.St} {H : Hp} {v : V} (s : St B ρ σ H) (hl : H l = some o) (ho : (∃ us, o = .dK us) ∨ ∃ us, o = .dT us) (hi : i < ρ.length) (hv : σ[i]? = some (some v)) (hB : B l = none) (hb : InkBut l i ρ) (hR : R'.p v (upd H l o')) : St B (ρ.set i (some R')) σ (upd H l o') := by
  refine ⟨s.ext.mut hB (fun z => ?_), fun a ha => ?_, by simp [s.good.1], fun j R e => ?_⟩
  · obtain ⟨ns, _, q⟩ := s.dr l z.symm
    rw [hl] at q; cases q
    rcases ho with ⟨us, h⟩ | ⟨us, h⟩ <;> cases h
  · obtain ⟨ns, h1, q⟩ := s.dr a ha
    exact ⟨ns, h1, by rw [upd_ne (ne_dk hl ho q (fun _ q => nomatch q) (fun _ q => nomatch q))]; exact q⟩
  · by_cases hj : i = j
    · subst hj
      rw [List.getElem?_set_self hi] at e
      cases e
      exact ⟨v, hv, hR⟩
    · rw [List.getElem?_set_ne hj] at e
      obtain ⟨u, h1, h2⟩ := s.good.get e
      exact ⟨u, h1, hb j R (fun z => hj z.symm) e u H o o' hl ho h2⟩
/-- x[k] = e, k a new key, x in slot i -/
theorem bx_dput (i : Nat) {x : Str} {p1 p2 : Pos} {K : PySem.W.Frag} {l : Addr} {kvs : List (Key × D)} {k : Key} {w : D} (hi : ρ[i]? = some (some (dct K l kvs))) (hK : X.K = K) (hu : X.A.units + 1 < cLine) (he : EX X B ρ e (dat K w)) (hk : EX X B ρ b (dat K (keyD k))) (hnew : valD kvs k = none) (hz : kvs.length ≤ 1000) (hB : B l = none) (hb : InkBut l i ρ) (h : BX X rest (St B (ρ.set i (some (dct K l (kvs ++ [(k, w)]))))) Po)
    (hN : X.N[i]? = some x := by rfl) (hv : Vis X.env.scope x := by first | exact Or.inl rfl | exact Or.inr (Or.inl rfl) | exact Or.inr (Or.inr rfl)) (hd : (x == ("__debug__" : Str)) = false := by decide) (hcd : (x == ("__classdict__" : Str)) = false := by decide)
    (hs : swapsWith e (some (.Subscript (.Name x p1) b p2)) pos.line X.env = pure false := by rfl) :
    BX X (.Assign [.Subscript (.Name x p1) b p2] e pos :: rest) (St B ρ) Po := by
  subst hK
  refine bx_cons (Mid := St B (ρ.set i (some (dct X.K l (kvs ++ [(k, w)]))))) ?_ h
  refine PS_wk (ps_dput hu (pe_var hN hv hd hcd) hk he hs) fun E σ H ⟨s, q⟩ => ⟨s, fun v H1 e1 hw => ?_⟩
  have s1 := s.mono e1
  obtain ⟨u, h1, rfl, _⟩ := s1.good.get hi
  refine ⟨_, h1, s1, fun y H2 e2 hy => ?_⟩
  have s2 := s1.mono e2
  obtain ⟨u, h1', hu2, us, h2, h3⟩ := s2.good.get hi
  obtain rfl := key_of_dr hy
  have hn : valV us k = none := by
    rcases h3.val k with ⟨z, _⟩ | ⟨_, _, _, z, _⟩
    · exact z
    · rw [hnew] at z; cases z
  refine ⟨l, _, rfl, DPut.k h2 (by rw [h3.len]; exact small1000 hz), ?_⟩
  rw [putK_new v hn]
  have kk : Tk H2 (upd H2 l (.dK (us ++ [(k, v)]))) := tk_dk h2 (.inl ⟨us, rfl⟩)
  refine q.nx σ _ ((e1.tk.trans e2.tk).trans kk) (st_dk s2 h2 (.inl ⟨us, rfl⟩) (List.getElem?_eq_some_iff.mp hi).1 h1' hB hb ⟨hu2, _, upd_same, ?_⟩)
  exact (h3.tk kk).snoc ((hw.tk e2.tk).tk kk)
end
end Cv

namespace Cv
open PySem PySem.Spec PyProof.Rows L2 RZ
theorem valD_none {κ : Type} [DecidableEq κ] {kvs : List (κ × D)} {k : κ} (h : ∀ q ∈ kvs, ¬ q.1 = k) : valD kvs k = none := by
  unfold valD
  rw [List.find?_eq_none.mpr fun q hq => by simpa using h q hq]
  rfl
section
variable {d : Option Addr} {X : Cx} {B : Hp} {ρ ρ' : Ro d} {a b c e iter elt : Expr} {es : List Expr} {R R' Ra Rb : Rp d} {Rs : List (Rp d)} {pos : Pos} {m n : Int} {st : Stmt} {rest body orelse : List Stmt} {Pre Mid : L2.St → Hp → Prop} {Po : Ends}
/-- y = [elt for x in xs], y a plain local -/
theorem as_lcL {src : List D} {l : Addr} (i0 j : Nat) {x y : Str} {py spos : Pos} {scope : Scope} {tpos : Pos} (P : Nat → D → Prop) (hi : EX X B ρ iter (lstA X.K l src)) (hn : src.length < 2000) (hN : X.N.Nodup) (hok : BlkOk X.N X.env.scope scope [(x, j)])
    (hgn : ∀ (s : Shared) (H : Hp) (C : Addr) (cl : List (Str × Addr)) (fp : List Addr), PG (X.blk s H scope (compEnvC scope cl C X.env) fp) (.Name x tpos) (gName j))
    (hb : ∀ (s : Shared) (H : Hp) (C : Addr) (cl : List (Str × Addr)) (fp : List Addr) (i : Nat) (w : D), src[i]? = some w → EX (X.blk s H scope (compEnvC scope cl C X.env) fp) B (ρ.set j (some (dat X.K w))) elt (dE X.K (P i)))
    (hc : X.calm = true := by rfl) (hs : ∀ x, foldedSetIterable iter X.env x = pure x := by intro _; rfl)
    (hy : X.N[i0]? = some y := by rfl) (hyl : X.env.scope.names.lookup y = some .local := by rfl) (hsw : swapsWith (.ListComp elt [⟨.Name x tpos, iter, [], 0⟩] scope pos) (some (.Name y py)) spos.line X.env = pure true := by rfl) :
    AsgX X B ρ i0 (.Assign [.Name y py] (.ListComp elt [⟨.Name x tpos, iter, [], 0⟩] scope pos) spos) (newE B X.K fun ds => ds.length = src.length ∧ ∀ k w, ds[k]? = some w → P k w) := by
  refine PS_wk (ps_setLc (own := [(x, j)]) (g := gName j) (tt := tYes) (te := tElt (Z := Nat × D) B X.K (fun z => ρ.set j (some (dat X.K z.2))) (fun z => src[z.1]? = some z.2) (fun z => P z.1)) hc hN hy hyl hsw (pi_list hi) hok hgn (fun _ _ _ _ _ => pts_nil) (fun s H C cl fp => elt_of fun z hz => hb s H C cl fp z.1 z.2 hz) hs) fun E σ H ⟨s, q⟩ => ⟨s, fun v H1 e1 hv => ?_⟩
  obtain ⟨rfl, hld, us, g1, g2⟩ := hv
  have s1 := s.mono e1
  refine ⟨l, rfl, ⟨us, g1.sq⟩, fun Dl hD => ?_⟩
  obtain ⟨hB, hDd⟩ := s1.fresh hD
  refine lc_list (K := X.K) (a := l) (xs := us) (Lc H1 X.K Dl d P) ⟨Ext.new hD, [], [], upd_same, DRl.nil, rfl, fun k w h => by cases h⟩ (fun i H' _ L => (g1.ext L.1).sq) (fun i y H' hy L => ?_) (fun H' L => ?_)
  · obtain ⟨w, hw, hr⟩ := g2.getV hy
    refine ⟨wipe1 _ _ _, ?_⟩
    exact ⟨(i, w), hw, st_wipe (s1.mono L.1) (R := dat X.K w) (hr.tk L.1.tk), fun y H2 e2 hy => lc_step hD hDd L e2 hy (Nat.lt_trans (List.getElem?_eq_some_iff.mp hw).1 hn)⟩
  · obtain ⟨h0, vs, ds, h1, h2, h3, h4⟩ := L
    exact q _ H' (e1.trans h0) ⟨ds, ⟨by rw [h3, g2.1], h4⟩, Dl, hB, rfl, hDd, vs, h1, h2⟩
/-- (a, b, ..), each told by its own P -/
def All2 : List (D → Prop) → List D → Prop
  | [], [] => True
  | P :: Ps, w :: ws => P w ∧ All2 Ps ws
  | _, _ => False
theorem all2_of {K : PySem.W.Frag} : ∀ {Ps : List (D → Prop)} {vs : List V} {H : Hp}, RsH (Ps.map fun P => dE (d := d) K P) vs H → ∃ ds, All2 Ps ds ∧ DRl K H ds vs
  | [], [], _, _ => ⟨[], trivial, DRl.nil⟩
  | [], _ :: _, _, h => h.elim
  | _ :: _, [], _, h => h.elim
  | P :: Ps, v :: vs, H, h => by
    obtain ⟨⟨w, hw, hv⟩, h2⟩ := h
    obtain ⟨ds, h3, h4⟩ := all2_of (Ps := Ps) h2
    refine ⟨w :: ds, ⟨hw, h3⟩, by simp [h4.1], fun i e' v' a b => ?_⟩
    cases i with
    | zero => cases a; cases b; exact hv
    | succ i => exact h4.2 i e' v' a b
theorem all2_len : ∀ {Ps : List (D → Prop)} {ds : List D}, All2 Ps ds → ds.length = Ps.length
  | [], [], _ => rfl
  | [], _ :: _, h => h.elim
  | _ :: _, [], h => h.elim
  | _ :: Ps, _ :: ds, h => by simp [all2_len (Ps := Ps) h.2]
theorem x_tupE {Ps : List (D → Prop)} {x1} (h : AX X B ρ es (Ps.map fun P => dE X.K P)) (hl : Ps.length ≤ 1000 := by first | decide | simp) : EX X B ρ (.Tuple es x1 pos) (dE X.K fun w => ∃ ds, All2 Ps ds ∧ w = .t ds) :=
  PE_wk (pe_tup h) fun σ H Q ⟨s, q⟩ => ⟨s, fun vs H1 e1 hv => by
    obtain ⟨ds, h1, h2⟩ := all2_of hv
    refine ⟨by rw [← h2.1, all2_len h1]; exact Nat.le_of_lt (small1000 hl), fun p hp => q _ _ (e1.trans (Ext.new hp)) ⟨_, ⟨ds, h1, rfl⟩, ?_⟩⟩
    exact DR.of_tup (SqT.of upd_same) (h2.tk (Ext.new (d := d) hp).tk)⟩
/-- xs[i] of a new list of tuples .. told by P -/
theorem x_ixtE {ds : List D} {P : Int → Prop} (ha : EX X B ρ a (dat X.K (.t ds))) (hb : EX X B ρ b (iE P)) (hw : ∀ j, P j → 0 ≤ j ∧ j < ds.length) (hs : PlainIx b := by exact (fun _ _ => rfl)) : EX X B ρ (.Subscript a b pos) (dE X.K fun w => ∃ k : Nat, P k ∧ ds[k]? = some w) :=
  PE_wk (pe_ix ix_tup ha hb hs) fun σ H Q ⟨s, q⟩ => ⟨s, fun x H1 e1 hx => ⟨s.mono e1, fun y H2 e2 hy => by
    obtain ⟨p, us, rfl, h1, h2⟩ := DR.tup hx
    obtain ⟨j, hj, hy⟩ := hy
    obtain ⟨h0, hl⟩ := hw j hj
    obtain ⟨k, rfl⟩ : ∃ k : Nat, j = (k : Int) := ⟨j.toNat, by omega⟩
    have hk : k < ds.length := by omega
    obtain ⟨v, hv, hr⟩ := h2.get (List.getElem?_eq_getElem hk)
    exact ⟨p, us, _, v, rfl, hy, e2.tk.sqT h1, atI_nat hv, q v H2 (e1.trans e2) ⟨_, ⟨k, hj, List.getElem?_eq_getElem hk⟩, hr.tk e2.tk⟩⟩⟩⟩
/-- a or .., where a is surely true -/
theorem t_w_or_true {P : Bool → Prop} (h : TX X B ρ a P) (hp : ∀ q, P q → q = true) : WX X B ρ (.BoolOp .Or (a :: b :: es) pos) (fun k => k = true) := by
  refine ⟨fun wh pins s σ H Q I ⟨st, q⟩ => ?_⟩
  refine isTrue_or (thn (h.run pins s σ H (fun k H' => k = true ∧ Q k H') I ⟨st, fun k H' e1 hk => ?_⟩) fun k s1 ⟨H1, I1, q1⟩ => ?_)
  · obtain rfl := hp k hk
    exact ⟨rfl, q true H' e1 rfl⟩
  · obtain ⟨rfl, q1⟩ := q1
    exact ⟨H1, I1, q1⟩
/-- an own object that stood at the start -/
def insB (B' : Hp) (C : Addr) (F : List (Str × Rp d)) : Rp d := exR (fun y => B' y ≠ none) fun y => insA C y F
theorem x_insB {B' : Hp} {C : Addr} {F : List (Str × Rp d)} (h : EX X B ρ e (insB B' C F)) : EX X B ρ e (insR C F) := x_sub h fun v H ⟨y, _, hv⟩ => ⟨y, trivial, hv⟩
theorem io_insB {B' : Hp} {x C : Addr} {F : List (Str × Rp d)} (hx : B' x = none) (h : ∀ p ∈ F, IndO x p.2) : IndO x (insB B' C F) := fun v H C' dx fs fs' hH ⟨y, hy, q⟩ => ⟨y, hy, io_insA (fun z => hy (by rw [z]; exact hx)) h v H C' dx fs fs' hH q⟩
theorem insB_of {C : Addr} {F : List (Str × Rp d)} {v : V} {H : Hp} (h : (insR C F).p v H) : (insB H C F).p v H := by
  obtain ⟨y, _, h0, dx, fs, h1, h2⟩ := h
  have hn : H y ≠ none := fun z => by rw [h1] at z; cases z
  exact ⟨y, hn, h0, dx, fs, h1, h2⟩
theorem insR_of {C B' : _} {F : List (Str × Rp d)} {v : V} {H : Hp} (h : (insB B' C F).p v H) : (insR C F).p v H := by
  obtain ⟨y, _, h0⟩ := h
  exact ⟨y, trivial, h0⟩
def lstY (B : Hp) (K : PySem.W.Frag) (ds : List D) : Rp d := exR (fun _ => True) fun a => lstB B K a ds
theorem st_toY {K : PySem.W.Frag} {ds : List D} {σ : L2.St} {H : Hp} (i : Nat) (hi : ρ[i]? = some (some (lst K ds))) (s : St H ρ σ H) : St H (ρ.set i (some (lstY H K ds))) σ H := by
  refine ⟨s.ext, s.dr, by simp [s.good.1], fun j R e => ?_⟩
  by_cases hj : i = j
  · subst hj
    have hlt : i < ρ.length := (List.getElem?_eq_some_iff.mp hi).1
    rw [List.getElem?_set_self hlt] at e
    cases e
    obtain ⟨v, h1, l, _, rfl, _, us, h3, h4⟩ := s.good.get hi
    refine ⟨_, h1, l, trivial, rfl, us, ?_, h4⟩
    rcases h3 with ⟨k, h⟩ | ⟨o, h⟩ | h
    · exact .inl ⟨by rw [h]; exact fun z => (by cases z), .inl ⟨k, h⟩⟩
    · exact .inl ⟨by rw [h]; exact fun z => (by cases z), .inr (.inl ⟨o, h⟩)⟩
    · exact .inr h
  · rw [List.getElem?_set_ne hj] at e
    exact s.good.get e
end
end Cv

set_option maxHeartbeats 8000000
namespace Cv
open PySem PySem.Spec PyProof.Rows L2 RZ
def topS (i : Nat) : Stmt := PySem.Challenge.pw_covernets_k40_mail_steps.main.body.getD i (.Pass ⟨0, 0, 0, 0⟩)
abbrev s_NotEnabled_init : Stmt := inClass (topS 3) 0
theorem sc_NotEnabled_init : FnScope ["self", "position"] ["self", "position"] (defScope s_NotEnabled_init) := ⟨rfl, rfl, rfl, by decide +kernel, rfl, by decide +kernel, by decide +kernel⟩
abbrev s_covers : Stmt := topS 5
theorem sc_covers : FnScope ["first", "second", "number", "other"] ["first", "second"] (defScope s_covers) := ⟨rfl, rfl, rfl, by decide +kernel, rfl, by decide +kernel, by decide +kernel⟩
abbrev s_Net_init : Stmt := inClass (topS 10) 0
theorem sc_Net_init : FnScope ["self", "places", "transitions", "transition"] ["self", "places", "transitions"] (defScope s_Net_init) := ⟨rfl, rfl, rfl, by decide +kernel, rfl, by decide +kernel, by decide +kernel⟩
abbrev s_checked_nets : Stmt := topS 11
theorem sc_checked_nets : FnScope ["transition", "places", "takes", "gives", "moves"] ["transition", "places"] (defScope s_checked_nets) := ⟨rfl, rfl, rfl, by decide +kernel, rfl, by decide +kernel, by decide +kernel⟩
abbrev s_numbers : Stmt := topS 13
theorem sc_numbers : FnScope ["row", "places", "least", "most", "number"] ["row", "places", "least", "most"] (defScope s_numbers) := ⟨rfl, rfl, rfl, by decide +kernel, rfl, by decide +kernel, by decide +kernel⟩
abbrev s_enabled : Stmt := topS 14
theorem sc_enabled : FnScope ["net", "index", "marking", "takes", "_"] ["net", "index", "marking"] (defScope s_enabled) := ⟨rfl, rfl, rfl, by decide +kernel, rfl, by decide +kernel, by decide +kernel⟩
abbrev s_fire : Stmt := topS 15
theorem sc_fire : FnScope ["net", "index", "marking", "result"] ["net", "index", "marking"] (defScope s_fire) := ⟨rfl, rfl, rfl, by decide +kernel, rfl, by decide +kernel, by decide +kernel⟩
abbrev s_after_firing : Stmt := topS 16
theorem sc_after_firing : FnScope ["transition", "marking", "takes", "gives", "moves", "result", "place", "target"] ["transition", "marking"] (defScope s_after_firing) := ⟨rfl, rfl, rfl, by decide +kernel, rfl, by decide +kernel, by decide +kernel⟩
abbrev s_MailNet_init : Stmt := inClass (topS 20) 0
theorem sc_MailNet_init : FnScope ["self", "net", "channels", "actions", "letters", "action"] ["self", "net", "channels", "actions"] (defScope s_MailNet_init) := ⟨rfl, rfl, rfl, by decide +kernel, rfl, by decide +kernel, by decide +kernel⟩
abbrev s_checked_mail : Stmt := topS 21
theorem sc_checked_mail : FnScope ["action", "channels", "hears", "sends"] ["action", "channels"] (defScope s_checked_mail) := ⟨rfl, rfl, rfl, by decide +kernel, rfl, by decide +kernel, by decide +kernel⟩
abbrev s_checked_pairs : Stmt := topS 23
theorem sc_checked_pairs : FnScope ["pairs", "channels", "copies", "seen", "pair", "channel", "letter"] ["pairs", "channels"] (defScope s_checked_pairs) := ⟨rfl, rfl, rfl, by decide +kernel, rfl, by decide +kernel, by decide +kernel⟩
abbrev s_can_take : Stmt := topS 24
theorem sc_can_take : FnScope ["mail", "config", "step", "marking", "words", "index"] ["mail", "config", "step"] (defScope s_can_take) := ⟨rfl, rfl, rfl, by decide +kernel, rfl, by decide +kernel, by decide +kernel⟩
abbrev s_can_lose : Stmt := topS 25
theorem sc_can_lose : FnScope ["words", "channel", "position"] ["words", "channel", "position"] (defScope s_can_lose) := ⟨rfl, rfl, rfl, by decide +kernel, rfl, by decide +kernel, by decide +kernel⟩
abbrev s_hears_first : Stmt := topS 26
theorem sc_hears_first : FnScope ["words", "hears", "channel", "letter"] ["words", "hears"] (defScope s_hears_first) := ⟨rfl, rfl, rfl, by decide +kernel, rfl, by decide +kernel, by decide +kernel⟩
abbrev s_without_letter : Stmt := topS 27
theorem sc_without_letter : FnScope ["words", "channel", "position", "word"] ["words", "channel", "position"] (defScope s_without_letter) := ⟨rfl, rfl, rfl, by decide +kernel, rfl, by decide +kernel, by decide +kernel⟩
abbrev s_heard_and_sent : Stmt := topS 28
theorem sc_heard_and_sent : FnScope ["words", "hears", "sends", "result", "channel", "_", "letter"] ["words", "hears", "sends"] (defScope s_heard_and_sent) := ⟨rfl, rfl, rfl, by decide +kernel, rfl, by decide +kernel, by decide +kernel⟩
abbrev s_take_mail : Stmt := topS 29
theorem sc_take_mail : FnScope ["mail", "config", "steps", "marking", "words", "position", "step", "hears", "sends"] ["mail", "config", "steps"] (defScope s_take_mail) := ⟨rfl, rfl, rfl, by decide +kernel, rfl, by decide +kernel, by decide +kernel⟩
abbrev s_law_draws : Stmt := topS 31
theorem sc_law_draws : FnScope ["script", "count", "cells", "found", "mixed", "k", "j", "cell", "again"] ["script", "count"] (defScope s_law_draws) := ⟨rfl, rfl, rfl, by decide +kernel, rfl, by decide +kernel, by decide +kernel⟩
abbrev s_law_take : Stmt := topS 32
theorem sc_law_take : FnScope ["draws", "limit"] ["draws", "limit"] (defScope s_law_take) := ⟨rfl, rfl, rfl, by decide +kernel, rfl, by decide +kernel, by decide +kernel⟩
abbrev s_law_marking : Stmt := topS 33
theorem sc_law_marking : FnScope ["draws", "size", "most", "k"] ["draws", "size", "most"] (defScope s_law_marking) := ⟨rfl, rfl, rfl, by decide +kernel, rfl, by decide +kernel, by decide +kernel⟩
abbrev s_law_covers : Stmt := topS 34
theorem sc_law_covers : FnScope ["first", "second", "k"] ["first", "second"] (defScope s_law_covers) := ⟨rfl, rfl, rfl, by decide +kernel, rfl, by decide +kernel, by decide +kernel⟩
abbrev s_law_transition : Stmt := topS 35
theorem sc_law_transition : FnScope ["draws", "places", "plain", "takes", "gives", "k", "moves"] ["draws", "places", "plain"] (defScope s_law_transition) := ⟨rfl, rfl, rfl, by decide +kernel, rfl, by decide +kernel, by decide +kernel⟩
abbrev s_law_net : Stmt := topS 36
theorem sc_law_net : FnScope ["draws", "places", "most", "plain", "k"] ["draws", "places", "most", "plain"] (defScope s_law_net) := ⟨rfl, rfl, rfl, by decide +kernel, rfl, by decide +kernel, by decide +kernel⟩
abbrev s_law_fire : Stmt := topS 37
theorem sc_law_fire : FnScope ["transition", "marking", "takes", "gives", "moves", "found", "k", "target"] ["transition", "marking"] (defScope s_law_fire) := ⟨rfl, rfl, rfl, by decide +kernel, rfl, by decide +kernel, by decide +kernel⟩
abbrev s_law_word : Stmt := topS 38
theorem sc_law_word : FnScope ["draws", "letters", "most", "k"] ["draws", "letters", "most"] (defScope s_law_word) := ⟨rfl, rfl, rfl, by decide +kernel, rfl, by decide +kernel, by decide +kernel⟩
abbrev s_law_config : Stmt := topS 39
theorem sc_law_config : FnScope ["draws", "places", "channels", "most", "longest", "marking", "letters"] ["draws", "places", "channels", "most", "longest"] (defScope s_law_config) := ⟨rfl, rfl, rfl, by decide +kernel, rfl, by decide +kernel, by decide +kernel⟩
abbrev s_law_action : Stmt := topS 40
theorem sc_law_action : FnScope ["draws", "channels", "hears", "sends", "channel"] ["draws", "channels"] (defScope s_law_action) := ⟨rfl, rfl, rfl, by decide +kernel, rfl, by decide +kernel, by decide +kernel⟩
abbrev s_law_mail_step : Stmt := topS 41
theorem sc_law_mail_step : FnScope ["transitions", "actions", "config", "step", "marking", "words", "channel", "word", "after", "pair"] ["transitions", "actions", "config", "step"] (defScope s_law_mail_step) := ⟨rfl, rfl, rfl, by decide +kernel, rfl, by decide +kernel, by decide +kernel⟩
abbrev s_law_outcome : Stmt := topS 42
theorem sc_law_outcome : FnScope ["mail", "config", "steps", "e"] ["mail", "config", "steps"] (defScope s_law_outcome) := ⟨rfl, rfl, rfl, by decide +kernel, rfl, by decide +kernel, by decide +kernel⟩
abbrev s_law_drawn_step : Stmt := topS 43
theorem sc_law_drawn_step : FnScope ["draws", "transitions", "channels"] ["draws", "transitions", "channels"] (defScope s_law_drawn_step) := ⟨rfl, rfl, rfl, by decide +kernel, rfl, by decide +kernel, by decide +kernel⟩
abbrev s_law : Stmt := topS 44
theorem sc_law : FnScope ["script", "draws", "places", "transitions", "k", "channels", "transition", "actions", "mail", "config", "only", "steps", "now", "expected", "step", "after", "can", "passed"] ["script"] (defScope s_law) := ⟨rfl, rfl, rfl, by decide +kernel, rfl, by decide +kernel, by decide +kernel⟩

theorem getI {ns : List Int} {i : Nat} {w : D} (h : (ns.map D.i)[i]? = some w) : ∃ n, ns[i]? = some n ∧ w = .i n := by
  rw [List.getElem?_map] at h
  cases q : ns[i]? with
  | none => rw [q] at h; cases h
  | some n => rw [q] at h; cases h; exact ⟨n, rfl, rfl⟩
section
variable {d : Option Addr} {P : Program} {w : World} {K : PySem.W.Frag} {mg : Str → Option Value} {base : Heap}
theorem ok_take {f : Addr} {fd : FuncData} (F : Fun K "_law_take" "_law_take" s_law_take f fd) (ml : mg "len" = none) (mi : mg "int" = none) : FnOk P w K mg base CX0 1 f fd ["draws", "limit"] spTake := by
  refine F.ok sc_law_take (fun vs H Q E h => ?_) (fun cdv A outer s H vs Q E hr h => ?_)
  · obtain ⟨a, ns, n, rfl, _⟩ := h
    rfl
  · obtain ⟨a, ns, n, rfl, ha, hl, h0, k⟩ := h
    refine ⟨_, pss_cons (ps_if (pt_cmpR op_eq (pe_callB call_len_seq (by rfl) ml PySem.boot_len (pa_cons (pv 0) pa_nil)) pe_int (nomark _)) (pss_one (ps_ret pe_int)) pss_nil)
      (pss_one (ps_ret (pe_op op_mod (pe_callTy call_int1 (by rfl) mi (by decide +kernel) (pa_cons (pe_bm0 PySem.F.plainAttrs_list PySem.F.slot_list_pop PySem.F.type_list_pop mt_pop (pv 0)) pa_nil)) (pv 1)))), ?_⟩
    refine ⟨.ref a, rfl, a, ns.map V.int, rfl, .inl (SqL.of ha), rfl, _, rfl, ite2 (fun e => ?_) (fun e => ?_)⟩
    · exact k 0 ns H (Int.le_refl _) h0 ha hl fun b o _ hb => hb
    · have hne : ns ≠ [] := fun z => by subst z; exact e (decide_eq_true rfl)
      obtain ⟨ms, z, rfl⟩ : ∃ ms z, ns = ms ++ [z] := ⟨ns.dropLast, ns.getLast hne, (List.dropLast_concat_getLast hne).symm⟩
      rw [List.map_append] at ha
      refine ⟨_, rfl, .inl ⟨rfl, _, SqL.of ha⟩, a, _, .int z, rfl, rfl, ha, by simp, .inl ⟨z, rfl, ?_⟩⟩
      refine ⟨_, rfl, z, n, rfl, rfl, h0, k (z % n) ms _ (Int.emod_nonneg _ (by omega)) (Int.emod_lt_of_pos _ h0) ?_ (by simp at hl; omega) fun b o hb hbo => by rw [upd_ne hb]; exact hbo⟩
      rw [upd_same]
      congr 2
      exact List.dropLast_concat
end
def covb : List Int → List Int → Bool
  | a :: r, b :: s => if a < b then false else covb r s
  | _, _ => true
theorem covb_lt : ∀ {xs ys : List Int} {i : Nat} {a b : Int}, xs[i]? = some a → ys[i]? = some b → a < b → covb xs ys = false
  | x :: xs, y :: ys, 0, a, b, ha, hb, h => by
    obtain rfl : x = a := Option.some.inj ha
    obtain rfl : y = b := Option.some.inj hb
    show (if x < y then false else covb xs ys) = false
    rw [if_pos h]
  | x :: xs, y :: ys, i + 1, a, b, ha, hb, h => by
    show (if x < y then false else covb xs ys) = false
    rw [covb_lt (xs := xs) (ys := ys) (i := i) ha hb h]
    split <;> rfl
theorem covb_all : ∀ {xs ys : List Int}, (∀ (i : Nat) a b, xs[i]? = some a → ys[i]? = some b → ¬ a < b) → covb xs ys = true
  | [], _, _ => rfl
  | _ :: _, [], _ => rfl
  | x :: xs, y :: ys, h => by
    show (if x < y then false else covb xs ys) = true
    rw [if_neg (h 0 x y rfl rfl)]
    exact covb_all fun i a b ha hb => h (i + 1) a b ha hb
section
variable {d : Option Addr} {P : Program} {w : World} {K : PySem.W.Frag} {mg : Str → Option Value} {base : Heap}
theorem ok_covers {f : Addr} {fd : FuncData} (F : Fun K "covers" "covers" s_covers f fd) (mz : mg "zip" = none) :
    FnOk P w K mg base CX0 1 f fd ["first", "second"] (spP d (fun (z : {z : List Int × List Int // z.1.length = z.2.length}) => [dat K (tI z.1.1), dat K (tI z.1.2)]) (fun z _ => rB (covb z.1.1 z.1.2))) := by
  refine fn_ok F sc_covers (fun _ => rfl) (by decide) fun z H cdv A outer s E hr => ?_
  obtain ⟨⟨xs, ys⟩, hl⟩ := z
  dsimp only
  refine bx_forZ 2 3 (fun i (_ : Unit) => ∀ (k : Nat) a b, k < i → xs[k]? = some a → ys[k]? = some b → ¬ a < b) (fun _ _ => [some (dat K (tI xs)), some (dat K (tI ys)), none, none]) rfl mz (x_var 0 rfl) (x_var 1 rfl) (by simpa using hl) (fun σ H s => ⟨(), fun _ _ _ h => absurd h (Nat.not_lt_zero _), s.sub (by (repeat (first | exact Sub.nil | refine Sub.same ?_ | refine Sub.drop ?_)))⟩) (fun i w u z hw hu hz => ?_) ?_ sc_covers.nd PassesOwn.never
  · obtain ⟨a, ha, rfl⟩ := getI hw
    obtain ⟨b, hb, rfl⟩ := getI hu
    refine bx_ifret (t_lt (x_dI (x_var 2 rfl)) (x_dI (x_var 3 rfl))) (fun h => ?_) (fun h => bx_nil fun σ H s => ⟨(), fun k a' b' hk ha' hb' => ?_, s.sub (by (repeat (first | exact Sub.nil | refine Sub.same ?_ | refine Sub.drop ?_)))⟩)
    · refine bx_ret x_bl fun v σ H s hv => ⟨s.ext, ?_⟩
      have h' : a < b := of_decide_eq_true h.symm
      show v = .bl (covb xs ys)
      rw [covb_lt ha hb h']
      exact hv
    · by_cases hki : k = i
      · subst hki
        rw [ha] at ha'; rw [hb] at hb'
        cases ha'; cases hb'
        exact of_decide_eq_false h.symm
      · exact hz k a' b' (by omega) ha' hb'
  · refine bx_ex fun z hz => bx_ret x_bl fun v σ H s hv => ⟨s.ext, ?_⟩
    show v = .bl (covb xs ys)
    rw [covb_all fun k a b ha hb => hz k a b (by rw [List.length_map]; exact (List.getElem?_eq_some_iff.mp ha).1) ha hb]
    exact hv
end
section
variable {d : Option Addr} {P : Program} {w : World} {K : PySem.W.Frag} {mg : Str → Option Value} {base : Heap}
theorem ok_draws {f : Addr} {fd : FuncData} (F : Fun K "_law_draws" "_law_draws" s_law_draws f fd) (ml : mg "len" = none) (mL : mg "list" = none) (mr : mg "range" = none) (mi : mg "int" = none) :
    FnOk P w K mg base CX0 1 f fd ["script", "count"] (spP (none : Option Addr) (fun (z : {z : Addr × List Int × Int // 0 ≤ z.2.2 ∧ z.2.2 ≤ 1000 ∧ z.2.1.length ≤ 900}) => [lstA K z.1.1 (z.1.2.1.map D.i), rI z.1.2.2]) (fun _ H => newE H K fun ds => ∃ ns : List Int, ds = ns.map D.i ∧ ns.length ≤ 1000)) := by
  refine fn_okB F sc_law_draws (fun _ => rfl) (by decide) (fun z H => [some (lstB H K z.1.1 (z.1.2.1.map D.i)), some (rI z.1.2.2), none, none, none, none, none, none, none]) (fun z H σ s => (st_toB 0 rfl s).sub (by (repeat (first | exact Sub.nil | refine Sub.same ?_ | refine Sub.drop ?_)))) fun z H cdv A outer s E hr => ?_
  obtain ⟨⟨a, ns, c⟩, hc0, hc1, hns⟩ := z
  dsimp only at hc0 hc1 hns ⊢
  -- cells = list(script)
  refine bx_new 2 [] (by simp) (fun B' => x_list_l rfl mL (x_lstB (x_var 0 rfl))) (fun l hl _ => ?_) sc_law_draws.nd
  -- if len(cells) == 0: cells = [7]
  refine bx_if (fun σ H' => ∃ z : Addr × List Int, (H z.1 = none ∧ z.2 ≠ [] ∧ z.2.length ≤ 900) ∧ St (d := none) H [some (lstB H K a (ns.map D.i)), some (rI c), some (own K z.1 (z.2.map D.i)), none, none, none, none, none, none] σ H')
    (t_eq (x_len_l rfl ml (x_lstA (x_var 2 rfl))) x_int) (fun h => ?_) (fun h => ?_) ?_
  · refine bx_new 2 [] (by simp) (fun B' => x_lst (ds := [.i 7]) (a_cons (x_Id x_int) a_nil)) (fun l2 hl2 _ => bx_nil fun σ H' s => ⟨(l2, [7]), ⟨hl2, by simp, by simp⟩, s.sub (by (repeat (first | exact Sub.nil | refine Sub.same ?_ | refine Sub.drop ?_)))⟩) sc_law_draws.nd
  · refine bx_nil fun σ H' s => ⟨(l, ns), ⟨hl, ?_, hns⟩, s.sub (by (repeat (first | exact Sub.nil | refine Sub.same ?_ | refine Sub.drop ?_)))⟩
    intro e
    subst e
    simp [is] at h
  refine bx_ex fun z hz => ?_
  obtain ⟨l, cs⟩ := z
  obtain ⟨hl, hcs, hcl⟩ := hz
  dsimp only at hl hcs hcl ⊢
  -- found = []; mixed = 12345
  refine bx_new 3 [l] (by intro l' h'; rw [List.mem_singleton.mp h']; exact known_own 2 rfl) (fun B' => x_lst (ds := []) a_nil) (fun g hg hgl => ?_) sc_law_draws.nd
  have hgl : g ≠ l := hgl l (by simp)
  refine bx_set 4 x_int ?_ sc_law_draws.nd
  -- for k in range(count)
  refine bx_forR 5 (fun i (z : List Int × List Int × Int) => z.1 ≠ [] ∧ z.1.length ≤ 900 ∧ z.2.1.length = i ∧ 0 ≤ z.2.2 ∧ z.2.2 < 2147483647) (fun i z => [some (lstB H K a (ns.map D.i)), some (rI c), some (own K l (z.1.map D.i)), some (own K g (z.2.1.map D.i)), some (rI z.2.2), none, none, none, none]) rfl mr (x_var 1 rfl) (by omega)
    (fun σ H' s => ⟨(cs, [], 12345), ⟨hcs, hcl, rfl, by simp, by simp⟩, s.sub (by (repeat (first | exact Sub.nil | refine Sub.same ?_ | refine Sub.drop ?_)))⟩) (fun i z hi hz => ?_) ?_ sc_law_draws.nd PassesOwn.never
  · obtain ⟨cs, fs, m⟩ := z
    obtain ⟨hcs, hcl, hfs, hm0, hm1⟩ := hz
    dsimp only at hcs hcl hfs hm0 hm1 ⊢
    have hL : 0 < cs.length := List.length_pos_iff.mpr hcs
    -- j = k % len(cells)
    refine bx_set 6 (x_mod (x_var 5 rfl) (x_len_l rfl ml (x_lstA (x_var 2 rfl))) (by simp; omega)) ?_ sc_law_draws.nd
    have hj : ((i : Int) % ((cs.map D.i).length : Int)) = ((i % cs.length : Nat) : Int) := by rw [List.length_map]; omega
    have hjl : i % cs.length < cs.length := Nat.mod_lt _ hL
    -- cell = cells[j]
    refine bx_set 7 (x_dI (x_ixl (w := .i cs[i % cs.length]) (x_lstA (x_var 2 rfl)) (x_var 6 rfl) (by rw [hj]; exact atI_nat (by rw [List.getElem?_map, List.getElem?_eq_getElem hjl]; rfl)))) ?_ sc_law_draws.nd
    generalize cs[i % cs.length] = cell
    -- mixed = ..
    refine bx_set 4 (x_mod (x_int_ rfl mi (x_add (x_add (x_add (x_mul (x_var 4 rfl) x_int (.inl (by omega))) (x_mul (x_mod (x_int_ rfl mi (x_var 7 rfl)) x_int (by decide)) x_int (.inr (by decide)))) (x_mul (x_var 5 rfl) x_int (.inr (by decide)))) x_int)) x_int (by decide)) ?_ sc_law_draws.nd
    generalize hm' : (m * 48271 + cell % 1000003 * 69621 + (i : Int) * 7919 + 11) % 2147483647 = m'
    have hb0 : 0 ≤ m' := by omega
    have hb1 : m' < 2147483647 := by omega
    refine bx_set 8 (x_mod (x_int_ rfl mi (x_add (x_add (x_mul (x_var 4 rfl) (x_var 4 rfl) (.inl (by omega))) (x_mul x_int (x_var 4 rfl) (.inl (by decide)))) (x_var 5 rfl))) x_int (by decide)) ?_ sc_law_draws.nd
    generalize (m' * m' + 31 * m' + (i : Int)) % 1000003 = ag
    refine bx_if (IS H (fun (z : List Int × List Int × Int) => z.1 ≠ [] ∧ z.1.length ≤ 900 ∧ z.2.1.length = i + 1 ∧ 0 ≤ z.2.2 ∧ z.2.2 < 2147483647) (fun z => [some (lstB H K a (ns.map D.i)), some (rI c), some (own K l (z.1.map D.i)), some (own K g (z.2.1.map D.i)), some (rI z.2.2), none, none, none, none]))
      (t_ge (x_var 7 rfl) (x_pow x_int x_int ⟨by decide, by decide, by decide⟩)) (fun h => ?_) (fun h => ?_) (bx_nil fun σ H' s => s)
    · refine bx_append 3 (w := .i (cell % 1000)) rfl rfl (x_Id (x_mod (x_int_ rfl mi (x_var 7 rfl)) x_int (by decide))) hg (by (repeat' (first | exact ia_nil | refine ia_none ?_ | refine ia_some ?_ ?_ | refine ib_here ?_ | refine ib_none ?_ | refine ib_some ?_ ?_ | exact ind_I | exact ind_B | exact ind_dat | exact ind_any | exact ind_drw | exact ind_net | exact ind_dct | exact ind_dcT | exact ind_mail | exact ind_xB | exact ind_lstB (by assumption) | exact ind_own (by assumption) | exact ind_lstA (by assumption) | exact ind_own (Ne.symm (by assumption)) | exact ind_lstA (Ne.symm (by assumption)) | exact ind_tpl | exact ind_ownT (by assumption) | exact ind_ownT (Ne.symm (by assumption)) | exact ind_ll (by assumption) (by assumption) | exact ind_ll (Ne.symm (by assumption)) (by assumption)))) (by rw [List.length_map]; omega) ?_
      refine bx_setitem 2 (w := .i (cell / 1000)) (k := i % cs.length) rfl rfl (x_Id (x_fdiv (x_var 7 rfl) x_int ⟨by decide, by decide⟩)) (x_sub (x_var 6 rfl) fun v H hv => by rw [← hj]; exact hv) (by rw [List.length_map]; exact hjl) hl (by (repeat' (first | exact ia_nil | refine ia_none ?_ | refine ia_some ?_ ?_ | refine ib_here ?_ | refine ib_none ?_ | refine ib_some ?_ ?_ | exact ind_I | exact ind_B | exact ind_dat | exact ind_any | exact ind_drw | exact ind_net | exact ind_dct | exact ind_dcT | exact ind_mail | exact ind_xB | exact ind_lstB (by assumption) | exact ind_own (by assumption) | exact ind_lstA (by assumption) | exact ind_own (Ne.symm (by assumption)) | exact ind_lstA (Ne.symm (by assumption)) | exact ind_tpl | exact ind_ownT (by assumption) | exact ind_ownT (Ne.symm (by assumption)) | exact ind_ll (by assumption) (by assumption) | exact ind_ll (Ne.symm (by assumption)) (by assumption)))) ?_
      refine bx_nil fun σ H' s => ⟨(cs.set (i % cs.length) (cell / 1000), fs ++ [cell % 1000], m'), ⟨?_, ?_, ?_, hb0, hb1⟩, s.sub ?_⟩
      · intro z; apply hcs; exact List.eq_nil_of_length_eq_zero (by have := congrArg List.length z; simpa using this)
      · simpa using hcl
      · simp [hfs]
      · show Sub _ [_, _, _, _, _, _, _, _, _]
        rw [List.map_set, List.map_append]
        (repeat (first | exact Sub.nil | refine Sub.same ?_ | refine Sub.drop ?_))
    · refine bx_append 3 (w := .i (ag % 1000)) rfl rfl (x_Id (x_mod (x_int_ rfl mi (x_var 8 rfl)) x_int (by decide))) hg (by (repeat' (first | exact ia_nil | refine ia_none ?_ | refine ia_some ?_ ?_ | refine ib_here ?_ | refine ib_none ?_ | refine ib_some ?_ ?_ | exact ind_I | exact ind_B | exact ind_dat | exact ind_any | exact ind_drw | exact ind_net | exact ind_dct | exact ind_dcT | exact ind_mail | exact ind_xB | exact ind_lstB (by assumption) | exact ind_own (by assumption) | exact ind_lstA (by assumption) | exact ind_own (Ne.symm (by assumption)) | exact ind_lstA (Ne.symm (by assumption)) | exact ind_tpl | exact ind_ownT (by assumption) | exact ind_ownT (Ne.symm (by assumption)) | exact ind_ll (by assumption) (by assumption) | exact ind_ll (Ne.symm (by assumption)) (by assumption)))) (by rw [List.length_map]; omega) ?_
      refine bx_nil fun σ H' s => ⟨(cs, fs ++ [ag % 1000], m'), ⟨hcs, hcl, by simp [hfs], hb0, hb1⟩, s.sub ?_⟩
      show Sub _ [_, _, _, _, _, _, _, _, _]
      rw [List.map_append]
      (repeat (first | exact Sub.nil | refine Sub.same ?_ | refine Sub.drop ?_))
  · refine bx_ex fun z hz => ?_
    obtain ⟨cs, fs, m⟩ := z
    obtain ⟨_, _, hfs, _, _⟩ := hz
    dsimp only at hfs ⊢
    refine bx_reverse 3 rfl rfl hg (by (repeat' (first | exact ia_nil | refine ia_none ?_ | refine ia_some ?_ ?_ | refine ib_here ?_ | refine ib_none ?_ | refine ib_some ?_ ?_ | exact ind_I | exact ind_B | exact ind_dat | exact ind_any | exact ind_drw | exact ind_net | exact ind_dct | exact ind_dcT | exact ind_mail | exact ind_xB | exact ind_lstB (by assumption) | exact ind_own (by assumption) | exact ind_lstA (by assumption) | exact ind_own (Ne.symm (by assumption)) | exact ind_lstA (Ne.symm (by assumption)) | exact ind_tpl | exact ind_ownT (by assumption) | exact ind_ownT (Ne.symm (by assumption)) | exact ind_ll (by assumption) (by assumption) | exact ind_ll (Ne.symm (by assumption)) (by assumption)))) ?_
    refine bx_retR (x_sub (x_var 3 rfl) fun v H' hv => ?_) rfl
    rw [← List.map_reverse] at hv
    exact ⟨_, ⟨fs.reverse, rfl, by simp [hfs]; omega⟩, g, hg, hv⟩
end
section
variable {d : Option Addr} {P : Program} {w : World} {K : PySem.W.Frag} {mg : Str → Option Value} {base : Heap}
theorem ok_lcovers {f : Addr} {fd : FuncData} (F : Fun K "_law_covers" "_law_covers" s_law_covers f fd) (ml : mg "len" = none) (mr : mg "range" = none) :
    FnOk P w K mg base CX0 1 f fd ["first", "second"] (spP d (fun (z : {z : List Int × List Int // z.1.length = z.2.length ∧ z.1.length ≤ 1000}) => [dat K (tI z.1.1), dat K (tI z.1.2)]) (fun z _ => rB (covb z.1.1 z.1.2))) := by
  refine fn_ok F sc_law_covers (fun _ => rfl) (by decide) fun z H cdv A outer s E hr => ?_
  obtain ⟨⟨xs, ys⟩, hl, hL⟩ := z
  dsimp only at hl hL ⊢
  refine bx_forR 2 (fun i (_ : Unit) => ∀ (k : Nat) a b, k < i → xs[k]? = some a → ys[k]? = some b → ¬ a < b) (fun _ _ => [some (dat K (tI xs)), some (dat K (tI ys)), none]) rfl mr (x_len_t rfl ml (x_var 0 rfl)) (by simp; omega) (fun σ H s => ⟨(), fun _ _ _ h => absurd h (Nat.not_lt_zero _), s.sub (by (repeat (first | exact Sub.nil | refine Sub.same ?_ | refine Sub.drop ?_)))⟩) (fun i z hi hz => ?_) ?_ sc_law_covers.nd PassesOwn.never
  · have hix : i < xs.length := by simp at hi; exact hi
    have hiy : i < ys.length := by omega
    have ha : xs[i]? = some xs[i] := List.getElem?_eq_getElem hix
    have hb : ys[i]? = some ys[i] := List.getElem?_eq_getElem hiy
    refine bx_ifret (t_lt (x_ixtI (x_var 0 rfl) (x_var 2 rfl) ha) (x_ixtI (x_var 1 rfl) (x_var 2 rfl) hb)) (fun h => ?_) (fun h => bx_nil fun σ H s => ⟨(), fun k a' b' hk ha' hb' => ?_, s.sub (by (repeat (first | exact Sub.nil | refine Sub.same ?_ | refine Sub.drop ?_)))⟩)
    · refine bx_ret x_bl fun v σ H s hv => ⟨s.ext, ?_⟩
      show v = .bl (covb xs ys)
      rw [covb_lt ha hb (of_decide_eq_true h.symm)]
      exact hv
    · by_cases hki : k = i
      · subst hki
        rw [ha] at ha'; rw [hb] at hb'
        cases ha'; cases hb'
        exact of_decide_eq_false h.symm
      · exact hz k a' b' (by omega) ha' hb'
  · refine bx_ex fun z hz => bx_ret x_bl fun v σ H s hv => ⟨s.ext, ?_⟩
    show v = .bl (covb xs ys)
    rw [covb_all fun k a b ha hb => hz k a b (by simp; exact (List.getElem?_eq_some_iff.mp ha).1) ha hb]
    exact hv
/-- [_law_take(draws, most + 1) for k in range(size)] as a tuple -/
theorem ok_marking {f fT : Addr} {fd fdT : FuncData} (F : Fun K "_law_marking" "_law_marking" s_law_marking f fd) (FT : Fun K "_law_take" "_law_take" s_law_take fT fdT) (bT : Binds K fdT ["draws", "limit"] []) (gT : mg "_law_take" = some (.ref fT)) (ml : mg "len" = none) (mi : mg "int" = none) (mt : mg "tuple" = none) (mr : mg "range" = none) :
    FnOk P w K mg base CX0 2 f fd ["draws", "size", "most"] (spP d (fun (z : {z : Int × Int // 0 ≤ z.1 ∧ z.1 ≤ 1000 ∧ 0 ≤ z.2}) => [drw, rI z.1.1, rI z.1.2]) (fun z _ => dE K fun w => ∃ ns : List Int, w = tI ns ∧ (ns.length : Int) = z.1.1 ∧ ∀ x ∈ ns, 0 ≤ x ∧ x ≤ z.1.2)) := by
  have GT : FnOk P w K mg base CX0 1 fT fdT ["draws", "limit"] spTake := ok_take FT ml mi
  refine fn_ok F sc_law_marking (fun _ => rfl) (by decide) fun z H cdv A outer s E hr => ?_
  obtain ⟨⟨n, most⟩, hn0, hn1, hm⟩ := z
  dsimp only at hn0 hn1 hm ⊢
  refine bx_retR (x_dE (x_tuple_lE rfl mt (x_lcR 3 (fun _ w => ∃ z, (0 ≤ z ∧ z < most + 1) ∧ w = .i z) rfl mr (x_var 1 rfl) (by omega) sc_law_marking.nd (blkOk_by (N := ["draws", "size", "most", "k"]) (sc := defScope s_law_marking) (by decide +kernel)) (fun _ _ _ _ _ => pg_name (i := 3) sc_law_marking.nd rfl (Or.inl rfl))
    (fun s H C cl fp i hi => x_iEd (x_take (E := E0) GT (hr.mono (by decide)) rfl gT FT.kp bT pass0 (x_var 0 rfl) (x_add (x_var 2 rfl) x_int) (by omega))))) fun z hz => ?_) rfl
  obtain ⟨ds, ⟨h1, h2⟩, rfl⟩ := hz
  obtain ⟨ns, rfl, h3⟩ := ints_of (P := fun _ z => 0 ≤ z ∧ z < most + 1) fun k w hk => by
    obtain ⟨z, hz, rfl⟩ := h2 k w hk
    exact ⟨z, rfl, hz⟩
  refine ⟨ns, rfl, by rw [List.length_map] at h1; omega, fun x hx => ?_⟩
  obtain ⟨k, hk⟩ := List.getElem?_of_mem hx
  have := h3 k x hk
  omega
end
/-! ### transitions -/
structure Tr where
  tk : List Int
  gv : List Int
  mv : List Int
abbrev Tr.d (t : Tr) : D := .t [tI t.tk, tI t.gv, tI t.mv]
structure TrOk (n : Nat) (t : Tr) : Prop where
  l1 : t.tk.length = n
  l2 : t.gv.length = n
  l3 : t.mv.length = n
  b1 : ∀ x ∈ t.tk, 0 ≤ x ∧ x ≤ 9
  b2 : ∀ x ∈ t.gv, 0 ≤ x ∧ x ≤ 9
  b3 : ∀ x ∈ t.mv, -1 ≤ x ∧ x < n
abbrev upTo (n : Nat) : List Int := (List.range n).map fun (i : Nat) => (i : Int)
/-- the first i places' tokens moved -/
def stepF (t : Tr) (m res : List Int) (p : Nat) : List Int :=
  if t.mv.getD p 0 = -1 then res else res.set (t.mv.getD p 0).toNat (res.getD (t.mv.getD p 0).toNat 0 + (m.getD p 0 - t.tk.getD p 0))
def fireN (t : Tr) (m : List Int) (i : Nat) : List Int := (List.range i).foldl (stepF t m) t.gv
theorem fireN_succ (t : Tr) (m : List Int) (i : Nat) : fireN t m (i + 1) = stepF t m (fireN t m i) i := by
  unfold fireN
  rw [List.range_succ, List.foldl_append]
  rfl
theorem stepF_len (t : Tr) (m res : List Int) (p : Nat) : (stepF t m res p).length = res.length := by
  unfold stepF
  split <;> simp
theorem fireN_len (t : Tr) (m : List Int) : ∀ i, (fireN t m i).length = t.gv.length
  | 0 => rfl
  | i + 1 => by rw [fireN_succ, stepF_len, fireN_len t m i]
theorem getD_of {l : List Int} {i : Nat} {x : Int} (h : l[i]? = some x) : l.getD i 0 = x := by rw [List.getD_eq_getElem?_getD, h]; rfl
theorem mem_set {l : List Int} {i : Nat} {x y : Int} (h : y ∈ l.set i x) : y = x ∨ y ∈ l := by
  rcases List.mem_or_eq_of_mem_set h with h | h
  · exact .inr h
  · exact .inl h
theorem ex_i {n : Nat} {l : List Int} (hl : l.length = n) {i : Nat} (h : i < n) : ∃ x, l[i]? = some x := ⟨l[i], List.getElem?_eq_getElem (by omega)⟩
section
variable {d : Option Addr} {P : Program} {w : World} {K : PySem.W.Frag} {mg : Str → Option Value} {base : Heap}
theorem flat0 {n : Nat} : (List.replicate n [D.i 0]).flatten = (List.replicate n (0 : Int)).map D.i := by
  induction n with
  | zero => rfl
  | succ n ih => rw [List.replicate_succ, List.flatten_cons, ih, List.replicate_succ]; rfl
def okTr (n : Nat) (plain : Bool) (w : D) : Prop := ∃ t : Tr, w = t.d ∧ TrOk n t ∧ (plain = true → t.mv = upTo n)
theorem ok_transition {f fT : Addr} {fd fdT : FuncData} (F : Fun K "_law_transition" "_law_transition" s_law_transition f fd) (FT : Fun K "_law_take" "_law_take" s_law_take fT fdT) (bT : Binds K fdT ["draws", "limit"] []) (gT : mg "_law_take" = some (.ref fT)) (ml : mg "len" = none) (mi : mg "int" = none) (mt : mg "tuple" = none) (mL : mg "list" = none) (mr : mg "range" = none) :
    FnOk P w K mg base CX0 2 f fd ["draws", "places", "plain"] (spP d (fun (z : {z : Nat × Bool // 1 ≤ z.1 ∧ z.1 ≤ 100}) => [drw, rI (z.1.1 : Int), rB z.1.2]) (fun z _ => dE K fun w => okTr z.1.1 z.1.2 w)) := by
  have GT : FnOk P w K mg base CX0 1 fT fdT ["draws", "limit"] spTake := ok_take FT ml mi
  refine fn_ok F sc_law_transition (fun _ => rfl) (by decide) fun z H cdv A outer s E hr => ?_
  obtain ⟨⟨n, plain⟩, hn0, hn1⟩ := z
  dsimp only at hn0 hn1 ⊢
  have hr1 := hr.mono (show 1 ≤ 1 by decide)
  -- takes = [0] * places; gives = [0] * places
  refine bx_new 3 [] (by simp) (fun B' => x_rep (l0 := [.i 0]) (x_lst (a_cons (x_Id x_int) a_nil)) (x_var 1 rfl) (by simp; omega) (by omega)) (fun l1 hl1 _ => ?_) sc_law_transition.nd
  refine bx_new 4 [l1] (by intro l' h'; rw [List.mem_singleton.mp h']; exact known_own 3 rfl) (fun B' => x_rep (l0 := [.i 0]) (x_lst (a_cons (x_Id x_int) a_nil)) (x_var 1 rfl) (by simp; omega) (by omega)) (fun l2 hl2 h21 => ?_) sc_law_transition.nd
  have h21 : l2 ≠ l1 := h21 l1 (by simp)
  have step : ∀ {z : List Int} {i : Nat} {k : Nat} {y : Int}, (z.length = n ∧ ∀ x ∈ z, 0 ≤ x ∧ x ≤ (i : Int)) → z[k]? = some y → ((z.set k (y + 1)).length = n ∧ ∀ x ∈ z.set k (y + 1), 0 ≤ x ∧ x ≤ ((i + 1 : Nat) : Int)) := fun {z i k y} hz hy => by
    refine ⟨by simp [hz.1], fun x hx => ?_⟩
    rcases mem_set hx with h | h
    · have := hz.2 y (List.mem_of_getElem? hy)
      omega
    · have := hz.2 x h
      omega
  -- for k in range([1, 1, 2, 0][..]): takes[..] += 1
  refine bx_forRE (S := fun z => 0 ≤ z ∧ z ≤ 2) 5 (fun i (z : List Int) => z.length = n ∧ ∀ x ∈ z, 0 ≤ x ∧ x ≤ (i : Int)) (fun _ z => [some drw, some (rI (n : Int)), some (rB plain), some (own K l1 (z.map D.i)), some (own K l2 ((List.replicate n (0 : Int)).map D.i)), none, none]) rfl mr
    (x_dEi (x_ixnE (x_lst (ds := [.i 1, .i 1, .i 2, .i 0]) (a_cons (x_Id x_int) (a_cons (x_Id x_int) (a_cons (x_Id x_int) (a_cons (x_Id x_int) a_nil))))) (x_take (E := E0) GT hr1 rfl gT FT.kp bT pass0 (x_var 0 rfl) x_int (by decide)) (fun j hj => by simp; exact hj)) fun w ⟨k, hk, hw⟩ => ?_) (fun nn h => by omega) (fun σ H' s => ⟨List.replicate n 0, ⟨by simp, fun x hx => by rw [List.eq_of_mem_replicate hx]; simp⟩, s.sub ?_⟩) (fun nn hnn i z hi hz => ?_) (fun nn hnn => bx_ex fun tk htk => ?_) sc_law_transition.nd PassesOwn.never
  · obtain ⟨h0, h4⟩ := hk
    match k, hw with
    | 0, hw => cases hw; exact ⟨1, rfl, by decide⟩
    | 1, hw => cases hw; exact ⟨1, rfl, by decide⟩
    | 2, hw => cases hw; exact ⟨2, rfl, by decide⟩
    | 3, hw => cases hw; exact ⟨0, rfl, by decide⟩
    | k + 4, hw => exact absurd h4 (by omega)
  · show Sub _ [_, _, _, _, _, _, _]
    rw [← flat0]
    (repeat (first | exact Sub.nil | refine Sub.same ?_ | refine Sub.drop ?_))
  · refine bx_augitem 3 rfl rfl (x_take (E := E0) GT hr1 rfl gT FT.kp bT pass0 (x_var 0 rfl) (x_var 1 rfl) (by omega)) (fun k hk => by rw [hz.1]; exact hk) x_int hl1 (by (repeat' (first | exact ia_nil | refine ia_none ?_ | refine ia_some ?_ ?_ | refine ib_here ?_ | refine ib_none ?_ | refine ib_some ?_ ?_ | exact ind_I | exact ind_B | exact ind_dat | exact ind_any | exact ind_drw | exact ind_net | exact ind_dct | exact ind_dcT | exact ind_mail | exact ind_xB | exact ind_lstB (by assumption) | exact ind_own (by assumption) | exact ind_lstA (by assumption) | exact ind_own (Ne.symm (by assumption)) | exact ind_lstA (Ne.symm (by assumption)) | exact ind_tpl | exact ind_ownT (by assumption) | exact ind_ownT (Ne.symm (by assumption)) | exact ind_ll (by assumption) (by assumption) | exact ind_ll (Ne.symm (by assumption)) (by assumption)))) (fun k y hk hy => bx_nil fun σ H' s => ⟨z.set k (y + 1), step hz hy, s.sub (by (repeat (first | exact Sub.nil | refine Sub.same ?_ | refine Sub.drop ?_)))⟩)
  have htk9 : ∀ x ∈ tk, 0 ≤ x ∧ x ≤ 9 := fun x hx => by have := htk.2 x hx; omega
  obtain ⟨htkl, _⟩ := htk
  -- for k in range([1, 1, 2, 3, 0][..]): gives[..] += 1
  refine bx_forRE (S := fun z => 0 ≤ z ∧ z ≤ 3) 5 (fun i (z : List Int) => z.length = n ∧ ∀ x ∈ z, 0 ≤ x ∧ x ≤ (i : Int)) (fun _ z => [some drw, some (rI (n : Int)), some (rB plain), some (own K l1 (tk.map D.i)), some (own K l2 (z.map D.i)), none, none]) rfl mr
    (x_dEi (x_ixnE (x_lst (ds := [.i 1, .i 1, .i 2, .i 3, .i 0]) (a_cons (x_Id x_int) (a_cons (x_Id x_int) (a_cons (x_Id x_int) (a_cons (x_Id x_int) (a_cons (x_Id x_int) a_nil)))))) (x_take (E := E0) GT hr1 rfl gT FT.kp bT pass0 (x_var 0 rfl) x_int (by decide)) (fun j hj => by simp; exact hj)) fun w ⟨k, hk, hw⟩ => ?_) (fun nn h => by omega) (fun σ H' s => ⟨List.replicate n 0, ⟨by simp, fun x hx => by rw [List.eq_of_mem_replicate hx]; simp⟩, s.sub (by (repeat (first | exact Sub.nil | refine Sub.same ?_ | refine Sub.drop ?_)))⟩) (fun nn hnn i z hi hz => ?_) (fun nn hnn => bx_ex fun gv hgv => ?_) sc_law_transition.nd PassesOwn.never
  · obtain ⟨h0, h4⟩ := hk
    match k, hw with
    | 0, hw => cases hw; exact ⟨1, rfl, by decide⟩
    | 1, hw => cases hw; exact ⟨1, rfl, by decide⟩
    | 2, hw => cases hw; exact ⟨2, rfl, by decide⟩
    | 3, hw => cases hw; exact ⟨3, rfl, by decide⟩
    | 4, hw => cases hw; exact ⟨0, rfl, by decide⟩
    | k + 5, hw => exact absurd h4 (by omega)
  · refine bx_augitem 4 rfl rfl (x_take (E := E0) GT hr1 rfl gT FT.kp bT pass0 (x_var 0 rfl) (x_var 1 rfl) (by omega)) (fun k hk => by rw [hz.1]; exact hk) x_int hl2 (by (repeat' (first | exact ia_nil | refine ia_none ?_ | refine ia_some ?_ ?_ | refine ib_here ?_ | refine ib_none ?_ | refine ib_some ?_ ?_ | exact ind_I | exact ind_B | exact ind_dat | exact ind_any | exact ind_drw | exact ind_net | exact ind_dct | exact ind_dcT | exact ind_mail | exact ind_xB | exact ind_lstB (by assumption) | exact ind_own (by assumption) | exact ind_lstA (by assumption) | exact ind_own (Ne.symm (by assumption)) | exact ind_lstA (Ne.symm (by assumption)) | exact ind_tpl | exact ind_ownT (by assumption) | exact ind_ownT (Ne.symm (by assumption)) | exact ind_ll (by assumption) (by assumption) | exact ind_ll (Ne.symm (by assumption)) (by assumption)))) (fun k y hk hy => bx_nil fun σ H' s => ⟨z.set k (y + 1), step hz hy, s.sub (by (repeat (first | exact Sub.nil | refine Sub.same ?_ | refine Sub.drop ?_)))⟩)
  have hgv9 : ∀ x ∈ gv, 0 ≤ x ∧ x ≤ 9 := fun x hx => by have := hgv.2 x hx; omega
  obtain ⟨hgvl, _⟩ := hgv
  -- moves = list(range(places))
  refine bx_new 6 [l1, l2] (by intro l' h'; simp only [List.mem_cons, List.not_mem_nil, or_false] at h'; rcases h' with rfl | rfl; exact known_own 3 rfl; exact known_own 4 rfl) (fun B' => x_listR rfl mL rfl mr (x_var 1 rfl) (by omega)) (fun l3 hl3 h3 => ?_) sc_law_transition.nd
  have h31 : l3 ≠ l1 := h3 l1 (by simp)
  have h32 : l3 ≠ l2 := h3 l2 (by simp)
  have e0 : ((List.range ((n : Int)).toNat).map fun (i : Nat) => D.i (i : Int)) = (upTo n).map D.i := by rw [List.map_map]; rfl
  rw [e0]
  have hup : ∀ x ∈ upTo n, -1 ≤ x ∧ x < n := fun x hx => by
    obtain ⟨i, hi, rfl⟩ := List.mem_map.mp hx
    have := List.mem_range.mp hi
    omega
  -- if not plain and ..
  refine bx_if (IS H (fun (z : List Int) => z.length = n ∧ (∀ x ∈ z, -1 ≤ x ∧ x < n) ∧ (plain = true → z = upTo n)) (fun z => [some drw, some (rI (n : Int)), some (rB plain), some (own K l1 (tk.map D.i)), some (own K l2 (gv.map D.i)), none, some (own K l3 (z.map D.i))]))
    (t_w (w_and (t_not (t_val (x_var 2 rfl))) fun _ => w_and1 (t_eqE (x_take (E := E0) GT hr1 rfl gT FT.kp bT pass0 (x_var 0 rfl) x_int (by decide)) (x_I x_int)))) (fun h => ?_) (fun _ => bx_nil fun σ H' s => ⟨upTo n, ⟨by simp, hup, fun _ => rfl⟩, s.sub (by (repeat (first | exact Sub.nil | refine Sub.same ?_ | refine Sub.drop ?_)))⟩) (bx_ex fun mv hmv => ?_)
  · have hpl : plain = false := by
      rcases h with ⟨h, _⟩ | ⟨_, h⟩
      · cases plain with
        | true => cases h
        | false => rfl
      · cases h
    refine bx_forR 5 (fun i (z : List Int) => z.length = n ∧ ∀ x ∈ z, -1 ≤ x ∧ x < n) (fun _ z => [some drw, some (rI (n : Int)), some (rB plain), some (own K l1 (tk.map D.i)), some (own K l2 (gv.map D.i)), none, some (own K l3 (z.map D.i))]) rfl mr (x_var 1 rfl) (by omega) (fun σ H' s => ⟨upTo n, ⟨by simp, hup⟩, s.sub (by (repeat (first | exact Sub.nil | refine Sub.same ?_ | refine Sub.drop ?_)))⟩) (fun i z hi hz => ?_) (bx_ex fun z hz => bx_nil fun σ H' s => ⟨z, ⟨hz.1, hz.2, fun q => by rw [hpl] at q; cases q⟩, s⟩) sc_law_transition.nd PassesOwn.never
    refine bx_if (IS H (fun (z : List Int) => z.length = n ∧ ∀ x ∈ z, -1 ≤ x ∧ x < n) (fun z => [some drw, some (rI (n : Int)), some (rB plain), some (own K l1 (tk.map D.i)), some (own K l2 (gv.map D.i)), none, some (own K l3 (z.map D.i))]))
      (t_eqE (x_take (E := E0) GT hr1 rfl gT FT.kp bT pass0 (x_var 0 rfl) x_int (by decide)) (x_I x_int)) (fun _ => ?_) (fun _ => bx_nil fun σ H' s => ⟨z, hz, s.sub (by (repeat (first | exact Sub.nil | refine Sub.same ?_ | refine Sub.drop ?_)))⟩) (bx_nil fun σ H' s => s)
    refine bx_setitemE 6 rfl rfl (x_iEd (x_subE (x_take (E := E0) GT hr1 rfl gT FT.kp bT pass0 (x_var 0 rfl) (x_add (x_var 1 rfl) x_int) (by omega)) (x_I x_int))) (x_var 5 rfl) (by rw [List.length_map, hz.1]; omega) hl3 (by (repeat' (first | exact ia_nil | refine ia_none ?_ | refine ia_some ?_ ?_ | refine ib_here ?_ | refine ib_none ?_ | refine ib_some ?_ ?_ | exact ind_I | exact ind_B | exact ind_dat | exact ind_any | exact ind_drw | exact ind_net | exact ind_dct | exact ind_dcT | exact ind_mail | exact ind_xB | exact ind_lstB (by assumption) | exact ind_own (by assumption) | exact ind_lstA (by assumption) | exact ind_own (Ne.symm (by assumption)) | exact ind_lstA (Ne.symm (by assumption)) | exact ind_tpl | exact ind_ownT (by assumption) | exact ind_ownT (Ne.symm (by assumption)) | exact ind_ll (by assumption) (by assumption) | exact ind_ll (Ne.symm (by assumption)) (by assumption)))) (fun w hw => ?_)
    obtain ⟨y, ⟨i1, j1, hi1, rfl, rfl⟩, rfl⟩ := hw
    refine bx_nil fun σ H' s => ⟨z.set i (i1 - 1), ⟨by simp [hz.1], fun x hx => ?_⟩, s.sub ?_⟩
    · rcases mem_set hx with h | h
      · omega
      · exact hz.2 x h
    · show Sub _ [_, _, _, _, _, _, _]
      rw [List.map_set]
      (repeat (first | exact Sub.nil | refine Sub.same ?_ | refine Sub.drop ?_))
  · obtain ⟨m1, m2, m3⟩ := hmv
    refine bx_retR (x_sub (x_tup (ds := [tI tk, tI gv, tI mv]) (a_cons (x_tuple_l rfl mt (x_lstA (x_var 3 rfl))) (a_cons (x_tuple_l rfl mt (x_lstA (x_var 4 rfl))) (a_cons (x_tuple_l rfl mt (x_lstA (x_var 6 rfl))) a_nil)))) fun v H' hv => ?_) rfl
    exact ⟨_, ⟨⟨tk, gv, mv⟩, rfl, ⟨htkl, hgvl, m1, htk9, hgv9, m2⟩, m3⟩, hv⟩
end
section
variable {d : Option Addr} {P : Program} {w : World} {K : PySem.W.Frag} {mg : Str → Option Value} {base : Heap}
/-- [_law_transition(..) for k in range(1 + _law_take(draws, most))] -/
theorem ok_lnet {f fT fR : Addr} {fd fdT fdR : FuncData} (F : Fun K "_law_net" "_law_net" s_law_net f fd) (FT : Fun K "_law_take" "_law_take" s_law_take fT fdT) (bT : Binds K fdT ["draws", "limit"] []) (gT : mg "_law_take" = some (.ref fT)) (FR : Fun K "_law_transition" "_law_transition" s_law_transition fR fdR) (bR : Binds K fdR ["draws", "places", "plain"] []) (gR : mg "_law_transition" = some (.ref fR))
    (ml : mg "len" = none) (mi : mg "int" = none) (mt : mg "tuple" = none) (mL : mg "list" = none) (mr : mg "range" = none) :
    FnOk P w K mg base CX0 3 f fd ["draws", "places", "most", "plain"] (spP d (fun (z : {z : Nat × Nat × Bool // 1 ≤ z.1 ∧ z.1 ≤ 100 ∧ 1 ≤ z.2.1 ∧ z.2.1 ≤ 100}) => [drw, rI (z.1.1 : Int), rI (z.1.2.1 : Int), rB z.1.2.2]) (fun z H => newE H K fun ds => 1 ≤ ds.length ∧ ds.length ≤ z.1.2.1 ∧ ∀ (k : Nat) (w : D), ds[k]? = some w → okTr z.1.1 z.1.2.2 w)) := by
  have GT : FnOk P w K mg base CX0 1 fT fdT ["draws", "limit"] spTake := ok_take FT ml mi
  have GR : FnOk P w K mg base CX0 2 fR fdR ["draws", "places", "plain"] (spP d (fun (z : {z : Nat × Bool // 1 ≤ z.1 ∧ z.1 ≤ 100}) => [drw, rI (z.1.1 : Int), rB z.1.2]) (fun z _ => dE K fun w => okTr z.1.1 z.1.2 w)) := ok_transition FR FT bT gT ml mi mt mL mr
  refine fn_ok F sc_law_net (fun _ => rfl) (by decide) fun z H cdv A outer s E hr => ?_
  obtain ⟨⟨n, most, plain⟩, hn0, hn1, hm0, hm1⟩ := z
  dsimp only at hn0 hn1 hm0 hm1 ⊢
  have hr1 : Room 1 _ := hr.mono (by decide)
  have hr2 : Room 2 _ := hr.mono (by decide)
  refine bx_retR (x_sub (x_lcRE (S := fun z => ∃ i j, i = 1 ∧ (0 ≤ j ∧ j < (most : Int)) ∧ z = i + j) 4 (fun _ w => okTr n plain w) rfl mr (x_addE (x_I x_int) (x_take (E := E0) GT hr1 rfl gT FT.kp bT pass0 (x_var 0 rfl) (x_var 2 rfl) (by omega))) (fun nn ⟨i, j, h1, h2, h3⟩ => by omega) sc_law_net.nd (blkOk_by (N := ["draws", "places", "most", "plain", "k"]) (sc := defScope s_law_net) (by decide +kernel)) (fun _ _ _ _ _ => pg_name (i := 4) sc_law_net.nd rfl (Or.inl rfl))
    (fun s H C cl fp i => x_call (E := E0) GR hr2 rfl gR FR.kp bR pass0 ⟨(n, plain), hn0, hn1⟩ (a_cons (x_var 0 rfl) (a_cons (x_var 1 rfl) (a_cons (x_var 3 rfl) a_nil))) fun v H H' σ _ _ h => h)) fun v H' hv => ?_) rfl
  obtain ⟨ds, ⟨⟨nn, ⟨i, j, h1, h2, h3⟩, h4⟩, h5⟩, hv⟩ := hv
  exact ⟨ds, ⟨by omega, by omega, h5⟩, hv⟩
theorem stepF_eq {t : Tr} {m res : List Int} {p : Nat} {g a b : Int} (h1 : t.mv[p]? = some g) (h2 : m[p]? = some a) (h3 : t.tk[p]? = some b) : stepF t m res p = if g = -1 then res else res.set g.toNat (res.getD g.toNat 0 + (a - b)) := by
  unfold stepF
  rw [getD_of h1, getD_of h2, getD_of h3]
/-- the law's own firing -/
def lfire (n : Nat) (t : Tr) (m : List Int) : D := if covb m t.tk = true then tI (fireN t m n) else .n
theorem ok_lfire {f fC : Addr} {fd fdC : FuncData} (F : Fun K "_law_fire" "_law_fire" s_law_fire f fd) (FC : Fun K "_law_covers" "_law_covers" s_law_covers fC fdC) (bC : Binds K fdC ["first", "second"] []) (gC : mg "_law_covers" = some (.ref fC)) (ml : mg "len" = none) (mt : mg "tuple" = none) (mL : mg "list" = none) (mr : mg "range" = none) :
    FnOk P w K mg base CX0 2 f fd ["transition", "marking"] (spP d (fun (z : {z : Nat × Tr × List Int // TrOk z.1 z.2.1 ∧ z.2.2.length = z.1 ∧ z.1 ≤ 100}) => [dat K z.1.2.1.d, dat K (tI z.1.2.2)]) (fun z _ => dat K (lfire z.1.1 z.1.2.1 z.1.2.2))) := by
  have GC : FnOk P w K mg base CX0 1 fC fdC ["first", "second"] (spP d (fun (z : {z : List Int × List Int // z.1.length = z.2.length ∧ z.1.length ≤ 1000}) => [dat K (tI z.1.1), dat K (tI z.1.2)]) (fun z _ => rB (covb z.1.1 z.1.2))) := ok_lcovers FC ml mr
  refine fn_ok F sc_law_fire (fun _ => rfl) (by decide) fun z H cdv A outer s E hr => ?_
  obtain ⟨⟨n, t, m⟩, ht, hm, hn⟩ := z
  dsimp only at ht hm hn ⊢
  have hr1 : Room 1 _ := hr.mono (by decide)
  refine bx_unp3 2 3 4 (x_var 0 rfl) ?_ sc_law_fire.nd
  refine bx_ifret (t_not (t_val (x_call (E := E0) (R := rB (covb m t.tk)) GC hr1 rfl gC FC.kp bC pass0 ⟨(m, t.tk), by rw [hm, ht.l1], by rw [hm]; omega⟩ (a_cons (x_var 1 rfl) (a_cons (x_var 2 rfl) a_nil)) fun v H H' σ _ _ h => h))) (fun h => ?_) (fun h => ?_)
  · have hc : covb m t.tk = false := by
      cases q : covb m t.tk with
      | true => rw [q] at h; cases h
      | false => rfl
    refine bx_retR (R := dat K (lfire n t m)) ?_ rfl
    have e : lfire n t m = .n := if_neg (by rw [hc]; exact Bool.false_ne_true)
    rw [e]
    exact x_non
  have hc : covb m t.tk = true := by
    cases q : covb m t.tk with
    | true => rfl
    | false => rw [q] at h; cases h
  refine bx_new 5 [] (by simp) (fun B' => x_list_t rfl mL (x_var 3 rfl)) (fun l hl _ => ?_) sc_law_fire.nd
  refine bx_forR 6 (fun i (_ : Unit) => i ≤ n) (fun i _ => [some (dat K t.d), some (dat K (tI m)), some (dat K (tI t.tk)), some (dat K (tI t.gv)), some (dat K (tI t.mv)), some (own K l ((fireN t m i).map D.i)), none, none]) rfl mr (x_len_t rfl ml (x_var 1 rfl)) (by simp; omega) (fun σ H' s => ⟨(), Nat.zero_le _, s.sub (by (repeat (first | exact Sub.nil | refine Sub.same ?_ | refine Sub.drop ?_)))⟩) (fun i z hi hz => ?_) (bx_ex fun z hz => ?_) sc_law_fire.nd PassesOwn.never
  · have hin : i < n := by rw [List.length_map, hm] at hi; omega
    obtain ⟨g, hg⟩ := ex_i ht.l3 hin
    obtain ⟨a, ha⟩ := ex_i hm hin
    obtain ⟨b, hb⟩ := ex_i ht.l1 hin
    have hgb := ht.b3 g (List.mem_of_getElem? hg)
    have hs := stepF_eq (res := fireN t m i) hg ha hb
    refine bx_if (IS H (fun (_ : Unit) => i + 1 ≤ n) (fun _ => [some (dat K t.d), some (dat K (tI m)), some (dat K (tI t.tk)), some (dat K (tI t.gv)), some (dat K (tI t.mv)), some (own K l ((fireN t m (i + 1)).map D.i)), none, none]))
      (t_ge (x_ixtI (x_var 4 rfl) (x_var 6 rfl) hg) x_int) (fun h => ?_) (fun h => ?_) (bx_nil fun σ H' s => s)
    · have h0 : 0 ≤ g := of_decide_eq_true h.symm
      obtain ⟨j, rfl⟩ : ∃ j : Nat, g = (j : Int) := ⟨g.toNat, by omega⟩
      have hj : j < (fireN t m i).length := by rw [fireN_len, ht.l2]; omega
      refine bx_set 7 (x_ixtI (x_var 4 rfl) (x_var 6 rfl) hg) ?_ sc_law_fire.nd
      refine bx_setitem 5 rfl rfl (x_Id (x_sub_ (x_add (x_ixlI (x_lstA (x_var 5 rfl)) (x_var 7 rfl) (List.getElem?_eq_getElem hj)) (x_ixtI (x_var 1 rfl) (x_var 6 rfl) ha)) (x_ixtI (x_var 2 rfl) (x_var 6 rfl) hb))) (x_var 7 rfl) (by rw [List.length_map]; exact hj) hl (by (repeat' (first | exact ia_nil | refine ia_none ?_ | refine ia_some ?_ ?_ | refine ib_here ?_ | refine ib_none ?_ | refine ib_some ?_ ?_ | exact ind_I | exact ind_B | exact ind_dat | exact ind_any | exact ind_drw | exact ind_net | exact ind_dct | exact ind_dcT | exact ind_mail | exact ind_xB | exact ind_lstB (by assumption) | exact ind_own (by assumption) | exact ind_lstA (by assumption) | exact ind_own (Ne.symm (by assumption)) | exact ind_lstA (Ne.symm (by assumption)) | exact ind_tpl | exact ind_ownT (by assumption) | exact ind_ownT (Ne.symm (by assumption)) | exact ind_ll (by assumption) (by assumption) | exact ind_ll (Ne.symm (by assumption)) (by assumption)))) ?_
      refine bx_nil fun σ H' s => ⟨(), hin, s.sub ?_⟩
      have e : ((fireN t m i).map D.i).set j (D.i ((fireN t m i)[j] + a - b)) = (fireN t m (i + 1)).map D.i := by
        rw [fireN_succ, hs, if_neg (by omega), List.map_set]
        have e1 : ((j : Int)).toNat = j := by omega
        rw [e1, getD_of (List.getElem?_eq_getElem hj)]
        congr 2
        omega
      show Sub _ [_, _, _, _, _, _, _, _]
      rw [← e]
      (repeat (first | exact Sub.nil | refine Sub.same ?_ | refine Sub.drop ?_))
    · have h0 : g = -1 := by
        have : ¬ (0 : Int) ≤ g := of_decide_eq_false h.symm
        omega
      refine bx_nil fun σ H' s => ⟨(), hin, s.sub ?_⟩
      show Sub _ [_, _, _, _, _, _, _, _]
      rw [fireN_succ, hs, if_pos h0]
      (repeat (first | exact Sub.nil | refine Sub.same ?_ | refine Sub.drop ?_))
  · have e : ((((m.map D.i).length : Nat) : Int)).toNat = n := by rw [List.length_map, hm]; omega
    refine bx_retR (R := dat K (lfire n t m)) ?_ rfl
    have e2 : lfire n t m = tI (fireN t m n) := if_pos hc
    rw [e2, ← e]
    exact x_tuple_l rfl mt (x_lstA (x_var 5 rfl))
end
section
variable {d : Option Addr} {P : Program} {w : World} {K : PySem.W.Frag} {mg : Str → Option Value} {base : Heap}
/-- _numbers of a row that fits -/
theorem ok_pnumbers {f : Addr} {fd : FuncData} (F : Fun K "_numbers" "_numbers" s_numbers f fd) (ml : mg "len" = none) (mt : mg "tuple" = none) :
    FnOk P w K mg base CX0 1 f fd ["row", "places", "least", "most"] (spP d (fun (z : {z : List Int × Int × Int // ∀ x ∈ z.1, z.2.1 ≤ x ∧ x ≤ z.2.2}) => [dat K (tI z.1.1), rI (z.1.1.length : Int), rI z.1.2.1, rI z.1.2.2]) (fun z _ => dat K (tI z.1.1))) := by
  refine fn_ok F sc_numbers (fun _ => rfl) (by decide) fun z H cdv A outer s E hr => ?_
  obtain ⟨⟨ns, lo, hi⟩, hz⟩ := z
  dsimp only at hz ⊢
  refine bx_ifret (t_ne (x_len_t rfl ml (x_var 0 rfl)) (x_var 1 rfl)) (fun h => by simp [is] at h) (fun _ => ?_)
  refine bx_forT 4 (fun _ (_ : Unit) => True) (fun _ _ => [some (dat K (tI ns)), some (rI (ns.length : Int)), some (rI lo), some (rI hi), none]) (x_var 0 rfl) (fun σ H s => ⟨(), trivial, s.sub (by (repeat (first | exact Sub.nil | refine Sub.same ?_ | refine Sub.drop ?_)))⟩) (fun i w z hw _ => ?_) (bx_ex fun _ _ => bx_retR (x_tuple_t rfl mt (x_var 0 rfl)) rfl) sc_numbers.nd PassesOwn.never
  obtain ⟨n, hn, rfl⟩ := getI hw
  refine bx_ifret (t_not (t_chainLe (x_var 2 rfl) (x_dI (x_var 4 rfl)) (x_var 3 rfl))) (fun h => ?_) (fun _ => bx_nil fun σ H s => ⟨(), trivial, s.sub (by (repeat (first | exact Sub.nil | refine Sub.same ?_ | refine Sub.drop ?_)))⟩)
  have h2 := hz n (List.mem_of_getElem? hn)
  rw [decide_eq_true h2.1, decide_eq_true h2.2] at h
  simp [is] at h
theorem ok_checked {f fN : Addr} {fd fdN : FuncData} {tk1 : Tok} (F : Fun K "_checked" "_checked" s_checked_nets f fd) (FN : Fun K "_numbers" "_numbers" s_numbers fN fdN) (bN : Binds K fdN ["row", "places", "least", "most"] []) (gN : mg "_numbers" = some (.ref fN)) (gM : mg "MOST_TOKENS" = some (.int 9 tk1)) (ml : mg "len" = none) (mt : mg "tuple" = none) :
    FnOk P w K mg base CX0 2 f fd ["transition", "places"] (spP d (fun (z : {z : Nat × Tr // TrOk z.1 z.2}) => [dat K z.1.2.d, rI (z.1.1 : Int)]) (fun z _ => dat K z.1.2.d)) := by
  have GN : FnOk P w K mg base CX0 1 fN fdN ["row", "places", "least", "most"] (spP d (fun (z : {z : List Int × Int × Int // ∀ x ∈ z.1, z.2.1 ≤ x ∧ x ≤ z.2.2}) => [dat K (tI z.1.1), rI (z.1.1.length : Int), rI z.1.2.1, rI z.1.2.2]) (fun z _ => dat K (tI z.1.1))) := ok_pnumbers FN ml mt
  refine fn_ok F sc_checked_nets (fun _ => rfl) (by decide) fun z H cdv A outer s E hr => ?_
  obtain ⟨⟨n, t⟩, ht⟩ := z
  dsimp only at ht ⊢
  have hr1 : Room 1 _ := hr.mono (by decide)
  refine bx_ifret (t_ne (x_len_t rfl ml (x_var 0 rfl)) x_int) (fun h => by simp [is] at h) (fun _ => ?_)
  refine bx_unp3 2 3 4 (x_var 0 rfl) ?_ sc_checked_nets.nd
  have e1 : (n : Int) = (t.tk.length : Int) := by rw [ht.l1]
  have e2 : (n : Int) = (t.gv.length : Int) := by rw [ht.l2]
  have e3 : (n : Int) = (t.mv.length : Int) := by rw [ht.l3]
  refine bx_retR (x_tup (ds := [tI t.tk, tI t.gv, tI t.mv])
    (a_cons (x_call (E := E0) GN hr1 rfl gN FN.kp bN pass0 ⟨(t.tk, 0, 9), ht.b1⟩ (a_cons (x_var 2 rfl) (a_cons (x_sub (x_var 1 rfl) fun v H hv => by rw [← e1]; exact hv) (a_cons x_int (a_cons (x_globI rfl gM) a_nil)))) fun v H H' σ _ _ h => h)
    (a_cons (x_call (E := E0) GN hr1 rfl gN FN.kp bN pass0 ⟨(t.gv, 0, 9), ht.b2⟩ (a_cons (x_var 3 rfl) (a_cons (x_sub (x_var 1 rfl) fun v H hv => by rw [← e2]; exact hv) (a_cons x_int (a_cons (x_globI rfl gM) a_nil)))) fun v H H' σ _ _ h => h)
    (a_cons (x_call (E := E0) GN hr1 rfl gN FN.kp bN pass0 ⟨(t.mv, -1, (n : Int) - 1), fun x hx => by have := ht.b3 x hx; dsimp only; omega⟩ (a_cons (x_var 4 rfl) (a_cons (x_sub (x_var 1 rfl) fun v H hv => by rw [← e3]; exact hv) (a_cons (x_neg x_int) (a_cons (x_sub_ (x_var 1 rfl) x_int) a_nil)))) fun v H H' σ _ _ h => h) a_nil)))) rfl
/-- a net: its two fields -/
abbrev netF (K : PySem.W.Frag) (n : Nat) (Ts : List D) : List (Str × Rp d) := [("transitions", dat K (.t Ts)), ("places", rI (n : Int))]
structure NetTxt (K : PySem.W.Frag) (mg : Str → Option Value) (C : Addr) : Prop where
  cl : Cls K C
  nP : NoAttr K C "places"
  nT : NoAttr K C "transitions"
  gC : mg "Net" = some (.ref C)
theorem ok_net {f fC : Addr} {fd fdC : FuncData} {C fN : Addr} {fdN : FuncData} {tk1 tk2 tk3 : Tok} (F : Fun K "__init__" "Net.__init__" s_Net_init f fd) (T : NetTxt K mg C) (FC : Fun K "_checked" "_checked" s_checked_nets fC fdC) (bC : Binds K fdC ["transition", "places"] []) (gC : mg "checked_nets" = some (.ref fC))
    (FN : Fun K "_numbers" "_numbers" s_numbers fN fdN) (bN : Binds K fdN ["row", "places", "least", "most"] []) (gN : mg "_numbers" = some (.ref fN)) (gM : mg "MOST_TOKENS" = some (.int 9 tk1)) (gP : mg "MOST_PLACES" = some (.int 12 tk2)) (gT : mg "MOST_TRANSITIONS" = some (.int 24 tk3)) (ml : mg "len" = none) (mt : mg "tuple" = none) :
    FnOk P w K mg base CX0 3 f fd ["self", "places", "transitions"] (spI d C (fun (z : {z : Nat × List Tr // 1 ≤ z.1 ∧ z.1 ≤ 12 ∧ z.2.length ≤ 24 ∧ ∀ t ∈ z.2, TrOk z.1 t}) => [rI (z.1.1 : Int), lst K (z.1.2.map Tr.d)]) (fun z => netF K z.1.1 (z.1.2.map Tr.d))) := by
  have GC : FnOk P w K mg base CX0 2 fC fdC ["transition", "places"] (spP d (fun (z : {z : Nat × Tr // TrOk z.1 z.2}) => [dat K z.1.2.d, rI (z.1.1 : Int)]) (fun z _ => dat K z.1.2.d)) := ok_checked FC FN bN gN gM ml mt
  refine fn_okG F sc_Net_init (fun vs H Q E ⟨z, x, dx, us, h1, h2, h3, _⟩ => by rw [h1, List.length_cons, h3.len]; rfl) fun vs H Q E hsp cdv A outer s hr => ?_
  obtain ⟨⟨⟨n, ts⟩, hn0, hn1, hl, hts⟩, x, dx, us, rfl, hx, hus, hdr, q⟩ := hsp
  dsimp only at hn0 hn1 hl hts hus q
  have hxd : some x ≠ d := fun e => by
    obtain ⟨ns, _, h⟩ := hdr x e.symm
    rw [hx] at h; cases h
  obtain ⟨u1, u2, rfl, hu1, hu2⟩ := hus.two
  have xE := del_ext (H := H) (x := x) hxd
  refine ⟨St (d := d) (del H x) [some (insA C x []), some (rI (n : Int)), some (lst K (ts.map Tr.d)), none], { nx := fun _ H' => Ext d (del H x) H' ∧ (insA (d := d) C x (netF K n (ts.map Tr.d))).p (.ref x) H', rt := fun _ _ => False }, ?_, ?_, ?_⟩
  · refine ⟨xE, hdr, rfl, fun i R e => ?_⟩
    match i, e with
    | 0, e => cases e; exact ⟨_, rfl, rfl, dx, [], hx, Nat.le_refl _, fun i f R k => by cases k⟩
    | 1, e => cases e; exact ⟨_, rfl, hu1⟩
    | 2, e => cases e; exact ⟨_, rfl, (lst K (ts.map Tr.d)).st xE hu2⟩
    | 3, e => cases e
    | i + 4, e => cases e
  · have hr1 : Room 2 _ := hr.mono (by decide)
    refine bx_ifret (t_not (t_chainLe x_int (x_var 1 rfl) (x_globI rfl gP))) (fun h => ?_) (fun _ => ?_)
    · rw [decide_eq_true (show (1 : Int) ≤ n by omega), decide_eq_true (show (n : Int) ≤ 12 by omega)] at h
      cases h
    refine bx_open 2 rfl fun l _ => ?_
    refine bx_ifret (t_gt (x_len_l rfl ml (x_var 2 rfl)) (x_globI rfl gT)) (fun h => ?_) (fun _ => ?_)
    · have : (24 : Int) < ((ts.map Tr.d).length : Nat) := of_decide_eq_true h.symm
      rw [List.length_map] at this
      omega
    refine bx_setfld 0 rfl (by simp) T.cl T.nP (x_var 1 rfl) del_same (io_here (io_some io_I (io_some io_lstA (io_none io_nil)))) io_I (by simp) ?_
    refine bx_setfld 0 (R := dat K (.t (ts.map Tr.d))) rfl (by simp) T.cl T.nT (x_sub (x_tuple_lE rfl mt (x_lcL 3 (fun i w => ∃ t : Tr, ts[i]? = some t ∧ w = t.d) (x_var 2 rfl) (by simp; omega) sc_Net_init.nd (blkOk_by (N := ["self", "places", "transitions", "transition"]) (sc := defScope s_Net_init) (by decide +kernel)) (fun _ _ _ _ _ => pg_name (i := 3) sc_Net_init.nd rfl (Or.inl rfl))
      (fun s H C cl fp i w hw => ?_))) fun v H' hv => ?_) del_same (io_here (io_some io_I (io_some io_lstA (io_none io_nil)))) io_dat ?_ ?_
    · rw [List.getElem?_map] at hw
      cases e : ts[i]? with
      | none => rw [e] at hw; cases hw
      | some t =>
        rw [e] at hw
        cases hw
        exact x_sub (x_call (E := E0) (R := dat K t.d) GC hr1 rfl gC FC.kp bC pass0 ⟨(n, t), hts t (List.mem_of_getElem? e)⟩ (a_cons (x_var 3 rfl) (a_cons (x_var 1 rfl) a_nil)) fun v H H' σ _ _ h => h) fun v H hv => ⟨_, ⟨t, rfl, rfl⟩, hv⟩
    · obtain ⟨w, ⟨ds, ⟨h1, h2⟩, rfl⟩, hv⟩ := hv
      have e : ds = ts.map Tr.d := by
        apply List.ext_getElem?
        intro i
        rw [List.length_map] at h1
        rw [List.getElem?_map]
        by_cases hi : i < ts.length
        · obtain ⟨t, ht, hw⟩ := h2 i _ (List.getElem?_eq_getElem (show i < ds.length by omega))
          rw [List.getElem?_eq_getElem (show i < ds.length by omega), hw, ht]
          rfl
        · rw [List.getElem?_eq_none (by omega), List.getElem?_eq_none (by omega)]
          rfl
      rw [← e]
      exact hv
    · intro p hp
      rw [List.mem_singleton.mp hp]
      exact ⟨io_I, show ¬ (("places" : Str) = "transitions") by decide +kernel⟩
    · refine bx_nil fun σ H' s => ⟨s.ext, ?_⟩
      obtain ⟨v, _, hv⟩ := s.good.get (i := 0) rfl
      obtain rfl : v = .ref x := hv.1
      exact hv
  · exact ⟨fun σ' H' _ ⟨e1, h1⟩ => q H' e1 h1, fun v H' _ h => h.elim, fun _ _ _ h => h.elim, fun _ _ _ h => h.elim⟩
end
section
variable {d : Option Addr} {X : Cx} {B : Hp} {ρ ρ' : Ro d} {a b c e iter elt : Expr} {es : List Expr} {R R' Ra Rb : Rp d} {Rs : List (Rp d)} {pos : Pos} {m n : Int} {st : Stmt} {rest body orelse : List Stmt} {Pre Mid : L2.St → Hp → Prop} {Po : Ends}
theorem passN : Passes (L2N.CX X.prog X.w) X E0 := fun _ _ _ _ _ _ _ h => by
  obtain ⟨_, _, _, _, _, _, _, _, _, _, _, _, z⟩ := h
  exact z.elim
variable {Pg : Program} {w : World} {K : PySem.W.Frag} {mg : Str → Option Value} {base : Heap}
theorem fn_okN {x qual : Str} {sd : Stmt} {f : Addr} {fd : FuncData} {N ps : List Str} {k : Nat} {sp : Sp} (F : Fun K x qual sd f fd) (S : FnScope N ps (defScope sd)) (len : ∀ vs H Q E, sp vs H Q E → vs.length = ps.length)
    (body : ∀ (vs : List V) (H : Hp) (Q : VK) (E : XK), sp vs H Q E → ∀ (cdv : Value) (A : Around) (outer : List Env) (s : Shared), Room k (A.deeper (envOfC qual (defScope sd) s.heap.objs.size f cdv)) →
      ∃ (Pre : L2.St → Hp → Prop) (Po : Ends), Pre (L2.start N vs) H ∧ BX (cxOf (L2N.CX Pg w) Pg w K mg base N qual (defScope sd) f cdv A outer s H E) (defBody sd) Pre Po ∧ Le H Po { nx := fun _ H' => Q .non H', rt := Q }) : FnOk Pg w K mg base (L2N.CX Pg w) (k + 1) f fd ps sp := by
  obtain ⟨oc, od, kV, doc, pm, an, cdv, ct, osl, rfl, lk, hcd⟩ := F.ex
  refine fn_of lk hcd S len fun A outer s H vs Q E hr hsp => ?_
  obtain ⟨Pre, Po, h1, h2, h3⟩ := body vs H Q E hsp cdv A outer s hr
  exact ⟨_, h2, h1, h3⟩
theorem fn_okH {α : Type} {As : α → List (Rp d)} {Rz : α → Hp → Rp d} {x qual : Str} {sd : Stmt} {f : Addr} {fd : FuncData} {N ps : List Str} {k : Nat} (F : Fun K x qual sd f fd) (S : FnScope N ps (defScope sd)) (hl : ∀ z, (As z).length = ps.length) (hN : ps.length ≤ N.length)
    (body : ∀ (z : α) (H : Hp) (cdv : Value) (A : Around) (outer : List Env) (s : Shared) (E : XK) (p : Addr × Obj), L2H.RoomH k (A.deeper (envOfC qual (defScope sd) s.heap.objs.size f cdv)) →
      BX (L2H.cxH CX0 Pg w K mg base N qual (defScope sd) f cdv A outer s H E p) (defBody sd) (St H (ro (As z) (N.length - (As z).length))) (Rt H (Rz z H))) : L2H.FnH Pg w K mg base CX0 (k + 1) f fd ps (spP d As Rz) := by
  obtain ⟨oc, od, kV, doc, pm, an, cdv, ct, osl, rfl, lk, hcd⟩ := F.ex
  refine L2H.fn_ofH lk hcd S (fun vs H Q E ⟨z, h, _⟩ => by rw [h.len, hl]) fun A outer s H vs Q E p hot hr hsp => ?_
  obtain ⟨z, hz, dr, q⟩ := hsp
  refine ⟨_, body z H cdv A outer s E p hr, st_start hz (by rw [hl]; exact hN) dr, ?_⟩
  exact ⟨fun σ' H' _ ⟨e1, h1⟩ => q _ H' e1 h1, fun v H' _ ⟨e1, h1⟩ => q v H' e1 h1, fun _ _ _ h => h.elim, fun _ _ _ h => h.elim⟩
theorem takes0N : L2N.Takes X (fun _ _ _ _ => False) := fun _ _ x => by
  obtain ⟨_, _, _, _, _, _, _, _, _, _, _, _, _, _, _, _, z⟩ := x
  exact z.elim
/-- raise NotEnabled(e) -/
theorem bx_raiseNE {C fI : Addr} {p pos2 : Pos} {k : Nat} {E : XK} {W : L2.WX} (T : PySem.LowX.LowTxt X.K X.mg C fI) (hr : Room k X.A) (tk : L2N.Takes X W) (hW : ∀ cls d' σ H, E cls d' H → W cls d' σ H) (ha : EX X B ρ a (rI n)) (hE : ∀ dd H1, Ext d B H1 → H1 dd = none → E (.ref C) (some dd) (upd H1 dd (.xd [(("position" : Str), .int n)])))
    (hc : X.calm = true := by rfl) (hg : Gl X "NotEnabled" := by rfl) (he : starEach (a :: []) X.env = (false, eval a X.env) :: starEach [] X.env := by rfl) (hpl : (backTo pos (starEach [] X.env)).any (·.1) = false := by rfl) :
    BX X (.Raise (some (.Call (.Name "NotEnabled" p) [a] [] pos)) none pos2 :: rest) (St B ρ) Po := by
  refine bx_cons (Mid := fun _ _ => False) ?_ bx_false
  refine PS_wk (ps_raiseLow hc T hr tk (a_cons ha a_nil he) hg he hpl) fun D σ H ⟨s, l⟩ => ?_
  refine ⟨s, fun vs H1 e1 hv => ?_⟩
  obtain ⟨v, rfl, hv'⟩ := hv.one
  obtain rfl : v = .int n := hv'
  exact ⟨_, rfl, fun dd hdd => hW _ _ _ _ (hE dd H1 (s.ext.trans e1) hdd)⟩
/-- fire(net, index, marking) -/
def spFire (d : Option Addr) (K : PySem.W.Frag) (C CE : Addr) : Sp := fun vs H Q E => ∃ (n : Nat) (Ts : List D) (i : Nat) (t : Tr) (m : List Int), RsH (d := d) [insR C (netF K n Ts), rI (i : Int), dat K (tI m)] vs H ∧ Ts[i]? = some t.d ∧ TrOk n t ∧ m.length = n ∧ n ≤ 100 ∧ (∀ a, d = some a → Drw H a) ∧
  (covb m t.tk = true → ∀ v H', Ext d H H' → (dat (d := d) K (tI (fireN t m n))).p v H' → Q v H') ∧ (covb m t.tk = false → ∀ dd H1, Ext d H H1 → H1 dd = none → E (.ref CE) (some dd) (upd H1 dd (.xd [(("position" : Str), .int 0)])))
/-- after_firing(transition, marking) -/
def spAf (d : Option Addr) (K : PySem.W.Frag) : Sp := spP d (fun (z : {z : Nat × Tr × List Int // TrOk z.1 z.2.1 ∧ z.2.2.length = z.1 ∧ z.1 ≤ 100}) => [dat K z.1.2.1.d, dat K (tI z.1.2.2)]) (fun z _ => dat K (lfire z.1.1 z.1.2.1 z.1.2.2))
structure FireTxt (K : PySem.W.Frag) (mg : Str → Option Value) (C CE fI fC : Addr) (fdC : FuncData) : Prop where
  net : NetTxt K mg C
  low : PySem.LowX.LowTxt K mg CE fI
  FC : Fun K "covers" "covers" s_covers fC fdC
  bC : Binds K fdC ["first", "second"] []
  gC : mg "covers" = some (.ref fC)
  mz : mg "zip" = none
  mL : mg "list" = none
  mt : mg "tuple" = none
  me : mg "enumerate" = none
  af : ∃ (fA : Addr) (fdA : FuncData), Fun K "after_firing" "after_firing" s_after_firing fA fdA ∧ Binds K fdA ["transition", "marking"] [] ∧ mg "after_firing" = some (.ref fA)
theorem ok_after {f fC : Addr} {fd fdC : FuncData} (F : Fun K "after_firing" "after_firing" s_after_firing f fd) (FC : Fun K "covers" "covers" s_covers fC fdC) (bC : Binds K fdC ["first", "second"] []) (gC : mg "covers" = some (.ref fC)) (mz : mg "zip" = none) (mL : mg "list" = none) (mt : mg "tuple" = none) (me : mg "enumerate" = none) :
    FnOk Pg w K mg base CX0 2 f fd ["transition", "marking"] (spAf d K) := by
  have GC : FnOk Pg w K mg base CX0 1 fC fdC ["first", "second"] (spP d (fun (z : {z : List Int × List Int // z.1.length = z.2.length}) => [dat K (tI z.1.1), dat K (tI z.1.2)]) (fun z _ => rB (covb z.1.1 z.1.2))) := ok_covers FC mz
  refine fn_ok F sc_after_firing (fun _ => rfl) (by decide) fun z H cdv A outer s E hr => ?_
  obtain ⟨⟨n, t, m⟩, ht, hm, hn⟩ := z
  dsimp only at ht hm hn ⊢
  have hr1 : Room 1 _ := hr.mono (by decide)
  refine bx_unp3 2 3 4 (x_var 0 rfl) ?_ sc_after_firing.nd
  refine bx_ifret (t_not (t_val (x_call (E := E0) (R := rB (covb m t.tk)) GC hr1 rfl gC FC.kp bC pass0 ⟨(m, t.tk), by rw [hm, ht.l1]⟩ (a_cons (x_var 1 rfl) (a_cons (x_var 2 rfl) a_nil)) fun v H H' σ _ _ h => h))) (fun h => ?_) (fun h => ?_)
  · have hc : covb m t.tk = false := by
      cases q : covb m t.tk with
      | true => rw [q] at h; cases h
      | false => rfl
    refine bx_retR (R := dat K (lfire n t m)) ?_ rfl
    have e : lfire n t m = .n := if_neg (by rw [hc]; exact Bool.false_ne_true)
    rw [e]
    exact x_non
  have hc : covb m t.tk = true := by
    cases q : covb m t.tk with
    | true => rfl
    | false => rw [q] at h; cases h
  refine bx_new 5 [] (by simp) (fun B' => x_list_t rfl mL (x_var 3 rfl)) (fun l hl _ => ?_) sc_after_firing.nd
  refine bx_forE 6 7 (fun i (_ : Unit) => i ≤ n) (fun i _ => [none, some (dat K (tI m)), some (dat K (tI t.tk)), none, none, some (own K l ((fireN t m i).map D.i)), none, none]) rfl me (x_var 4 rfl) (fun σ H' s => ⟨(), Nat.zero_le _, s.sub (by (repeat (first | exact Sub.nil | refine Sub.same ?_ | refine Sub.drop ?_)))⟩) (fun j w z hw hz => ?_) (bx_ex fun z hz => ?_) sc_after_firing.nd PassesOwn.never
  · obtain ⟨g, hg, rfl⟩ := getI hw
    have hjn : j < n := by have := (List.getElem?_eq_some_iff.mp hg).1; rw [ht.l3] at this; exact this
    obtain ⟨a, ha⟩ := ex_i hm hjn
    obtain ⟨b, hb⟩ := ex_i ht.l1 hjn
    have hgb := ht.b3 g (List.mem_of_getElem? hg)
    have hs := stepF_eq (res := fireN t m j) hg ha hb
    refine bx_if (IS H (fun (_ : Unit) => j + 1 ≤ n) (fun _ => [none, some (dat K (tI m)), some (dat K (tI t.tk)), none, none, some (own K l ((fireN t m (j + 1)).map D.i)), none, none]))
      (t_ne (x_dI (x_var 7 rfl)) (x_neg x_int)) (fun h => ?_) (fun h => ?_) (bx_nil fun σ H' s => s)
    · have h0 : ¬ g = -1 := by
        cases q : decide (g = -1) with
        | true => rw [q] at h; cases h
        | false => exact of_decide_eq_false q
      obtain ⟨k, rfl⟩ : ∃ k : Nat, g = (k : Int) := ⟨g.toNat, by omega⟩
      have hk : k < (fireN t m j).length := by rw [fireN_len, ht.l2]; omega
      refine bx_augitem 5 (P := fun z => z = (k : Int)) rfl rfl (x_I (x_dI (x_var 7 rfl))) (fun z hz => by subst hz; omega) (x_sub_ (x_ixtI (x_var 1 rfl) (x_var 6 rfl) ha) (x_ixtI (x_var 2 rfl) (x_var 6 rfl) hb)) hl (by (repeat' (first | exact ia_nil | refine ia_none ?_ | refine ia_some ?_ ?_ | refine ib_here ?_ | refine ib_none ?_ | refine ib_some ?_ ?_ | exact ind_I | exact ind_B | exact ind_dat | exact ind_any | exact ind_drw | exact ind_net | exact ind_dct | exact ind_dcT | exact ind_mail | exact ind_xB | exact ind_lstB (by assumption) | exact ind_own (by assumption) | exact ind_lstA (by assumption) | exact ind_own (Ne.symm (by assumption)) | exact ind_lstA (Ne.symm (by assumption)) | exact ind_tpl | exact ind_ownT (by assumption) | exact ind_ownT (Ne.symm (by assumption)) | exact ind_ll (by assumption) (by assumption) | exact ind_ll (Ne.symm (by assumption)) (by assumption)))) (fun k' y hk' hy => ?_)
      obtain rfl : k' = k := by omega
      refine bx_nil fun σ H' s => ⟨(), hjn, s.sub ?_⟩
      show Sub _ [_, _, _, _, _, _, _, _]
      have e1 : ((k' : Int)).toNat = k' := by omega
      rw [fireN_succ, hs, if_neg h0, e1, getD_of hy]
      (repeat (first | exact Sub.nil | refine Sub.same ?_ | refine Sub.drop ?_))
    · have h0 : g = -1 := by
        cases q : decide (g = -1) with
        | true => exact of_decide_eq_true q
        | false => rw [q] at h; cases h
      refine bx_nil fun σ H' s => ⟨(), hjn, s.sub ?_⟩
      show Sub _ [_, _, _, _, _, _, _, _]
      rw [fireN_succ, hs, if_pos h0]
      (repeat (first | exact Sub.nil | refine Sub.same ?_ | refine Sub.drop ?_))
  · have e : (t.mv.map D.i).length = n := by rw [List.length_map, ht.l3]
    refine bx_retR (R := dat K (lfire n t m)) ?_ rfl
    have e2 : lfire n t m = tI (fireN t m n) := if_pos hc
    rw [e2, ← e]
    exact x_tuple_l rfl mt (x_lstA (x_var 5 rfl))
theorem lfire_yes {n : Nat} {t : Tr} {m : List Int} (h : covb m t.tk = true) : lfire n t m = tI (fireN t m n) := if_pos h
theorem lfire_no {n : Nat} {t : Tr} {m : List Int} (h : covb m t.tk = false) : lfire n t m = .n := if_neg (by rw [h]; exact Bool.false_ne_true)
theorem lfire_n {n : Nat} {t : Tr} {m : List Int} : lfire n t m = .n ↔ covb m t.tk = false := by
  cases q : covb m t.tk with
  | true => rw [lfire_yes q]; exact ⟨fun h => (by cases h), fun h => (by cases h)⟩
  | false => rw [lfire_no q]; exact ⟨fun _ => rfl, fun _ => rfl⟩
theorem FireTxt.okA {C CE fI fC : Addr} {fdC : FuncData} (T : FireTxt K mg C CE fI fC fdC) {fA : Addr} {fdA : FuncData} (FA : Fun K "after_firing" "after_firing" s_after_firing fA fdA) : FnOk Pg w K mg base CX0 2 fA fdA ["transition", "marking"] (spAf d K) := ok_after FA T.FC T.bC T.gC T.mz T.mL T.mt T.me
theorem ok_fire {f C CE fI fC : Addr} {fd fdC : FuncData} (F : Fun K "fire" "fire" s_fire f fd) (T : FireTxt K mg C CE fI fC fdC) : FnOk Pg w K mg base (L2N.CX Pg w) 4 f fd ["net", "index", "marking"] (spFire d K C CE) := by
  obtain ⟨fA, fdA, FA, bA, gA⟩ := T.af
  refine fn_okN F sc_fire (fun vs H Q E ⟨n, Ts, i, t, m, h, _⟩ => by rw [h.len]; rfl) fun vs H Q E hsp cdv A outer s hr => ?_
  obtain ⟨n, Ts, i, t, m, hvs, hti, ht, hm, hn, hdr, hQ, hE⟩ := hsp
  have hr2 : Room 2 _ := hr.mono (by decide)
  refine ⟨St H [some (insR C (netF K n Ts)), some (rI (i : Int)), some (dat K (tI m)), none], { nx := fun _ _ => False, rt := fun v H' => Q v H' }, (st_start hvs (by simp) hdr).sub (by (repeat (first | exact Sub.nil | refine Sub.same ?_ | refine Sub.drop ?_))), ?_, ⟨fun _ _ _ h => h.elim, fun v H' _ h => h, fun _ _ _ h => h.elim, fun _ _ _ h => h.elim⟩⟩
  refine bx_set 3 (x_call (E := E0) (R := dat K (lfire n t m)) (T.okA (Pg := Pg) (w := w) (base := base) FA) hr2 rfl gA FA.kp bA pass0 ⟨(n, t, m), ht, hm, hn⟩ (a_cons (x_ixt (w := t.d) (x_fld 0 T.net.cl T.net.nT (x_var 0 rfl)) (x_var 1 rfl) (atI_nat hti)) (a_cons (x_var 2 rfl) a_nil)) fun v H H' σ _ _ h => h) ?_ sc_fire.nd
  refine bx_ifret (t_isN (x_var 3 rfl)) (fun h => ?_) (fun h => ?_)
  · have hc : covb m t.tk = false := lfire_n.mp (h.mp rfl)
    exact bx_raiseNE (E := E) (W := fun cls d' _ H => E cls d' H) T.low hr (L2N.takes_of rfl rfl rfl rfl) (fun _ _ _ _ h => h) x_int (hE hc)
  · have hc : covb m t.tk = true := by
      cases q : covb m t.tk with
      | true => rfl
      | false => exact absurd (h.mpr (lfire_n.mpr q)) (by simp)
    refine bx_ret (x_var 3 rfl) fun v σ H' s hv => hQ hc v H' s.ext ?_
    rw [lfire_yes hc] at hv
    exact hv
/-- enabled(net, index, marking) -/
theorem ok_enabled {f C CE fI fC : Addr} {fd fdC : FuncData} (F : Fun K "enabled" "enabled" s_enabled f fd) (T : FireTxt K mg C CE fI fC fdC) : FnOk Pg w K mg base CX0 2 f fd ["net", "index", "marking"]
    (spP d (fun (z : {z : Nat × List D × Nat × Tr × List Int // z.2.1[z.2.2.1]? = some z.2.2.2.1.d ∧ z.2.2.2.2.length = z.2.2.2.1.tk.length}) => [insR C (netF K z.1.1 z.1.2.1), rI (z.1.2.2.1 : Int), dat K (tI z.1.2.2.2.2)]) (fun z _ => rB (covb z.1.2.2.2.2 z.1.2.2.2.1.tk))) := by
  have GC : FnOk Pg w K mg base CX0 1 fC fdC ["first", "second"] (spP d (fun (z : {z : List Int × List Int // z.1.length = z.2.length}) => [dat K (tI z.1.1), dat K (tI z.1.2)]) (fun z _ => rB (covb z.1.1 z.1.2))) := ok_covers T.FC T.mz
  refine fn_ok F sc_enabled (fun _ => rfl) (by decide) fun z H cdv A outer s E hr => ?_
  obtain ⟨⟨n, Ts, i, t, m⟩, hti, hm⟩ := z
  dsimp only at hti hm ⊢
  have hr1 : Room 1 _ := hr.mono (by decide)
  refine bx_unp3 3 4 4 (x_ixt (w := t.d) (x_fld 0 T.net.cl T.net.nT (x_var 0 rfl)) (x_var 1 rfl) (atI_nat hti)) ?_ sc_enabled.nd
  exact bx_retR (x_call (E := E0) (R := rB (covb m t.tk)) GC hr1 rfl T.gC T.FC.kp T.bC pass0 ⟨(m, t.tk), hm⟩ (a_cons (x_var 2 rfl) (a_cons (x_var 3 rfl) a_nil)) fun v H H' σ _ _ h => h) rfl
end
/-! ### the mathematics of firing -/
theorem covb_get : ∀ {xs ys : List Int} {i : Nat} {a b : Int}, covb xs ys = true → xs[i]? = some a → ys[i]? = some b → ¬ a < b := fun {xs ys i a b} h ha hb hlt => by
  rw [covb_lt ha hb hlt] at h
  cases h
theorem trs_of {n : Nat} : ∀ {ds : List D}, (∀ (k : Nat) (w : D), ds[k]? = some w → okTr n false w) → ∃ ts : List Tr, ds = ts.map Tr.d ∧ ∀ t ∈ ts, TrOk n t
  | [], _ => ⟨[], rfl, fun t h => by cases h⟩
  | e :: ds, h => by
    obtain ⟨t, ht, hok, _⟩ := h 0 e rfl
    obtain ⟨ts, hts, hall⟩ := trs_of (ds := ds) fun k w hk => h (k + 1) w hk
    exact ⟨t :: ts, by rw [ht, hts]; rfl, fun u hu => by
      rcases List.mem_cons.mp hu with rfl | hu
      · exact hok
      · exact hall u hu⟩
theorem getD_nn {l : List Int} (h : ∀ x ∈ l, 0 ≤ x) (i : Nat) : 0 ≤ l.getD i 0 := by
  cases e : l[i]? with
  | none => rw [List.getD_eq_getElem?_getD, e]; exact Int.le_refl _
  | some x => rw [getD_of e]; exact h x (List.mem_of_getElem? e)
theorem fireN_nn {n : Nat} {t : Tr} {m : List Int} (ht : TrOk n t) (hm : m.length = n) (hc : covb m t.tk = true) : ∀ i, i ≤ n → ∀ x ∈ fireN t m i, 0 ≤ x
  | 0, _, x, hx => (ht.b2 x hx).1
  | i + 1, hi, x, hx => by
    have ih := fireN_nn ht hm hc i (by omega)
    rw [fireN_succ] at hx
    obtain ⟨g, hg⟩ := ex_i ht.l3 (show i < n by omega)
    obtain ⟨a, ha⟩ := ex_i hm (show i < n by omega)
    obtain ⟨b, hb⟩ := ex_i ht.l1 (show i < n by omega)
    rw [stepF_eq hg ha hb] at hx
    split at hx
    · exact ih x hx
    · rcases mem_set hx with h | h
      · have h1 := covb_get hc ha hb
        have h2 := getD_nn ih g.toNat
        omega
      · exact ih x h
theorem fireN_mono {n : Nat} {t : Tr} {m g : List Int} (ht : TrOk n t) (hm : m.length = n) (hg : g.length = n) (hle : ∀ (i : Nat) a b, m[i]? = some a → g[i]? = some b → a ≤ b) : ∀ i, i ≤ n → ∀ (j : Nat) x y, (fireN t m i)[j]? = some x → (fireN t g i)[j]? = some y → x ≤ y
  | 0, _, j, x, y, hx, hy => by
    have : x = y := Option.some.inj (hx.symm.trans hy)
    omega
  | i + 1, hi, j, x, y, hx, hy => by
    have ih := fireN_mono ht hm hg hle i (by omega)
    obtain ⟨c, hc⟩ := ex_i ht.l3 (show i < n by omega)
    obtain ⟨a, ha⟩ := ex_i hm (show i < n by omega)
    obtain ⟨a', ha'⟩ := ex_i hg (show i < n by omega)
    obtain ⟨b, hb⟩ := ex_i ht.l1 (show i < n by omega)
    rw [fireN_succ, stepF_eq hc ha hb] at hx
    rw [fireN_succ, stepF_eq hc ha' hb] at hy
    by_cases h : c = -1
    · rw [if_pos h] at hx hy
      exact ih j x y hx hy
    · rw [if_neg h] at hx hy
      by_cases hj : c.toNat = j
      · subst hj
        have hl1 : c.toNat < (fireN t m i).length := by have := (List.getElem?_eq_some_iff.mp hx).1; simpa using this
        have hl2 : c.toNat < (fireN t g i).length := by rw [fireN_len] at hl1 ⊢; exact hl1
        rw [List.getElem?_set_self hl1] at hx
        rw [List.getElem?_set_self hl2] at hy
        have h1 := ih c.toNat _ _ (List.getElem?_eq_getElem hl1) (List.getElem?_eq_getElem hl2)
        rw [getD_of (List.getElem?_eq_getElem hl1)] at hx
        rw [getD_of (List.getElem?_eq_getElem hl2)] at hy
        have h2 := hle i a a' ha ha'
        have hx' := Option.some.inj hx
        have hy' := Option.some.inj hy
        omega
      · rw [List.getElem?_set_ne hj] at hx hy
        exact ih j x y hx hy
section
variable {P : Program} {w : World} {K : PySem.W.Frag} {mg : Str → Option Value} {base : Heap}
theorem x_makeZ {d : Option Addr} {R : Rp d} {B : Hp} {X : Cx} {ρ : Ro d} {e : Expr} {es : List Expr} {pos : Pos} {α : Type} {C : Addr} {As : α → List (Rp d)} {F : α → List (Str × Rp d)} {x : Str} {p : Pos} {f : Addr} {fd : FuncData} {ps : List Str} {k : Nat} {CX : CXT} {E : XK} (z : α) (M : Mk X.K C f) (G : FnOk X.prog X.w X.K X.mg X.base CX k f fd ps (spI d C As F)) (hr : Room (k + 1) X.A) (hg : Gl X x) (hm : X.mg x = some (.ref C)) (hb : Binds X.K fd ps []) (hx : Passes CX X E)
    (ha : AX X B ρ (e :: es) (As z)) (hR : insR C (F z) = R)
    (hdb : (x == ("__debug__" : Str)) = false := by decide) (he : starEach (e :: es) X.env = (false, eval e X.env) :: starEach es X.env := by rfl) (hpl : (backTo pos (starEach es X.env)).any (·.1) = false := by rfl) : EX X B ρ (.Call (.Name x p) (e :: es) [] pos) R := hR ▸ x_make M G hr hg hm hb hx z ha hdb he hpl
def spLaw (K : PySem.W.Frag) : Sp := fun vs H Q _ => ∃ (a : Addr) (ns : List Int), vs = [.ref a] ∧ SqL K H a (ns.map V.int) ∧ ns.length ≤ 63 ∧ ∀ H', Q (.bl true) H'
end
end Cv

namespace Cv
open PySem PySem.Spec PyProof.Rows L2 RZ
/-! ### plain nets -/
def plainB (n : Nat) (ts : List Tr) : Bool := ts.all fun t => decide (t.mv = upTo n)
theorem plainB_of {n : Nat} {ts : List Tr} (h : ∀ t ∈ ts, t.mv = upTo n) : plainB n ts = true := List.all_eq_true.mpr fun t ht => decide_eq_true (h t ht)
theorem plainB_no {n : Nat} {ts : List Tr} {t : Tr} (ht : t ∈ ts) (h : ¬ t.mv = upTo n) : plainB n ts = false := by
  cases q : plainB n ts with
  | false => rfl
  | true => exact absurd (of_decide_eq_true (List.all_eq_true.mp q t ht)) h
theorem plainB_iff {n : Nat} {ts : List Tr} (h : plainB n ts = true) : ∀ t ∈ ts, t.mv = upTo n := fun t ht => of_decide_eq_true (List.all_eq_true.mp h t ht)
theorem tI_inj {xs ys : List Int} (h : tI xs = tI ys) : xs = ys := by
  injection h with h
  exact (List.map_inj_right (f := D.i) fun a b q => by injection q).mp h
section
variable {d : Option Addr} {Pg : Program} {w : World} {K : PySem.W.Frag} {mg : Str → Option Value} {base : Heap}
theorem all_of {ts : List Tr} : (List.range ts.length).filterMap (fun i => ts[i]?) = ts := by
  apply List.ext_getElem?
  intro k
  have : ∀ (xs : List Nat), (∀ i ∈ xs, i < ts.length) → xs.filterMap (fun i => ts[i]?) = xs.map fun i => ts.getD i ⟨[], [], []⟩ := fun xs => by
    induction xs with
    | nil => intro _; rfl
    | cons x xs ih =>
      intro h
      have hx := h x List.mem_cons_self
      rw [List.filterMap_cons, List.getElem?_eq_getElem hx]
      dsimp only
      rw [ih fun i hi => h i (List.mem_cons_of_mem _ hi), List.map_cons, List.getD_eq_getElem?_getD, List.getElem?_eq_getElem hx]
      rfl
  rw [this _ fun i hi => List.mem_range.mp hi, List.getElem?_map]
  by_cases hk : k < ts.length
  · rw [List.getElem?_range hk, List.getElem?_eq_getElem hk]
    show some (ts.getD k _) = _
    rw [List.getD_eq_getElem?_getD, List.getElem?_eq_getElem hk]
    rfl
  · rw [List.getElem?_eq_none (by simp; omega), List.getElem?_eq_none (by omega)]
    rfl
abbrev spPlain (d : Option Addr) (K : PySem.W.Frag) (C : Addr) (c : Value) : Sp := spE d (fun (z : {z : Nat × List Tr // z.1 ≤ 100 ∧ z.2.length ≤ 900}) => [insR C (netF K z.1.1 (z.1.2.map Tr.d))]) (fun z => plainB z.1.1 z.1.2 = true) (fun _ => rAny) (fun z => plainB z.1.1 z.1.2 = false) c
end
/-! ### mail: letters, words, actions -/
abbrev Prs := List (Nat × Int)
structure Act where
  hs : Prs
  sd : Prs
abbrev pairD (p : Nat × Int) : D := .t [.i (p.1 : Int), .i p.2]
abbrev prsD (ps : Prs) : D := .t (ps.map pairD)
abbrev Act.d (a : Act) : D := .t [prsD a.hs, prsD a.sd]
structure PrsOk (cs : List Int) (ps : Prs) : Prop where
  at_ : ∀ p ∈ ps, ∃ c, cs[p.1]? = some c ∧ 0 ≤ p.2 ∧ p.2 < c
  nd : (ps.map (·.1)).Nodup
structure ActOk (cs : List Int) (a : Act) : Prop where
  h : PrsOk cs a.hs
  s : PrsOk cs a.sd
theorem PrsOk.lt {cs : List Int} {ps : Prs} (h : PrsOk cs ps) : ∀ p ∈ ps, p.1 < cs.length := fun p hp => by
  obtain ⟨c, hc, _⟩ := h.at_ p hp
  exact (List.getElem?_eq_some_iff.mp hc).1
theorem getPr {ps : Prs} {i : Nat} {w : D} (h : (ps.map pairD)[i]? = some w) : ∃ p, ps[i]? = some p ∧ w = pairD p := by
  rw [List.getElem?_map] at h
  cases q : ps[i]? with
  | none => rw [q] at h; cases h
  | some z => rw [q] at h; cases h; exact ⟨z, rfl, rfl⟩
theorem prs_hd {ps : Prs} : ∀ (i : Nat) w, (ps.map pairD)[i]? = some w → ∃ A C, w = .t [A, C] := fun i w h => by
  obtain ⟨p, _, rfl⟩ := getPr h
  exact ⟨_, _, rfl⟩
theorem getPr2 {ps : Prs} {i : Nat} {A C : D} (h : (ps.map pairD)[i]? = some (.t [A, C])) : ∃ p, ps[i]? = some p ∧ A = .i (p.1 : Int) ∧ C = .i p.2 := by
  obtain ⟨p, h1, h2⟩ := getPr h
  cases h2
  exact ⟨p, h1, rfl, rfl⟩
abbrev Wds := List (List Int)
abbrev wsD (ws : Wds) : D := .t (ws.map tI)
theorem getW {ws : Wds} {c : Nat} (h : c < ws.length) : (ws.map tI)[c]? = some (tI (ws.getD c [])) := by
  rw [List.getElem?_map, List.getElem?_eq_getElem h, List.getD_eq_getElem?_getD, List.getElem?_eq_getElem h]
  rfl
/-- each word begins with the letter -/
def hearB (ws : Wds) (ps : Prs) : Bool := ps.all fun p => decide ((ws.getD p.1 []).take 1 = [p.2])
theorem hearB_no {ws : Wds} {ps : Prs} {p : Nat × Int} (hp : p ∈ ps) (h : ¬ (ws.getD p.1 []).take 1 = [p.2]) : hearB ws ps = false := by
  cases q : hearB ws ps with
  | false => rfl
  | true => exact absurd (of_decide_eq_true (List.all_eq_true.mp q p hp)) h
theorem hearB_yes {ws : Wds} {ps : Prs} (h : ∀ p ∈ ps, (ws.getD p.1 []).take 1 = [p.2]) : hearB ws ps = true := List.all_eq_true.mpr fun p hp => decide_eq_true (h p hp)
def loseB (ws : Wds) (c p : Int) : Bool := (decide (0 ≤ c) && decide (c < (ws.length : Int))) && (decide (0 ≤ p) && decide (p < ((ws.getD c.toNat []).length : Int)))
def dropL (ws : Wds) (c p : Nat) : Wds := ws.take c ++ [(ws.getD c []).take p ++ (ws.getD c []).drop (p + 1)] ++ ws.drop (c + 1)
def dropS (ws : Wds) (p : Nat × Int) : Wds := ws.set p.1 ((ws.getD p.1 []).drop 1)
def sendS (ws : Wds) (p : Nat × Int) : Wds := ws.set p.1 (ws.getD p.1 [] ++ [p.2])
def dropW (ws : Wds) (ps : Prs) : Wds := ps.foldl dropS ws
def sendW (ws : Wds) (ps : Prs) : Wds := ps.foldl sendS ws
theorem foldl_succ {α β : Type} {f : α → β → α} {a : α} {l : List β} {i : Nat} {b : β} (h : l[i]? = some b) : (l.take (i + 1)).foldl f a = f ((l.take i).foldl f a) b := by
  rw [List.take_add_one, h, List.foldl_append]
  rfl
theorem dropW_len {ws : Wds} : ∀ {ps : Prs}, (dropW ws ps).length = ws.length := fun {ps} => by
  induction ps generalizing ws with
  | nil => rfl
  | cons p r ih => show (dropW (dropS ws p) r).length = _; rw [ih]; simp [dropS]
theorem sendW_len {ws : Wds} : ∀ {ps : Prs}, (sendW ws ps).length = ws.length := fun {ps} => by
  induction ps generalizing ws with
  | nil => rfl
  | cons p r ih => show (sendW (sendS ws p) r).length = _; rw [ih]; simp [sendS]
theorem mem_setW {ws : Wds} {i : Nat} {x y : List Int} (h : y ∈ ws.set i x) : y = x ∨ y ∈ ws := by
  rcases List.mem_or_eq_of_mem_set h with h | h
  · exact .inr h
  · exact .inl h
theorem getD_bd {ws : Wds} {b : Nat} (h : ∀ w ∈ ws, w.length ≤ b) (c : Nat) : (ws.getD c []).length ≤ b := by
  rw [List.getD_eq_getElem?_getD]
  cases e : ws[c]? with
  | none => exact Nat.zero_le _
  | some w => exact h w (List.mem_of_getElem? e)
theorem dropW_bd {b : Nat} : ∀ {ps : Prs} {ws : Wds}, (∀ w ∈ ws, w.length ≤ b) → ∀ w ∈ dropW ws ps, w.length ≤ b
  | [], _, h => h
  | p :: r, ws, h => dropW_bd (ps := r) (ws := dropS ws p) fun w hw => by
    rcases mem_setW hw with rfl | hw
    · exact Nat.le_trans (by rw [List.length_drop]; exact Nat.sub_le _ _) (getD_bd h p.1)
    · exact h w hw
theorem sendW_bd {b : Nat} : ∀ {ps : Prs} {ws : Wds}, (∀ w ∈ ws, w.length ≤ b) → ∀ w ∈ sendW ws ps, w.length ≤ b + ps.length
  | [], _, h => h
  | p :: r, ws, h => fun w hw => by
    have := sendW_bd (b := b + 1) (ps := r) (ws := sendS ws p) (fun w hw => by
      rcases mem_setW hw with rfl | hw
      · rw [List.length_append]
        exact Nat.add_le_add_right (getD_bd h p.1) 1
      · have := h w hw; omega) w hw
    rw [List.length_cons]
    omega
theorem dropL_len {ws : Wds} {c p : Nat} (h : c < ws.length) : (dropL ws c p).length = ws.length := by
  unfold dropL
  simp; omega
theorem dropL_bd {b : Nat} {ws : Wds} {c p : Nat} (h : ∀ w ∈ ws, w.length ≤ b) (hp : p < (ws.getD c []).length) : ∀ w ∈ dropL ws c p, w.length ≤ b := fun w hw => by
  unfold dropL at hw
  rcases List.mem_append.mp hw with hw | hw
  · rcases List.mem_append.mp hw with hw | hw
    · exact h w (List.mem_of_mem_take hw)
    · rw [List.mem_singleton.mp hw]
      have h1 := getD_bd h c
      rw [List.length_append, List.length_take, List.length_drop]
      generalize (ws.getD c []).length = q at h1 hp ⊢
      omega
  · exact h w (List.mem_of_mem_drop hw)
/-! ### configurations and steps -/
abbrev Cf := List Int × Wds
abbrev cfD (c : Cf) : D := .t [tI c.1, wsD c.2]
inductive MS where
  | lose (c p : Int)
  | fire (k : Int)
abbrev MS.d : MS → D
  | .lose c p => .t [.s "lose", .i c, .i p]
  | .fire k => .t [.s "fire", .i k]
def canB (ts : List Tr) (as : List Act) (c : Cf) : MS → Bool
  | .lose x p => loseB c.2 x p
  | .fire k => if 0 ≤ k then (match ts[k.toNat]?, as[k.toNat]? with
    | some t, some a => covb c.1 t.tk && hearB c.2 a.hs
    | _, _ => false) else false
def goB (n : Nat) (ts : List Tr) (as : List Act) (c : Cf) : MS → Cf
  | .lose x p => (c.1, dropL c.2 x.toNat p.toNat)
  | .fire k => match ts[k.toNat]?, as[k.toNat]? with
    | some t, some a => (fireN t c.1 n, sendW (dropW c.2 a.hs) a.sd)
    | _, _ => c
def mrun (n : Nat) (ts : List Tr) (as : List Act) (c : Cf) (ss : List MS) : Nat → Cf ⊕ Nat
  | 0 => .inl c
  | j + 1 => match mrun n ts as c ss j with
    | .inr p => .inr p
    | .inl c1 => match ss[j]? with
      | none => .inl c1
      | some s => if canB ts as c1 s = true then .inl (goB n ts as c1 s) else .inr j
theorem mrun_step {n : Nat} {ts : List Tr} {as : List Act} {c c1 : Cf} {ss : List MS} {j : Nat} {s : MS} (h : mrun n ts as c ss j = .inl c1) (h1 : ss[j]? = some s) : mrun n ts as c ss (j + 1) = if canB ts as c1 s = true then .inl (goB n ts as c1 s) else .inr j := by
  simp only [mrun, h, h1]
theorem mrun_stop {n : Nat} {ts : List Tr} {as : List Act} {c : Cf} {ss : List MS} {j p : Nat} (h : mrun n ts as c ss j = .inr p) : ∀ k, j ≤ k → mrun n ts as c ss k = .inr p
  | 0, hk => by
    have : j = 0 := by omega
    rw [this] at h
    exact h
  | k + 1, hk => by
    by_cases hj : j = k + 1
    · rw [← hj]; exact h
    · have ih := mrun_stop h k (by omega)
      simp only [mrun, ih]
theorem mrun_app {n : Nat} {ts : List Tr} {as : List Act} {c : Cf} {ss : List MS} {s : MS} : ∀ j, j ≤ ss.length → mrun n ts as c (ss ++ [s]) j = mrun n ts as c ss j
  | 0, _ => rfl
  | j + 1, h => by
    have ih := mrun_app (s := s) (n := n) (ts := ts) (as := as) (c := c) (ss := ss) j (by omega)
    have e : (ss ++ [s])[j]? = ss[j]? := List.getElem?_append_left (by omega)
    simp only [mrun, ih, e]
/-- all fits together -/
structure MOk (n : Nat) (ts : List Tr) (cs : List Int) (as : List Act) : Prop where
  n0 : 1 ≤ n
  n1 : n ≤ 12
  tl : ts.length ≤ 24
  t : ∀ t ∈ ts, TrOk n t
  cl : cs.length ≤ 2
  c : ∀ c ∈ cs, 1 ≤ c ∧ c ≤ 4
  al : as.length = ts.length
  a : ∀ a ∈ as, ActOk cs a
structure CfOk (n : Nat) (cs : List Int) (b : Nat) (c : Cf) : Prop where
  m : c.1.length = n
  w : c.2.length = cs.length
  b : ∀ w ∈ c.2, w.length ≤ b
theorem CfOk.up {n : Nat} {cs : List Int} {b b' : Nat} {c : Cf} (h : CfOk n cs b c) (hb : b ≤ b') : CfOk n cs b' c := ⟨h.m, h.w, fun w hw => Nat.le_trans (h.b w hw) hb⟩
theorem nd_len {cs : List Int} {ps : Prs} (h : PrsOk cs ps) : ps.length ≤ cs.length := by
  have h1 : (ps.map (·.1)).length ≤ (List.range cs.length).length := h.nd.length_le_of_subset fun x hx => by
    obtain ⟨p, hp, rfl⟩ := List.mem_map.mp hx
    exact List.mem_range.mpr (h.lt p hp)
  simpa using h1
theorem go_ok {n : Nat} {ts : List Tr} {cs : List Int} {as : List Act} {b : Nat} {c : Cf} {s : MS} (M : MOk n ts cs as) (C : CfOk n cs b c) (h : canB ts as c s = true) : CfOk n cs (b + 2) (goB n ts as c s) := by
  cases s with
  | lose x p =>
    have h' : loseB c.2 x p = true := h
    unfold loseB at h'
    simp only [Bool.and_eq_true, decide_eq_true_eq] at h'
    obtain ⟨⟨h1, h2⟩, h3, h4⟩ := h'
    refine ⟨C.m, ?_, fun w hw => Nat.le_add_right_of_le (dropL_bd C.b (by omega) w hw)⟩
    show (dropL c.2 x.toNat p.toNat).length = _
    rw [dropL_len (by omega)]
    exact C.w
  | fire k =>
    have h' : (if 0 ≤ k then (match ts[k.toNat]?, as[k.toNat]? with | some t, some a => covb c.1 t.tk && hearB c.2 a.hs | _, _ => false) else false) = true := h
    by_cases hk : 0 ≤ k
    · rw [if_pos hk] at h'
      cases e1 : ts[k.toNat]? with
      | none => rw [e1] at h'; cases h'
      | some t =>
        cases e2 : as[k.toNat]? with
        | none => rw [e1, e2] at h'; cases h'
        | some a =>
          have e : goB n ts as c (.fire k) = (fireN t c.1 n, sendW (dropW c.2 a.hs) a.sd) := by
            show (match ts[k.toNat]?, as[k.toNat]? with | some t, some a => (fireN t c.1 n, sendW (dropW c.2 a.hs) a.sd) | _, _ => c) = _
            rw [e1, e2]
          rw [e]
          have ht := M.t t (List.mem_of_getElem? e1)
          have ha := M.a a (List.mem_of_getElem? e2)
          refine ⟨by rw [fireN_len, ht.l2], by rw [sendW_len, dropW_len, C.w], fun w hw => ?_⟩
          have h1 := sendW_bd (dropW_bd C.b) w hw
          have h2 := nd_len ha.s
          have h3 := M.cl
          omega
    · rw [if_neg hk] at h'; cases h'
section
variable {d : Option Addr} {P : Program} {w : World} {K : PySem.W.Frag} {mg : Str → Option Value} {base : Heap}
theorem x_succ {X : Cx} {B : Hp} {ρ : Ro d} {e : Expr} {k j : Nat} {p p2 : Pos} (h : EX X B ρ e (rI (k : Int))) : EX X B ρ (.BinOp e .Add (.Constant (.int 1) j p) p2) (rI ((k + 1 : Nat) : Int)) := x_sub (x_add h x_int) fun v H hv => hv
theorem ok_hears_first {f : Addr} {fd : FuncData} (F : Fun K "hears_first" "hears_first" s_hears_first f fd) : FnOk P w K mg base CX0 1 f fd ["words", "hears"]
    (spP d (fun (z : {z : Wds × Prs // ∀ p ∈ z.2, p.1 < z.1.length}) => [dat K (wsD z.1.1), dat K (prsD z.1.2)]) (fun z _ => rB (hearB z.1.1 z.1.2))) := by
  refine fn_ok F sc_hears_first (fun _ => rfl) (by decide) fun z H cdv A outer s E hr => ?_
  obtain ⟨⟨ws, ps⟩, hp⟩ := z
  dsimp only at hp ⊢
  refine bx_forT2 2 3 (fun i (_ : Unit) => ∀ (k : Nat) p, k < i → ps[k]? = some p → (ws.getD p.1 []).take 1 = [p.2]) (fun _ _ => [some (dat K (wsD ws)), some (dat K (prsD ps)), none, none]) (x_var 1 rfl) (fun σ H s => ⟨(), fun _ _ h => absurd h (Nat.not_lt_zero _), s.sub (by (repeat (first | exact Sub.nil | refine Sub.same ?_ | refine Sub.drop ?_)))⟩) prs_hd (fun i A C z hw hz => ?_) (bx_ex fun z hz => ?_) sc_hears_first.nd PassesOwn.never
  · obtain ⟨p, hi, rfl, rfl⟩ := getPr2 hw
    have hlt := hp p (List.mem_of_getElem? hi)
    refine bx_ifret (t_neD (x := tI ((ws.getD p.1 []).take 1)) (y := tI [p.2]) (k := 1) (j := 1) hr.units (x_sub (x_tlHi (k := 1) (x_ixt (x_var 0 rfl) (x_dI (x_var 2 rfl)) (atI_nat (getW hlt))) x_int) fun v H hv => by show DR _ _ (.t (((ws.getD p.1 []).take 1).map D.i)) _; rw [List.map_take]; exact hv) (x_tup (ds := [.i p.2]) (a_cons (x_var 3 rfl) a_nil)) (shp_tI _) (shp_tI _)) (fun h => ?_) (fun h => bx_nil fun σ H s => ⟨(), fun k p' hk hp' => ?_, s.sub (by (repeat (first | exact Sub.nil | refine Sub.same ?_ | refine Sub.drop ?_)))⟩)
    · refine bx_ret x_bl fun v σ H s hv => ⟨s.ext, ?_⟩
      show v = .bl (hearB ws ps)
      rw [hearB_no (List.mem_of_getElem? hi) fun q => by have := h.mpr (by rw [q]); cases this]
      exact hv
    · by_cases hki : k = i
      · subst hki
        rw [hi] at hp'; cases hp'
        exact tI_inj (h.mp rfl)
      · exact hz k p' (by omega) hp'
  · refine bx_ret x_bl fun v σ H s hv => ⟨s.ext, ?_⟩
    show v = .bl (hearB ws ps)
    rw [hearB_yes fun p hp' => by
      obtain ⟨k, hk⟩ := List.getElem?_of_mem hp'
      exact hz k p (by rw [List.length_map]; exact (List.getElem?_eq_some_iff.mp hk).1) hk]
    exact hv
theorem ok_can_lose {f : Addr} {fd : FuncData} (F : Fun K "can_lose" "can_lose" s_can_lose f fd) (ml : mg "len" = none) : FnOk P w K mg base CX0 1 f fd ["words", "channel", "position"]
    (spP d (fun (z : Wds × Int × Int) => [dat K (wsD z.1), rI z.2.1, rI z.2.2]) (fun z _ => rB (loseB z.1 z.2.1 z.2.2))) := by
  refine fn_ok F sc_can_lose (fun _ => rfl) (by decide) fun z H cdv A outer s E hr => ?_
  obtain ⟨ws, c, p⟩ := z
  dsimp only
  refine bx_retR (x_bIs (x_and (S := fun q => q = (decide (0 ≤ p) && decide (p < ((ws.getD c.toNat []).length : Int)))) (x_B (x_chainLt x_int (x_var 1 rfl) (x_len_t rfl ml (x_var 0 rfl)))) fun h => x_one ?_) fun q hq => ?_) rfl
  · rw [List.length_map] at h
    have h' := h.symm
    simp only [Bool.and_eq_true, decide_eq_true_eq] at h'
    have hlt : c.toNat < ws.length := by omega
    refine x_bE (x_B (x_chainLt x_int (x_var 2 rfl) (x_len_t rfl ml (x_ixt (w := tI (ws.getD c.toNat [])) (x_var 0 rfl) (x_var 1 rfl) ?_)))) fun k hk => ?_
    · have e : c = ((c.toNat : Nat) : Int) := by omega
      rw [e]
      exact atI_nat (by rw [← e]; exact getW hlt)
    · rw [hk, List.length_map]
  · rw [List.length_map] at hq
    unfold loseB
    rcases hq with ⟨h1, h2⟩ | ⟨h1, h2⟩
    · rw [h2, ← h1, Bool.true_and]
    · rw [h2, ← h1, Bool.false_and]
theorem ok_without_letter {f : Addr} {fd : FuncData} (F : Fun K "without_letter" "without_letter" s_without_letter f fd) : FnOk P w K mg base CX0 1 f fd ["words", "channel", "position"]
    (spP d (fun (z : {z : Wds × Nat × Nat // z.2.1 < z.1.length ∧ z.1.length ≤ 10 ∧ z.2.2 < (z.1.getD z.2.1 []).length ∧ (z.1.getD z.2.1 []).length ≤ 400}) => [dat K (wsD z.1.1), rI (z.1.2.1 : Int), rI (z.1.2.2 : Int)]) (fun z _ => dat K (wsD (dropL z.1.1 z.1.2.1 z.1.2.2)))) := by
  refine fn_ok F sc_without_letter (fun _ => rfl) (by decide) fun z H cdv A outer s E hr => ?_
  obtain ⟨⟨ws, c, p⟩, hc, hl, hp, hb⟩ := z
  dsimp only at hc hl hp hb ⊢
  refine bx_set 3 (x_ixt (x_var 0 rfl) (x_var 1 rfl) (atI_nat (getW hc))) ?_ sc_without_letter.nd
  have e : wsD (dropL ws c p) = .t ((((ws.map tI).take c) ++ [tI ((ws.getD c []).take p ++ (ws.getD c []).drop (p + 1))]) ++ (ws.map tI).drop (c + 1)) := by
    unfold dropL
    rw [wsD, List.map_append, List.map_append, List.map_take, List.map_drop]
    rfl
  rw [e]
  refine bx_retR (x_catT (x_catT (x_tlHi (x_var 0 rfl) (x_var 1 rfl)) (x_tup (ds := [tI ((ws.getD c []).take p ++ (ws.getD c []).drop (p + 1))]) (a_cons (x_sub (x_catT (x_tlHi (k := p) (x_var 3 rfl) (x_var 2 rfl)) (x_tlLo (k := p + 1) (x_var 3 rfl) (x_succ (x_var 2 rfl))) ?_) fun v H hv => ?_) a_nil)) ?_) (x_tlLo (k := c + 1) (x_var 0 rfl) (x_succ (x_var 1 rfl))) ?_) rfl
  · simp only [List.length_append, List.length_take, List.length_drop, List.length_map, List.length_cons, List.length_nil]; omega
  · show DR _ _ (.t (((ws.getD c []).take p ++ (ws.getD c []).drop (p + 1)).map D.i)) _
    rw [List.map_append, List.map_take, List.map_drop]; exact hv
  · simp; omega
  · simp; omega
theorem ok_heard_and_sent {f : Addr} {fd : FuncData} (F : Fun K "heard_and_sent" "heard_and_sent" s_heard_and_sent f fd) (mL : mg "list" = none) (mt : mg "tuple" = none) : FnOk P w K mg base CX0 1 f fd ["words", "hears", "sends"]
    (spP d (fun (z : {z : Wds × Prs × Prs // (∀ p ∈ z.2.1, p.1 < z.1.length) ∧ (∀ p ∈ z.2.2, p.1 < z.1.length) ∧ z.2.2.length ≤ 10 ∧ z.1.length ≤ 10 ∧ ∀ w ∈ z.1, w.length ≤ 400}) => [dat K (wsD z.1.1), dat K (prsD z.1.2.1), dat K (prsD z.1.2.2)]) (fun z _ => dat K (wsD (sendW (dropW z.1.1 z.1.2.1) z.1.2.2)))) := by
  refine fn_ok F sc_heard_and_sent (fun _ => rfl) (by decide) fun z H cdv A outer s E hr => ?_
  obtain ⟨⟨ws, hs, sd⟩, hh, hd, hs10, hl, hb⟩ := z
  dsimp only at hh hd hs10 hl hb ⊢
  refine bx_new 3 [] (by simp) (fun B' => x_list_t rfl mL (x_var 0 rfl)) (fun l hl3 _ => ?_) sc_heard_and_sent.nd
  refine bx_forT2 4 5 (fun i (_ : Unit) => True) (fun i _ => [none, none, some (dat K (prsD sd)), some (own K l ((dropW ws (hs.take i)).map tI)), none, none, none]) (x_var 1 rfl) (fun σ H s => ⟨(), trivial, s.sub (by (repeat (first | exact Sub.nil | refine Sub.same ?_ | refine Sub.drop ?_)))⟩) prs_hd (fun i A C z hw hz => ?_) (bx_ex fun z hz => ?_) sc_heard_and_sent.nd PassesOwn.never
  · obtain ⟨p, hi, rfl, rfl⟩ := getPr2 hw
    have hlt := hh p (List.mem_of_getElem? hi)
    have hlt' : p.1 < (dropW ws (hs.take i)).length := by rw [dropW_len]; exact hlt
    refine bx_setitem 3 (w := tI (((dropW ws (hs.take i)).getD p.1 []).drop 1)) (k := p.1) rfl rfl (x_sub (x_tlLo (k := 1) (x_ixl (x_lstA (x_var 3 rfl)) (x_dI (x_var 4 rfl)) (atI_nat (getW hlt'))) x_int) fun v H hv => by show DR _ _ (.t ((((dropW ws (hs.take i)).getD p.1 []).drop 1).map D.i)) _; rw [List.map_drop]; exact hv) (x_dI (x_var 4 rfl)) (by rw [List.length_map]; exact hlt') hl3 (by (repeat' (first | exact ia_nil | refine ia_none ?_ | refine ia_some ?_ ?_ | refine ib_here ?_ | refine ib_none ?_ | refine ib_some ?_ ?_ | exact ind_I | exact ind_B | exact ind_dat | exact ind_any | exact ind_drw | exact ind_net | exact ind_dct | exact ind_dcT | exact ind_mail | exact ind_xB | exact ind_lstB (by assumption) | exact ind_own (by assumption) | exact ind_lstA (by assumption) | exact ind_own (Ne.symm (by assumption)) | exact ind_lstA (Ne.symm (by assumption)) | exact ind_tpl | exact ind_ownT (by assumption) | exact ind_ownT (Ne.symm (by assumption)) | exact ind_ll (by assumption) (by assumption) | exact ind_ll (Ne.symm (by assumption)) (by assumption)))) ?_
    refine bx_nil fun σ H s => ⟨(), trivial, s.sub ?_⟩
    show Sub _ [_, _, _, _, _, _, _]
    have e : (dropW ws (hs.take (i + 1))).map tI = ((dropW ws (hs.take i)).map tI).set p.1 (tI (((dropW ws (hs.take i)).getD p.1 []).drop 1)) := by
      unfold dropW
      rw [foldl_succ hi, dropS, List.map_set]
    rw [e]
    (repeat (first | exact Sub.nil | refine Sub.same ?_ | refine Sub.drop ?_))
  · rw [List.length_map, List.take_length]
    refine bx_forT2 4 6 (fun i (_ : Unit) => True) (fun i _ => [none, none, none, some (own K l ((sendW (dropW ws hs) (sd.take i)).map tI)), none, none, none]) (x_var 2 rfl) (fun σ H s => ⟨(), trivial, s.sub (by (repeat (first | exact Sub.nil | refine Sub.same ?_ | refine Sub.drop ?_)))⟩) prs_hd (fun i A C z hw hz => ?_) (bx_ex fun z hz => ?_) sc_heard_and_sent.nd PassesOwn.never
    · obtain ⟨p, hi, rfl, rfl⟩ := getPr2 hw
      have hlt := hd p (List.mem_of_getElem? hi)
      have hlt' : p.1 < (sendW (dropW ws hs) (sd.take i)).length := by rw [sendW_len, dropW_len]; exact hlt
      have hbd := getD_bd (sendW_bd (ps := sd.take i) (dropW_bd (ps := hs) hb)) p.1
      have hil : (sd.take i).length ≤ 10 := by rw [List.length_take]; omega
      refine bx_setitem 3 (w := tI ((sendW (dropW ws hs) (sd.take i)).getD p.1 [] ++ [p.2])) (k := p.1) rfl rfl (x_sub (x_catT (x_ixl (x_lstA (x_var 3 rfl)) (x_dI (x_var 4 rfl)) (atI_nat (getW hlt'))) (x_tup (ds := [.i p.2]) (a_cons (x_var 6 rfl) a_nil)) (by simp only [List.length_append, List.length_take, List.length_drop, List.length_map, List.length_cons, List.length_nil]; omega)) fun v H hv => by show DR _ _ (.t (((sendW (dropW ws hs) (sd.take i)).getD p.1 [] ++ [p.2]).map D.i)) _; rw [List.map_append]; exact hv) (x_dI (x_var 4 rfl)) (by rw [List.length_map]; exact hlt') hl3 (by (repeat' (first | exact ia_nil | refine ia_none ?_ | refine ia_some ?_ ?_ | refine ib_here ?_ | refine ib_none ?_ | refine ib_some ?_ ?_ | exact ind_I | exact ind_B | exact ind_dat | exact ind_any | exact ind_drw | exact ind_net | exact ind_dct | exact ind_dcT | exact ind_mail | exact ind_xB | exact ind_lstB (by assumption) | exact ind_own (by assumption) | exact ind_lstA (by assumption) | exact ind_own (Ne.symm (by assumption)) | exact ind_lstA (Ne.symm (by assumption)) | exact ind_tpl | exact ind_ownT (by assumption) | exact ind_ownT (Ne.symm (by assumption)) | exact ind_ll (by assumption) (by assumption) | exact ind_ll (Ne.symm (by assumption)) (by assumption)))) ?_
      refine bx_nil fun σ H s => ⟨(), trivial, s.sub ?_⟩
      show Sub _ [_, _, _, _, _, _, _]
      have e : (sendW (dropW ws hs) (sd.take (i + 1))).map tI = ((sendW (dropW ws hs) (sd.take i)).map tI).set p.1 (tI ((sendW (dropW ws hs) (sd.take i)).getD p.1 [] ++ [p.2])) := by
        unfold sendW
        rw [foldl_succ hi, sendS, List.map_set]
      rw [e]
      (repeat (first | exact Sub.nil | refine Sub.same ?_ | refine Sub.drop ?_))
    · rw [List.length_map, List.take_length]
      exact bx_retR (x_tuple_l rfl mt (x_lstA (x_var 3 rfl))) rfl
end
end Cv

namespace Cv
open PySem PySem.Spec PyProof.Rows L2 RZ
theorem nd_take {ps : Prs} {i : Nat} {p : Nat × Int} (h : (ps.map (·.1)).Nodup) (hi : ps[i]? = some p) : ∀ q ∈ ps.take i, ¬ q.1 = p.1 := fun q hq e => by
  obtain ⟨k, hk⟩ := List.getElem?_of_mem hq
  have hki : k < i := by
    have := (List.getElem?_eq_some_iff.mp hk).1
    rw [List.length_take] at this; omega
  rw [List.getElem?_take_of_lt hki] at hk
  have hil := (List.getElem?_eq_some_iff.mp hi).1
  have hkl := (List.getElem?_eq_some_iff.mp hk).1
  have := List.pairwise_iff_getElem.mp h k i (by rw [List.length_map]; exact hkl) (by rw [List.length_map]; exact hil) hki
  apply this
  rw [List.getElem_map, List.getElem_map, (List.getElem?_eq_some_iff.mp hk).2, (List.getElem?_eq_some_iff.mp hi).2]
  exact e
theorem map_take_succ {α β : Type} {f : α → β} {l : List α} {i : Nat} {a : α} (h : l[i]? = some a) : (l.take (i + 1)).map f = (l.take i).map f ++ [f a] := by
  rw [List.take_add_one, h, List.map_append]
  rfl
section
variable {d : Option Addr} {P : Program} {w : World} {K : PySem.W.Frag} {mg : Str → Option Value} {base : Heap}
def seenD (ps : Prs) : List (Key × D) := ps.map fun p => (Sum.inl (p.1 : Int), D.b true)
theorem ok_checked_pairs {f : Addr} {fd : FuncData} (F : Fun K "_checked_pairs" "_checked_pairs" s_checked_pairs f fd) (ml : mg "len" = none) (mt : mg "tuple" = none) : FnOk P w K mg base CX0 1 f fd ["pairs", "channels"]
    (spP d (fun (z : {z : List Int × Prs // PrsOk z.1 z.2 ∧ z.1.length ≤ 100}) => [dat K (prsD z.1.2), lst K (z.1.1.map D.i)]) (fun z _ => dat K (prsD z.1.2))) := by
  refine fn_okB F sc_checked_pairs (fun _ => rfl) (by decide) (fun z H => [some (dat K (prsD z.1.2)), some (lstY H K (z.1.1.map D.i)), none, none, none, none, none]) (fun z H σ s => (st_toY 1 rfl s).sub (by (repeat (first | exact Sub.nil | refine Sub.same ?_ | refine Sub.drop ?_)))) fun z H cdv A outer s E hr => ?_
  obtain ⟨⟨cs, ps⟩, hp, hcl⟩ := z
  dsimp only at hp hcl ⊢
  have hpl := nd_len hp
  refine bx_open 1 rfl fun la _ => ?_
  refine bx_new 2 [] (by simp) (fun B' => x_lst (ds := []) a_nil) (fun l2 hl2 _ => ?_) sc_checked_pairs.nd
  refine bx_dict 3 rfl (fun l3 hl3 => ?_) sc_checked_pairs.nd
  refine bx_forT 4 (fun i (_ : Unit) => True) (fun i _ => [some (dat K (prsD ps)), some (lstB H K la (cs.map D.i)), some (own K l2 ((ps.take i).map pairD)), some (dct K l3 (seenD (ps.take i))), none, none, none]) (x_var 0 rfl) (fun σ H s => ⟨(), trivial, s.sub (by (repeat (first | exact Sub.nil | refine Sub.same ?_ | refine Sub.drop ?_)))⟩) (fun i w z hw _ => ?_) (bx_ex fun _ _ => ?_) sc_checked_pairs.nd PassesOwn.never
  · obtain ⟨p, hi, rfl⟩ := getPr hw
    obtain ⟨c, hc, h0, h1⟩ := hp.at_ p (List.mem_of_getElem? hi)
    have hlt := (List.getElem?_eq_some_iff.mp hc).1
    refine bx_ifret (t_ne (x_len_t rfl ml (x_var 4 rfl)) x_int) (fun h => by simp [is] at h) (fun _ => ?_)
    refine bx_unp2 5 6 (x_var 4 rfl) ?_ sc_checked_pairs.nd
    refine bx_ifret (t_w (w_or (t_not (t_chainLt x_int (x_dI (x_var 5 rfl)) (x_len_l rfl ml (x_lstB (x_var 1 rfl))))) fun _ => w_or1 (t_not (t_chainLt x_int (x_dI (x_var 6 rfl)) (x_ixlI (x_lstB (x_var 1 rfl)) (x_dI (x_var 5 rfl)) hc))))) (fun h => ?_) (fun _ => ?_)
    · rcases h with ⟨_, h⟩ | ⟨h, _⟩
      · rw [decide_eq_true h0, decide_eq_true h1] at h
        cases h
      · rw [List.length_map, decide_eq_true (show (0 : Int) ≤ (p.1 : Int) by omega), decide_eq_true (show (p.1 : Int) < (cs.length : Int) by omega)] at h
        cases h
    have hnone : valD (seenD (ps.take i)) (Sum.inl (p.1 : Int)) = none := valD_none fun q hq e => by
      obtain ⟨r, hr, rfl⟩ := List.mem_map.mp hq
      have e' : (r.1 : Int) = (p.1 : Int) := Sum.inl.inj e
      exact nd_take hp.nd hi r hr (by omega)
    refine bx_ifret (t_din (k := Sum.inl (p.1 : Int)) (hu_of hr) (x_var 5 rfl) (x_var 3 rfl)) (fun h => ?_) (fun _ => ?_)
    · rw [hnone] at h; cases h
    have hil := (List.getElem?_eq_some_iff.mp hi).1
    refine bx_dput 3 (k := Sum.inl (p.1 : Int)) (w := .b true) rfl rfl (hu_of hr) (x_Bd x_bl) (x_var 5 rfl) hnone (by unfold seenD; rw [List.length_map, List.length_take]; omega) hl3 (by (repeat' (first | exact ka_nil | refine ka_none ?_ | refine ka_some ?_ ?_ | refine kb_here ?_ | refine kb_none ?_ | refine kb_some ?_ ?_ | exact ink_I | exact ink_B | exact ink_dat | exact ink_any | exact ink_drw | exact ink_own | exact ink_lstA | exact ink_lstB | exact ink_net | exact ink_dct (by assumption) | exact ink_netX | exact ink_tpl | exact ink_ownT | exact ink_ll))) ?_
    refine bx_append 2 (w := pairD p) rfl rfl (x_tup (ds := [.i (p.1 : Int), .i p.2]) (a_cons (x_var 5 rfl) (a_cons (x_var 6 rfl) a_nil))) hl2 (by (repeat' (first | exact ia_nil | refine ia_none ?_ | refine ia_some ?_ ?_ | refine ib_here ?_ | refine ib_none ?_ | refine ib_some ?_ ?_ | exact ind_I | exact ind_B | exact ind_dat | exact ind_any | exact ind_drw | exact ind_net | exact ind_dct | exact ind_dcT | exact ind_mail | exact ind_xB | exact ind_lstB (by assumption) | exact ind_own (by assumption) | exact ind_lstA (by assumption) | exact ind_own (Ne.symm (by assumption)) | exact ind_lstA (Ne.symm (by assumption)) | exact ind_tpl | exact ind_ownT (by assumption) | exact ind_ownT (Ne.symm (by assumption)) | exact ind_ll (by assumption) (by assumption) | exact ind_ll (Ne.symm (by assumption)) (by assumption)))) (by rw [List.length_map, List.length_take]; omega) ?_
    refine bx_nil fun σ H s => ⟨(), trivial, s.sub ?_⟩
    show Sub _ [_, _, _, _, _, _, _]
    have e1 : seenD (ps.take (i + 1)) = seenD (ps.take i) ++ [(Sum.inl (p.1 : Int), D.b true)] := map_take_succ hi
    rw [map_take_succ (f := pairD) hi, e1]
    (repeat (first | exact Sub.nil | refine Sub.same ?_ | refine Sub.drop ?_))
  · rw [List.length_map, List.take_length]
    exact bx_retR (x_tuple_l rfl mt (x_lstA (x_var 2 rfl))) rfl
theorem ok_checked_mail {f fP : Addr} {fd fdP : FuncData} (F : Fun K "_checked" "_checked" s_checked_mail f fd) (FP : Fun K "_checked_pairs" "_checked_pairs" s_checked_pairs fP fdP) (bP : Binds K fdP ["pairs", "channels"] []) (gP : mg "_checked_pairs" = some (.ref fP)) (ml : mg "len" = none) (mt : mg "tuple" = none) : FnOk P w K mg base CX0 2 f fd ["action", "channels"]
    (spP d (fun (z : {z : List Int × Act // ActOk z.1 z.2 ∧ z.1.length ≤ 100}) => [dat K z.1.2.d, lst K (z.1.1.map D.i)]) (fun z _ => dat K z.1.2.d)) := by
  refine fn_ok F sc_checked_mail (fun _ => rfl) (by decide) fun z H cdv A outer s E hr => ?_
  obtain ⟨⟨cs, a⟩, ha, hcl⟩ := z
  dsimp only at ha hcl ⊢
  have hr1 : Room 1 _ := hr.mono (by decide)
  have G : FnOk P w K mg base CX0 1 fP fdP ["pairs", "channels"] (spP d (fun (z : {z : List Int × Prs // PrsOk z.1 z.2 ∧ z.1.length ≤ 100}) => [dat K (prsD z.1.2), lst K (z.1.1.map D.i)]) (fun z _ => dat K (prsD z.1.2))) := ok_checked_pairs FP ml mt
  refine bx_ifret (t_ne (x_len_t rfl ml (x_var 0 rfl)) x_int) (fun h => by simp [is] at h) (fun _ => ?_)
  refine bx_unp2 2 3 (x_var 0 rfl) ?_ sc_checked_mail.nd
  exact bx_retR (x_tup (ds := [prsD a.hs, prsD a.sd]) (a_cons (x_call (E := E0) G hr1 rfl gP FP.kp bP pass0 ⟨(cs, a.hs), ha.h, hcl⟩ (a_cons (x_var 2 rfl) (a_cons (x_var 1 rfl) a_nil)) fun v H H' σ _ _ h => h) (a_cons (x_call (E := E0) G hr1 rfl gP FP.kp bP pass0 ⟨(cs, a.sd), ha.s, hcl⟩ (a_cons (x_var 3 rfl) (a_cons (x_var 1 rfl) a_nil)) fun v H H' σ _ _ h => h) a_nil))) rfl
/-- a mail net: its three fields -/
abbrev mailF (K : PySem.W.Frag) (C : Addr) (n : Nat) (Ts : List D) (cs : List Int) (as : List Act) : List (Str × Rp d) := [("actions", dat K (.t (as.map Act.d))), ("channels", dat K (tI cs)), ("net", insR C (netF K n Ts))]
structure MailTxt (K : PySem.W.Frag) (mg : Str → Option Value) (C : Addr) : Prop where
  cl : Cls K C
  nN : NoAttr K C "net"
  nC : NoAttr K C "channels"
  nA : NoAttr K C "actions"
  gC : mg "MailNet" = some (.ref C)
theorem ok_mailnet {f fC fP C CM : Addr} {fd fdC fdP : FuncData} {tk1 tk2 : Tok} (F : Fun K "__init__" "MailNet.__init__" s_MailNet_init f fd) (T : NetTxt K mg C) (TM : MailTxt K mg CM) (FC : Fun K "_checked" "_checked" s_checked_mail fC fdC) (bC : Binds K fdC ["action", "channels"] []) (gC : mg "checked_mail" = some (.ref fC))
    (FP : Fun K "_checked_pairs" "_checked_pairs" s_checked_pairs fP fdP) (bP : Binds K fdP ["pairs", "channels"] []) (gP : mg "_checked_pairs" = some (.ref fP)) (g2 : mg "MOST_CHANNELS" = some (.int 2 tk1)) (g4 : mg "MOST_LETTERS" = some (.int 4 tk2)) (ml : mg "len" = none) (mt : mg "tuple" = none) :
    FnOk P w K mg base CX0 3 f fd ["self", "net", "channels", "actions"] (spI d CM (fun (z : {z : Nat × List Tr × List Int × List Act // MOk z.1 z.2.1 z.2.2.1 z.2.2.2}) => [insR C (netF K z.1.1 (z.1.2.1.map Tr.d)), lst K (z.1.2.2.1.map D.i), lst K (z.1.2.2.2.map Act.d)]) (fun z => mailF K C z.1.1 (z.1.2.1.map Tr.d) z.1.2.2.1 z.1.2.2.2)) := by
  have GC : FnOk P w K mg base CX0 2 fC fdC ["action", "channels"] (spP d (fun (z : {z : List Int × Act // ActOk z.1 z.2 ∧ z.1.length ≤ 100}) => [dat K z.1.2.d, lst K (z.1.1.map D.i)]) (fun z _ => dat K z.1.2.d)) := ok_checked_mail FC FP bP gP ml mt
  refine fn_okG F sc_MailNet_init (fun vs H Q E ⟨z, x, dx, us, h1, h2, h3, _⟩ => by rw [h1, List.length_cons, h3.len]; rfl) fun vs H Q E hsp cdv A outer s hr => ?_
  obtain ⟨⟨⟨n, ts, cs, as⟩, M⟩, x, dx, us, rfl, hx, hus, hdr, q⟩ := hsp
  dsimp only at M hus q
  have hxd : some x ≠ d := fun e => by
    obtain ⟨ns, _, h⟩ := hdr x e.symm
    rw [hx] at h; cases h
  obtain ⟨u1, us1, rfl, hu1, hus1⟩ : ∃ u1 us1, us = u1 :: us1 ∧ (insR (d := d) C (netF K n (ts.map Tr.d))).p u1 (del H x) ∧ RsH (d := d) [lst K (cs.map D.i), lst K (as.map Act.d)] us1 (del H x) := by
    match us, hus with
    | u :: us1, hus => exact ⟨u, us1, rfl, hus.1, hus.2⟩
  obtain ⟨u2, u3, rfl, hu2, hu3⟩ := hus1.two
  have xE := del_ext (H := H) (x := x) hxd
  have iN : ∀ p ∈ netF (d := d) K n (ts.map Tr.d), IndO x p.2 := fun p hp => by
    rcases List.mem_cons.mp hp with rfl | hp
    · exact io_dat
    · rw [List.mem_singleton.mp hp]; exact io_I
  have iB : IndO x (insB (d := d) (del H x) C (netF K n (ts.map Tr.d))) := io_insB del_same iN
  refine ⟨St (d := d) (del H x) [some (insA CM x []), some (insB (del H x) C (netF K n (ts.map Tr.d))), some (lst K (cs.map D.i)), some (lst K (as.map Act.d)), none, none], { nx := fun _ H' => Ext d (del H x) H' ∧ (insA (d := d) CM x (mailF K C n (ts.map Tr.d) cs as)).p (.ref x) H', rt := fun _ _ => False }, ?_, ?_, ?_⟩
  · refine ⟨xE, hdr, rfl, fun i R e => ?_⟩
    match i, e with
    | 0, e => cases e; exact ⟨_, rfl, rfl, dx, [], hx, Nat.le_refl _, fun i f R k => by cases k⟩
    | 1, e => cases e; exact ⟨_, rfl, (insB (del H x) C (netF K n (ts.map Tr.d))).st xE (insB_of hu1)⟩
    | 2, e => cases e; exact ⟨_, rfl, (lst K (cs.map D.i)).st xE hu2⟩
    | 3, e => cases e; exact ⟨_, rfl, (lst K (as.map Act.d)).st xE hu3⟩
    | 4, e => cases e
    | 5, e => cases e
    | i + 6, e => cases e
  · have hr1 : Room 2 _ := hr.mono (by decide)
    refine bx_open 2 rfl fun l2 _ => ?_
    refine bx_open 3 rfl fun l3 _ => ?_
    refine bx_ifret (t_gt (x_len_l rfl ml (x_var 2 rfl)) (x_globI rfl g2)) (fun h => ?_) (fun _ => ?_)
    · have : (2 : Int) < ((cs.map D.i).length : Nat) := of_decide_eq_true h.symm
      rw [List.length_map] at this
      have := M.cl
      omega
    refine bx_forL 4 (fun _ (_ : Unit) => True) (fun _ _ => [some (insA CM x []), some (insB (del H x) C (netF K n (ts.map Tr.d))), some (lstA K l2 (cs.map D.i)), some (lstA K l3 (as.map Act.d)), none, none]) (x_var 2 rfl) (fun σ H s => ⟨(), trivial, s.sub (by (repeat (first | exact Sub.nil | refine Sub.same ?_ | refine Sub.drop ?_)))⟩) (fun _ _ _ => ⟨2, _, rfl, fun v H h => h⟩) (fun i w z hw _ => ?_) (bx_ex fun _ _ => ?_) sc_MailNet_init.nd PassesOwn.never
    · obtain ⟨c, hc, rfl⟩ := getI hw
      refine bx_ifret (t_not (t_chainLe x_int (x_dI (x_var 4 rfl)) (x_globI rfl g4))) (fun h => ?_) (fun _ => bx_nil fun σ H s => ⟨(), trivial, s.sub (by (repeat (first | exact Sub.nil | refine Sub.same ?_ | refine Sub.drop ?_)))⟩)
      have := M.c c (List.mem_of_getElem? hc)
      rw [decide_eq_true this.1, decide_eq_true this.2] at h
      cases h
    refine bx_ifret (t_ne (x_len_l rfl ml (x_var 3 rfl)) (x_len_t rfl ml (x_fld 0 T.cl T.nT (x_insB (x_var 1 rfl))))) (fun h => ?_) (fun _ => ?_)
    · rw [List.length_map, List.length_map, M.al] at h
      simp [is] at h
    refine bx_setfld 0 (R := insB (del H x) C (netF K n (ts.map Tr.d))) rfl (by simp) TM.cl TM.nN (x_var 1 rfl) del_same (io_here (io_some iB (io_some io_lstA (io_some io_lstA (io_none (io_none io_nil)))))) iB (by simp) ?_
    refine bx_setfld 0 (R := dat K (tI cs)) rfl (by simp) TM.cl TM.nC (x_tuple_l rfl mt (x_var 2 rfl)) del_same (io_here (io_some iB (io_some io_lstA (io_some io_lstA (io_none (io_none io_nil)))))) io_dat (fun p hp => ?_) ?_
    · rw [List.mem_singleton.mp hp]
      exact ⟨iB, show ¬ (("net" : Str) = "channels") by decide +kernel⟩
    refine bx_setfld 0 (R := dat K (.t (as.map Act.d))) rfl (by simp) TM.cl TM.nA (x_sub (x_tuple_lE rfl mt (x_lcL 5 (fun i w => ∃ a : Act, as[i]? = some a ∧ w = a.d) (x_var 3 rfl) (by rw [List.length_map, M.al]; have := M.tl; omega) sc_MailNet_init.nd (blkOk_by (N := ["self", "net", "channels", "actions", "letters", "action"]) (sc := defScope s_MailNet_init) (by decide +kernel)) (fun _ _ _ _ _ => pg_name (i := 5) sc_MailNet_init.nd rfl (Or.inl rfl))
      (fun s H C cl fp i w hw => ?_))) fun v H' hv => ?_) del_same (io_here (io_some iB (io_some io_lstA (io_some io_lstA (io_none (io_none io_nil)))))) io_dat (fun p hp => ?_) ?_
    · rw [List.getElem?_map] at hw
      cases e : as[i]? with
      | none => rw [e] at hw; cases hw
      | some a =>
        rw [e] at hw
        cases hw
        exact x_sub (x_call (E := E0) (R := dat K a.d) GC hr1 rfl gC FC.kp bC pass0 ⟨(cs, a), M.a a (List.mem_of_getElem? e), by have := M.cl; dsimp only; omega⟩ (a_cons (x_var 5 rfl) (a_cons (x_sub (x_var 2 rfl) fun v H hv => ⟨_, trivial, hv⟩) a_nil)) fun v H H' σ _ _ h => h) fun v H hv => ⟨_, ⟨a, rfl, rfl⟩, hv⟩
    · obtain ⟨w, ⟨ds, ⟨h1, h2⟩, rfl⟩, hv⟩ := hv
      have e : ds = as.map Act.d := by
        apply List.ext_getElem?
        intro i
        rw [List.length_map] at h1
        rw [List.getElem?_map]
        by_cases hi : i < as.length
        · obtain ⟨a, ha, hw⟩ := h2 i _ (List.getElem?_eq_getElem (show i < ds.length by omega))
          rw [List.getElem?_eq_getElem (show i < ds.length by omega), hw, ha]
          rfl
        · rw [List.getElem?_eq_none (by omega), List.getElem?_eq_none (by omega)]
          rfl
      rw [← e]
      exact hv
    · rcases List.mem_cons.mp hp with rfl | hp
      · exact ⟨io_dat, show ¬ (("channels" : Str) = "actions") by decide +kernel⟩
      · rw [List.mem_singleton.mp hp]
        exact ⟨iB, show ¬ (("net" : Str) = "actions") by decide +kernel⟩
    · refine bx_nil fun σ H' s => ⟨s.ext, ?_⟩
      obtain ⟨v, _, hv⟩ := s.good.get (i := 0) rfl
      obtain rfl : v = .ref x := hv.1
      obtain ⟨h0, dy, fs, h1, h2, h3⟩ := hv
      refine ⟨h0, dy, fs, h1, h2, fun i f R k => ?_⟩
      match i, k with
      | 0, k => exact h3 0 f R k
      | 1, k => exact h3 1 f R k
      | 2, k =>
        cases k
        obtain ⟨u, a, b⟩ := h3 2 "net" _ rfl
        exact ⟨u, a, insR_of b⟩
      | i + 3, k => cases k
  · exact ⟨fun σ' H' _ ⟨e1, h1⟩ => q H' e1 h1, fun v H' _ h => h.elim, fun _ _ _ h => h.elim, fun _ _ _ h => h.elim⟩
end
end Cv

namespace Cv
open PySem PySem.Spec PyProof.Rows L2 RZ
section
variable {d : Option Addr} {P : Program} {w : World} {K : PySem.W.Frag} {mg : Str → Option Value} {base : Heap}
theorem getAct {as : List Act} {k : Nat} {a : Act} (h : as[k]? = some a) : (as.map Act.d)[k]? = some a.d := by rw [List.getElem?_map, h]; rfl
theorem getTr {ts : List Tr} {k : Nat} {t : Tr} (h : ts[k]? = some t) : (ts.map Tr.d)[k]? = some t.d := by rw [List.getElem?_map, h]; rfl
theorem toNat_ {k : Int} (h : 0 ≤ k) : ((k.toNat : Nat) : Int) = k := by omega
theorem can_fire {ts : List Tr} {as : List Act} {c : Cf} {k : Nat} {t : Tr} {a : Act} (h1 : ts[k]? = some t) (h2 : as[k]? = some a) : canB ts as c (.fire (k : Int)) = (covb c.1 t.tk && hearB c.2 a.hs) := by
  show (if 0 ≤ (k : Int) then (match ts[((k : Int)).toNat]?, as[((k : Int)).toNat]? with | some t, some a => covb c.1 t.tk && hearB c.2 a.hs | _, _ => false) else false) = _
  rw [if_pos (by omega), Int.toNat_natCast, h1, h2]
theorem can_out {ts : List Tr} {as : List Act} {c : Cf} {k : Int} (h : ¬ (0 ≤ k ∧ k < (as.length : Int))) : canB ts as c (.fire k) = false := by
  show (if 0 ≤ k then (match ts[k.toNat]?, as[k.toNat]? with | some t, some a => covb c.1 t.tk && hearB c.2 a.hs | _, _ => false) else false) = _
  by_cases hk : 0 ≤ k
  · rw [if_pos hk]
    have : as[k.toNat]? = none := List.getElem?_eq_none (by omega)
    rw [this]
    cases ts[k.toNat]? <;> rfl
  · rw [if_neg hk]
theorem go_fire {n : Nat} {ts : List Tr} {as : List Act} {c : Cf} {k : Nat} {t : Tr} {a : Act} (h1 : ts[k]? = some t) (h2 : as[k]? = some a) : goB n ts as c (.fire (k : Int)) = (fireN t c.1 n, sendW (dropW c.2 a.hs) a.sd) := by
  show (match ts[((k : Int)).toNat]?, as[((k : Int)).toNat]? with | some t, some a => (fireN t c.1 n, sendW (dropW c.2 a.hs) a.sd) | _, _ => c) = _
  rw [Int.toNat_natCast, h1, h2]
theorem sNe : ("fire" : Str) ≠ "lose" := by decide +kernel
abbrev MZ := { z : (Nat × List Tr × List Int × List Act) × Cf × MS // MOk z.1.1 z.1.2.1 z.1.2.2.1 z.1.2.2.2 ∧ CfOk z.1.1 z.1.2.2.1 400 z.2.1 }
theorem ok_can_take {f C CE fI fC fE fL fH CM : Addr} {fd fdC fdE fdL fdH : FuncData} (F : Fun K "can_take" "can_take" s_can_take f fd) (T : FireTxt K mg C CE fI fC fdC) (TM : MailTxt K mg CM) (FE : Fun K "enabled" "enabled" s_enabled fE fdE) (bE : Binds K fdE ["net", "index", "marking"] []) (gE : mg "enabled" = some (.ref fE))
    (FL : Fun K "can_lose" "can_lose" s_can_lose fL fdL) (bL : Binds K fdL ["words", "channel", "position"] []) (gL : mg "can_lose" = some (.ref fL)) (FH : Fun K "hears_first" "hears_first" s_hears_first fH fdH) (bH : Binds K fdH ["words", "hears"] []) (gH : mg "hears_first" = some (.ref fH)) (ml : mg "len" = none) : FnOk P w K mg base CX0 3 f fd ["mail", "config", "step"]
    (spP d (fun (z : MZ) => [insR CM (mailF K C z.1.1.1 (z.1.1.2.1.map Tr.d) z.1.1.2.2.1 z.1.1.2.2.2), dat K (cfD z.1.2.1), dat K z.1.2.2.d]) (fun z _ => rB (canB z.1.1.2.1 z.1.1.2.2.2 z.1.2.1 z.1.2.2))) := by
  refine fn_ok F sc_can_take (fun _ => rfl) (by decide) fun z H cdv A outer s E hr => ?_
  obtain ⟨⟨⟨n, ts, cs, as⟩, c, st⟩, M, Cc⟩ := z
  dsimp only at M Cc ⊢
  have hr1 : Room 1 _ := hr.mono (by decide)
  have hr2 : Room 2 _ := hr.mono (by decide)
  refine bx_unp2 3 4 (x_var 1 rfl) ?_ sc_can_take.nd
  cases st with
  | lose x p =>
    refine bx_ifret (t_eqS (x_ixt (w := .s "lose") (x_var 2 rfl) x_int rfl) x_str) (fun _ => ?_) (fun h => ?_)
    · exact bx_retR (x_call (E := E0) (R := rB (loseB c.2 x p)) (ok_can_lose FL ml) hr1 rfl gL FL.kp bL pass0 (c.2, x, p) (a_cons (x_var 4 rfl) (a_cons (x_dI (x_ixt (w := .i x) (x_var 2 rfl) x_int rfl)) (a_cons (x_dI (x_ixt (w := .i p) (x_var 2 rfl) x_int rfl)) a_nil))) fun v H H' σ _ _ h => h) rfl
    · rw [decide_eq_true rfl] at h; cases h
  | fire k =>
    refine bx_ifret (t_eqS (x_ixt (w := .s "fire") (x_var 2 rfl) x_int rfl) x_str) (fun h => ?_) (fun _ => ?_)
    · rw [decide_eq_false sNe] at h; cases h
    refine bx_set 5 (x_dI (x_ixt (w := .i k) (x_var 2 rfl) x_int rfl)) ?_ sc_can_take.nd
    by_cases hk : 0 ≤ k ∧ k < (as.length : Int)
    · obtain ⟨j, rfl⟩ : ∃ j : Nat, k = (j : Int) := ⟨k.toNat, by omega⟩
      obtain ⟨a, ha⟩ : ∃ a, as[j]? = some a := ⟨as[j]'(by omega), List.getElem?_eq_getElem _⟩
      obtain ⟨t, ht⟩ : ∃ t, ts[j]? = some t := ⟨ts[j]'(by have := M.al; omega), List.getElem?_eq_getElem _⟩
      have htk := M.t t (List.mem_of_getElem? ht)
      have hak := M.a a (List.mem_of_getElem? ha)
      rw [can_fire ht ha]
      refine bx_ifret (t_w (w_or (t_not (t_chainLt x_int (x_var 5 rfl) (x_len_t rfl ml (x_fld 0 TM.cl TM.nA (x_var 0 rfl))))) fun _ => w_or1 (t_not (t_val (x_call (E := E0) (R := rB (covb c.1 t.tk)) (ok_enabled FE T) hr2 rfl gE FE.kp bE pass0 ⟨(n, ts.map Tr.d, j, t, c.1), getTr ht, by rw [Cc.m, htk.l1]⟩ (a_cons (x_fld 2 TM.cl TM.nN (x_var 0 rfl)) (a_cons (x_var 5 rfl) (a_cons (x_var 3 rfl) a_nil))) fun v H H' σ _ _ h => h))))) (fun h => ?_) (fun h => ?_)
      · have hc : covb c.1 t.tk = false := by
          rcases h with ⟨_, h⟩ | ⟨h, _⟩
          · cases q : covb c.1 t.tk with
            | true => rw [q] at h; cases h
            | false => rfl
          · rw [List.length_map, decide_eq_true hk.1, decide_eq_true hk.2] at h; cases h
        rw [hc, Bool.false_and]
        exact bx_retR x_bl rfl
      · have hc : covb c.1 t.tk = true := by
          rcases h with ⟨_, h⟩ | ⟨_, h⟩
          · cases q : covb c.1 t.tk with
            | true => rfl
            | false => rw [q] at h; cases h
          · cases h
        rw [hc, Bool.true_and]
        exact bx_retR (x_call (E := E0) (R := rB (hearB c.2 a.hs)) (ok_hears_first FH) hr1 rfl gH FH.kp bH pass0 ⟨(c.2, a.hs), fun p hp => by have := hak.h.lt p hp; have := Cc.w; dsimp only; omega⟩ (a_cons (x_var 4 rfl) (a_cons (x_ixt (w := prsD a.hs) (x_ixt (w := a.d) (x_fld 0 TM.cl TM.nA (x_var 0 rfl)) (x_var 5 rfl) (atI_nat (getAct ha))) x_int rfl) a_nil)) fun v H H' σ _ _ h => h) rfl
    · rw [can_out hk]
      refine bx_ifret (t_w (t_w_or_true (t_not (t_chainLt x_int (x_var 5 rfl) (x_len_t rfl ml (x_fld 0 TM.cl TM.nA (x_var 0 rfl))))) fun q hq => ?_)) (fun _ => bx_retR x_bl rfl) (fun h => by cases h)
      rw [List.length_map] at hq
      cases q with
      | true => rfl
      | false =>
        exfalso
        apply hk
        have h' := hq.symm
        simp only [Bool.not_false, Bool.and_eq_true, decide_eq_true_eq] at h'
        exact ⟨h'.1, h'.2⟩
end
end Cv

namespace Cv
open PySem PySem.Spec PyProof.Rows L2 RZ
section
variable {d : Option Addr} {P : Program} {w : World} {K : PySem.W.Frag} {mg : Str → Option Value} {base : Heap}
/-- the text's part for mail -/
structure MTxt (K : PySem.W.Frag) (mg : Str → Option Value) (C CE CM : Addr) : Prop where
  fire : ∃ fI fC fdC, FireTxt K mg C CE fI fC fdC
  mail : MailTxt K mg CM
  en : ∃ fE fdE, Fun K "enabled" "enabled" s_enabled fE fdE ∧ Binds K fdE ["net", "index", "marking"] [] ∧ mg "enabled" = some (.ref fE)
  cl : ∃ fE fdE, Fun K "can_lose" "can_lose" s_can_lose fE fdE ∧ Binds K fdE ["words", "channel", "position"] [] ∧ mg "can_lose" = some (.ref fE)
  hf : ∃ fE fdE, Fun K "hears_first" "hears_first" s_hears_first fE fdE ∧ Binds K fdE ["words", "hears"] [] ∧ mg "hears_first" = some (.ref fE)
  wl : ∃ fE fdE, Fun K "without_letter" "without_letter" s_without_letter fE fdE ∧ Binds K fdE ["words", "channel", "position"] [] ∧ mg "without_letter" = some (.ref fE)
  hs : ∃ fE fdE, Fun K "heard_and_sent" "heard_and_sent" s_heard_and_sent fE fdE ∧ Binds K fdE ["words", "hears", "sends"] [] ∧ mg "heard_and_sent" = some (.ref fE)
  fi : ∃ fE fdE, Fun K "fire" "fire" s_fire fE fdE ∧ Binds K fdE ["net", "index", "marking"] [] ∧ mg "fire" = some (.ref fE)
  ml : mg "len" = none
theorem MTxt.can {C CE CM f : Addr} {fd : FuncData} (T : MTxt K mg C CE CM) (F : Fun K "can_take" "can_take" s_can_take f fd) : FnOk P w K mg base CX0 3 f fd ["mail", "config", "step"]
    (spP d (fun (z : MZ) => [insR CM (mailF K C z.1.1.1 (z.1.1.2.1.map Tr.d) z.1.1.2.2.1 z.1.1.2.2.2), dat K (cfD z.1.2.1), dat K z.1.2.2.d]) (fun z _ => rB (canB z.1.1.2.1 z.1.1.2.2.2 z.1.2.1 z.1.2.2))) := by
  obtain ⟨fI, fC, fdC, TF⟩ := T.fire
  obtain ⟨f1, d1, F1, b1, g1⟩ := T.en
  obtain ⟨f2, d2, F2, b2, g2⟩ := T.cl
  obtain ⟨f3, d3, F3, b3, g3⟩ := T.hf
  exact ok_can_take F TF T.mail F1 b1 g1 F2 b2 g2 F3 b3 g3 T.ml
def spTM (d : Option Addr) (K : PySem.W.Frag) (C CE CM : Addr) : Sp := fun vs H Q E => ∃ (n : Nat) (ts : List Tr) (cs : List Int) (as : List Act) (c : Cf) (ss : List MS), RsH (d := d) [insR CM (mailF K C n (ts.map Tr.d) cs as), dat K (cfD c), lst K (ss.map MS.d)] vs H ∧ MOk n ts cs as ∧ CfOk n cs 100 c ∧ ss.length ≤ 100 ∧ (∀ a, d = some a → Drw H a) ∧
  (∀ r, mrun n ts as c ss ss.length = .inl r → ∀ v H', Ext d H H' → (dat (d := d) K (cfD r)).p v H' → Q v H') ∧ (∀ p, mrun n ts as c ss ss.length = .inr p → ∀ dd H1, Ext d H H1 → H1 dd = none → E (.ref CE) (some dd) (upd H1 dd (.xd [(("position" : Str), .int (p : Int))])))
theorem getMS {ss : List MS} {i : Nat} {w : D} (h : (ss.map MS.d)[i]? = some w) : ∃ s, ss[i]? = some s ∧ w = s.d := by
  rw [List.getElem?_map] at h
  cases q : ss[i]? with
  | none => rw [q] at h; cases h
  | some z => rw [q] at h; cases h; exact ⟨z, rfl, rfl⟩
theorem ok_take_mail {f fCt C CE CM : Addr} {fd fdCt : FuncData} (F : Fun K "take_mail" "take_mail" s_take_mail f fd) (T : MTxt K mg C CE CM) (FCt : Fun K "can_take" "can_take" s_can_take fCt fdCt) (bCt : Binds K fdCt ["mail", "config", "step"] []) (gCt : mg "can_take" = some (.ref fCt)) : FnOk P w K mg base (L2N.CX P w) 6 f fd ["mail", "config", "steps"] (spTM d K C CE CM) := by
  obtain ⟨fI, fC, fdC, TF⟩ := T.fire
  obtain ⟨f4, d4, F4, b4, g4⟩ := T.wl
  obtain ⟨f5, d5, F5, b5, g5⟩ := T.hs
  obtain ⟨f6, d6, F6, b6, g6⟩ := T.fi
  refine fn_okN F sc_take_mail (fun vs H Q E ⟨n, ts, cs, as, c, ss, h, _⟩ => by rw [h.len]; rfl) fun vs H Q E hsp cdv A outer s hr => ?_
  obtain ⟨n, ts, cs, as, c0, ss, hvs, M, Cc, hss, hdr, hQ, hE⟩ := hsp
  have hr1 : Room 1 _ := hr.mono (by decide)
  have hr3 : Room 3 _ := hr.mono (by decide)
  have hr4 : Room 4 _ := hr.mono (by decide)
  refine ⟨St H [some (insR CM (mailF K C n (ts.map Tr.d) cs as)), some (dat K (cfD c0)), some (lst K (ss.map MS.d)), none, none, none, none, none, none], { nx := fun _ _ => False, rt := fun v H' => Q v H' }, (st_start hvs (by simp) hdr).sub (by (repeat (first | exact Sub.nil | refine Sub.same ?_ | refine Sub.drop ?_))), ?_, ⟨fun _ _ _ h => h.elim, fun v H' _ h => h, fun _ _ _ h => h.elim, fun _ _ _ h => h.elim⟩⟩
  refine bx_unp2 3 4 (x_var 1 rfl) ?_ sc_take_mail.nd
  refine bx_open 2 rfl fun la _ => ?_
  refine bx_forEL 5 6 (fun i (c : Cf) => mrun n ts as c0 ss i = .inl c ∧ CfOk n cs (100 + 2 * i) c ∧ i ≤ ss.length) (fun _ c => [some (insR CM (mailF K C n (ts.map Tr.d) cs as)), none, some (lstA K la (ss.map MS.d)), some (dat K (tI c.1)), some (dat K (wsD c.2)), none, none, none, none]) rfl TF.me (x_var 2 rfl) (fun σ H' s => ⟨c0, ⟨rfl, Cc, Nat.zero_le _⟩, s.sub (by (repeat (first | exact Sub.nil | refine Sub.same ?_ | refine Sub.drop ?_)))⟩) (fun _ _ _ => ⟨2, _, rfl, fun v H h => h⟩) (fun j wd c hw hz => ?_) (bx_ex fun c hz => ?_) sc_take_mail.nd (passes_of rfl)
  · obtain ⟨hz, hcf, _⟩ := hz
    obtain ⟨st, hst, rfl⟩ := getMS hw
    have hjl : j < ss.length := (List.getElem?_eq_some_iff.mp hst).1
    have hstep := mrun_step hz hst
    have hcf4 : CfOk n cs 400 c := hcf.up (by omega)
    refine bx_ifret (t_not (t_val (x_call (E := E0) (R := rB (canB ts as c st)) (T.can (P := P) (w := w) (base := base) FCt) hr3 rfl gCt FCt.kp bCt pass0 ⟨((n, ts, cs, as), c, st), M, hcf4⟩ (a_cons (x_var 0 rfl) (a_cons (x_tup (ds := [tI c.1, wsD c.2]) (a_cons (x_var 3 rfl) (a_cons (x_var 4 rfl) a_nil))) (a_cons (x_var 6 rfl) a_nil))) fun v H H' σ _ _ h => h))) (fun h => ?_) (fun h => ?_)
    · have hcv : canB ts as c st = false := by
        cases q : canB ts as c st with
        | true => rw [q] at h; cases h
        | false => rfl
      rw [hcv, if_neg Bool.false_ne_true] at hstep
      exact bx_raiseNE (E := E) (W := fun cls d' _ H => E cls d' H) TF.low hr (L2N.takes_of rfl rfl rfl rfl) (fun _ _ _ _ h => h) (x_var 5 rfl) (hE j (mrun_stop hstep _ hjl))
    have hcv : canB ts as c st = true := by
      cases q : canB ts as c st with
      | true => rfl
      | false => rw [q] at h; cases h
    rw [hcv, if_pos rfl] at hstep
    have hgo := go_ok M hcf hcv
    refine bx_if (IS H (fun c' : Cf => mrun n ts as c0 ss (j + 1) = .inl c' ∧ CfOk n cs (100 + 2 * (j + 1)) c' ∧ j + 1 ≤ ss.length) (fun c' => [some (insR CM (mailF K C n (ts.map Tr.d) cs as)), none, some (lstA K la (ss.map MS.d)), some (dat K (tI c'.1)), some (dat K (wsD c'.2)), none, none, none, none])) (P := fun q => (q = true → ∃ x p, st = .lose x p) ∧ (q = false → ∃ k, st = .fire k)) ?_ (fun h => ?_) (fun h => ?_) (bx_nil fun σ H s => s)
    · cases st with
      | lose x p => exact t_sub (t_eqS (x_ixt (w := .s "lose") (x_var 6 rfl) x_int rfl) x_str) fun q hq => ⟨fun _ => ⟨x, p, rfl⟩, fun h => by rw [hq] at h; rw [decide_eq_true rfl] at h; cases h⟩
      | fire k => exact t_sub (t_eqS (x_ixt (w := .s "fire") (x_var 6 rfl) x_int rfl) x_str) fun q hq => ⟨fun h => (by rw [hq] at h; rw [decide_eq_false sNe] at h; cases h), fun _ => ⟨k, rfl⟩⟩
    · obtain ⟨x, p, rfl⟩ := h.1 rfl
      have h' : loseB c.2 x p = true := hcv
      unfold loseB at h'
      simp only [Bool.and_eq_true, decide_eq_true_eq] at h'
      obtain ⟨⟨h1, h2⟩, h3, h4⟩ := h'
      refine bx_set 4 (x_call (E := E0) (R := dat K (wsD (dropL c.2 x.toNat p.toNat))) (ok_without_letter F4) hr1 rfl g4 F4.kp b4 pass0 ⟨(c.2, x.toNat, p.toNat), by dsimp only; omega, by have := M.cl; have := hcf.w; dsimp only; omega, by dsimp only; omega, getD_bd hcf4.b _⟩ (a_cons (x_var 4 rfl) (a_cons (x_sub (x_dI (x_ixt (w := .i x) (x_var 6 rfl) x_int rfl)) fun v H hv => by rw [toNat_ h1]; exact hv) (a_cons (x_sub (x_dI (x_ixt (w := .i p) (x_var 6 rfl) x_int rfl)) fun v H hv => by rw [toNat_ h3]; exact hv) a_nil))) fun v H H' σ _ _ h => h) (bx_nil fun σ H s => ⟨(c.1, dropL c.2 x.toNat p.toNat), ⟨hstep, hgo, hjl⟩, s.sub (by (repeat (first | exact Sub.nil | refine Sub.same ?_ | refine Sub.drop ?_)))⟩) sc_take_mail.nd
    · obtain ⟨k, rfl⟩ := h.2 rfl
      have hk : 0 ≤ k ∧ k < (as.length : Int) := by
        by_cases q : 0 ≤ k ∧ k < (as.length : Int)
        · exact q
        · rw [can_out q] at hcv; cases hcv
      obtain ⟨i, rfl⟩ : ∃ i : Nat, k = (i : Int) := ⟨k.toNat, by omega⟩
      obtain ⟨a, ha⟩ : ∃ a, as[i]? = some a := ⟨as[i]'(by omega), List.getElem?_eq_getElem _⟩
      obtain ⟨t, ht⟩ : ∃ t, ts[i]? = some t := ⟨ts[i]'(by have := M.al; omega), List.getElem?_eq_getElem _⟩
      have htk := M.t t (List.mem_of_getElem? ht)
      have hak := M.a a (List.mem_of_getElem? ha)
      rw [can_fire ht ha] at hcv
      rw [go_fire ht ha] at hstep hgo
      simp only [Bool.and_eq_true] at hcv
      have GF : FnOk P w K mg base (L2N.CX P w) 4 f6 d6 ["net", "index", "marking"] (spP d (fun (_ : Unit) => [insR C (netF K n (ts.map Tr.d)), rI (i : Int), dat K (tI c.1)]) (fun _ _ => dat K (tI (fireN t c.1 n)))) :=
        (ok_fire (d := d) F6 TF).imp fun vs H Q E ⟨_, h1, h2, h3⟩ => ⟨n, ts.map Tr.d, i, t, c.1, h1, getTr ht, htk, hcf.m, by have := M.n1; omega, h2, fun _ v H' e hv => h3 v H' e hv, fun hf => by rw [hcv.1] at hf; cases hf⟩
      refine bx_set 3 (x_call (E := E0) (R := dat K (tI (fireN t c.1 n))) GF hr4 rfl g6 F6.kp b6 passN () (a_cons (x_fld 2 T.mail.cl T.mail.nN (x_var 0 rfl)) (a_cons (x_dI (x_ixt (w := .i (i : Int)) (x_var 6 rfl) x_int rfl)) (a_cons (x_var 3 rfl) a_nil))) fun v H H' σ s _ h => h) ?_ sc_take_mail.nd
      refine bx_unp2 7 8 (x_ixt (w := a.d) (x_fld 0 T.mail.cl T.mail.nA (x_var 0 rfl)) (x_dI (x_ixt (w := .i (i : Int)) (x_var 6 rfl) x_int rfl)) (atI_nat (getAct ha))) ?_ sc_take_mail.nd
      have hlh : ∀ p ∈ a.hs, p.1 < c.2.length := fun p hp => by have := hak.h.lt p hp; have := hcf.w; omega
      have hls : ∀ p ∈ a.sd, p.1 < c.2.length := fun p hp => by have := hak.s.lt p hp; have := hcf.w; omega
      have h2s := nd_len hak.s
      have h2c := M.cl
      have h2w := hcf.w
      refine bx_set 4 (x_call (E := E0) (R := dat K (wsD (sendW (dropW c.2 a.hs) a.sd))) (ok_heard_and_sent F5 TF.mL TF.mt) hr1 rfl g5 F5.kp b5 pass0 ⟨(c.2, a.hs, a.sd), hlh, hls, by dsimp only; omega, by dsimp only; omega, hcf4.b⟩ (a_cons (x_var 4 rfl) (a_cons (x_var 7 rfl) (a_cons (x_var 8 rfl) a_nil))) fun v H H' σ _ _ h => h) (bx_nil fun σ H s => ⟨(fireN t c.1 n, sendW (dropW c.2 a.hs) a.sd), ⟨hstep, hgo, hjl⟩, s.sub (by (repeat (first | exact Sub.nil | refine Sub.same ?_ | refine Sub.drop ?_)))⟩) sc_take_mail.nd
  · obtain ⟨hz, _⟩ := hz
    rw [List.length_map] at hz
    exact bx_ret (x_tup (ds := [tI c.1, wsD c.2]) (a_cons (x_var 3 rfl) (a_cons (x_var 4 rfl) a_nil))) fun v σ H' s hv => hQ c hz v H' s.ext hv
/-! ### the law's own -/
/-- a step of the law -/
def oD : Option Cf → D
  | none => .n
  | some c => cfD c
def stepO (n : Nat) (ts : List Tr) (as : List Act) (c : Cf) (s : MS) : Option Cf := if canB ts as c s = true then some (goB n ts as c s) else none
theorem hear_seq : ∀ {ps : Prs} {ws : Wds}, (ps.map (·.1)).Nodup → ∀ i p, ps[i]? = some p → (dropW ws (ps.take i)).getD p.1 [] = ws.getD p.1 [] := fun {ps ws} hnd i p hi => by
  have key : ∀ (qs : Prs) (ws : Wds), (∀ q ∈ qs, ¬ q.1 = p.1) → (dropW ws qs).getD p.1 [] = ws.getD p.1 [] := fun qs => by
    induction qs with
    | nil => intro ws _; rfl
    | cons q r ih =>
      intro ws h
      have := ih (dropS ws q) fun x hx => h x (List.mem_cons_of_mem _ hx)
      show (dropW (dropS ws q) r).getD p.1 [] = _
      rw [this]
      unfold dropS
      rw [List.getD_eq_getElem?_getD, List.getD_eq_getElem?_getD, List.getElem?_set_ne (h q List.mem_cons_self), List.getD_eq_getElem?_getD]
  exact key _ _ (nd_take hnd hi)
theorem ok_lmail_step {f fL fC : Addr} {fd fdL fdC : FuncData} (F : Fun K "_law_mail_step" "_law_mail_step" s_law_mail_step f fd) (FL : Fun K "_law_fire" "_law_fire" s_law_fire fL fdL) (bL : Binds K fdL ["transition", "marking"] []) (gL : mg "_law_fire" = some (.ref fL)) (FC : Fun K "_law_covers" "_law_covers" s_law_covers fC fdC) (bC : Binds K fdC ["first", "second"] []) (gC : mg "_law_covers" = some (.ref fC))
    (ml : mg "len" = none) (mt : mg "tuple" = none) (mL : mg "list" = none) (mr : mg "range" = none) : FnOk P w K mg base CX0 3 f fd ["transitions", "actions", "config", "step"]
    (spP d (fun (z : {z : Addr × Addr × MZ // True}) => [lstA K z.1.1 (z.1.2.2.1.1.2.1.map Tr.d), lstA K z.1.2.1 (z.1.2.2.1.1.2.2.2.map Act.d), dat K (cfD z.1.2.2.1.2.1), dat K z.1.2.2.1.2.2.d]) (fun z _ => dat K (oD (stepO z.1.2.2.1.1.1 z.1.2.2.1.1.2.1 z.1.2.2.1.1.2.2.2 z.1.2.2.1.2.1 z.1.2.2.1.2.2)))) := by
  refine fn_okB F sc_law_mail_step (fun _ => rfl) (by decide) (fun z H => [some (lstB H K z.1.1 (z.1.2.2.1.1.2.1.map Tr.d)), some (lstB H K z.1.2.1 (z.1.2.2.1.1.2.2.2.map Act.d)), some (dat K (cfD z.1.2.2.1.2.1)), some (dat K z.1.2.2.1.2.2.d), none, none, none, none, none, none]) (fun z H σ s => (st_toB 1 rfl (st_toB 0 rfl s)).sub (by (repeat (first | exact Sub.nil | refine Sub.same ?_ | refine Sub.drop ?_)))) fun z H cdv A outer s E hr => ?_
  obtain ⟨⟨la, lb, ⟨⟨⟨n, ts, cs, as⟩, c, st⟩, M, Cc⟩⟩, _⟩ := z
  dsimp only at M Cc ⊢
  have hr2 : Room 2 _ := hr.mono (by decide)
  have hr1 : Room 1 _ := hr.mono (by decide)
  have hl2 := M.cl
  have hw2 := Cc.w
  refine bx_unp2 4 5 (x_var 2 rfl) ?_ sc_law_mail_step.nd
  cases st with
  | lose x p =>
    have hS : stepO n ts as c (.lose x p) = if loseB c.2 x p = true then some (c.1, dropL c.2 x.toNat p.toNat) else none := rfl
    rw [hS]
    refine bx_ifret (t_eqS (x_ixt (w := .s "lose") (x_var 3 rfl) x_int rfl) x_str) (fun _ => ?_) (fun h => ?_)
    rotate_left
    · rw [decide_eq_true rfl] at h; cases h
    refine bx_set 6 (x_dI (x_ixt (w := .i x) (x_var 3 rfl) x_int rfl)) ?_ sc_law_mail_step.nd
    have hx3 : ∀ {X : Cx} {B : Hp} {ρ : Ro d} {pos : Pos} {e i : Expr} , True := trivial
    refine bx_ifret (P := fun q => q = !loseB c.2 x p) ?_ (fun h => ?_) (fun h => ?_)
    · by_cases h1 : 0 ≤ x ∧ x < (c.2.length : Int)
      · have hlt : x.toNat < c.2.length := by omega
        refine t_sub (t_w (w_or (t_lt (x_var 6 rfl) x_int) fun _ => w_or (t_ge (x_var 6 rfl) (x_len_t rfl ml (x_var 5 rfl))) fun _ => w_or (t_lt (x_dI (x_ixt (w := .i p) (x_var 3 rfl) x_int rfl)) x_int) fun _ => w_or1 (t_ge (x_dI (x_ixt (w := .i p) (x_var 3 rfl) x_int rfl)) (x_len_t rfl ml (x_ixt (w := tI (c.2.getD x.toNat [])) (x_var 5 rfl) (x_var 6 rfl) ?_))))) fun q hq => ?_
        · have e : x = ((x.toNat : Nat) : Int) := by omega
          rw [e]
          exact atI_nat (by rw [← e]; exact getW hlt)
        · unfold loseB
          rw [decide_eq_true h1.1, decide_eq_true h1.2]
          simp only [is, List.length_map] at hq
          simp only [Bool.true_and]
          rcases hq with ⟨_, ⟨_, ⟨h5, h6⟩ | ⟨h5, h6⟩⟩ | ⟨h5, _⟩⟩ | ⟨h5, _⟩
          · have h5' : ¬ p < 0 := of_decide_eq_false h5.symm
            rw [h6, decide_eq_true (show 0 ≤ p by omega), Bool.true_and]
            by_cases h7 : ((c.2.getD x.toNat []).length : Int) ≤ p
            · rw [decide_eq_true h7, decide_eq_false (show ¬ p < ((c.2.getD x.toNat []).length : Int) by omega)]; rfl
            · rw [decide_eq_false h7, decide_eq_true (show p < ((c.2.getD x.toNat []).length : Int) by omega)]; rfl
          · have h5' : p < 0 := of_decide_eq_true h5.symm
            rw [h6, decide_eq_false (show ¬ 0 ≤ p by omega)]; rfl
          · have := of_decide_eq_true h5.symm
            omega
          · have := of_decide_eq_true h5.symm
            omega
      · have hf : loseB c.2 x p = false := by
          unfold loseB
          by_cases h0 : 0 ≤ x
          · rw [decide_eq_false (show ¬ x < (c.2.length : Int) by omega), Bool.and_false, Bool.false_and]
          · rw [decide_eq_false h0, Bool.false_and, Bool.false_and]
        rw [hf]
        by_cases h0 : x < 0
        · exact t_w (t_w_or_true (t_lt (x_var 6 rfl) x_int) fun q hq => by rw [hq]; exact decide_eq_true h0)
        · exact t_sub (t_w (w_or (t_lt (x_var 6 rfl) x_int) fun _ => t_w_or_true (t_ge (x_var 6 rfl) (x_len_t rfl ml (x_var 5 rfl))) fun q hq => by rw [hq, List.length_map]; exact decide_eq_true (by omega))) fun q hq => by
            rcases hq with ⟨_, h⟩ | ⟨_, h⟩ <;> exact h
    · have hf : loseB c.2 x p = false := by
        cases q : loseB c.2 x p with
        | true => rw [q] at h; cases h
        | false => rfl
      rw [hf, if_neg Bool.false_ne_true]
      exact bx_retR x_non rfl
    · have hf : loseB c.2 x p = true := by
        cases q : loseB c.2 x p with
        | true => rfl
        | false => rw [q] at h; cases h
      rw [hf, if_pos rfl]
      have h' := hf
      unfold loseB at h'
      simp only [Bool.and_eq_true, decide_eq_true_eq] at h'
      obtain ⟨⟨h1, h2⟩, h3, h4⟩ := h'
      obtain ⟨x', rfl⟩ : ∃ k : Nat, x = (k : Int) := ⟨x.toNat, by omega⟩
      obtain ⟨p', rfl⟩ : ∃ k : Nat, p = (k : Int) := ⟨p.toNat, by omega⟩
      rw [Int.toNat_natCast] at h4 ⊢
      rw [Int.toNat_natCast]
      have hlt : x' < c.2.length := by omega
      have hb := getD_bd Cc.b x'
      refine bx_set 7 (R := dat K (tI ((c.2.getD x' []).take p' ++ (c.2.getD x' []).drop (p' + 1)))) (x_sub (x_catT (x_tlHi (k := p') (x_ixt (x_var 5 rfl) (x_var 6 rfl) (atI_nat (getW hlt))) (x_dI (x_ixt (w := .i (p' : Int)) (x_var 3 rfl) x_int rfl))) (x_tlLo (k := p' + 1) (x_ixt (x_var 5 rfl) (x_var 6 rfl) (atI_nat (getW hlt))) (x_succ (x_dI (x_ixt (w := .i (p' : Int)) (x_var 3 rfl) x_int rfl)))) ?_) fun v H hv => ?_) ?_ sc_law_mail_step.nd
      · simp only [List.length_append, List.length_take, List.length_drop, List.length_map]; omega
      · show DR _ _ (.t (((c.2.getD x' []).take p' ++ (c.2.getD x' []).drop (p' + 1)).map D.i)) _
        rw [List.map_append, List.map_take, List.map_drop]; exact hv
      have e : oD (some (c.1, dropL c.2 x' p')) = .t [tI c.1, .t ((((c.2.map tI).take x') ++ [tI ((c.2.getD x' []).take p' ++ (c.2.getD x' []).drop (p' + 1))]) ++ (c.2.map tI).drop (x' + 1))] := by
        show D.t [tI c.1, .t ((dropL c.2 x' p').map tI)] = _
        unfold dropL
        rw [List.map_append, List.map_append, List.map_take, List.map_drop]
        rfl
      rw [e]
      refine bx_retR (x_tup (ds := [tI c.1, .t ((((c.2.map tI).take x') ++ [tI ((c.2.getD x' []).take p' ++ (c.2.getD x' []).drop (p' + 1))]) ++ (c.2.map tI).drop (x' + 1))]) (a_cons (x_var 4 rfl) (a_cons (x_catT (x_catT (x_tlHi (x_var 5 rfl) (x_var 6 rfl)) (x_tup (ds := [tI ((c.2.getD x' []).take p' ++ (c.2.getD x' []).drop (p' + 1))]) (a_cons (x_var 7 rfl) a_nil)) ?_) (x_tlLo (k := x' + 1) (x_var 5 rfl) (x_succ (x_var 6 rfl))) ?_) a_nil))) rfl
      · simp only [List.length_append, List.length_take, List.length_drop, List.length_map, List.length_cons, List.length_nil]; omega
      · simp only [List.length_append, List.length_take, List.length_drop, List.length_map, List.length_cons, List.length_nil]; omega
  | fire k =>
    refine bx_ifret (t_eqS (x_ixt (w := .s "fire") (x_var 3 rfl) x_int rfl) x_str) (fun h => ?_) (fun _ => ?_)
    · rw [decide_eq_false sNe] at h; cases h
    refine bx_ifret (t_w (w_or (t_lt (x_dI (x_ixt (w := .i k) (x_var 3 rfl) x_int rfl)) x_int) fun _ => w_or1 (t_ge (x_dI (x_ixt (w := .i k) (x_var 3 rfl) x_int rfl)) (x_len_l rfl ml (x_lstB (x_var 0 rfl)))))) (fun h => ?_) (fun h => ?_)
    · have hk : ¬ (0 ≤ k ∧ k < (as.length : Int)) := by
        rw [List.length_map] at h
        have := M.al
        rcases h with ⟨_, h⟩ | ⟨h, _⟩
        · have := of_decide_eq_true h.symm; omega
        · have := of_decide_eq_true h.symm; omega
      unfold stepO
      rw [can_out hk, if_neg Bool.false_ne_true]
      exact bx_retR x_non rfl
    have hk : 0 ≤ k ∧ k < (ts.length : Int) := by
      rw [List.length_map] at h
      rcases h with ⟨h1, h2⟩ | ⟨_, h⟩
      · have := of_decide_eq_false h1.symm
        have := of_decide_eq_false h2.symm
        omega
      · cases h
    obtain ⟨i, rfl⟩ : ∃ i : Nat, k = (i : Int) := ⟨k.toNat, by omega⟩
    obtain ⟨a, ha⟩ : ∃ a, as[i]? = some a := ⟨as[i]'(by have := M.al; omega), List.getElem?_eq_getElem _⟩
    obtain ⟨t, ht⟩ : ∃ t, ts[i]? = some t := ⟨ts[i]'(by omega), List.getElem?_eq_getElem _⟩
    have htk := M.t t (List.mem_of_getElem? ht)
    have hak := M.a a (List.mem_of_getElem? ha)
    have hS : stepO n ts as c (.fire (i : Int)) = if (covb c.1 t.tk && hearB c.2 a.hs) = true then some (fireN t c.1 n, sendW (dropW c.2 a.hs) a.sd) else none := by
      unfold stepO
      rw [can_fire ht ha, go_fire ht ha]
    rw [hS]
    have hlh : ∀ p ∈ a.hs, p.1 < c.2.length := fun p hp => by have := hak.h.lt p hp; omega
    have hls : ∀ p ∈ a.sd, p.1 < c.2.length := fun p hp => by have := hak.s.lt p hp; omega
    have h2s := nd_len hak.s
    refine bx_new 8 [] (by simp) (fun B' => x_list_t rfl mL (x_var 5 rfl)) (fun l8 hl8 _ => ?_) sc_law_mail_step.nd
    refine bx_forT 9 (fun i (_ : Unit) => ∀ (k : Nat) p, k < i → a.hs[k]? = some p → (c.2.getD p.1 []).take 1 = [p.2]) (fun j _ => [some (lstB H K la (ts.map Tr.d)), some (lstB H K lb (as.map Act.d)), none, some (dat K (MS.fire (i : Int)).d), some (dat K (tI c.1)), none, none, none, some (own K l8 ((dropW c.2 (a.hs.take j)).map tI)), none]) (x_ixt (w := prsD a.hs) (x_ixl (w := a.d) (x_lstB (x_var 1 rfl)) (x_dI (x_ixt (w := .i (i : Int)) (x_var 3 rfl) x_int rfl)) (atI_nat (getAct ha))) x_int rfl) (fun σ H s => ⟨(), fun _ _ h => absurd h (Nat.not_lt_zero _), s.sub (by (repeat (first | exact Sub.nil | refine Sub.same ?_ | refine Sub.drop ?_)))⟩) (fun j wd z hw hz => ?_) (bx_ex fun z hz => ?_) sc_law_mail_step.nd PassesOwn.never
    · obtain ⟨p, hi, rfl⟩ := getPr hw
      have hlt := hlh p (List.mem_of_getElem? hi)
      have hlt' : p.1 < (dropW c.2 (a.hs.take j)).length := by rw [dropW_len]; exact hlt
      have hseq := hear_seq (ws := c.2) hak.h.nd j p hi
      refine bx_set 6 (x_dI (x_ixt (w := .i (p.1 : Int)) (x_var 9 rfl) x_int rfl)) ?_ sc_law_mail_step.nd
      refine bx_ifret (t_neD (x := tI (((dropW c.2 (a.hs.take j)).getD p.1 []).take 1)) (y := tI [p.2]) (k := 1) (j := 1) hr1.units (x_sub (x_tlHi (k := 1) (x_ixl (x_lstA (x_var 8 rfl)) (x_var 6 rfl) (atI_nat (getW hlt'))) x_int) fun v H hv => by show DR _ _ (.t ((((dropW c.2 (a.hs.take j)).getD p.1 []).take 1).map D.i)) _; rw [List.map_take]; exact hv) (x_tup (ds := [.i p.2]) (a_cons (x_ixt (w := .i p.2) (x_var 9 rfl) x_int rfl) a_nil)) (shp_tI _) (shp_tI _)) (fun h => ?_) (fun h => ?_)
      · have hno : hearB c.2 a.hs = false := hearB_no (List.mem_of_getElem? hi) fun q => by have := h.mpr (by rw [hseq, q]); cases this
        rw [hno, Bool.and_false, if_neg Bool.false_ne_true]
        exact bx_retR x_non rfl
      · have hyes : (c.2.getD p.1 []).take 1 = [p.2] := by
          have := tI_inj (h.mp rfl)
          rw [hseq] at this
          exact this
        refine bx_setitem 8 (w := tI (((dropW c.2 (a.hs.take j)).getD p.1 []).drop 1)) (k := p.1) rfl rfl (x_sub (x_tlLo (k := 1) (x_ixl (x_lstA (x_var 8 rfl)) (x_var 6 rfl) (atI_nat (getW hlt'))) x_int) fun v H hv => by show DR _ _ (.t ((((dropW c.2 (a.hs.take j)).getD p.1 []).drop 1).map D.i)) _; rw [List.map_drop]; exact hv) (x_var 6 rfl) (by rw [List.length_map]; exact hlt') hl8 (by (repeat' (first | exact ia_nil | refine ia_none ?_ | refine ia_some ?_ ?_ | refine ib_here ?_ | refine ib_none ?_ | refine ib_some ?_ ?_ | exact ind_I | exact ind_B | exact ind_dat | exact ind_any | exact ind_drw | exact ind_net | exact ind_dct | exact ind_dcT | exact ind_mail | exact ind_xB | exact ind_lstB (by assumption) | exact ind_own (by assumption) | exact ind_lstA (by assumption) | exact ind_own (Ne.symm (by assumption)) | exact ind_lstA (Ne.symm (by assumption)) | exact ind_tpl | exact ind_ownT (by assumption) | exact ind_ownT (Ne.symm (by assumption)) | exact ind_ll (by assumption) (by assumption) | exact ind_ll (Ne.symm (by assumption)) (by assumption)))) ?_
        refine bx_nil fun σ H s => ⟨(), fun k' p' hk' hp' => ?_, s.sub ?_⟩
        · by_cases hki : k' = j
          · subst hki
            rw [hi] at hp'; cases hp'
            exact hyes
          · exact hz k' p' (by omega) hp'
        · show Sub _ [_, _, _, _, _, _, _, _, _, _]
          have e : (dropW c.2 (a.hs.take (j + 1))).map tI = ((dropW c.2 (a.hs.take j)).map tI).set p.1 (tI (((dropW c.2 (a.hs.take j)).getD p.1 []).drop 1)) := by
            unfold dropW
            rw [foldl_succ hi, dropS, List.map_set]
          rw [e]
          (repeat (first | exact Sub.nil | refine Sub.same ?_ | refine Sub.drop ?_))
    have hyes : hearB c.2 a.hs = true := hearB_yes fun p hp' => by
      obtain ⟨k, hk⟩ := List.getElem?_of_mem hp'
      exact hz k p (by rw [List.length_map]; exact (List.getElem?_eq_some_iff.mp hk).1) hk
    rw [hyes, Bool.and_true, List.length_map, List.take_length]
    refine bx_forT 9 (fun i (_ : Unit) => True) (fun j _ => [some (lstB H K la (ts.map Tr.d)), some (lstB H K lb (as.map Act.d)), none, some (dat K (MS.fire (i : Int)).d), some (dat K (tI c.1)), none, none, none, some (own K l8 ((sendW (dropW c.2 a.hs) (a.sd.take j)).map tI)), none]) (x_ixt (w := prsD a.sd) (x_ixl (w := a.d) (x_lstB (x_var 1 rfl)) (x_dI (x_ixt (w := .i (i : Int)) (x_var 3 rfl) x_int rfl)) (atI_nat (getAct ha))) x_int rfl) (fun σ H s => ⟨(), trivial, s.sub (by (repeat (first | exact Sub.nil | refine Sub.same ?_ | refine Sub.drop ?_)))⟩) (fun j wd z hw hz => ?_) (bx_ex fun z hz => ?_) sc_law_mail_step.nd PassesOwn.never
    · obtain ⟨p, hi, rfl⟩ := getPr hw
      have hlt := hls p (List.mem_of_getElem? hi)
      have hlt' : p.1 < (sendW (dropW c.2 a.hs) (a.sd.take j)).length := by rw [sendW_len, dropW_len]; exact hlt
      have hbd := getD_bd (sendW_bd (ps := a.sd.take j) (dropW_bd (ps := a.hs) Cc.b)) p.1
      have hil : (a.sd.take j).length ≤ 10 := by rw [List.length_take]; omega
      refine bx_set 6 (x_dI (x_ixt (w := .i (p.1 : Int)) (x_var 9 rfl) x_int rfl)) ?_ sc_law_mail_step.nd
      refine bx_setitem 8 (w := tI ((sendW (dropW c.2 a.hs) (a.sd.take j)).getD p.1 [] ++ [p.2])) (k := p.1) rfl rfl (x_sub (x_catT (x_ixl (x_lstA (x_var 8 rfl)) (x_var 6 rfl) (atI_nat (getW hlt'))) (x_tup (ds := [.i p.2]) (a_cons (x_ixt (w := .i p.2) (x_var 9 rfl) x_int rfl) a_nil)) (by simp only [List.length_append, List.length_take, List.length_drop, List.length_map, List.length_cons, List.length_nil]; omega)) fun v H hv => by show DR _ _ (.t (((sendW (dropW c.2 a.hs) (a.sd.take j)).getD p.1 [] ++ [p.2]).map D.i)) _; rw [List.map_append]; exact hv) (x_var 6 rfl) (by rw [List.length_map]; exact hlt') hl8 (by (repeat' (first | exact ia_nil | refine ia_none ?_ | refine ia_some ?_ ?_ | refine ib_here ?_ | refine ib_none ?_ | refine ib_some ?_ ?_ | exact ind_I | exact ind_B | exact ind_dat | exact ind_any | exact ind_drw | exact ind_net | exact ind_dct | exact ind_dcT | exact ind_mail | exact ind_xB | exact ind_lstB (by assumption) | exact ind_own (by assumption) | exact ind_lstA (by assumption) | exact ind_own (Ne.symm (by assumption)) | exact ind_lstA (Ne.symm (by assumption)) | exact ind_tpl | exact ind_ownT (by assumption) | exact ind_ownT (Ne.symm (by assumption)) | exact ind_ll (by assumption) (by assumption) | exact ind_ll (Ne.symm (by assumption)) (by assumption)))) ?_
      refine bx_nil fun σ H s => ⟨(), trivial, s.sub ?_⟩
      show Sub _ [_, _, _, _, _, _, _, _, _, _]
      have e : (sendW (dropW c.2 a.hs) (a.sd.take (j + 1))).map tI = ((sendW (dropW c.2 a.hs) (a.sd.take j)).map tI).set p.1 (tI ((sendW (dropW c.2 a.hs) (a.sd.take j)).getD p.1 [] ++ [p.2])) := by
        unfold sendW
        rw [foldl_succ hi, sendS, List.map_set]
      rw [e]
      (repeat (first | exact Sub.nil | refine Sub.same ?_ | refine Sub.drop ?_))
    rw [List.length_map, List.take_length]
    refine bx_set 4 (x_call (E := E0) (R := dat K (lfire n t c.1)) (ok_lfire FL FC bC gC ml mt mL mr) hr2 rfl gL FL.kp bL pass0 ⟨(n, t, c.1), htk, Cc.m, by have := M.n1; dsimp only; omega⟩ (a_cons (x_ixl (w := t.d) (x_lstB (x_var 0 rfl)) (x_dI (x_ixt (w := .i (i : Int)) (x_var 3 rfl) x_int rfl)) (atI_nat (getTr ht))) (a_cons (x_var 4 rfl) a_nil)) fun v H H' σ _ _ h => h) ?_ sc_law_mail_step.nd
    refine bx_ifret (t_isN (x_var 4 rfl)) (fun h => ?_) (fun h => ?_)
    · have hcv : covb c.1 t.tk = false := lfire_n.mp (h.mp rfl)
      rw [hcv, if_neg Bool.false_ne_true]
      exact bx_retR x_non rfl
    · have hcv : covb c.1 t.tk = true := by
        cases q : covb c.1 t.tk with
        | true => rfl
        | false => exact absurd (h.mpr (lfire_n.mpr q)) (by simp)
      rw [hcv, if_pos rfl]
      rw [lfire_yes hcv]
      exact bx_retR (x_tup (ds := [tI (fireN t c.1 n), wsD (sendW (dropW c.2 a.hs) a.sd)]) (a_cons (x_var 4 rfl) (a_cons (x_tuple_l rfl mt (x_lstA (x_var 8 rfl))) a_nil))) rfl
end
end Cv

namespace Cv
open PySem PySem.Spec PyProof.Rows L2 RZ
section
variable {d : Option Addr} {P : Program} {w : World} {K : PySem.W.Frag} {mg : Str → Option Value} {base : Heap}
theorem all2_2 {P Q : D → Prop} {ds : List D} (h : All2 [P, Q] ds) : ∃ a b, ds = [a, b] ∧ P a ∧ Q b := by
  match ds, h with
  | [a, b], ⟨h1, h2, _⟩ => exact ⟨a, b, rfl, h1, h2⟩
  | [], h => exact h.elim
  | [_], ⟨_, h⟩ => exact h.elim
  | _ :: _ :: _ :: _, ⟨_, _, h⟩ => exact h.elim
theorem all2_3 {P Q R : D → Prop} {ds : List D} (h : All2 [P, Q, R] ds) : ∃ a b c, ds = [a, b, c] ∧ P a ∧ Q b ∧ R c := by
  match ds, h with
  | [a, b, c], ⟨h1, h2, h3, _⟩ => exact ⟨a, b, c, rfl, h1, h2, h3⟩
  | [], h => exact h.elim
  | [_], ⟨_, h⟩ => exact h.elim
  | [_, _], ⟨_, _, h⟩ => exact h.elim
  | _ :: _ :: _ :: _ :: _, ⟨_, _, _, h⟩ => exact h.elim
theorem x_eqIE {X : Cx} {B : Hp} {ρ : Ro d} {a b : Expr} {pos : Pos} {P S : Int → Prop} (ha : EX X B ρ a (iE P)) (hb : EX X B ρ b (iE S)) : EX X B ρ (.Compare a [.Eq] [b] pos) (exR (fun _ => True) rB) :=
  x_cmp op_eq (nomark _) ha hb fun x y H σ Q _ ⟨i, hi, hx⟩ ⟨j, hj, hy⟩ q => by
    subst hx; subst hy
    exact ⟨rfl, q _ H (Ext.refl H) ⟨_, trivial, rfl⟩⟩
theorem ok_lword {f fT : Addr} {fd fdT : FuncData} (F : Fun K "_law_word" "_law_word" s_law_word f fd) (FT : Fun K "_law_take" "_law_take" s_law_take fT fdT) (bT : Binds K fdT ["draws", "limit"] []) (gT : mg "_law_take" = some (.ref fT)) (ml : mg "len" = none) (mi : mg "int" = none) (mt : mg "tuple" = none) (mr : mg "range" = none) :
    FnOk P w K mg base CX0 2 f fd ["draws", "letters", "most"] (spP d (fun (z : {z : Int × Int // 1 ≤ z.1 ∧ 0 ≤ z.2 ∧ z.2 ≤ 100}) => [drw, rI z.1.1, rI z.1.2]) (fun z _ => dE K fun w => ∃ ns : List Int, w = tI ns ∧ (ns.length : Int) ≤ z.1.2)) := by
  have GT : FnOk P w K mg base CX0 1 fT fdT ["draws", "limit"] spTake := ok_take FT ml mi
  refine fn_ok F sc_law_word (fun _ => rfl) (by decide) fun z H cdv A outer s E hr => ?_
  obtain ⟨⟨lt, most⟩, h1, h0, hm⟩ := z
  dsimp only at h1 h0 hm ⊢
  refine bx_retR (x_dE (x_tuple_lE rfl mt (x_lcRE (S := fun z => 0 ≤ z ∧ z < most + 1) 3 (fun _ w => ∃ z : Int, True ∧ w = .i z) rfl mr (x_take (E := E0) GT (hr.mono (by decide)) rfl gT FT.kp bT pass0 (x_var 0 rfl) (x_add (x_var 2 rfl) x_int) (by omega)) (fun nn h => by omega) sc_law_word.nd (blkOk_by (N := ["draws", "letters", "most", "k"]) (sc := defScope s_law_word) (by decide +kernel)) (fun _ _ _ _ _ => pg_name (i := 3) sc_law_word.nd rfl (Or.inl rfl))
    (fun s H C cl fp i => x_iEd (x_iE (x_take (E := E0) GT (hr.mono (by decide)) rfl gT FT.kp bT pass0 (x_var 0 rfl) (x_var 1 rfl) (by omega)) fun _ _ => trivial)))) fun z hz => ?_) rfl
  obtain ⟨ds, ⟨⟨nn, hnn, h2⟩, h3⟩, rfl⟩ := hz
  obtain ⟨ns, rfl, _⟩ := ints_of (P := fun _ _ => True) fun k w hk => by
    obtain ⟨z, hz, rfl⟩ := h3 k w hk
    exact ⟨z, rfl, trivial⟩
  exact ⟨ns, rfl, by rw [List.length_map] at h2; omega⟩
/-- words one by one -/
theorem wds_of {b : Nat} : ∀ {ds : List D}, (∀ (k : Nat) (w : D), ds[k]? = some w → ∃ ns : List Int, w = tI ns ∧ (ns.length : Int) ≤ b) → ∃ ws : Wds, ds = ws.map tI ∧ ∀ w ∈ ws, w.length ≤ b
  | [], _ => ⟨[], rfl, fun t h => by cases h⟩
  | e :: ds, h => by
    obtain ⟨t, ht, hok⟩ := h 0 e rfl
    obtain ⟨ts, hts, hall⟩ := wds_of (ds := ds) fun k w hk => h (k + 1) w hk
    exact ⟨t :: ts, by rw [ht, hts]; rfl, fun u hu => by
      rcases List.mem_cons.mp hu with rfl | hu
      · omega
      · exact hall u hu⟩
theorem ok_lconfig {f fT fM fW : Addr} {fd fdT fdM fdW : FuncData} (F : Fun K "_law_config" "_law_config" s_law_config f fd) (FT : Fun K "_law_take" "_law_take" s_law_take fT fdT) (bT : Binds K fdT ["draws", "limit"] []) (gT : mg "_law_take" = some (.ref fT))
    (FM : Fun K "_law_marking" "_law_marking" s_law_marking fM fdM) (bM : Binds K fdM ["draws", "size", "most"] []) (gM : mg "_law_marking" = some (.ref fM)) (FW : Fun K "_law_word" "_law_word" s_law_word fW fdW) (bW : Binds K fdW ["draws", "letters", "most"] []) (gW : mg "_law_word" = some (.ref fW)) (ml : mg "len" = none) (mi : mg "int" = none) (mt : mg "tuple" = none) (mr : mg "range" = none) :
    FnOk P w K mg base CX0 3 f fd ["draws", "places", "channels", "most", "longest"] (spP d (fun (z : {z : Addr × Nat × List Int × Nat × Nat // z.2.1 ≤ 100 ∧ (∀ c ∈ z.2.2.1, 1 ≤ c ∧ c ≤ 4) ∧ z.2.2.1.length ≤ 100 ∧ z.2.2.2.2 ≤ 100}) => [drw, rI (z.1.2.1 : Int), lstA K z.1.1 (z.1.2.2.1.map D.i), rI (z.1.2.2.2.1 : Int), rI (z.1.2.2.2.2 : Int)]) (fun z _ => dE K fun w => ∃ c : Cf, w = cfD c ∧ CfOk z.1.2.1 z.1.2.2.1 z.1.2.2.2.2 c)) := by
  refine fn_ok F sc_law_config (fun _ => rfl) (by decide) fun z H cdv A outer s E hr => ?_
  obtain ⟨⟨la, n, cs, most, lg⟩, hn, hcs, hcl, hlg⟩ := z
  dsimp only at hn hcs hcl hlg ⊢
  have hr2 : Room 2 _ := hr.mono (by decide)
  refine bx_set 5 (x_call (E := E0) (R := dE K fun w => ∃ ms : List Int, w = tI ms ∧ (ms.length : Int) = n) (ok_marking (P := P) (w := w) (base := base) FM FT bT gT ml mi mt mr) hr2 rfl gM FM.kp bM pass0 ⟨((n : Int), (most : Int)), by dsimp only; omega, by dsimp only; omega, by dsimp only; omega⟩ (a_cons (x_var 0 rfl) (a_cons (x_var 1 rfl) (a_cons (x_var 3 rfl) a_nil))) fun v H H' σ s _ ⟨z, ⟨ms, h1, h2, _⟩, h⟩ => ⟨z, ⟨ms, h1, h2⟩, h⟩) (bx_open 5 rfl fun w0 hw0 => ?_) sc_law_config.nd
  obtain ⟨m, rfl, hm⟩ := hw0
  refine bx_retR (x_dE (x_tupE (Ps := [fun w => w = tI m, fun w => ∃ ds, (ds.length = (cs.map D.i).length ∧ ∀ (k : Nat) (w : D), ds[k]? = some w → ∃ ns : List Int, w = tI ns ∧ (ns.length : Int) ≤ lg) ∧ w = .t ds]) (a_cons (x_d (x_var 5 rfl)) (a_cons (x_dE (x_tuple_lE rfl mt (x_lcL 6 (fun _ w => ∃ ns : List Int, w = tI ns ∧ (ns.length : Int) ≤ lg) (x_var 2 rfl) (by rw [List.length_map]; omega) sc_law_config.nd (blkOk_by (N := ["draws", "places", "channels", "most", "longest", "marking", "letters"]) (sc := defScope s_law_config) (by decide +kernel)) (fun _ _ _ _ _ => pg_name (i := 6) sc_law_config.nd rfl (Or.inl rfl))
    (fun s H C cl fp i w hw => ?_))) fun _ h => h) a_nil))) fun z hz => ?_) rfl
  · obtain ⟨c, hc, rfl⟩ := getI hw
    exact x_call (E := E0) (ok_lword (P := P) (w := _) (base := base) FW FT bT gT ml mi mt mr) hr2 rfl gW FW.kp bW pass0 ⟨(c, (lg : Int)), (hcs c (List.mem_of_getElem? hc)).1, by dsimp only; omega, by dsimp only; omega⟩ (a_cons (x_var 0 rfl) (a_cons (x_dI (x_var 6 rfl)) (a_cons (x_var 4 rfl) a_nil))) fun v H H' σ _ _ h => h
  · obtain ⟨ds, h2, rfl⟩ := hz
    obtain ⟨_, _, rfl, rfl, ds, ⟨h3, h4⟩, rfl⟩ := all2_2 h2
    obtain ⟨ws, rfl, h5⟩ := wds_of h4
    rw [List.length_map, List.length_map] at h3
    exact ⟨(m, ws), rfl, ⟨by dsimp only; omega, h3, h5⟩⟩
/-- what a turn of _law_action keeps -/
structure PrB (cs : List Int) (i : Nat) (ps : Prs) : Prop where
  ok : PrsOk cs ps
  lt : ∀ p ∈ ps, p.1 < i
  ln : ps.length ≤ i
theorem PrB.up {cs : List Int} {i : Nat} {ps : Prs} (h : PrB cs i ps) : PrB cs (i + 1) ps := ⟨h.ok, fun p hp => Nat.lt_succ_of_lt (h.lt p hp), Nat.le_succ_of_le h.ln⟩
theorem PrB.snoc {cs : List Int} {i : Nat} {ps : Prs} {z c : Int} (h : PrB cs i ps) (hc : cs[i]? = some c) (h0 : 0 ≤ z) (h1 : z < c) : PrB cs (i + 1) (ps ++ [(i, z)]) := by
  refine ⟨⟨fun p hp => ?_, ?_⟩, fun p hp => ?_, by rw [List.length_append]; have := h.ln; simp; omega⟩
  · rcases List.mem_append.mp hp with hp | hp
    · exact h.ok.at_ p hp
    · rw [List.mem_singleton.mp hp]; exact ⟨c, hc, h0, h1⟩
  · rw [List.map_append, List.nodup_append]
    refine ⟨h.ok.nd, by simp, fun a ha b hb e => ?_⟩
    obtain ⟨p, hp, rfl⟩ := List.mem_map.mp ha
    obtain rfl : b = i := by simpa using hb
    have := h.lt p hp
    omega
  · rcases List.mem_append.mp hp with hp | hp
    · have := h.lt p hp; omega
    · rw [List.mem_singleton.mp hp]; exact Nat.lt_succ_self i
theorem PrsOk.rev {cs : List Int} {ps : Prs} (h : PrsOk cs ps) : PrsOk cs ps.reverse := ⟨fun p hp => h.at_ p (List.mem_reverse.mp hp), by rw [List.map_reverse]; exact List.pairwise_reverse.mpr (h.nd.imp fun h e => h e.symm)⟩
theorem ok_laction {f fT : Addr} {fd fdT : FuncData} (F : Fun K "_law_action" "_law_action" s_law_action f fd) (FT : Fun K "_law_take" "_law_take" s_law_take fT fdT) (bT : Binds K fdT ["draws", "limit"] []) (gT : mg "_law_take" = some (.ref fT)) (ml : mg "len" = none) (mi : mg "int" = none) (mt : mg "tuple" = none) (mr : mg "range" = none) :
    FnOk P w K mg base CX0 2 f fd ["draws", "channels"] (spP d (fun (z : {z : Addr × List Int // (∀ c ∈ z.2, 1 ≤ c ∧ c ≤ 4) ∧ z.2.length ≤ 100}) => [drw, lstA K z.1.1 (z.1.2.map D.i)]) (fun z _ => dE K fun w => ∃ a : Act, w = a.d ∧ ActOk z.1.2 a)) := by
  have GT : FnOk P w K mg base CX0 1 fT fdT ["draws", "limit"] spTake := ok_take FT ml mi
  refine fn_okB F sc_law_action (fun _ => rfl) (by decide) (fun z H => [some drw, some (lstB H K z.1.1 (z.1.2.map D.i)), none, none, none]) (fun z H σ s => (st_toB 1 rfl s).sub (by (repeat (first | exact Sub.nil | refine Sub.same ?_ | refine Sub.drop ?_)))) fun z H cdv A outer s E hr => ?_
  obtain ⟨⟨la, cs⟩, hcs, hcl⟩ := z
  dsimp only at hcs hcl ⊢
  have hr1 : Room 1 _ := hr.mono (by decide)
  refine bx_new 2 [] (by simp) (fun B' => x_lst (ds := []) a_nil) (fun l2 hl2 _ => ?_) sc_law_action.nd
  refine bx_new 3 [l2] (by intro l' h'; rw [List.mem_singleton.mp h']; exact known_own 2 rfl) (fun B' => x_lst (ds := []) a_nil) (fun l3 hl3 hne => ?_) sc_law_action.nd
  have hne' : l3 ≠ l2 := hne l2 (List.mem_singleton.mpr rfl)
  have p0 : PrB cs 0 [] := ⟨⟨fun p h => (by cases h), List.nodup_nil⟩, fun p h => (by cases h), Nat.le_refl _⟩
  refine bx_forR 4 (fun i (z : Prs × Prs) => PrB cs i z.1 ∧ PrB cs i z.2) (fun _ z => [some drw, some (lstB H K la (cs.map D.i)), some (own K l2 (z.1.map pairD)), some (own K l3 (z.2.map pairD)), none]) rfl mr (x_len_l rfl ml (x_lstB (x_var 1 rfl))) (by rw [List.length_map]; omega) (fun σ H' s => ⟨([], []), ⟨p0, p0⟩, s.sub (by (repeat (first | exact Sub.nil | refine Sub.same ?_ | refine Sub.drop ?_)))⟩) (fun i z hi hz => ?_) (bx_ex fun z hz => ?_) sc_law_action.nd PassesOwn.never
  · obtain ⟨hs, sd⟩ := z
    obtain ⟨h1, h2⟩ := hz
    dsimp only at h1 h2 ⊢
    rw [List.length_map] at hi
    have hil : i < cs.length := by omega
    obtain ⟨c, hc⟩ : ∃ c, cs[i]? = some c := ⟨cs[i], List.getElem?_eq_getElem hil⟩
    have hc1 := (hcs c (List.mem_of_getElem? hc)).1
    refine bx_if (IS H (fun (z : Prs) => PrB cs (i + 1) z) (fun z => [some drw, some (lstB H K la (cs.map D.i)), some (own K l2 (z.map pairD)), some (own K l3 (sd.map pairD)), some (rI (i : Int))])) (t_eqE (x_take (E := E0) GT hr1 rfl gT FT.kp bT pass0 (x_var 0 rfl) x_int (by decide)) (x_I x_int)) (fun _ => ?_) (fun _ => bx_nil fun σ H' s => ⟨hs, h1.up, s.sub (by (repeat (first | exact Sub.nil | refine Sub.same ?_ | refine Sub.drop ?_)))⟩) (bx_ex fun hs' h1' => ?_)
    · refine bx_appendE 2 (S := fun w => ∃ ds, All2 [fun w => w = D.i (i : Int), fun w => ∃ z, (0 ≤ z ∧ z < c) ∧ w = D.i z] ds ∧ w = .t ds) rfl rfl (x_tupE (Ps := [fun w => w = D.i (i : Int), fun w => ∃ z, (0 ≤ z ∧ z < c) ∧ w = D.i z]) (a_cons (x_d (x_Id (x_var 4 rfl))) (a_cons (x_iEd (x_take (E := E0) GT hr1 rfl gT FT.kp bT pass0 (x_var 0 rfl) (x_ixlI (x_lstB (x_var 1 rfl)) (x_var 4 rfl) hc) (by omega))) a_nil))) hl2 (by (repeat' (first | exact ia_nil | refine ia_none ?_ | refine ia_some ?_ ?_ | refine ib_here ?_ | refine ib_none ?_ | refine ib_some ?_ ?_ | exact ind_I | exact ind_B | exact ind_dat | exact ind_any | exact ind_drw | exact ind_net | exact ind_dct | exact ind_dcT | exact ind_mail | exact ind_xB | exact ind_lstB (by assumption) | exact ind_own (by assumption) | exact ind_lstA (by assumption) | exact ind_own (Ne.symm (by assumption)) | exact ind_lstA (Ne.symm (by assumption)) | exact ind_tpl | exact ind_ownT (by assumption) | exact ind_ownT (Ne.symm (by assumption)) | exact ind_ll (by assumption) (by assumption) | exact ind_ll (Ne.symm (by assumption)) (by assumption)))) (by rw [List.length_map]; have := h1.ln; omega) fun w hw => ?_
      obtain ⟨ds, h3, rfl⟩ := hw
      obtain ⟨_, _, rfl, rfl, z, hz, rfl⟩ := all2_2 h3
      · refine bx_nil fun σ H' s => ⟨hs ++ [(i, z)], h1.snoc hc hz.1 hz.2, s.sub ?_⟩
        show Sub _ [_, _, _, _, _]
        rw [List.map_append]
        (repeat (first | exact Sub.nil | refine Sub.same ?_ | refine Sub.drop ?_))
    · refine bx_if (IS H (fun (z : Prs × Prs) => PrB cs (i + 1) z.1 ∧ PrB cs (i + 1) z.2) (fun z => [some drw, some (lstB H K la (cs.map D.i)), some (own K l2 (z.1.map pairD)), some (own K l3 (z.2.map pairD)), none])) (t_eqE (x_take (E := E0) GT hr1 rfl gT FT.kp bT pass0 (x_var 0 rfl) x_int (by decide)) (x_I x_int)) (fun _ => ?_) (fun _ => bx_nil fun σ H' s => ⟨(hs', sd), ⟨h1', h2.up⟩, s.sub (by (repeat (first | exact Sub.nil | refine Sub.same ?_ | refine Sub.drop ?_)))⟩) (bx_nil fun σ H s => s)
      refine bx_appendE 3 (S := fun w => ∃ ds, All2 [fun w => w = D.i (i : Int), fun w => ∃ z, (0 ≤ z ∧ z < c) ∧ w = D.i z] ds ∧ w = .t ds) rfl rfl (x_tupE (Ps := [fun w => w = D.i (i : Int), fun w => ∃ z, (0 ≤ z ∧ z < c) ∧ w = D.i z]) (a_cons (x_d (x_Id (x_var 4 rfl))) (a_cons (x_iEd (x_take (E := E0) GT hr1 rfl gT FT.kp bT pass0 (x_var 0 rfl) (x_ixlI (x_lstB (x_var 1 rfl)) (x_var 4 rfl) hc) (by omega))) a_nil))) hl3 (by (repeat' (first | exact ia_nil | refine ia_none ?_ | refine ia_some ?_ ?_ | refine ib_here ?_ | refine ib_none ?_ | refine ib_some ?_ ?_ | exact ind_I | exact ind_B | exact ind_dat | exact ind_any | exact ind_drw | exact ind_net | exact ind_dct | exact ind_dcT | exact ind_mail | exact ind_xB | exact ind_lstB (by assumption) | exact ind_own (by assumption) | exact ind_lstA (by assumption) | exact ind_own (Ne.symm (by assumption)) | exact ind_lstA (Ne.symm (by assumption)) | exact ind_tpl | exact ind_ownT (by assumption) | exact ind_ownT (Ne.symm (by assumption)) | exact ind_ll (by assumption) (by assumption) | exact ind_ll (Ne.symm (by assumption)) (by assumption)))) (by rw [List.length_map]; have := h2.ln; omega) fun w hw => ?_
      obtain ⟨ds, h3, rfl⟩ := hw
      obtain ⟨_, _, rfl, rfl, z, hz, rfl⟩ := all2_2 h3
      · refine bx_nil fun σ H' s => ⟨(hs', sd ++ [(i, z)]), ⟨h1', h2.snoc hc hz.1 hz.2⟩, s.sub ?_⟩
        show Sub _ [_, _, _, _, _]
        rw [List.map_append]
        (repeat (first | exact Sub.nil | refine Sub.same ?_ | refine Sub.drop ?_))
  · obtain ⟨hs, sd⟩ := z
    obtain ⟨h1, h2⟩ := hz
    dsimp only at h1 h2 ⊢
    refine bx_if (IS H (fun (z : Prs) => PrsOk cs z) (fun z => [some drw, some (lstB H K la (cs.map D.i)), some (own K l2 (z.map pairD)), some (own K l3 (sd.map pairD)), none])) (t_w (w_and (t_eq (x_len_l rfl ml (x_lstA (x_var 2 rfl))) x_int) fun _ => w_and1 (t_eqE (x_take (E := E0) GT hr1 rfl gT FT.kp bT pass0 (x_var 0 rfl) x_int (by decide)) (x_I x_int)))) (fun _ => ?_) (fun _ => bx_nil fun σ H' s => ⟨hs, h1.ok, s.sub (by (repeat (first | exact Sub.nil | refine Sub.same ?_ | refine Sub.drop ?_)))⟩) (bx_ex fun hs' h1' => ?_)
    · refine bx_reverse 2 rfl rfl hl2 (by (repeat' (first | exact ia_nil | refine ia_none ?_ | refine ia_some ?_ ?_ | refine ib_here ?_ | refine ib_none ?_ | refine ib_some ?_ ?_ | exact ind_I | exact ind_B | exact ind_dat | exact ind_any | exact ind_drw | exact ind_net | exact ind_dct | exact ind_dcT | exact ind_mail | exact ind_xB | exact ind_lstB (by assumption) | exact ind_own (by assumption) | exact ind_lstA (by assumption) | exact ind_own (Ne.symm (by assumption)) | exact ind_lstA (Ne.symm (by assumption)) | exact ind_tpl | exact ind_ownT (by assumption) | exact ind_ownT (Ne.symm (by assumption)) | exact ind_ll (by assumption) (by assumption) | exact ind_ll (Ne.symm (by assumption)) (by assumption)))) (bx_nil fun σ H' s => ⟨hs.reverse, h1.ok.rev, s.sub ?_⟩)
      show Sub _ [_, _, _, _, _]
      rw [List.map_reverse]
      (repeat (first | exact Sub.nil | refine Sub.same ?_ | refine Sub.drop ?_))
    · exact bx_retR (R := dE K fun w => ∃ a : Act, w = a.d ∧ ActOk cs a) (x_sub (x_tup (ds := [prsD hs', prsD sd]) (a_cons (x_tuple_l rfl mt (x_lstA (x_var 2 rfl))) (a_cons (x_tuple_l rfl mt (x_lstA (x_var 3 rfl))) a_nil))) fun v H' hv => ⟨_, ⟨⟨hs', sd⟩, rfl, ⟨h1', h2.ok⟩⟩, hv⟩) rfl
theorem ok_ldrawn {f fT : Addr} {fd fdT : FuncData} (F : Fun K "_law_drawn_step" "_law_drawn_step" s_law_drawn_step f fd) (FT : Fun K "_law_take" "_law_take" s_law_take fT fdT) (bT : Binds K fdT ["draws", "limit"] []) (gT : mg "_law_take" = some (.ref fT)) (ml : mg "len" = none) (mi : mg "int" = none) :
    FnOk P w K mg base CX0 2 f fd ["draws", "transitions", "channels"] (spP d (fun (z : Addr × Addr × List D × List D) => [drw, lstA K z.1 z.2.2.1, lstA K z.2.1 z.2.2.2]) (fun z _ => dE K fun w => ∃ s : MS, w = s.d)) := by
  have GT : FnOk P w K mg base CX0 1 fT fdT ["draws", "limit"] spTake := ok_take FT ml mi
  refine fn_ok F sc_law_drawn_step (fun _ => rfl) (by decide) fun z H cdv A outer s E hr => ?_
  obtain ⟨la, lb, xs, ys⟩ := z
  dsimp only
  have hr1 : Room 1 _ := hr.mono (by decide)
  refine bx_ifret (t_eqE (x_take (E := E0) GT hr1 rfl gT FT.kp bT pass0 (x_var 0 rfl) x_int (by decide)) (x_I x_int)) (fun _ => ?_) (fun _ => ?_)
  · refine bx_retR (x_dE (x_tupE (Ps := [fun w => w = D.s "lose", fun w => ∃ z : Int, True ∧ w = D.i z, fun w => ∃ z : Int, True ∧ w = D.i z]) (a_cons (x_d x_str) (a_cons (x_iEd (x_iE (x_subE (x_take (E := E0) GT hr1 rfl gT FT.kp bT pass0 (x_var 0 rfl) (x_add (x_len_l rfl ml (x_var 2 rfl)) x_int) (by omega)) (x_I x_int)) fun _ _ => trivial)) (a_cons (x_iEd (x_iE (x_subE (x_take (E := E0) GT hr1 rfl gT FT.kp bT pass0 (x_var 0 rfl) x_int (by decide)) (x_I x_int)) fun _ _ => trivial)) a_nil)))) fun z hz => ?_) rfl
    obtain ⟨ds, h2, rfl⟩ := hz
    obtain ⟨_, _, _, rfl, rfl, ⟨c, _, rfl⟩, p, _, rfl⟩ := all2_3 h2
    exact ⟨.lose c p, rfl⟩
  · refine bx_retR (x_dE (x_tupE (Ps := [fun w => w = D.s "fire", fun w => ∃ z : Int, True ∧ w = D.i z]) (a_cons (x_d x_str) (a_cons (x_iEd (x_iE (x_subE (x_take (E := E0) GT hr1 rfl gT FT.kp bT pass0 (x_var 0 rfl) (x_add (x_len_l rfl ml (x_var 1 rfl)) x_int) (by omega)) (x_I x_int)) fun _ _ => trivial)) a_nil))) fun z hz => ?_) rfl
    obtain ⟨ds, h2, rfl⟩ := hz
    obtain ⟨_, _, rfl, rfl, c, _, rfl⟩ := all2_2 h2
    exact ⟨.fire c, rfl⟩
/-! ### the end -/
def outM : Cf ⊕ Nat → D
  | .inl c => .t [.s "end", cfD c]
  | .inr p => .t [.s "stop", .i (p : Int)]
theorem shp_cf (c : Cf) : Shp 3 (cfD c) := .t fun e he => by
  rcases List.mem_cons.mp he with rfl | he
  · exact shp_tI _
  · obtain rfl := List.mem_singleton.mp he
    exact .t fun e he => by
      obtain ⟨x, _, rfl⟩ := List.mem_map.mp he
      exact shp_tI _
theorem shp_outM (o : Cf ⊕ Nat) : Shp 4 (outM o) := by
  cases o with
  | inl c =>
    refine .t fun e he => ?_
    rcases List.mem_cons.mp he with rfl | he
    · exact .s _ (by decide +kernel)
    · obtain rfl := List.mem_singleton.mp he
      exact shp_cf _
  | inr p =>
    refine .t fun e he => ?_
    rcases List.mem_cons.mp he with rfl | he
    · exact .s _ (by decide +kernel)
    · obtain rfl := List.mem_singleton.mp he
      exact .i _
theorem shp_ms (s : MS) : Shp 1 s.d := by
  cases s with
  | lose c p =>
    refine .t fun e he => ?_
    rcases List.mem_cons.mp he with rfl | he
    · exact .s _ (by decide +kernel)
    · rcases List.mem_cons.mp he with rfl | he
      · exact .i _
      · obtain rfl := List.mem_singleton.mp he
        exact .i _
  | fire k =>
    refine .t fun e he => ?_
    rcases List.mem_cons.mp he with rfl | he
    · exact .s _ (by decide +kernel)
    · obtain rfl := List.mem_singleton.mp he
      exact .i _
theorem ok_outcomeM {f C CE CM fR fCt : Addr} {fd fdR fdCt : FuncData} (F : Fun K "_law_outcome" "_law_outcome" s_law_outcome f fd) (T : MTxt K mg C CE CM) {fI : Addr} (low : PySem.LowX.LowTxt K mg CE fI) (FR : Fun K "take_mail" "take_mail" s_take_mail fR fdR) (bR : Binds K fdR ["mail", "config", "steps"] []) (gR : mg "take_mail" = some (.ref fR)) (FCt : Fun K "can_take" "can_take" s_can_take fCt fdCt) (bCt : Binds K fdCt ["mail", "config", "step"] []) (gCt : mg "can_take" = some (.ref fCt)) : FnOk P w K mg base CX0 8 f fd ["mail", "config", "steps"]
    (spP d (fun (z : {z : Nat × List Tr × List Int × List Act × Cf × List MS // MOk z.1 z.2.1 z.2.2.1 z.2.2.2.1 ∧ CfOk z.1 z.2.2.1 100 z.2.2.2.2.1 ∧ z.2.2.2.2.2.length ≤ 100}) => [insR CM (mailF K C z.1.1 (z.1.2.1.map Tr.d) z.1.2.2.1 z.1.2.2.2.1), dat K (cfD z.1.2.2.2.2.1), lst K (z.1.2.2.2.2.2.map MS.d)]) (fun z _ => dat K (outM (mrun z.1.1 z.1.2.1 z.1.2.2.2.1 z.1.2.2.2.2.1 z.1.2.2.2.2.2 z.1.2.2.2.2.2.length)))) := by
  have GR : FnOk P w K mg base (L2N.CX P w) 6 fR fdR ["mail", "config", "steps"] (spTM d K C CE CM) := ok_take_mail FR T FCt bCt gCt
  refine fn_ok F sc_law_outcome (fun _ => rfl) (by decide) fun z H cdv A outer s E hr => ?_
  obtain ⟨⟨n, ts, cs, as, c, ss⟩, M, Cc, hss⟩ := z
  dsimp only at M Cc hss ⊢
  have hr6 : Room 6 _ := hr.mono (by decide)
  refine bx_pre (Pre' := St H [some (insR CM (mailF K C n (ts.map Tr.d) cs as)), some (dat K (cfD c)), some (lst K (ss.map MS.d)), none]) ?_ (fun σ H s => s.sub (by (repeat (first | exact Sub.nil | refine Sub.same ?_ | refine Sub.drop ?_))))
  refine PSs_wk (pss_one (L2N.ps_try_as (i := 3)
      (tb := fun W => tRet (tTup (tCons (tC (.str "end")) (tCons (tCallS (spTM d K C CE CM) (WE W) (fun σ H' Q => St (d := d) H [some (insR CM (mailF K C n (ts.map Tr.d) cs as)), some (dat K (cfD c)), some (lst K (ss.map MS.d)), none] σ H' ∧ ∀ vs H2, Ext d H' H2 → RsH (d := d) [insR CM (mailF K C n (ts.map Tr.d) cs as), dat K (cfD c), lst K (ss.map MS.d)] vs H2 → Q vs H2)) tNil))))
      (ts := fun a cls d' => tRet (tTup (tCons (tC (.str "stop")) (tCons (tByLow CE a cls d' (tVar 3)) tNil))))
      (Wout := fun _ _ _ _ => False) rfl rfl sc_law_outcome.nd rfl rfl ⟨rfl, by decide, .inl low.gC⟩ takes0N
      (fun W pn xe tk _ => pss_one (ps_ret (pe_tup (pa_cons pe_str (pa_cons (pe_callS GR hr6 rfl gR FR.kp bR (fun σ => L2N.passAt tk σ) (a_cons (x_var 0 rfl) (a_cons (x_var 1 rfl) (a_cons (x_var 2 rfl) a_nil)))) pa_nil)))))
      (fun a oe cls d' pn hz hf => pss_one (ps_ret (pe_tup (pa_cons pe_str (pa_cons (pe_byLow low hz hf (pv 3)) pa_nil))))))) fun D σ H' ⟨st, l⟩ => ?_
  refine ⟨st, fun vs H1 e1 hvs => ?_⟩
  have s1 := st.mono e1
  have hsz : ∀ a b : V, [a, b].length ≤ sizeLine := fun a b => Nat.le_of_lt (small1000 (by simp))
  refine ⟨n, ts, cs, as, c, ss, hvs, M, Cc, hss, s1.dr, fun r hc v H2 e2 hv => ⟨hsz _ _, fun p hp => ?_⟩, fun pp hpp dd H2 e2 hdd => ?_⟩
  · have e3 : Ext d H2 (upd H2 p (.tup [.str "end", v])) := Ext.new hp
    refine l.rt _ _ ((e1.tk.trans e2.tk).trans e3.tk) ⟨((s1.mono e2).mono e3).ext, ?_⟩
    rw [hc]
    refine DR.of_tup (SqT.of upd_same) (DRl.tk e3.tk ⟨rfl, fun i e u a b => ?_⟩)
    match i, a, b with
    | 0, a, b => cases a; cases b; exact .s _
    | 1, a, b => cases a; cases b; exact hv
  · have s2 := s1.mono e2
    have x3 : Ext d H2 (upd H2 dd (.xd [(("position" : Str), V.int (pp : Int))])) := Ext.new hdd
    have s3 := s2.mono x3
    have hlen : σ.length = 4 := st.good.1
    refine ⟨true, low.te, fun _ a ha => ?_, fun q => nomatch q⟩
    have hv3 : (σ.set 3 (some (V.ref a)))[3]? = some (some (V.ref a)) := List.getElem?_set_self (by rw [hlen]; decide)
    refine ⟨.ref a, hv3, rfl, rfl, dd, .int (pp : Int), rfl, upd_same, hsz _ _, fun p hp => ?_⟩
    have e4 : Ext d (upd H2 dd (.xd [(("position" : Str), V.int (pp : Int))])) (upd (upd H2 dd (.xd [(("position" : Str), V.int (pp : Int))])) p (.tup [.str "stop", .int (pp : Int)])) := Ext.new hp
    refine l.rt _ _ (((e1.tk.trans e2.tk).trans x3.tk).trans e4.tk) ⟨(s3.mono e4).ext, ?_⟩
    rw [hpp]
    refine DR.of_tup (SqT.of upd_same) ⟨rfl, fun i e u a b => ?_⟩
    match i, a, b with
    | 0, a, b => cases a; cases b; exact .s _
    | 1, a, b => cases a; cases b; exact .i _
theorem ind_xB {l : Addr} {P : Bool → Prop} : Ind l (exR (d := d) P rB) := ind_ex fun _ => ind_B
theorem ind_mail {l C CM : Addr} {n : Nat} {Ts : List D} {cs : List Int} {as : List Act} : Ind l (insR (d := d) CM (mailF K C n Ts cs as)) := ind_ex fun _ => ind_insA fun p hp => by
  rcases List.mem_cons.mp hp with rfl | hp
  · exact ind_dat
  · rcases List.mem_cons.mp hp with rfl | hp
    · exact ind_dat
    · rw [List.mem_singleton.mp hp]
      exact ind_ex fun _ => ind_insA fun p hp => by
        rcases List.mem_cons.mp hp with rfl | hp
        · exact ind_dat
        · rw [List.mem_singleton.mp hp]; exact ind_I
end
end Cv

namespace Cv
open PySem PySem.Spec PyProof.Rows L2 RZ
def nowM : Cf ⊕ Nat → Option Cf
  | .inl c => some c
  | .inr _ => none
theorem acts_of {cs : List Int} : ∀ {ds : List D}, (∀ (k : Nat) (w : D), ds[k]? = some w → ∃ a : Act, w = a.d ∧ ActOk cs a) → ∃ as : List Act, ds = as.map Act.d ∧ ∀ a ∈ as, ActOk cs a
  | [], _ => ⟨[], rfl, fun t h => (by cases h)⟩
  | e :: ds, h => by
    obtain ⟨t, ht, hok⟩ := h 0 e rfl
    obtain ⟨ts, hts, hall⟩ := acts_of (ds := ds) fun k w hk => h (k + 1) w hk
    exact ⟨t :: ts, by rw [ht, hts]; rfl, fun u hu => by
      rcases List.mem_cons.mp hu with rfl | hu
      · exact hok
      · exact hall u hu⟩
theorem mrun_snoc {n : Nat} {ts : List Tr} {as : List Act} {c c1 : Cf} {ss : List MS} {s : MS} (h : mrun n ts as c ss ss.length = .inl c1) : mrun n ts as c (ss ++ [s]) (ss ++ [s]).length = if canB ts as c1 s = true then .inl (goB n ts as c1 s) else .inr ss.length := by
  have e : (ss ++ [s]).length = ss.length + 1 := by simp
  rw [e]
  exact mrun_step (by rw [mrun_app _ (Nat.le_refl _)]; exact h) (by simp)
theorem mrun_snoc2 {n p : Nat} {ts : List Tr} {as : List Act} {c : Cf} {ss : List MS} {s : MS} (h : mrun n ts as c ss ss.length = .inr p) : mrun n ts as c (ss ++ [s]) (ss ++ [s]).length = .inr p :=
  mrun_stop (j := ss.length) (by rw [mrun_app _ (Nat.le_refl _)]; exact h) _ (by simp)
theorem mrun_ok {n b : Nat} {ts : List Tr} {cs : List Int} {as : List Act} {c : Cf} {ss : List MS} (M : MOk n ts cs as) (C : CfOk n cs b c) : ∀ {j : Nat} {c1 : Cf}, mrun n ts as c ss j = .inl c1 → CfOk n cs (b + 2 * j) c1
  | 0, c1, h => by
    have : c = c1 := Sum.inl.inj h
    rw [← this]; exact C.up (by omega)
  | j + 1, c1, h => by
    cases q : mrun n ts as c ss j with
    | inr p => simp only [mrun, q] at h; cases h
    | inl c2 =>
      have ih := mrun_ok M C q
      cases q1 : ss[j]? with
      | none => simp only [mrun, q, q1] at h; cases h; exact ih.up (by omega)
      | some s =>
        rw [mrun_step q q1] at h
        split at h
        · rename_i hc
          cases h
          exact (go_ok M ih hc).up (by omega)
        · cases h
section
variable {P : Program} {w : World} {K : PySem.W.Frag} {mg : Str → Option Value} {base : Heap}
structure LawTxt (K : PySem.W.Frag) (mg : Str → Option Value) (C CM CE fI : Addr) : Prop where
  net : NetTxt K mg C
  mail : MailTxt K mg CM
  low : PySem.LowX.LowTxt K mg CE fI
  ml : mg "len" = none
  mi : mg "int" = none
  mt : mg "tuple" = none
  mL : mg "list" = none
  mr : mg "range" = none
  mz : mg "zip" = none
  me : mg "enumerate" = none
  ms : mg "isinstance" = none
  mb : mg "bool" = none
theorem ok_law {f C CM CE fI fNI fMI fCm fCov fNum fChk fEn fFi fAf fCp2 fCt fCl fHf fWl fHas fTm fDr fTk fMk fLc fTr fLn fLf fLw fLcf fLac fLms fOut fLds : Addr} {fd dNI dMI dCm dCov dNum dChk dEn dFi dAf dCp2 dCt dCl dHf dWl dHas dTm dDr dTk dMk dLc dTr dLn dLf dLw dLcf dLac dLms dOut dLds : FuncData} {t1 t2 t3 t4 t5 : Tok} (F : Fun K "law" "law" s_law f fd) (T : LawTxt K mg C CM CE fI)
    (FCov : Fun K "covers" "covers" s_covers fCov dCov) (bCov : Binds K dCov ["first", "second"] []) (gCov : mg "covers" = some (.ref fCov))
    (FNum : Fun K "_numbers" "_numbers" s_numbers fNum dNum) (bNum : Binds K dNum ["row", "places", "least", "most"] []) (gNum : mg "_numbers" = some (.ref fNum))
    (FChk : Fun K "_checked" "_checked" s_checked_nets fChk dChk) (bChk : Binds K dChk ["transition", "places"] []) (gChk : mg "checked_nets" = some (.ref fChk))
    (FEn : Fun K "enabled" "enabled" s_enabled fEn dEn) (bEn : Binds K dEn ["net", "index", "marking"] []) (gEn : mg "enabled" = some (.ref fEn))
    (FFi : Fun K "fire" "fire" s_fire fFi dFi) (bFi : Binds K dFi ["net", "index", "marking"] []) (gFi : mg "fire" = some (.ref fFi))
    (FAf : Fun K "after_firing" "after_firing" s_after_firing fAf dAf) (bAf : Binds K dAf ["transition", "marking"] []) (gAf : mg "after_firing" = some (.ref fAf))
    (FCp2 : Fun K "_checked_pairs" "_checked_pairs" s_checked_pairs fCp2 dCp2) (bCp2 : Binds K dCp2 ["pairs", "channels"] []) (gCp2 : mg "_checked_pairs" = some (.ref fCp2))
    (FCt : Fun K "can_take" "can_take" s_can_take fCt dCt) (bCt : Binds K dCt ["mail", "config", "step"] []) (gCt : mg "can_take" = some (.ref fCt))
    (FCl : Fun K "can_lose" "can_lose" s_can_lose fCl dCl) (bCl : Binds K dCl ["words", "channel", "position"] []) (gCl : mg "can_lose" = some (.ref fCl))
    (FHf : Fun K "hears_first" "hears_first" s_hears_first fHf dHf) (bHf : Binds K dHf ["words", "hears"] []) (gHf : mg "hears_first" = some (.ref fHf))
    (FWl : Fun K "without_letter" "without_letter" s_without_letter fWl dWl) (bWl : Binds K dWl ["words", "channel", "position"] []) (gWl : mg "without_letter" = some (.ref fWl))
    (FHas : Fun K "heard_and_sent" "heard_and_sent" s_heard_and_sent fHas dHas) (bHas : Binds K dHas ["words", "hears", "sends"] []) (gHas : mg "heard_and_sent" = some (.ref fHas))
    (FTm : Fun K "take_mail" "take_mail" s_take_mail fTm dTm) (bTm : Binds K dTm ["mail", "config", "steps"] []) (gTm : mg "take_mail" = some (.ref fTm))
    (FDr : Fun K "_law_draws" "_law_draws" s_law_draws fDr dDr) (bDr : Binds K dDr ["script", "count"] []) (gDr : mg "_law_draws" = some (.ref fDr))
    (FTk : Fun K "_law_take" "_law_take" s_law_take fTk dTk) (bTk : Binds K dTk ["draws", "limit"] []) (gTk : mg "_law_take" = some (.ref fTk))
    (FMk : Fun K "_law_marking" "_law_marking" s_law_marking fMk dMk) (bMk : Binds K dMk ["draws", "size", "most"] []) (gMk : mg "_law_marking" = some (.ref fMk))
    (FLc : Fun K "_law_covers" "_law_covers" s_law_covers fLc dLc) (bLc : Binds K dLc ["first", "second"] []) (gLc : mg "_law_covers" = some (.ref fLc))
    (FTr : Fun K "_law_transition" "_law_transition" s_law_transition fTr dTr) (bTr : Binds K dTr ["draws", "places", "plain"] []) (gTr : mg "_law_transition" = some (.ref fTr))
    (FLn : Fun K "_law_net" "_law_net" s_law_net fLn dLn) (bLn : Binds K dLn ["draws", "places", "most", "plain"] []) (gLn : mg "_law_net" = some (.ref fLn))
    (FLf : Fun K "_law_fire" "_law_fire" s_law_fire fLf dLf) (bLf : Binds K dLf ["transition", "marking"] []) (gLf : mg "_law_fire" = some (.ref fLf))
    (FLw : Fun K "_law_word" "_law_word" s_law_word fLw dLw) (bLw : Binds K dLw ["draws", "letters", "most"] []) (gLw : mg "_law_word" = some (.ref fLw))
    (FLcf : Fun K "_law_config" "_law_config" s_law_config fLcf dLcf) (bLcf : Binds K dLcf ["draws", "places", "channels", "most", "longest"] []) (gLcf : mg "_law_config" = some (.ref fLcf))
    (FLac : Fun K "_law_action" "_law_action" s_law_action fLac dLac) (bLac : Binds K dLac ["draws", "channels"] []) (gLac : mg "_law_action" = some (.ref fLac))
    (FLms : Fun K "_law_mail_step" "_law_mail_step" s_law_mail_step fLms dLms) (bLms : Binds K dLms ["transitions", "actions", "config", "step"] []) (gLms : mg "_law_mail_step" = some (.ref fLms))
    (FOut : Fun K "_law_outcome" "_law_outcome" s_law_outcome fOut dOut) (bOut : Binds K dOut ["mail", "config", "steps"] []) (gOut : mg "_law_outcome" = some (.ref fOut))
    (FLds : Fun K "_law_drawn_step" "_law_drawn_step" s_law_drawn_step fLds dLds) (bLds : Binds K dLds ["draws", "transitions", "channels"] []) (gLds : mg "_law_drawn_step" = some (.ref fLds))
    (FCm : Fun K "_checked" "_checked" s_checked_mail fCm dCm) (bCm : Binds K dCm ["action", "channels"] []) (gCm : mg "checked_mail" = some (.ref fCm))
    (FNI : Fun K "__init__" "Net.__init__" s_Net_init fNI dNI) (bNI : Binds K dNI ["self", "places", "transitions"] []) (MNI : Mk K C fNI)
    (gP : mg "MOST_PLACES" = some (.int 12 t1)) (gT : mg "MOST_TRANSITIONS" = some (.int 24 t2)) (gM : mg "MOST_TOKENS" = some (.int 9 t3))
    (FMI : Fun K "__init__" "MailNet.__init__" s_MailNet_init fMI dMI) (bMI : Binds K dMI ["self", "net", "channels", "actions"] []) (MMI : Mk K CM fMI) (g2 : mg "MOST_CHANNELS" = some (.int 2 t4)) (g4 : mg "MOST_LETTERS" = some (.int 4 t5)) : FnOk P w K mg base CX0 9 f fd ["script"] (spLaw K) := by
  have FT : FireTxt K mg C CE fI fCov dCov := ⟨T.net, T.low, FCov, bCov, gCov, T.mz, T.mL, T.mt, T.me, ⟨fAf, dAf, FAf, bAf, gAf⟩⟩
  have TM : MTxt K mg C CE CM := ⟨⟨_, _, _, FT⟩, T.mail, ⟨_, _, FEn, bEn, gEn⟩, ⟨_, _, FCl, bCl, gCl⟩, ⟨_, _, FHf, bHf, gHf⟩, ⟨_, _, FWl, bWl, gWl⟩, ⟨_, _, FHas, bHas, gHas⟩, ⟨_, _, FFi, bFi, gFi⟩, T.ml⟩
  refine fn_okG F sc_law (fun vs H Q E ⟨a, ns, h, _⟩ => by rw [h]; rfl) fun vs H Q E hsp cdv A outer s hr => ?_
  obtain ⟨a, ns, rfl, hS, hlen, q⟩ := hsp
  have r1 : Room 1 _ := hr.mono (by decide)
  have r2 : Room 2 _ := hr.mono (by decide)
  have r3 : Room 3 _ := hr.mono (by decide)
  have r4 : Room 4 _ := hr.mono (by decide)
  refine ⟨St (d := none) H [some (lstB H K a (ns.map D.i)), none, none, none, none, none, none, none, none, none, none, none, none, none, none, none, none, none], { nx := fun _ _ => False, rt := fun v _ => v = .bl true }, ?_, ?_, ⟨fun _ _ _ h => h.elim, fun v H' _ h => by rw [h]; exact q H', fun _ _ _ h => h.elim, fun _ _ _ h => h.elim⟩⟩
  · refine (st_toB (ρ := [some (lstA K a (ns.map D.i)), none, none, none, none, none, none, none, none, none, none, none, none, none, none, none, none, none]) 0 rfl ⟨Ext.refl H, fun _ e => (by cases e), rfl, fun i R e => ?_⟩).sub (by (repeat (first | exact Sub.nil | refine Sub.same ?_ | refine Sub.drop ?_)))
    match i, e with
    | 0, e =>
      cases e
      refine ⟨_, rfl, rfl, trivial, _, ?_, DRl.of_ints ns⟩
      rcases hS with (h | ⟨o, h⟩) | h
      · exact .inl ⟨fun z => (by cases z), h⟩
      · exact .inr (.inl ⟨o, h⟩)
      · exact .inr (.inr h)
    | i + 1, e => match i, e with
      | 0, e => cases e
      | 1, e => cases e
      | 2, e => cases e
      | 3, e => cases e
      | 4, e => cases e
      | 5, e => cases e
      | 6, e => cases e
      | 7, e => cases e
      | 8, e => cases e
      | 9, e => cases e
      | 10, e => cases e
      | 11, e => cases e
      | 12, e => cases e
      | 13, e => cases e
      | 14, e => cases e
      | 15, e => cases e
      | 16, e => cases e
      | i + 17, e => cases e
  -- the draws
  refine bx_newE 1 [] (by simp) (fun B' => x_call (E := E0) (ok_draws (P := P) (w := w) (base := base) FDr T.ml T.mL T.mr T.mi) r1 rfl gDr FDr.kp bDr pass0 ⟨(a, ns, 200), by simp, by simp, by dsimp only; omega⟩ (a_cons (x_lstB (x_var 0 rfl)) (a_cons x_int a_nil)) fun v H H' σ s _ h => newE_up s h) (fun l ds hds hl _ => ?_) sc_law.nd
  obtain ⟨dn, rfl, hdn⟩ := hds
  refine bx_pre (Pre' := St (d := some l) H [some (lstB H K a (ns.map D.i)), some drw, none, none, none, none, none, none, none, none, none, none, none, none, none, none, none, none]) ?_ (fun σ H' s => ?_)
  rotate_left
  · -- from here on the draws are at l
    obtain ⟨v1, h1, rfl, _, vs1, hv1, hd1⟩ := s.good.get (i := 1) rfl
    obtain ⟨v0, h0, hv0⟩ := s.good.get (i := 0) rfl
    refine ⟨⟨fun b o hb _ => s.ext.keep b o hb fun z => (by cases z), fun b hb ⟨ms, _, hm⟩ => by cases hb; rw [hl] at hm; cases hm⟩, fun b hb => ?_, s.good.1, fun i R e => ?_⟩
    · cases hb
      obtain rfl := hd1.ints
      exact ⟨dn, hdn, hv1⟩
    · match i, e with
      | 0, e => cases e; exact ⟨v0, h0, lstB_d (fun l' e => by cases e; exact hl) hv0⟩
      | 1, e => cases e; exact ⟨_, h1, l, rfl, rfl⟩
      | 2, e => cases e
      | 3, e => cases e
      | 4, e => cases e
      | 5, e => cases e
      | 6, e => cases e
      | 7, e => cases e
      | 8, e => cases e
      | 9, e => cases e
      | 10, e => cases e
      | 11, e => cases e
      | 12, e => cases e
      | 13, e => cases e
      | 14, e => cases e
      | 15, e => cases e
      | 16, e => cases e
      | 17, e => cases e
      | i + 18, e => cases e
  have GTk : FnOk P w K mg base CX0 1 fTk dTk ["draws", "limit"] spTake := ok_take FTk T.ml T.mi
  have r8 : Room 8 _ := hr.mono (by decide)
  -- places
  refine bx_set 2 (x_addE (x_I x_int) (x_take (E := E0) GTk r1 rfl gTk FTk.kp bTk pass0 (x_var 1 rfl) x_int (by decide))) (bx_open 2 rfl fun n0 hn0 => ?_) sc_law.nd
  obtain ⟨n, rfl, hn1, hn2⟩ : ∃ n : Nat, n0 = (n : Int) ∧ 1 ≤ n ∧ n ≤ 3 := by
    obtain ⟨i, j, rfl, hj, rfl⟩ := hn0
    exact ⟨(1 + j).toNat, by omega, by omega, by omega⟩
  -- transitions
  refine bx_newE 3 [] (by simp) (fun B' => x_call (E := E0) (ok_lnet (P := P) (w := w) (base := base) FLn FTk bTk gTk FTr bTr gTr T.ml T.mi T.mt T.mL T.mr) r3 rfl gLn FLn.kp bLn pass0 ⟨(n, 3, false), hn1, by dsimp only; omega, by simp, by simp⟩ (a_cons (x_var 1 rfl) (a_cons (x_var 2 rfl) (a_cons x_int (a_cons x_bl a_nil)))) fun v H H' σ s _ h => newE_up s h) (fun l3 ds hds hl3 _ => ?_) sc_law.nd
  obtain ⟨hd1, hd4, hds⟩ := hds
  obtain ⟨ts, rfl, hts⟩ := trs_of hds
  rw [List.length_map] at hd1 hd4
  dsimp only at hd1 hd4 hts
  -- channels
  refine bx_newE 5 [l3] (by intro l' h'; rw [List.mem_singleton.mp h']; exact known_own 3 rfl) (fun B' => x_lcRE (S := fun z => ∃ i j, i = 1 ∧ (0 ≤ j ∧ j < (2 : Int)) ∧ z = i + j) 4 (fun _ w => ∃ z : Int, (1 ≤ z ∧ z ≤ 4) ∧ w = .i z) rfl T.mr (x_addE (x_I x_int) (x_take (E := E0) GTk r1 rfl gTk FTk.kp bTk pass0 (x_var 1 rfl) x_int (by decide))) (fun nn ⟨i, j, h1, h2, h3⟩ => by omega) sc_law.nd (blkOk_by (N := ["script", "draws", "places", "transitions", "k", "channels", "transition", "actions", "mail", "config", "only", "steps", "now", "expected", "step", "after", "can", "passed"]) (sc := defScope s_law) (by decide +kernel)) (fun _ _ _ _ _ => pg_name (i := 4) sc_law.nd rfl (Or.inl rfl))
    (fun s H C cl fp i => x_iEd (x_iE (x_addE (x_I x_int) (x_take (E := E0) GTk r1 rfl gTk FTk.kp bTk pass0 (x_var 1 rfl) x_int (by decide))) fun z ⟨i, j, h1, h2, h3⟩ => by omega))) (fun l5 ds hds hl5 h53 => ?_) sc_law.nd
  obtain ⟨cs, rfl, hcl, hcs⟩ : ∃ cs : List Int, ds = cs.map D.i ∧ cs.length ≤ 2 ∧ ∀ c ∈ cs, 1 ≤ c ∧ c ≤ 4 := by
    obtain ⟨⟨nn, ⟨i, j, h1, h2, h3⟩, h4⟩, h5⟩ := hds
    obtain ⟨cs, rfl, h6⟩ := ints_of (P := fun _ z => 1 ≤ z ∧ z ≤ 4) fun k w hk => let ⟨z, a, b⟩ := h5 k w hk; ⟨z, b, a⟩
    refine ⟨cs, rfl, by rw [List.length_map] at h4; omega, fun c hc => ?_⟩
    obtain ⟨k, hk⟩ := List.getElem?_of_mem hc
    exact h6 k c hk
  replace h53 : l5 ≠ l3 := h53 l3 (by simp)
  -- actions
  refine bx_newA (S := fun ds => ds.length = (ts.map Tr.d).length ∧ ∀ (k : Nat) (w : D), ds[k]? = some w → ∃ a : Act, w = a.d ∧ ActOk cs a) 7 [l3, l5] (by intro l' h'; simp only [List.mem_cons, List.not_mem_nil, or_false] at h'; rcases h' with rfl | rfl; exact known_own 3 rfl; exact known_own 5 rfl) (fun B' => as_lcL 7 6 (fun _ w => ∃ a : Act, w = a.d ∧ ActOk cs a) (x_lstA (x_var 3 rfl)) (by rw [List.length_map]; omega) sc_law.nd (blkOk_by (N := ["script", "draws", "places", "transitions", "k", "channels", "transition", "actions", "mail", "config", "only", "steps", "now", "expected", "step", "after", "can", "passed"]) (sc := defScope s_law) (by decide +kernel)) (fun _ _ _ _ _ => pg_name (i := 6) sc_law.nd rfl (Or.inl rfl))
    (fun s H C cl fp i w hw => x_call (E := E0) (ok_laction (P := P) (w := _) (base := base) FLac FTk bTk gTk T.ml T.mi T.mt T.mr) r2 rfl gLac FLac.kp bLac pass0 ⟨(l5, cs), hcs, by dsimp only; omega⟩ (a_cons (x_var 1 rfl) (a_cons (x_lstA (x_var 5 rfl)) a_nil)) fun v H H' σ _ _ h => h)) (fun l7 ds hds hl7 h7 => ?_)
  obtain ⟨hal, has⟩ := hds
  obtain ⟨as, rfl, haok⟩ := acts_of has
  rw [List.length_map, List.length_map] at hal
  have h73 : l7 ≠ l3 := h7 l3 (by simp)
  have h75 : l7 ≠ l5 := h7 l5 (by simp)
  have M : MOk n ts cs as := ⟨hn1, by omega, by omega, hts, hcl, hcs, hal, haok⟩
  -- mail
  have GN : FnOk P w K mg base CX0 3 fNI dNI ["self", "places", "transitions"] (spI (some l) C (fun (z : {z : Nat × List Tr // 1 ≤ z.1 ∧ z.1 ≤ 12 ∧ z.2.length ≤ 24 ∧ ∀ t ∈ z.2, TrOk z.1 t}) => [rI (z.1.1 : Int), lst K (z.1.2.map Tr.d)]) (fun z => netF K z.1.1 (z.1.2.map Tr.d))) :=
    ok_net FNI T.net FChk bChk gChk FNum bNum gNum gM gP gT T.ml T.mt
  have GM : FnOk P w K mg base CX0 3 fMI dMI ["self", "net", "channels", "actions"] (spI (some l) CM (fun (z : {z : Nat × List Tr × List Int × List Act // MOk z.1 z.2.1 z.2.2.1 z.2.2.2}) => [insR C (netF K z.1.1 (z.1.2.1.map Tr.d)), lst K (z.1.2.2.1.map D.i), lst K (z.1.2.2.2.map Act.d)]) (fun z => mailF K C z.1.1 (z.1.2.1.map Tr.d) z.1.2.2.1 z.1.2.2.2)) :=
    ok_mailnet FMI T.net T.mail FCm bCm gCm FCp2 bCp2 gCp2 g2 g4 T.ml T.mt
  refine bx_set 8 (R := insR CM (mailF K C n (ts.map Tr.d) cs as)) (x_makeZ (E := E0) (F := fun (z : {z : Nat × List Tr × List Int × List Act // MOk z.1 z.2.1 z.2.2.1 z.2.2.2}) => mailF K C z.1.1 (z.1.2.1.map Tr.d) z.1.2.2.1 z.1.2.2.2) ⟨(n, ts, cs, as), M⟩ MMI GM r4 rfl T.mail.gC bMI pass0
    (a_cons (x_makeZ (E := E0) (F := fun (z : {z : Nat × List Tr // 1 ≤ z.1 ∧ z.1 ≤ 12 ∧ z.2.length ≤ 24 ∧ ∀ t ∈ z.2, TrOk z.1 t}) => netF K z.1.1 (z.1.2.map Tr.d)) ⟨(n, ts), hn1, by dsimp only; omega, by dsimp only; omega, hts⟩ MNI GN r4 rfl T.net.gC bNI pass0 (a_cons (x_var 2 rfl) (a_cons (x_sub (x_list_l rfl T.mL (x_lstA (x_var 3 rfl))) fun v H hv => newL_lst hv) a_nil)) rfl)
      (a_cons (x_sub (x_list_l rfl T.mL (x_lstA (x_var 5 rfl))) fun v H hv => newL_lst hv) (a_cons (x_sub (x_list_l rfl T.mL (x_lstA (x_var 7 rfl))) fun v H hv => newL_lst hv) a_nil))) rfl) ?_ sc_law.nd
  -- config
  refine bx_set 9 (x_call (E := E0) (R := dE K fun w => ∃ c : Cf, w = cfD c ∧ CfOk n cs 4 c) (ok_lconfig (P := P) (w := w) (base := base) FLcf FTk bTk gTk FMk bMk gMk FLw bLw gLw T.ml T.mi T.mt T.mr) r3 rfl gLcf FLcf.kp bLcf pass0 ⟨(l5, n, cs, 3, 4), by dsimp only; omega, hcs, by dsimp only; omega, by simp⟩ (a_cons (x_var 1 rfl) (a_cons (x_var 2 rfl) (a_cons (x_lstA (x_var 5 rfl)) (a_cons x_int (a_cons x_int a_nil))))) fun v H H' σ s _ h => h) (bx_open 9 rfl fun w0 hw0 => ?_) sc_law.nd
  obtain ⟨c0, rfl, hc4⟩ := hw0
  have hc0 : CfOk n cs 100 c0 := hc4.up (by omega)
  -- only, steps, now, expected
  refine bx_set 10 (x_eqIE (x_take (E := E0) GTk r1 rfl gTk FTk.kp bTk pass0 (x_var 1 rfl) x_int (by decide)) (x_I x_int)) ?_ sc_law.nd
  refine bx_new 11 [l3, l5, l7] (by intro l' h'; simp only [List.mem_cons, List.not_mem_nil, or_false] at h'; rcases h' with rfl | rfl | rfl; exact known_own 3 rfl; exact known_own 5 rfl; exact known_own 7 rfl) (fun B' => x_lst (ds := []) a_nil) (fun l11 hl11 hne => ?_) sc_law.nd
  have h113 : l11 ≠ l3 := hne l3 (by simp)
  have h115 : l11 ≠ l5 := hne l5 (by simp)
  have h117 : l11 ≠ l7 := hne l7 (by simp)
  refine bx_set 12 (x_var 9 rfl) ?_ sc_law.nd
  refine bx_set 13 (x_tup (ds := [.s "end", cfD c0]) (a_cons x_str (a_cons (x_var 9 rfl) a_nil))) ?_ sc_law.nd
  -- the loop
  refine bx_forRE (S := fun z => 0 ≤ z ∧ z < 16) 4 (fun i (ss : List MS) => ss.length ≤ i ∧ i ≤ 16) (fun _ ss => [none, some drw, some (rI (n : Int)), some (own K l3 (ts.map Tr.d)), none, some (own K l5 (cs.map D.i)), none, some (own K l7 (as.map Act.d)), some (insR CM (mailF K C n (ts.map Tr.d) cs as)), some (dat K (cfD c0)), some (exR (fun _ => True) rB), some (own K l11 (ss.map MS.d)), some (dat K (oD (nowM (mrun n ts as c0 ss ss.length)))), some (dat K (outM (mrun n ts as c0 ss ss.length))), none, none, none, none]) rfl T.mr (x_take (E := E0) GTk r1 rfl gTk FTk.kp bTk pass0 (x_var 1 rfl) x_int (by decide)) (fun nn h => by omega) (fun σ H' s => ⟨[], ⟨Nat.le_refl _, by omega⟩, s.sub (by (repeat (first | exact Sub.nil | refine Sub.same ?_ | refine Sub.drop ?_)))⟩) (fun nn hnn i ss hi hz => ?_) (fun nn hnn => bx_ex fun ss hz => ?_) sc_law.nd PassesOwn.never
  · obtain ⟨hz1, hz2⟩ := hz
    have hi16 : i < 16 := by omega
    -- step
    refine bx_set 14 (x_call (E := E0) (R := dE K fun w => ∃ s : MS, w = s.d) (ok_ldrawn (P := P) (w := w) (base := base) FLds FTk bTk gTk T.ml T.mi) r2 rfl gLds FLds.kp bLds pass0 (l3, l5, ts.map Tr.d, cs.map D.i) (a_cons (x_var 1 rfl) (a_cons (x_lstA (x_var 3 rfl)) (a_cons (x_lstA (x_var 5 rfl)) a_nil))) fun v H H' σ s _ h => h) (bx_open 14 rfl fun w0 hw0 => ?_) sc_law.nd
    obtain ⟨st, rfl⟩ := hw0
    refine bx_set 15 (R := dat K .n) x_non ?_ sc_law.nd
    cases hrun : mrun n ts as c0 ss ss.length with
    | inr p =>
      -- stopped before: now is None
      have hsn := mrun_snoc2 (s := st) hrun
      refine bx_if (IS (d := some l) H (fun (_ : Unit) => True) (fun _ => [none, some drw, some (rI (n : Int)), some (own K l3 (ts.map Tr.d)), none, some (own K l5 (cs.map D.i)), none, some (own K l7 (as.map Act.d)), some (insR CM (mailF K C n (ts.map Tr.d) cs as)), some (dat K (cfD c0)), some (exR (fun _ => True) rB), some (own K l11 (ss.map MS.d)), some (dat K .n), some (dat K (outM (.inr p))), some (dat K st.d), some (dat K .n), none, none])) (t_notN (x := .n) (x_var 12 rfl)) (fun h => ?_) (fun _ => bx_nil fun σ H s => ⟨(), trivial, s.sub (by (repeat (first | exact Sub.nil | refine Sub.same ?_ | refine Sub.drop ?_)))⟩) (bx_ex fun _ _ => ?_)
      · have := h.mpr rfl
        cases this
      refine bx_if (IS (d := some l) H (fun (ss : List MS) => ss.length ≤ i + 1 ∧ i + 1 ≤ 16) (fun ss => [none, some drw, some (rI (n : Int)), some (own K l3 (ts.map Tr.d)), none, some (own K l5 (cs.map D.i)), none, some (own K l7 (as.map Act.d)), some (insR CM (mailF K C n (ts.map Tr.d) cs as)), some (dat K (cfD c0)), some (exR (fun _ => True) rB), some (own K l11 (ss.map MS.d)), some (dat K (oD (nowM (mrun n ts as c0 ss ss.length)))), some (dat K (outM (mrun n ts as c0 ss ss.length))), none, none, none, none])) (t_w (w_or (t_notN (K := K) (x := .n) (x_var 15 rfl)) fun _ => w_or (t_not (t_valE (x_var 10 rfl))) fun _ => w_or1 (t_eqE (x_take (E := E0) GTk r1 rfl gTk FTk.kp bTk pass0 (x_var 1 rfl) x_int (by decide)) (x_I x_int)))) (fun _ => ?_) (fun _ => bx_nil fun σ H s => ⟨ss, ⟨by omega, by omega⟩, s.sub ?_⟩) (bx_nil fun σ H s => s)
      · refine bx_append 11 rfl rfl (x_var 14 rfl) hl11 (by (repeat' (first | exact ia_nil | refine ia_none ?_ | refine ia_some ?_ ?_ | refine ib_here ?_ | refine ib_none ?_ | refine ib_some ?_ ?_ | exact ind_I | exact ind_B | exact ind_dat | exact ind_any | exact ind_drw | exact ind_net | exact ind_dct | exact ind_dcT | exact ind_mail | exact ind_xB | exact ind_lstB (by assumption) | exact ind_own (by assumption) | exact ind_lstA (by assumption) | exact ind_own (Ne.symm (by assumption)) | exact ind_lstA (Ne.symm (by assumption)) | exact ind_tpl | exact ind_ownT (by assumption) | exact ind_ownT (Ne.symm (by assumption)) | exact ind_ll (by assumption) (by assumption) | exact ind_ll (Ne.symm (by assumption)) (by assumption)))) (by rw [List.length_map]; omega) ?_
        refine bx_if (IS (d := some l) H (fun (_ : Unit) => True) (fun _ => [none, some drw, some (rI (n : Int)), some (own K l3 (ts.map Tr.d)), none, some (own K l5 (cs.map D.i)), none, some (own K l7 (as.map Act.d)), some (insR CM (mailF K C n (ts.map Tr.d) cs as)), some (dat K (cfD c0)), some (exR (fun _ => True) rB), some (own K l11 (ss.map MS.d ++ [st.d])), some (dat K .n), some (dat K (outM (.inr p))), some (dat K st.d), some (dat K .n), none, none])) (t_w (w_and (t_notN (x := .n) (x_var 12 rfl)) fun _ => w_and1 (t_isN (x_var 15 rfl)))) (fun h => ?_) (fun _ => bx_nil fun σ H s => ⟨(), trivial, s.sub (by (repeat (first | exact Sub.nil | refine Sub.same ?_ | refine Sub.drop ?_)))⟩) (bx_ex fun _ _ => ?_)
        · rcases h with ⟨h, _⟩ | ⟨_, h⟩
          · have := h.mpr rfl
            cases this
          · cases h
        refine bx_if (IS (d := some l) H (fun (_ : Unit) => True) (fun _ => [none, some drw, some (rI (n : Int)), some (own K l3 (ts.map Tr.d)), none, some (own K l5 (cs.map D.i)), none, some (own K l7 (as.map Act.d)), some (insR CM (mailF K C n (ts.map Tr.d) cs as)), some (dat K (cfD c0)), some (exR (fun _ => True) rB), some (own K l11 (ss.map MS.d ++ [st.d])), some (dat K .n), some (dat K (outM (.inr p))), some (dat K st.d), some (dat K .n), none, none])) (t_notN (x := .n) (x_var 15 rfl)) (fun h => ?_) (fun _ => bx_nil fun σ H s => ⟨(), trivial, s.sub (by (repeat (first | exact Sub.nil | refine Sub.same ?_ | refine Sub.drop ?_)))⟩) (bx_ex fun _ _ => ?_)
        · have := h.mpr rfl
          cases this
        refine bx_set 12 (x_var 15 rfl) (bx_nil fun σ H s => ⟨ss ++ [st], ⟨by rw [List.length_append]; simp; omega, by omega⟩, s.sub ?_⟩) sc_law.nd
        show Sub _ [_, _, _, _, _, _, _, _, _, _, _, _, _, _, _, _, _, _]
        rw [hsn, List.map_append]
        (repeat (first | exact Sub.nil | refine Sub.same ?_ | refine Sub.drop ?_))
      · show Sub _ [_, _, _, _, _, _, _, _, _, _, _, _, _, _, _, _, _, _]
        rw [hrun]
        (repeat (first | exact Sub.nil | refine Sub.same ?_ | refine Sub.drop ?_))
    | inl c1 =>
      have hsn := mrun_snoc (s := st) hrun
      have hc1 : CfOk n cs 400 c1 := (mrun_ok M hc0 hrun).up (by omega)
      have hcn : stepO n ts as c1 st = none ↔ canB ts as c1 st = false := by
        unfold stepO
        cases canB ts as c1 st <;> simp
      have hnow : nowM (.inl c1) = some c1 := rfl
      refine bx_if (IS (d := some l) H (fun (_ : Unit) => True) (fun _ => [none, some drw, some (rI (n : Int)), some (own K l3 (ts.map Tr.d)), none, some (own K l5 (cs.map D.i)), none, some (own K l7 (as.map Act.d)), some (insR CM (mailF K C n (ts.map Tr.d) cs as)), some (dat K (cfD c0)), some (exR (fun _ => True) rB), some (own K l11 (ss.map MS.d)), some (dat K (cfD c1)), some (dat K (outM (.inl c1))), some (dat K st.d), some (dat K (oD (stepO n ts as c1 st))), none, none])) (t_notN (x := cfD c1) (x_var 12 rfl)) (fun _ => ?_) (fun h => ?_) (bx_ex fun _ _ => ?_)
      · refine bx_set 15 (x_call (E := E0) (R := dat K (oD (stepO n ts as c1 st))) (ok_lmail_step (P := P) (w := w) (base := base) FLms FLf bLf gLf FLc bLc gLc T.ml T.mt T.mL T.mr) r3 rfl gLms FLms.kp bLms pass0 ⟨(l3, l7, ⟨((n, ts, cs, as), c1, st), M, hc1⟩), trivial⟩ (a_cons (x_lstA (x_var 3 rfl)) (a_cons (x_lstA (x_var 7 rfl)) (a_cons (x_var 12 rfl) (a_cons (x_var 14 rfl) a_nil)))) fun v H H' σ s _ h => h) ?_ sc_law.nd
        refine bx_set 16 (x_call (E := E0) (R := rB (canB ts as c1 st)) (TM.can (P := P) (w := w) (base := base) FCt) r3 rfl gCt FCt.kp bCt pass0 ⟨((n, ts, cs, as), c1, st), M, hc1⟩ (a_cons (x_var 8 rfl) (a_cons (x_var 12 rfl) (a_cons (x_var 14 rfl) a_nil))) fun v H H' σ s _ h => h) ?_ sc_law.nd
        refine bx_ifret (t_w (w_or (t_not (t_val (x_isi "bool" "bool" true rfl T.ms rfl T.mb (by decide +kernel) rfl (by decide +kernel) (x_Bd (x_var 16 rfl))))) fun _ => w_or1 (t_neBE (x_B (x_var 16 rfl)) (x_notN (x_var 15 rfl))))) (fun h => ?_) (fun _ => bx_nil fun σ H s => ⟨(), trivial, s.sub (by (repeat (first | exact Sub.nil | refine Sub.same ?_ | refine Sub.drop ?_)))⟩)
        rcases h with ⟨_, p, q, hp, hq, hh⟩ | ⟨h, _⟩
        · exfalso
          have hon : oD (stepO n ts as c1 st) = .n ↔ canB ts as c1 st = false := by
            rw [← hcn]
            cases stepO n ts as c1 st with
            | none => exact ⟨fun _ => rfl, fun _ => rfl⟩
            | some c => exact ⟨fun h => (by cases h), fun h => (by cases h)⟩
          rw [hon] at hq
          obtain rfl : p = canB ts as c1 st := hp
          have : canB ts as c1 st = q := by
            cases q with
            | false => exact hq.mp rfl
            | true =>
              cases e : canB ts as c1 st with
              | true => rfl
              | false => have := hq.mpr e; cases this
          rw [decide_eq_true this] at hh
          cases hh
        · simp [is] at h
      · have := h.mp rfl
        cases this
      refine bx_if (IS (d := some l) H (fun (ss : List MS) => ss.length ≤ i + 1 ∧ i + 1 ≤ 16) (fun ss => [none, some drw, some (rI (n : Int)), some (own K l3 (ts.map Tr.d)), none, some (own K l5 (cs.map D.i)), none, some (own K l7 (as.map Act.d)), some (insR CM (mailF K C n (ts.map Tr.d) cs as)), some (dat K (cfD c0)), some (exR (fun _ => True) rB), some (own K l11 (ss.map MS.d)), some (dat K (oD (nowM (mrun n ts as c0 ss ss.length)))), some (dat K (outM (mrun n ts as c0 ss ss.length))), none, none, none, none])) (t_w (w_or (t_notN (x_var 15 rfl)) fun _ => w_or (t_not (t_valE (x_var 10 rfl))) fun _ => w_or1 (t_eqE (x_take (E := E0) GTk r1 rfl gTk FTk.kp bTk pass0 (x_var 1 rfl) x_int (by decide)) (x_I x_int)))) (fun _ => ?_) (fun _ => bx_nil fun σ H s => ⟨ss, ⟨by omega, by omega⟩, s.sub ?_⟩) (bx_nil fun σ H s => s)
      · refine bx_append 11 rfl rfl (x_var 14 rfl) hl11 (by (repeat' (first | exact ia_nil | refine ia_none ?_ | refine ia_some ?_ ?_ | refine ib_here ?_ | refine ib_none ?_ | refine ib_some ?_ ?_ | exact ind_I | exact ind_B | exact ind_dat | exact ind_any | exact ind_drw | exact ind_net | exact ind_dct | exact ind_dcT | exact ind_mail | exact ind_xB | exact ind_lstB (by assumption) | exact ind_own (by assumption) | exact ind_lstA (by assumption) | exact ind_own (Ne.symm (by assumption)) | exact ind_lstA (Ne.symm (by assumption)) | exact ind_tpl | exact ind_ownT (by assumption) | exact ind_ownT (Ne.symm (by assumption)) | exact ind_ll (by assumption) (by assumption) | exact ind_ll (Ne.symm (by assumption)) (by assumption)))) (by rw [List.length_map]; omega) ?_
        cases hcan : canB ts as c1 st with
        | false =>
          have hst : stepO n ts as c1 st = none := hcn.mpr hcan
          rw [hst]
          rw [hcan, if_neg Bool.false_ne_true] at hsn
          refine bx_if (IS (d := some l) H (fun (_ : Unit) => True) (fun _ => [none, some drw, some (rI (n : Int)), some (own K l3 (ts.map Tr.d)), none, some (own K l5 (cs.map D.i)), none, some (own K l7 (as.map Act.d)), some (insR CM (mailF K C n (ts.map Tr.d) cs as)), some (dat K (cfD c0)), some (exR (fun _ => True) rB), some (own K l11 (ss.map MS.d ++ [st.d])), some (dat K (cfD c1)), some (dat K (outM (.inr ss.length))), some (dat K st.d), some (dat K .n), none, none])) (t_w (w_and (t_notN (x := cfD c1) (x_var 12 rfl)) fun _ => w_and1 (t_isN (x := .n) (x_var 15 rfl)))) (fun h => ?_) (fun h => ?_) (bx_ex fun _ _ => ?_)
          · refine bx_set 13 (R := dat K (outM (.inr ss.length))) (x_tup (ds := [.s "stop", .i (ss.length : Int)]) (a_cons x_str (a_cons (x_Id (x_sub (x_sub_ (x_len_l rfl T.ml (x_lstA (x_var 11 rfl))) x_int) fun v H hv => ?_)) a_nil))) (bx_nil fun σ H s => ⟨(), trivial, s.sub (by (repeat (first | exact Sub.nil | refine Sub.same ?_ | refine Sub.drop ?_)))⟩) sc_law.nd
            have e : ((ss.map MS.d ++ [st.d]).length : Int) - 1 = (ss.length : Int) := by rw [List.length_append, List.length_map]; simp
            rw [← e]; exact hv
          · rcases h with ⟨_, h⟩ | ⟨h, _⟩
            · have := h.mpr rfl
              cases this
            · have := h.mp rfl
              cases this
          refine bx_if (IS (d := some l) H (fun (_ : Unit) => True) (fun _ => [none, some drw, some (rI (n : Int)), some (own K l3 (ts.map Tr.d)), none, some (own K l5 (cs.map D.i)), none, some (own K l7 (as.map Act.d)), some (insR CM (mailF K C n (ts.map Tr.d) cs as)), some (dat K (cfD c0)), some (exR (fun _ => True) rB), some (own K l11 (ss.map MS.d ++ [st.d])), some (dat K (cfD c1)), some (dat K (outM (.inr ss.length))), some (dat K st.d), some (dat K .n), none, none])) (t_notN (x := .n) (x_var 15 rfl)) (fun h => ?_) (fun _ => bx_nil fun σ H s => ⟨(), trivial, s.sub (by (repeat (first | exact Sub.nil | refine Sub.same ?_ | refine Sub.drop ?_)))⟩) (bx_ex fun _ _ => ?_)
          · have := h.mpr rfl
            cases this
          refine bx_set 12 (x_var 15 rfl) (bx_nil fun σ H s => ⟨ss ++ [st], ⟨by rw [List.length_append]; simp; omega, by omega⟩, s.sub ?_⟩) sc_law.nd
          show Sub _ [_, _, _, _, _, _, _, _, _, _, _, _, _, _, _, _, _, _]
          rw [hsn, List.map_append]
          (repeat (first | exact Sub.nil | refine Sub.same ?_ | refine Sub.drop ?_))
        | true =>
          have hst : stepO n ts as c1 st = some (goB n ts as c1 st) := by unfold stepO; rw [hcan, if_pos rfl]
          rw [hst]
          rw [hcan, if_pos rfl] at hsn
          refine bx_if (IS (d := some l) H (fun (_ : Unit) => True) (fun _ => [none, some drw, some (rI (n : Int)), some (own K l3 (ts.map Tr.d)), none, some (own K l5 (cs.map D.i)), none, some (own K l7 (as.map Act.d)), some (insR CM (mailF K C n (ts.map Tr.d) cs as)), some (dat K (cfD c0)), some (exR (fun _ => True) rB), some (own K l11 (ss.map MS.d ++ [st.d])), some (dat K (cfD c1)), some (dat K (outM (.inl c1))), some (dat K st.d), some (dat K (cfD (goB n ts as c1 st))), none, none])) (t_w (w_and (t_notN (x := cfD c1) (x_var 12 rfl)) fun _ => w_and1 (t_isN (x := cfD (goB n ts as c1 st)) (x_var 15 rfl)))) (fun h => ?_) (fun _ => bx_nil fun σ H s => ⟨(), trivial, s.sub (by (repeat (first | exact Sub.nil | refine Sub.same ?_ | refine Sub.drop ?_)))⟩) (bx_ex fun _ _ => ?_)
          · rcases h with ⟨_, h⟩ | ⟨_, h⟩
            · have := h.mp rfl
              cases this
            · cases h
          refine bx_if (IS (d := some l) H (fun (_ : Unit) => True) (fun _ => [none, some drw, some (rI (n : Int)), some (own K l3 (ts.map Tr.d)), none, some (own K l5 (cs.map D.i)), none, some (own K l7 (as.map Act.d)), some (insR CM (mailF K C n (ts.map Tr.d) cs as)), some (dat K (cfD c0)), some (exR (fun _ => True) rB), some (own K l11 (ss.map MS.d ++ [st.d])), some (dat K (cfD c1)), some (dat K (outM (.inl (goB n ts as c1 st)))), some (dat K st.d), some (dat K (cfD (goB n ts as c1 st))), none, none])) (t_notN (x := cfD (goB n ts as c1 st)) (x_var 15 rfl)) (fun _ => ?_) (fun h => ?_) (bx_ex fun _ _ => ?_)
          · exact bx_set 13 (R := dat K (outM (.inl (goB n ts as c1 st)))) (x_tup (ds := [.s "end", cfD (goB n ts as c1 st)]) (a_cons x_str (a_cons (x_var 15 rfl) a_nil))) (bx_nil fun σ H s => ⟨(), trivial, s.sub (by (repeat (first | exact Sub.nil | refine Sub.same ?_ | refine Sub.drop ?_)))⟩) sc_law.nd
          · have := h.mp rfl
            cases this
          refine bx_set 12 (x_var 15 rfl) (bx_nil fun σ H s => ⟨ss ++ [st], ⟨by rw [List.length_append]; simp; omega, by omega⟩, s.sub ?_⟩) sc_law.nd
          show Sub _ [_, _, _, _, _, _, _, _, _, _, _, _, _, _, _, _, _, _]
          rw [hsn, List.map_append]
          (repeat (first | exact Sub.nil | refine Sub.same ?_ | refine Sub.drop ?_))
      · show Sub _ [_, _, _, _, _, _, _, _, _, _, _, _, _, _, _, _, _, _]
        rw [hrun]
        (repeat (first | exact Sub.nil | refine Sub.same ?_ | refine Sub.drop ?_))
  · obtain ⟨hz1, hz2⟩ := hz
    -- passed = list(steps)
    refine bx_new 17 [l11] (by intro l' h'; rw [List.mem_singleton.mp h']; exact known_own 11 rfl) (fun B' => x_list_l rfl T.mL (x_lstA (x_var 11 rfl))) (fun l17 hl17 _ => ?_) sc_law.nd
    refine bx_ret (x_and (x_eqD (k := 4) (j := 4) (x := outM (mrun n ts as c0 ss ss.length)) (Room.units r1) (x_call (E := E0) (R := dat K (outM (mrun n ts as c0 ss ss.length))) (ok_outcomeM (P := P) (w := w) (base := base) FOut TM T.low FTm bTm gTm FCt bCt gCt) r8 rfl gOut FOut.kp bOut pass0 ⟨(n, ts, cs, as, c0, ss), M, hc0, by dsimp only; omega⟩ (a_cons (x_var 8 rfl) (a_cons (x_var 9 rfl) (a_cons (x_sub (x_lstA (x_var 17 rfl)) fun v H hv => ⟨_, trivial, hv⟩) a_nil))) fun v H H' σ s _ h => h) (x_var 13 rfl) (shp_outM _) (shp_outM _)) fun _ => x_one (x_eqL (k := 1) (j := 1) (Room.units r1) (x_lstA (x_var 17 rfl)) (x_lstA (x_var 11 rfl)) (fun e he => ?_) (fun e he => ?_))) fun v σ H s hv => ?_
    · obtain ⟨q, _, rfl⟩ := List.mem_map.mp he; exact shp_ms q
    · obtain ⟨q, _, rfl⟩ := List.mem_map.mp he; exact shp_ms q
    · obtain ⟨q, hq, hv⟩ := hv
      have hv' : v = .bl q := hv
      rw [hv']
      show V.bl q = V.bl true
      rcases hq with ⟨_, h⟩ | ⟨h, _⟩
      · rw [h.mpr rfl]
      · have := h.mpr rfl
        cases this
end
end Cv

namespace Cv
open PySem PySem.Spec PyProof.Rows L2 RZ
/-- except S takes what is of S itself -/
theorem exm_own {K : PySem.W.Frag} {S : Addr} (h1 : PySem.W.subIn K (.ref S) (.type "BaseException") = some true) (h2 : PySem.W.isClsIn K S = true) (h3 : PySem.W.typeIn K (.ref S) = some (.type "type")) (h4 : PySem.W.subIn K (.ref S) (.ref S) = some true) : PySem.W.exmOne K (.ref S) (.ref S) = some true := by
  have e1 : (PySem.W.subIn K (.ref S) (.type "BaseException") == some true) = true := by rw [h1] <;> rfl
  have e2 : ((PySem.W.clsIn K S).isSome && PySem.W.typeIn K (.ref S) == some (.type "type")) = true := by
    have h2' : (PySem.W.clsIn K S).isSome = true := h2
    rw [h2', h3] <;> rfl
  show (if (PySem.W.subIn K (.ref S) (.type "BaseException") == some true) = true then (if ((PySem.W.clsIn K S).isSome && PySem.W.typeIn K (.ref S) == some (.type "type")) = true then PySem.W.subIn K (.ref S) (.ref S) else none) else none) = some true
  rw [if_pos e1, if_pos e2]
  exact h4
theorem exm_oth {K : PySem.W.Frag} {S S2 : Addr} (h1 : PySem.W.subIn K (.ref S) (.type "BaseException") = some true) (h2 : PySem.W.isClsIn K S = true) (h3 : PySem.W.typeIn K (.ref S) = some (.type "type")) (h4 : PySem.W.subIn K (.ref S2) (.ref S) = some false) : PySem.W.exmOne K (.ref S2) (.ref S) = some false := by
  have e1 : (PySem.W.subIn K (.ref S) (.type "BaseException") == some true) = true := by rw [h1] <;> rfl
  have e2 : ((PySem.W.clsIn K S).isSome && PySem.W.typeIn K (.ref S) == some (.type "type")) = true := by
    have h2' : (PySem.W.clsIn K S).isSome = true := h2
    rw [h2', h3] <;> rfl
  show (if (PySem.W.subIn K (.ref S) (.type "BaseException") == some true) = true then (if ((PySem.W.clsIn K S).isSome && PySem.W.typeIn K (.ref S) == some (.type "type")) = true then PySem.W.subIn K (.ref S2) (.ref S) else none) else none) = some false
  rw [if_pos e1, if_pos e2]
  exact h4
theorem all_mk {l : PySem.W.OpenLaw} {w : World} {K : PySem.W.Frag} {h : Heap} {mg : Str → Option Value} {fa C CM CE fI f_covers f_Net_init f_checked_nets f_numbers f_enabled f_fire f_after_firing f_MailNet_init f_checked_mail f_checked_pairs f_can_take f_can_lose f_hears_first f_without_letter f_heard_and_sent f_take_mail f_law_draws f_law_take f_law_marking f_law_covers f_law_transition f_law_net f_law_fire f_law_word f_law_config f_law_action f_law_mail_step f_law_outcome f_law_drawn_step f_law : Addr} (X : K.In h) (G : h.Ns mainGlobals mg) (hfa : mg "law" = some (.ref fa))
    {nmE qE : Str} {NE : Addr} {bsE bmE : List Value} {snE : List Str} {subE : List Value} {abE : Bool} {colE : Option Bool} {ddE : Option Addr} {m0 m1 m2 m3 m5 : Option Value}
    {odI anI : Option Addr} {slI : Array (Option Value)} {ocI dcI pmI cdI ctI : Value}
    {od1 an1 : Option Addr} {sl1 : Array (Option Value)} {oc1 kV1 dc1 pm1 cd1 ct1 : Value}
    {od2 an2 : Option Addr} {sl2 : Array (Option Value)} {oc2 kV2 dc2 pm2 cd2 ct2 : Value}
    {od3 an3 : Option Addr} {sl3 : Array (Option Value)} {oc3 kV3 dc3 pm3 cd3 ct3 : Value}
    {od4 an4 : Option Addr} {sl4 : Array (Option Value)} {oc4 kV4 dc4 pm4 cd4 ct4 : Value}
    {od5 an5 : Option Addr} {sl5 : Array (Option Value)} {oc5 kV5 dc5 pm5 cd5 ct5 : Value}
    {od6 an6 : Option Addr} {sl6 : Array (Option Value)} {oc6 kV6 dc6 pm6 cd6 ct6 : Value}
    {od7 an7 : Option Addr} {sl7 : Array (Option Value)} {oc7 kV7 dc7 pm7 cd7 ct7 : Value}
    {od8 an8 : Option Addr} {sl8 : Array (Option Value)} {oc8 kV8 dc8 pm8 cd8 ct8 : Value}
    {od9 an9 : Option Addr} {sl9 : Array (Option Value)} {oc9 kV9 dc9 pm9 cd9 ct9 : Value}
    {od10 an10 : Option Addr} {sl10 : Array (Option Value)} {oc10 kV10 dc10 pm10 cd10 ct10 : Value}
    {od11 an11 : Option Addr} {sl11 : Array (Option Value)} {oc11 kV11 dc11 pm11 cd11 ct11 : Value}
    {od12 an12 : Option Addr} {sl12 : Array (Option Value)} {oc12 kV12 dc12 pm12 cd12 ct12 : Value}
    {od13 an13 : Option Addr} {sl13 : Array (Option Value)} {oc13 kV13 dc13 pm13 cd13 ct13 : Value}
    {od14 an14 : Option Addr} {sl14 : Array (Option Value)} {oc14 kV14 dc14 pm14 cd14 ct14 : Value}
    {od15 an15 : Option Addr} {sl15 : Array (Option Value)} {oc15 kV15 dc15 pm15 cd15 ct15 : Value}
    {od16 an16 : Option Addr} {sl16 : Array (Option Value)} {oc16 kV16 dc16 pm16 cd16 ct16 : Value}
    {od17 an17 : Option Addr} {sl17 : Array (Option Value)} {oc17 kV17 dc17 pm17 cd17 ct17 : Value}
    {od18 an18 : Option Addr} {sl18 : Array (Option Value)} {oc18 kV18 dc18 pm18 cd18 ct18 : Value}
    {od19 an19 : Option Addr} {sl19 : Array (Option Value)} {oc19 kV19 dc19 pm19 cd19 ct19 : Value}
    {od20 an20 : Option Addr} {sl20 : Array (Option Value)} {oc20 kV20 dc20 pm20 cd20 ct20 : Value}
    {od21 an21 : Option Addr} {sl21 : Array (Option Value)} {oc21 kV21 dc21 pm21 cd21 ct21 : Value}
    {od22 an22 : Option Addr} {sl22 : Array (Option Value)} {oc22 kV22 dc22 pm22 cd22 ct22 : Value}
    {od23 an23 : Option Addr} {sl23 : Array (Option Value)} {oc23 kV23 dc23 pm23 cd23 ct23 : Value}
    {od24 an24 : Option Addr} {sl24 : Array (Option Value)} {oc24 kV24 dc24 pm24 cd24 ct24 : Value}
    {od25 an25 : Option Addr} {sl25 : Array (Option Value)} {oc25 kV25 dc25 pm25 cd25 ct25 : Value}
    {od26 an26 : Option Addr} {sl26 : Array (Option Value)} {oc26 kV26 dc26 pm26 cd26 ct26 : Value}
    {od27 an27 : Option Addr} {sl27 : Array (Option Value)} {oc27 kV27 dc27 pm27 cd27 ct27 : Value}
    {od28 an28 : Option Addr} {sl28 : Array (Option Value)} {oc28 kV28 dc28 pm28 cd28 ct28 : Value}
    {od29 an29 : Option Addr} {sl29 : Array (Option Value)} {oc29 kV29 dc29 pm29 cd29 ct29 : Value}
    {od30 an30 : Option Addr} {sl30 : Array (Option Value)} {oc30 kV30 dc30 pm30 cd30 ct30 : Value}
    {tk_MOST_PLACES : Tok}
    {tk_MOST_TRANSITIONS : Tok}
    {tk_MOST_TOKENS : Tok}
    {tk_MOST_CHANNELS : Tok}
    {tk_MOST_LETTERS : Tok}
    (a_C : PySem.W.nsIn K mainGlobals "Net" = some (some (.ref C)))
    (a_CM : PySem.W.nsIn K mainGlobals "MailNet" = some (some (.ref CM)))
    (a_CE : PySem.W.nsIn K mainGlobals "NotEnabled" = some (some (.ref CE)))
    (xE : K.lookup CE = some (excClassObj nmE qE CE NE bsE bmE true snE subE abE colE ddE m0 m1 m2 m3 m5 "ValueError.__new__"))
    (bE : PySem.HandSPX.refsVE bmE = true)
    (saE : PySem.W.findIn K (.ref CE) "__setattr__" = some (some (.builtin "object.__setattr__")))
    (gaE : PySem.W.findIn K (.ref CE) "__getattribute__" = some (some (.builtin "BaseException.__getattribute__")))
    (ggE : PySem.W.findIn K (.ref CE) "__getattr__" = some none)
    (nbE : PySem.W.findIn K (.ref CE) "position" = some none)
    (aI : PySem.W.findIn K (.ref CE) "__init__" = some (some (.ref fI)))
    (tI_ : PySem.W.typeIn K (.ref fI) = some (.type "function"))
    (lI : K.lookup fI = some ⟨ocI, odI, .func (PySem.W.fnOf "__init__" "NotEnabled.__init__" (PySem.LowX.iA ⟨8, 17, 8, 21⟩ ⟨8, 23, 8, 31⟩) (PySem.LowX.iB ⟨9, 8, 9, 12⟩ ⟨9, 8, 9, 21⟩ ⟨9, 24, 9, 32⟩ ⟨9, 8, 9, 32⟩) PySem.LowX.iS .none .none dcI pmI anI cdI ctI), slI⟩)
    (cI : PySem.W.codeIn K cdI "NotEnabled.__init__" = true)
    (kE : PySem.W.keepIn K (.ref CE) = true)
    (exE : PySem.W.subIn K (.ref CE) (.type "BaseException") = some true)
    (tyE : PySem.W.typeIn K (.ref CE) = some (.type "type"))
    (hdE : PySem.W.hasDictIn K CE = true)
    (icE : PySem.W.isClsIn K CE = true)
    (scE : PySem.W.subIn K (.ref CE) (.ref CE) = some true)
    (a1 : PySem.W.nsIn K mainGlobals "covers" = some (some (.ref f_covers)))
    (l1 : K.lookup f_covers = some ⟨oc1, od1, .func (PySem.W.fnOf "covers" "covers" (defArgs s_covers) (defBody s_covers) (defScope s_covers) .none kV1 dc1 pm1 an1 cd1 ct1), sl1⟩)
    (c1 : PySem.W.codeIn K cd1 "covers" = true)
    (k1 : PySem.W.keepIn K (.ref f_covers) = true)
    (a2 : PySem.W.findIn K (.ref C) "__init__" = some (some (.ref f_Net_init)))
    (i2 : PySem.W.isFn K (.ref f_Net_init) = true)
    (l2 : K.lookup f_Net_init = some ⟨oc2, od2, .func (PySem.W.fnOf "__init__" "Net.__init__" (defArgs s_Net_init) (defBody s_Net_init) (defScope s_Net_init) .none kV2 dc2 pm2 an2 cd2 ct2), sl2⟩)
    (c2 : PySem.W.codeIn K cd2 "Net.__init__" = true)
    (k2 : PySem.W.keepIn K (.ref f_Net_init) = true)
    (a3 : PySem.W.nsIn K mainGlobals "checked_nets" = some (some (.ref f_checked_nets)))
    (l3 : K.lookup f_checked_nets = some ⟨oc3, od3, .func (PySem.W.fnOf "_checked" "_checked" (defArgs s_checked_nets) (defBody s_checked_nets) (defScope s_checked_nets) .none kV3 dc3 pm3 an3 cd3 ct3), sl3⟩)
    (c3 : PySem.W.codeIn K cd3 "_checked" = true)
    (k3 : PySem.W.keepIn K (.ref f_checked_nets) = true)
    (a4 : PySem.W.nsIn K mainGlobals "_numbers" = some (some (.ref f_numbers)))
    (l4 : K.lookup f_numbers = some ⟨oc4, od4, .func (PySem.W.fnOf "_numbers" "_numbers" (defArgs s_numbers) (defBody s_numbers) (defScope s_numbers) .none kV4 dc4 pm4 an4 cd4 ct4), sl4⟩)
    (c4 : PySem.W.codeIn K cd4 "_numbers" = true)
    (k4 : PySem.W.keepIn K (.ref f_numbers) = true)
    (a5 : PySem.W.nsIn K mainGlobals "enabled" = some (some (.ref f_enabled)))
    (l5 : K.lookup f_enabled = some ⟨oc5, od5, .func (PySem.W.fnOf "enabled" "enabled" (defArgs s_enabled) (defBody s_enabled) (defScope s_enabled) .none kV5 dc5 pm5 an5 cd5 ct5), sl5⟩)
    (c5 : PySem.W.codeIn K cd5 "enabled" = true)
    (k5 : PySem.W.keepIn K (.ref f_enabled) = true)
    (a6 : PySem.W.nsIn K mainGlobals "fire" = some (some (.ref f_fire)))
    (l6 : K.lookup f_fire = some ⟨oc6, od6, .func (PySem.W.fnOf "fire" "fire" (defArgs s_fire) (defBody s_fire) (defScope s_fire) .none kV6 dc6 pm6 an6 cd6 ct6), sl6⟩)
    (c6 : PySem.W.codeIn K cd6 "fire" = true)
    (k6 : PySem.W.keepIn K (.ref f_fire) = true)
    (a7 : PySem.W.nsIn K mainGlobals "after_firing" = some (some (.ref f_after_firing)))
    (l7 : K.lookup f_after_firing = some ⟨oc7, od7, .func (PySem.W.fnOf "after_firing" "after_firing" (defArgs s_after_firing) (defBody s_after_firing) (defScope s_after_firing) .none kV7 dc7 pm7 an7 cd7 ct7), sl7⟩)
    (c7 : PySem.W.codeIn K cd7 "after_firing" = true)
    (k7 : PySem.W.keepIn K (.ref f_after_firing) = true)
    (a8 : PySem.W.findIn K (.ref CM) "__init__" = some (some (.ref f_MailNet_init)))
    (i8 : PySem.W.isFn K (.ref f_MailNet_init) = true)
    (l8 : K.lookup f_MailNet_init = some ⟨oc8, od8, .func (PySem.W.fnOf "__init__" "MailNet.__init__" (defArgs s_MailNet_init) (defBody s_MailNet_init) (defScope s_MailNet_init) .none kV8 dc8 pm8 an8 cd8 ct8), sl8⟩)
    (c8 : PySem.W.codeIn K cd8 "MailNet.__init__" = true)
    (k8 : PySem.W.keepIn K (.ref f_MailNet_init) = true)
    (a9 : PySem.W.nsIn K mainGlobals "checked_mail" = some (some (.ref f_checked_mail)))
    (l9 : K.lookup f_checked_mail = some ⟨oc9, od9, .func (PySem.W.fnOf "_checked" "_checked" (defArgs s_checked_mail) (defBody s_checked_mail) (defScope s_checked_mail) .none kV9 dc9 pm9 an9 cd9 ct9), sl9⟩)
    (c9 : PySem.W.codeIn K cd9 "_checked" = true)
    (k9 : PySem.W.keepIn K (.ref f_checked_mail) = true)
    (a10 : PySem.W.nsIn K mainGlobals "_checked_pairs" = some (some (.ref f_checked_pairs)))
    (l10 : K.lookup f_checked_pairs = some ⟨oc10, od10, .func (PySem.W.fnOf "_checked_pairs" "_checked_pairs" (defArgs s_checked_pairs) (defBody s_checked_pairs) (defScope s_checked_pairs) .none kV10 dc10 pm10 an10 cd10 ct10), sl10⟩)
    (c10 : PySem.W.codeIn K cd10 "_checked_pairs" = true)
    (k10 : PySem.W.keepIn K (.ref f_checked_pairs) = true)
    (a11 : PySem.W.nsIn K mainGlobals "can_take" = some (some (.ref f_can_take)))
    (l11 : K.lookup f_can_take = some ⟨oc11, od11, .func (PySem.W.fnOf "can_take" "can_take" (defArgs s_can_take) (defBody s_can_take) (defScope s_can_take) .none kV11 dc11 pm11 an11 cd11 ct11), sl11⟩)
    (c11 : PySem.W.codeIn K cd11 "can_take" = true)
    (k11 : PySem.W.keepIn K (.ref f_can_take) = true)
    (a12 : PySem.W.nsIn K mainGlobals "can_lose" = some (some (.ref f_can_lose)))
    (l12 : K.lookup f_can_lose = some ⟨oc12, od12, .func (PySem.W.fnOf "can_lose" "can_lose" (defArgs s_can_lose) (defBody s_can_lose) (defScope s_can_lose) .none kV12 dc12 pm12 an12 cd12 ct12), sl12⟩)
    (c12 : PySem.W.codeIn K cd12 "can_lose" = true)
    (k12 : PySem.W.keepIn K (.ref f_can_lose) = true)
    (a13 : PySem.W.nsIn K mainGlobals "hears_first" = some (some (.ref f_hears_first)))
    (l13 : K.lookup f_hears_first = some ⟨oc13, od13, .func (PySem.W.fnOf "hears_first" "hears_first" (defArgs s_hears_first) (defBody s_hears_first) (defScope s_hears_first) .none kV13 dc13 pm13 an13 cd13 ct13), sl13⟩)
    (c13 : PySem.W.codeIn K cd13 "hears_first" = true)
    (k13 : PySem.W.keepIn K (.ref f_hears_first) = true)
    (a14 : PySem.W.nsIn K mainGlobals "without_letter" = some (some (.ref f_without_letter)))
    (l14 : K.lookup f_without_letter = some ⟨oc14, od14, .func (PySem.W.fnOf "without_letter" "without_letter" (defArgs s_without_letter) (defBody s_without_letter) (defScope s_without_letter) .none kV14 dc14 pm14 an14 cd14 ct14), sl14⟩)
    (c14 : PySem.W.codeIn K cd14 "without_letter" = true)
    (k14 : PySem.W.keepIn K (.ref f_without_letter) = true)
    (a15 : PySem.W.nsIn K mainGlobals "heard_and_sent" = some (some (.ref f_heard_and_sent)))
    (l15 : K.lookup f_heard_and_sent = some ⟨oc15, od15, .func (PySem.W.fnOf "heard_and_sent" "heard_and_sent" (defArgs s_heard_and_sent) (defBody s_heard_and_sent) (defScope s_heard_and_sent) .none kV15 dc15 pm15 an15 cd15 ct15), sl15⟩)
    (c15 : PySem.W.codeIn K cd15 "heard_and_sent" = true)
    (k15 : PySem.W.keepIn K (.ref f_heard_and_sent) = true)
    (a16 : PySem.W.nsIn K mainGlobals "take_mail" = some (some (.ref f_take_mail)))
    (l16 : K.lookup f_take_mail = some ⟨oc16, od16, .func (PySem.W.fnOf "take_mail" "take_mail" (defArgs s_take_mail) (defBody s_take_mail) (defScope s_take_mail) .none kV16 dc16 pm16 an16 cd16 ct16), sl16⟩)
    (c16 : PySem.W.codeIn K cd16 "take_mail" = true)
    (k16 : PySem.W.keepIn K (.ref f_take_mail) = true)
    (a17 : PySem.W.nsIn K mainGlobals "_law_draws" = some (some (.ref f_law_draws)))
    (l17 : K.lookup f_law_draws = some ⟨oc17, od17, .func (PySem.W.fnOf "_law_draws" "_law_draws" (defArgs s_law_draws) (defBody s_law_draws) (defScope s_law_draws) .none kV17 dc17 pm17 an17 cd17 ct17), sl17⟩)
    (c17 : PySem.W.codeIn K cd17 "_law_draws" = true)
    (k17 : PySem.W.keepIn K (.ref f_law_draws) = true)
    (a18 : PySem.W.nsIn K mainGlobals "_law_take" = some (some (.ref f_law_take)))
    (l18 : K.lookup f_law_take = some ⟨oc18, od18, .func (PySem.W.fnOf "_law_take" "_law_take" (defArgs s_law_take) (defBody s_law_take) (defScope s_law_take) .none kV18 dc18 pm18 an18 cd18 ct18), sl18⟩)
    (c18 : PySem.W.codeIn K cd18 "_law_take" = true)
    (k18 : PySem.W.keepIn K (.ref f_law_take) = true)
    (a19 : PySem.W.nsIn K mainGlobals "_law_marking" = some (some (.ref f_law_marking)))
    (l19 : K.lookup f_law_marking = some ⟨oc19, od19, .func (PySem.W.fnOf "_law_marking" "_law_marking" (defArgs s_law_marking) (defBody s_law_marking) (defScope s_law_marking) .none kV19 dc19 pm19 an19 cd19 ct19), sl19⟩)
    (c19 : PySem.W.codeIn K cd19 "_law_marking" = true)
    (k19 : PySem.W.keepIn K (.ref f_law_marking) = true)
    (a20 : PySem.W.nsIn K mainGlobals "_law_covers" = some (some (.ref f_law_covers)))
    (l20 : K.lookup f_law_covers = some ⟨oc20, od20, .func (PySem.W.fnOf "_law_covers" "_law_covers" (defArgs s_law_covers) (defBody s_law_covers) (defScope s_law_covers) .none kV20 dc20 pm20 an20 cd20 ct20), sl20⟩)
    (c20 : PySem.W.codeIn K cd20 "_law_covers" = true)
    (k20 : PySem.W.keepIn K (.ref f_law_covers) = true)
    (a21 : PySem.W.nsIn K mainGlobals "_law_transition" = some (some (.ref f_law_transition)))
    (l21 : K.lookup f_law_transition = some ⟨oc21, od21, .func (PySem.W.fnOf "_law_transition" "_law_transition" (defArgs s_law_transition) (defBody s_law_transition) (defScope s_law_transition) .none kV21 dc21 pm21 an21 cd21 ct21), sl21⟩)
    (c21 : PySem.W.codeIn K cd21 "_law_transition" = true)
    (k21 : PySem.W.keepIn K (.ref f_law_transition) = true)
    (a22 : PySem.W.nsIn K mainGlobals "_law_net" = some (some (.ref f_law_net)))
    (l22 : K.lookup f_law_net = some ⟨oc22, od22, .func (PySem.W.fnOf "_law_net" "_law_net" (defArgs s_law_net) (defBody s_law_net) (defScope s_law_net) .none kV22 dc22 pm22 an22 cd22 ct22), sl22⟩)
    (c22 : PySem.W.codeIn K cd22 "_law_net" = true)
    (k22 : PySem.W.keepIn K (.ref f_law_net) = true)
    (a23 : PySem.W.nsIn K mainGlobals "_law_fire" = some (some (.ref f_law_fire)))
    (l23 : K.lookup f_law_fire = some ⟨oc23, od23, .func (PySem.W.fnOf "_law_fire" "_law_fire" (defArgs s_law_fire) (defBody s_law_fire) (defScope s_law_fire) .none kV23 dc23 pm23 an23 cd23 ct23), sl23⟩)
    (c23 : PySem.W.codeIn K cd23 "_law_fire" = true)
    (k23 : PySem.W.keepIn K (.ref f_law_fire) = true)
    (a24 : PySem.W.nsIn K mainGlobals "_law_word" = some (some (.ref f_law_word)))
    (l24 : K.lookup f_law_word = some ⟨oc24, od24, .func (PySem.W.fnOf "_law_word" "_law_word" (defArgs s_law_word) (defBody s_law_word) (defScope s_law_word) .none kV24 dc24 pm24 an24 cd24 ct24), sl24⟩)
    (c24 : PySem.W.codeIn K cd24 "_law_word" = true)
    (k24 : PySem.W.keepIn K (.ref f_law_word) = true)
    (a25 : PySem.W.nsIn K mainGlobals "_law_config" = some (some (.ref f_law_config)))
    (l25 : K.lookup f_law_config = some ⟨oc25, od25, .func (PySem.W.fnOf "_law_config" "_law_config" (defArgs s_law_config) (defBody s_law_config) (defScope s_law_config) .none kV25 dc25 pm25 an25 cd25 ct25), sl25⟩)
    (c25 : PySem.W.codeIn K cd25 "_law_config" = true)
    (k25 : PySem.W.keepIn K (.ref f_law_config) = true)
    (a26 : PySem.W.nsIn K mainGlobals "_law_action" = some (some (.ref f_law_action)))
    (l26 : K.lookup f_law_action = some ⟨oc26, od26, .func (PySem.W.fnOf "_law_action" "_law_action" (defArgs s_law_action) (defBody s_law_action) (defScope s_law_action) .none kV26 dc26 pm26 an26 cd26 ct26), sl26⟩)
    (c26 : PySem.W.codeIn K cd26 "_law_action" = true)
    (k26 : PySem.W.keepIn K (.ref f_law_action) = true)
    (a27 : PySem.W.nsIn K mainGlobals "_law_mail_step" = some (some (.ref f_law_mail_step)))
    (l27 : K.lookup f_law_mail_step = some ⟨oc27, od27, .func (PySem.W.fnOf "_law_mail_step" "_law_mail_step" (defArgs s_law_mail_step) (defBody s_law_mail_step) (defScope s_law_mail_step) .none kV27 dc27 pm27 an27 cd27 ct27), sl27⟩)
    (c27 : PySem.W.codeIn K cd27 "_law_mail_step" = true)
    (k27 : PySem.W.keepIn K (.ref f_law_mail_step) = true)
    (a28 : PySem.W.nsIn K mainGlobals "_law_outcome" = some (some (.ref f_law_outcome)))
    (l28 : K.lookup f_law_outcome = some ⟨oc28, od28, .func (PySem.W.fnOf "_law_outcome" "_law_outcome" (defArgs s_law_outcome) (defBody s_law_outcome) (defScope s_law_outcome) .none kV28 dc28 pm28 an28 cd28 ct28), sl28⟩)
    (c28 : PySem.W.codeIn K cd28 "_law_outcome" = true)
    (k28 : PySem.W.keepIn K (.ref f_law_outcome) = true)
    (a29 : PySem.W.nsIn K mainGlobals "_law_drawn_step" = some (some (.ref f_law_drawn_step)))
    (l29 : K.lookup f_law_drawn_step = some ⟨oc29, od29, .func (PySem.W.fnOf "_law_drawn_step" "_law_drawn_step" (defArgs s_law_drawn_step) (defBody s_law_drawn_step) (defScope s_law_drawn_step) .none kV29 dc29 pm29 an29 cd29 ct29), sl29⟩)
    (c29 : PySem.W.codeIn K cd29 "_law_drawn_step" = true)
    (k29 : PySem.W.keepIn K (.ref f_law_drawn_step) = true)
    (a30 : PySem.W.nsIn K mainGlobals "law" = some (some (.ref f_law)))
    (l30 : K.lookup f_law = some ⟨oc30, od30, .func (PySem.W.fnOf "law" "law" (defArgs s_law) (defBody s_law) (defScope s_law) .none kV30 dc30 pm30 an30 cd30 ct30), sl30⟩)
    (c30 : PySem.W.codeIn K cd30 "law" = true)
    (k30 : PySem.W.keepIn K (.ref f_law) = true)
    (pg_C : PySem.W.plainGet K C Str.empty = true)
    (hd_C : PySem.W.hasDictIn K C = true)
    (po_C : PySem.W.plainOver K C = true)
    (sa_C : PySem.W.findIn K (.ref C) "__setattr__" = some (some (.builtin "object.__setattr__")))
    (mk_C : PySem.W.makesIn K C = true)
    (kc_C : PySem.W.keepIn K (.ref C) = true)
    (n_C_places : PySem.W.findIn K (.ref C) "places" = some none)
    (n_C_transitions : PySem.W.findIn K (.ref C) "transitions" = some none)
    (pg_CM : PySem.W.plainGet K CM Str.empty = true)
    (hd_CM : PySem.W.hasDictIn K CM = true)
    (po_CM : PySem.W.plainOver K CM = true)
    (sa_CM : PySem.W.findIn K (.ref CM) "__setattr__" = some (some (.builtin "object.__setattr__")))
    (mk_CM : PySem.W.makesIn K CM = true)
    (kc_CM : PySem.W.keepIn K (.ref CM) = true)
    (n_CM_net : PySem.W.findIn K (.ref CM) "net" = some none)
    (n_CM_channels : PySem.W.findIn K (.ref CM) "channels" = some none)
    (n_CM_actions : PySem.W.findIn K (.ref CM) "actions" = some none)
    (a_MOST_PLACES : PySem.W.nsIn K mainGlobals "MOST_PLACES" = some (some (.int 12 tk_MOST_PLACES)))
    (a_MOST_TRANSITIONS : PySem.W.nsIn K mainGlobals "MOST_TRANSITIONS" = some (some (.int 24 tk_MOST_TRANSITIONS)))
    (a_MOST_TOKENS : PySem.W.nsIn K mainGlobals "MOST_TOKENS" = some (some (.int 9 tk_MOST_TOKENS)))
    (a_MOST_CHANNELS : PySem.W.nsIn K mainGlobals "MOST_CHANNELS" = some (some (.int 2 tk_MOST_CHANNELS)))
    (a_MOST_LETTERS : PySem.W.nsIn K mainGlobals "MOST_LETTERS" = some (some (.int 4 tk_MOST_LETTERS)))
    (n_len : PySem.W.nsIn K mainGlobals "len" = some none)
    (n_int : PySem.W.nsIn K mainGlobals "int" = some none)
    (n_tuple : PySem.W.nsIn K mainGlobals "tuple" = some none)
    (n_list : PySem.W.nsIn K mainGlobals "list" = some none)
    (n_range : PySem.W.nsIn K mainGlobals "range" = some none)
    (n_zip : PySem.W.nsIn K mainGlobals "zip" = some none)
    (n_enumerate : PySem.W.nsIn K mainGlobals "enumerate" = some none)
    (n_isinstance : PySem.W.nsIn K mainGlobals "isinstance" = some none)
    (n_bool : PySem.W.nsIn K mainGlobals "bool" = some none) :
    ∃ fd : FuncData, (∀ (s : Shared) (v : Value), BindsTo s fd ⟨[v], []⟩ [("script", v)]) ∧ ∀ base : Heap, K.In base → base.Ns mainGlobals mg → FnOk l.prog w K mg base CX0 9 fa fd ["script"] (spLaw K) := by
  have e := hfa.symm.trans (PySem.W.mg_of X G a30)
  cases e
  have cl_CM : Cls K CM := ⟨pg_CM, hd_CM, po_CM, sa_CM⟩
  have cl_C : Cls K C := ⟨pg_C, hd_C, po_C, sa_C⟩
  have F_covers := fun_mk (st := s_covers) l1 c1 k1
  have b_covers := F_covers.binds (ps := ["first", "second"]) fun _ _ _ _ _ _ us hl => match us, hl with | [_, _], _ => rfl
  have g_covers := PySem.W.mg_of X G a1
  have F_Net_init := fun_mk (st := s_Net_init) l2 c2 k2
  have b_Net_init := F_Net_init.binds (ps := ["self", "places", "transitions"]) fun _ _ _ _ _ _ us hl => match us, hl with | [_, _, _], _ => rfl
  have M_Net : Mk K C f_Net_init := ⟨mk_C, a2, i2, kc_C⟩
  have F_checked_nets := fun_mk (st := s_checked_nets) l3 c3 k3
  have b_checked_nets := F_checked_nets.binds (ps := ["transition", "places"]) fun _ _ _ _ _ _ us hl => match us, hl with | [_, _], _ => rfl
  have g_checked_nets := PySem.W.mg_of X G a3
  have F_numbers := fun_mk (st := s_numbers) l4 c4 k4
  have b_numbers := F_numbers.binds (ps := ["row", "places", "least", "most"]) fun _ _ _ _ _ _ us hl => match us, hl with | [_, _, _, _], _ => rfl
  have g_numbers := PySem.W.mg_of X G a4
  have F_enabled := fun_mk (st := s_enabled) l5 c5 k5
  have b_enabled := F_enabled.binds (ps := ["net", "index", "marking"]) fun _ _ _ _ _ _ us hl => match us, hl with | [_, _, _], _ => rfl
  have g_enabled := PySem.W.mg_of X G a5
  have F_fire := fun_mk (st := s_fire) l6 c6 k6
  have b_fire := F_fire.binds (ps := ["net", "index", "marking"]) fun _ _ _ _ _ _ us hl => match us, hl with | [_, _, _], _ => rfl
  have g_fire := PySem.W.mg_of X G a6
  have F_after_firing := fun_mk (st := s_after_firing) l7 c7 k7
  have b_after_firing := F_after_firing.binds (ps := ["transition", "marking"]) fun _ _ _ _ _ _ us hl => match us, hl with | [_, _], _ => rfl
  have g_after_firing := PySem.W.mg_of X G a7
  have F_MailNet_init := fun_mk (st := s_MailNet_init) l8 c8 k8
  have b_MailNet_init := F_MailNet_init.binds (ps := ["self", "net", "channels", "actions"]) fun _ _ _ _ _ _ us hl => match us, hl with | [_, _, _, _], _ => rfl
  have M_MailNet : Mk K CM f_MailNet_init := ⟨mk_CM, a8, i8, kc_CM⟩
  have F_checked_mail := fun_mk (st := s_checked_mail) l9 c9 k9
  have b_checked_mail := F_checked_mail.binds (ps := ["action", "channels"]) fun _ _ _ _ _ _ us hl => match us, hl with | [_, _], _ => rfl
  have g_checked_mail := PySem.W.mg_of X G a9
  have F_checked_pairs := fun_mk (st := s_checked_pairs) l10 c10 k10
  have b_checked_pairs := F_checked_pairs.binds (ps := ["pairs", "channels"]) fun _ _ _ _ _ _ us hl => match us, hl with | [_, _], _ => rfl
  have g_checked_pairs := PySem.W.mg_of X G a10
  have F_can_take := fun_mk (st := s_can_take) l11 c11 k11
  have b_can_take := F_can_take.binds (ps := ["mail", "config", "step"]) fun _ _ _ _ _ _ us hl => match us, hl with | [_, _, _], _ => rfl
  have g_can_take := PySem.W.mg_of X G a11
  have F_can_lose := fun_mk (st := s_can_lose) l12 c12 k12
  have b_can_lose := F_can_lose.binds (ps := ["words", "channel", "position"]) fun _ _ _ _ _ _ us hl => match us, hl with | [_, _, _], _ => rfl
  have g_can_lose := PySem.W.mg_of X G a12
  have F_hears_first := fun_mk (st := s_hears_first) l13 c13 k13
  have b_hears_first := F_hears_first.binds (ps := ["words", "hears"]) fun _ _ _ _ _ _ us hl => match us, hl with | [_, _], _ => rfl
  have g_hears_first := PySem.W.mg_of X G a13
  have F_without_letter := fun_mk (st := s_without_letter) l14 c14 k14
  have b_without_letter := F_without_letter.binds (ps := ["words", "channel", "position"]) fun _ _ _ _ _ _ us hl => match us, hl with | [_, _, _], _ => rfl
  have g_without_letter := PySem.W.mg_of X G a14
  have F_heard_and_sent := fun_mk (st := s_heard_and_sent) l15 c15 k15
  have b_heard_and_sent := F_heard_and_sent.binds (ps := ["words", "hears", "sends"]) fun _ _ _ _ _ _ us hl => match us, hl with | [_, _, _], _ => rfl
  have g_heard_and_sent := PySem.W.mg_of X G a15
  have F_take_mail := fun_mk (st := s_take_mail) l16 c16 k16
  have b_take_mail := F_take_mail.binds (ps := ["mail", "config", "steps"]) fun _ _ _ _ _ _ us hl => match us, hl with | [_, _, _], _ => rfl
  have g_take_mail := PySem.W.mg_of X G a16
  have F_law_draws := fun_mk (st := s_law_draws) l17 c17 k17
  have b_law_draws := F_law_draws.binds (ps := ["script", "count"]) fun _ _ _ _ _ _ us hl => match us, hl with | [_, _], _ => rfl
  have g_law_draws := PySem.W.mg_of X G a17
  have F_law_take := fun_mk (st := s_law_take) l18 c18 k18
  have b_law_take := F_law_take.binds (ps := ["draws", "limit"]) fun _ _ _ _ _ _ us hl => match us, hl with | [_, _], _ => rfl
  have g_law_take := PySem.W.mg_of X G a18
  have F_law_marking := fun_mk (st := s_law_marking) l19 c19 k19
  have b_law_marking := F_law_marking.binds (ps := ["draws", "size", "most"]) fun _ _ _ _ _ _ us hl => match us, hl with | [_, _, _], _ => rfl
  have g_law_marking := PySem.W.mg_of X G a19
  have F_law_covers := fun_mk (st := s_law_covers) l20 c20 k20
  have b_law_covers := F_law_covers.binds (ps := ["first", "second"]) fun _ _ _ _ _ _ us hl => match us, hl with | [_, _], _ => rfl
  have g_law_covers := PySem.W.mg_of X G a20
  have F_law_transition := fun_mk (st := s_law_transition) l21 c21 k21
  have b_law_transition := F_law_transition.binds (ps := ["draws", "places", "plain"]) fun _ _ _ _ _ _ us hl => match us, hl with | [_, _, _], _ => rfl
  have g_law_transition := PySem.W.mg_of X G a21
  have F_law_net := fun_mk (st := s_law_net) l22 c22 k22
  have b_law_net := F_law_net.binds (ps := ["draws", "places", "most", "plain"]) fun _ _ _ _ _ _ us hl => match us, hl with | [_, _, _, _], _ => rfl
  have g_law_net := PySem.W.mg_of X G a22
  have F_law_fire := fun_mk (st := s_law_fire) l23 c23 k23
  have b_law_fire := F_law_fire.binds (ps := ["transition", "marking"]) fun _ _ _ _ _ _ us hl => match us, hl with | [_, _], _ => rfl
  have g_law_fire := PySem.W.mg_of X G a23
  have F_law_word := fun_mk (st := s_law_word) l24 c24 k24
  have b_law_word := F_law_word.binds (ps := ["draws", "letters", "most"]) fun _ _ _ _ _ _ us hl => match us, hl with | [_, _, _], _ => rfl
  have g_law_word := PySem.W.mg_of X G a24
  have F_law_config := fun_mk (st := s_law_config) l25 c25 k25
  have b_law_config := F_law_config.binds (ps := ["draws", "places", "channels", "most", "longest"]) fun _ _ _ _ _ _ us hl => match us, hl with | [_, _, _, _, _], _ => rfl
  have g_law_config := PySem.W.mg_of X G a25
  have F_law_action := fun_mk (st := s_law_action) l26 c26 k26
  have b_law_action := F_law_action.binds (ps := ["draws", "channels"]) fun _ _ _ _ _ _ us hl => match us, hl with | [_, _], _ => rfl
  have g_law_action := PySem.W.mg_of X G a26
  have F_law_mail_step := fun_mk (st := s_law_mail_step) l27 c27 k27
  have b_law_mail_step := F_law_mail_step.binds (ps := ["transitions", "actions", "config", "step"]) fun _ _ _ _ _ _ us hl => match us, hl with | [_, _, _, _], _ => rfl
  have g_law_mail_step := PySem.W.mg_of X G a27
  have F_law_outcome := fun_mk (st := s_law_outcome) l28 c28 k28
  have b_law_outcome := F_law_outcome.binds (ps := ["mail", "config", "steps"]) fun _ _ _ _ _ _ us hl => match us, hl with | [_, _, _], _ => rfl
  have g_law_outcome := PySem.W.mg_of X G a28
  have F_law_drawn_step := fun_mk (st := s_law_drawn_step) l29 c29 k29
  have b_law_drawn_step := F_law_drawn_step.binds (ps := ["draws", "transitions", "channels"]) fun _ _ _ _ _ _ us hl => match us, hl with | [_, _, _], _ => rfl
  have g_law_drawn_step := PySem.W.mg_of X G a29
  have F_law := fun_mk (st := s_law) l30 c30 k30
  have g_MOST_PLACES := PySem.W.mg_of X G a_MOST_PLACES
  have g_MOST_TRANSITIONS := PySem.W.mg_of X G a_MOST_TRANSITIONS
  have g_MOST_TOKENS := PySem.W.mg_of X G a_MOST_TOKENS
  have g_MOST_CHANNELS := PySem.W.mg_of X G a_MOST_CHANNELS
  have g_MOST_LETTERS := PySem.W.mg_of X G a_MOST_LETTERS
  have g_len := PySem.W.mg_none_of X G n_len
  have g_int := PySem.W.mg_none_of X G n_int
  have g_tuple := PySem.W.mg_none_of X G n_tuple
  have g_list := PySem.W.mg_none_of X G n_list
  have g_range := PySem.W.mg_none_of X G n_range
  have g_zip := PySem.W.mg_none_of X G n_zip
  have g_enumerate := PySem.W.mg_none_of X G n_enumerate
  have g_isinstance := PySem.W.mg_none_of X G n_isinstance
  have g_bool := PySem.W.mg_none_of X G n_bool
  have low : PySem.LowX.LowTxt K mg CE fI :=
    { gC := PySem.W.mg_of X G a_CE, cls := ⟨nmE, qE, NE, bsE, _, snE, subE, abE, colE, ddE, m0, m1, m2, m3, m5, xE, bE⟩, sa := saE, ga := gaE, gg := ggE, noN := nbE, iC := aI, tC := tI_, kC := kE, exC := exE, tyC := tyE, hdC := hdE, te := exm_own exE icE tyE scE,
      fn := ⟨_, _, _, _, _, _, _, _, _, _, _, _, _, _, lI, cI⟩ }
  have T : LawTxt K mg C CM CE fI := ⟨⟨cl_C, n_C_places, n_C_transitions, PySem.W.mg_of X G a_C⟩, ⟨cl_CM, n_CM_net, n_CM_channels, n_CM_actions, PySem.W.mg_of X G a_CM⟩, low, g_len, g_int, g_tuple, g_list, g_range, g_zip, g_enumerate, g_isinstance, g_bool⟩
  exact ⟨PySem.W.fnOf "law" "law" (defArgs s_law) (defBody s_law) (defScope s_law) .none kV30 dc30 pm30 an30 cd30 ct30, fun s v => .of_eq rfl, fun base _ _ =>
    ok_law F_law T F_covers b_covers g_covers F_numbers b_numbers g_numbers F_checked_nets b_checked_nets g_checked_nets F_enabled b_enabled g_enabled F_fire b_fire g_fire F_after_firing b_after_firing g_after_firing F_checked_pairs b_checked_pairs g_checked_pairs F_can_take b_can_take g_can_take F_can_lose b_can_lose g_can_lose F_hears_first b_hears_first g_hears_first F_without_letter b_without_letter g_without_letter F_heard_and_sent b_heard_and_sent g_heard_and_sent F_take_mail b_take_mail g_take_mail F_law_draws b_law_draws g_law_draws F_law_take b_law_take g_law_take F_law_marking b_law_marking g_law_marking F_law_covers b_law_covers g_law_covers F_law_transition b_law_transition g_law_transition F_law_net b_law_net g_law_net F_law_fire b_law_fire g_law_fire F_law_word b_law_word g_law_word F_law_config b_law_config g_law_config F_law_action b_law_action g_law_action F_law_mail_step b_law_mail_step g_law_mail_step F_law_outcome b_law_outcome g_law_outcome F_law_drawn_step b_law_drawn_step g_law_drawn_step F_checked_mail b_checked_mail g_checked_mail F_Net_init b_Net_init M_Net g_MOST_PLACES g_MOST_TRANSITIONS g_MOST_TOKENS F_MailNet_init b_MailNet_init M_MailNet g_MOST_CHANNELS g_MOST_LETTERS⟩
end Cv
open PySem PySem.W PyProof.Rows
set_option maxRecDepth 100000 in
set_option maxHeartbeats 0 in
theorem PySem.Challenge.cw_covernets_k40_mail_steps_holds : PySem.Challenge.rw_covernets_k40_mail_steps.Holds := by
  w_on; o_law; k_head; (case hw => w_witness2)
  k_fill
  refine L2.walk_of (n := 63) (k := 9) (x := "script") (CX := fun _ => L2.CX0) (sp := fun w => Cv.spLaw _) rfl (by decide) rfl ⟨rfl, by decide, by decide⟩ (fun w h Y => PySem.W.kIn_of Y) ?F (fun _ _ a ns hl _ hS => ⟨a, ns, rfl, hS, hl, fun _ => rfl⟩) fun _ _ _ _ _ z => z
  case F =>
    intro w mg fa h KX G hmg
    refine' Cv.all_mk (l := PySem.Challenge.rw_covernets_k40_mail_steps) KX G hmg ?a_C ?a_CM ?a_CE ?xE ?bE ?saE ?gaE ?ggE ?nbE ?aI ?tI_ ?lI ?cI ?kE ?exE ?tyE ?hdE ?icE ?scE ?a1 ?l1 ?c1 ?k1 ?a2 ?i2 ?l2 ?c2 ?k2 ?a3 ?l3 ?c3 ?k3 ?a4 ?l4 ?c4 ?k4 ?a5 ?l5 ?c5 ?k5 ?a6 ?l6 ?c6 ?k6 ?a7 ?l7 ?c7 ?k7 ?a8 ?i8 ?l8 ?c8 ?k8 ?a9 ?l9 ?c9 ?k9 ?a10 ?l10 ?c10 ?k10 ?a11 ?l11 ?c11 ?k11 ?a12 ?l12 ?c12 ?k12 ?a13 ?l13 ?c13 ?k13 ?a14 ?l14 ?c14 ?k14 ?a15 ?l15 ?c15 ?k15 ?a16 ?l16 ?c16 ?k16 ?a17 ?l17 ?c17 ?k17 ?a18 ?l18 ?c18 ?k18 ?a19 ?l19 ?c19 ?k19 ?a20 ?l20 ?c20 ?k20 ?a21 ?l21 ?c21 ?k21 ?a22 ?l22 ?c22 ?k22 ?a23 ?l23 ?c23 ?k23 ?a24 ?l24 ?c24 ?k24 ?a25 ?l25 ?c25 ?k25 ?a26 ?l26 ?c26 ?k26 ?a27 ?l27 ?c27 ?k27 ?a28 ?l28 ?c28 ?k28 ?a29 ?l29 ?c29 ?k29 ?a30 ?l30 ?c30 ?k30 ?pg_C ?hd_C ?po_C ?sa_C ?mk_C ?kc_C ?n_C_places ?n_C_transitions ?pg_CM ?hd_CM ?po_CM ?sa_CM ?mk_CM ?kc_CM ?n_CM_net ?n_CM_channels ?n_CM_actions ?a_MOST_PLACES ?a_MOST_TRANSITIONS ?a_MOST_TOKENS ?a_MOST_CHANNELS ?a_MOST_LETTERS ?n_len ?n_int ?n_tuple ?n_list ?n_range ?n_zip ?n_enumerate ?n_isinstance ?n_bool
    (case a_C => k_is)
    (case a_CM => k_is)
    (case a_CE => k_is)
    (case xE => k_is)
    (case bE => decide +kernel)
    (case saE => k_is)
    (case gaE => k_is)
    (case ggE => k_is)
    (case nbE => k_is)
    (case aI => k_is)
    (case tI_ => k_is)
    (case lI => k_is)
    (case cI => k_is)
    (case kE => k_is)
    (case exE => k_is)
    (case tyE => k_is)
    (case hdE => k_is)
    (case icE => k_is)
    (case scE => first | rfl | k_is)
    (case a1 => k_is)
    (case l1 => k_is)
    (case c1 => k_is)
    (case k1 => k_is)
    (case a2 => k_is)
    (case i2 => k_is)
    (case l2 => k_is)
    (case c2 => k_is)
    (case k2 => k_is)
    (case a3 => k_is)
    (case l3 => k_is)
    (case c3 => k_is)
    (case k3 => k_is)
    (case a4 => k_is)
    (case l4 => k_is)
    (case c4 => k_is)
    (case k4 => k_is)
    (case a5 => k_is)
    (case l5 => k_is)
    (case c5 => k_is)
    (case k5 => k_is)
    (case a6 => k_is)
    (case l6 => k_is)
    (case c6 => k_is)
    (case k6 => k_is)
    (case a7 => k_is)
    (case l7 => k_is)
    (case c7 => k_is)
    (case k7 => k_is)
    (case a8 => k_is)
    (case i8 => k_is)
    (case l8 => k_is)
    (case c8 => k_is)
    (case k8 => k_is)
    (case a9 => k_is)
    (case l9 => k_is)
    (case c9 => k_is)
    (case k9 => k_is)
    (case a10 => k_is)
    (case l10 => k_is)
    (case c10 => k_is)
    (case k10 => k_is)
    (case a11 => k_is)
    (case l11 => k_is)
    (case c11 => k_is)
    (case k11 => k_is)
    (case a12 => k_is)
    (case l12 => k_is)
    (case c12 => k_is)
    (case k12 => k_is)
    (case a13 => k_is)
    (case l13 => k_is)
    (case c13 => k_is)
    (case k13 => k_is)
    (case a14 => k_is)
    (case l14 => k_is)
    (case c14 => k_is)
    (case k14 => k_is)
    (case a15 => k_is)
    (case l15 => k_is)
    (case c15 => k_is)
    (case k15 => k_is)
    (case a16 => k_is)
    (case l16 => k_is)
    (case c16 => k_is)
    (case k16 => k_is)
    (case a17 => k_is)
    (case l17 => k_is)
    (case c17 => k_is)
    (case k17 => k_is)
    (case a18 => k_is)
    (case l18 => k_is)
    (case c18 => k_is)
    (case k18 => k_is)
    (case a19 => k_is)
    (case l19 => k_is)
    (case c19 => k_is)
    (case k19 => k_is)
    (case a20 => k_is)
    (case l20 => k_is)
    (case c20 => k_is)
    (case k20 => k_is)
    (case a21 => k_is)
    (case l21 => k_is)
    (case c21 => k_is)
    (case k21 => k_is)
    (case a22 => k_is)
    (case l22 => k_is)
    (case c22 => k_is)
    (case k22 => k_is)
    (case a23 => k_is)
    (case l23 => k_is)
    (case c23 => k_is)
    (case k23 => k_is)
    (case a24 => k_is)
    (case l24 => k_is)
    (case c24 => k_is)
    (case k24 => k_is)
    (case a25 => k_is)
    (case l25 => k_is)
    (case c25 => k_is)
    (case k25 => k_is)
    (case a26 => k_is)
    (case l26 => k_is)
    (case c26 => k_is)
    (case k26 => k_is)
    (case a27 => k_is)
    (case l27 => k_is)
    (case c27 => k_is)
    (case k27 => k_is)
    (case a28 => k_is)
    (case l28 => k_is)
    (case c28 => k_is)
    (case k28 => k_is)
    (case a29 => k_is)
    (case l29 => k_is)
    (case c29 => k_is)
    (case k29 => k_is)
    (case a30 => k_is)
    (case l30 => k_is)
    (case c30 => k_is)
    (case k30 => k_is)
    (case pg_C => k_is)
    (case hd_C => k_is)
    (case po_C => k_is)
    (case sa_C => k_is)
    (case mk_C => k_is)
    (case kc_C => k_is)
    (case n_C_places => k_is)
    (case n_C_transitions => k_is)
    (case pg_CM => k_is)
    (case hd_CM => k_is)
    (case po_CM => k_is)
    (case sa_CM => k_is)
    (case mk_CM => k_is)
    (case kc_CM => k_is)
    (case n_CM_net => k_is)
    (case n_CM_channels => k_is)
    (case n_CM_actions => k_is)
    (case a_MOST_PLACES => k_is)
    (case a_MOST_TRANSITIONS => k_is)
    (case a_MOST_TOKENS => k_is)
    (case a_MOST_CHANNELS => k_is)
    (case a_MOST_LETTERS => k_is)
    (case n_len => k_is)
    (case n_int => k_is)
    (case n_tuple => k_is)
    (case n_list => k_is)
    (case n_range => k_is)
    (case n_zip => k_is)
    (case n_enumerate => k_is)
    (case n_isinstance => k_is)
    (case n_bool => k_is)
#print axioms PySem.Challenge.cw_covernets_k40_mail_steps_holds

