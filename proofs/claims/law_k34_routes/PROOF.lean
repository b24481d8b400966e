import PyProof.Rows.All
import Wide.All
import OpenK.AllK
import Wide.FinOn
import PyProof.EqAt
import PyProof.EqKinds
import PyProof.TupleCall
import HandS.ForMost
import HandS.Zip
import HandS.IsInst
import HandS.Exc
import HandS.TryMany
import HandS.ExcOwn
import HandS.WordsExc
import HandS.Conv
import KE.GoesMore
import HandS.TupAny
import HandS.TryOnly
import KE.GoesNew
import KE.GoesEnum
import HandS.ExcCtx
import HandS.ForSpec
import HandS.HotCalls
import HandS.Dict
import HandS.Style
import PySem.Challenge.RW_covernets_k34_routes
set_option Elab.async false
set_option linter.all false
set_option maxRecDepth 100000
set_option maxHeartbeats 2000000
namespace Cv
open PySem PySem.Spec PyProof.Rows L2

/-! ### heaps -/
/-- tuples and locked objects stand -/
structure Tk (H H' : Hp) : Prop where
  tup : ∀ a xs, H a = some (.tup xs) → H' a = some (.tup xs)
  frz : ∀ a o u, H a = some (.frz o u) → H' a = some (.frz o u)
theorem Tk.refl (H : Hp) : Tk H H := ⟨fun _ _ h => h, fun _ _ _ h => h⟩
theorem Tk.trans {H H1 H2 : Hp} (a : Tk H H1) (b : Tk H1 H2) : Tk H H2 := ⟨fun c x h => b.tup c x (a.tup c x h), fun c o u h => b.frz c o u (a.frz c o u h)⟩
theorem Tk.sqT {K : PySem.W.Frag} {H H' : Hp} {a : Addr} {xs : List V} (e : Tk H H') (h : SqT K H a xs) : SqT K H' a xs := by
  rcases h with (h | ⟨o, h⟩) | h
  · exact .inl (.inl (e.tup _ _ h))
  · exact .inl (.inr ⟨o, e.frz _ _ _ h⟩)
  · exact .inr h
theorem Tk.lst {H : Hp} {l : Addr} {xs : List V} {ys : List V} (h : H l = some (.lst xs)) : Tk H (upd H l (.lst ys)) := by
  refine ⟨fun a zs e => ?_, fun a o u e => ?_⟩
  · have : a ≠ l := fun q => by rw [q, h] at e; cases e
    rw [upd_ne this]; exact e
  · have : a ≠ l := fun q => by rw [q, h] at e; cases e
    rw [upd_ne this]; exact e
/-- the list of draws at a -/
def Drw (H : Hp) (a : Addr) : Prop := ∃ ns : List Int, ns.length ≤ 1000 ∧ H a = some (.lst (ns.map V.int))
/-- all stands but the draws -/
structure Ext (d : Option Addr) (H H' : Hp) : Prop where
  keep : ∀ a o, H a = some o → (some a = d → ∀ xs, o ≠ .lst xs) → H' a = some o
  draw : ∀ a, d = some a → Drw H a → Drw H' a
section
variable {d : Option Addr} {H H1 H2 B : Hp} {p a : Addr} {o : HO} {K : PySem.W.Frag}
theorem Ext.refl (H : Hp) : Ext d H H := ⟨fun _ _ h _ => h, fun _ _ h => h⟩
theorem Ext.trans (a : Ext d H H1) (b : Ext d H1 H2) : Ext d H H2 := ⟨fun c x h k => b.keep c x (a.keep c x h k) k, fun c e h => b.draw c e (a.draw c e h)⟩
theorem Ext.tk (e : Ext d H H1) : Tk H H1 := ⟨fun _ _ h => e.keep _ _ h fun _ _ q => (by cases q), fun _ _ _ h => e.keep _ _ h fun _ _ q => (by cases q)⟩
theorem Ext.new (h : H p = none) : Ext d H (upd H p o) := ⟨fun a u e _ => by rw [upd_ne (ne_of_none e h)]; exact e, fun a _ ⟨ns, hl, e⟩ => ⟨ns, hl, by rw [upd_ne (ne_of_none e h)]; exact e⟩⟩
theorem Ext.mut (e : Ext d B H) (h : B p = none) (hd : some p ≠ d) : Ext d B (upd H p o) := ⟨fun a u ea k => by
    rw [upd_ne (ne_of_none ea h)]; exact e.keep a u ea k,
  fun a ed hb => by
    obtain ⟨ns, hl, q⟩ := e.draw a ed hb
    have : a ≠ p := fun z => hd (by rw [ed, z])
    exact ⟨ns, hl, by rw [upd_ne this]; exact q⟩⟩
theorem Ext.at (e : Ext d H H1) (h : H a = some o) (hd : some a ≠ d) : H1 a = some o := e.keep a o h fun z => absurd z hd
theorem Ext.of_same (e : Same H H1) : Ext d H H1 := ⟨fun a o h _ => e a o h, fun a _ ⟨ns, hl, h⟩ => ⟨ns, hl, e _ _ h⟩⟩
theorem Ext.sqL {xs : List V} (e : Ext d H H1) (hd : some a ≠ d) (h : SqL K H a xs) : SqL K H1 a xs := by
  rcases h with (h | ⟨o, h⟩) | h
  · exact .inl (.inl (e.at h hd))
  · exact .inl (.inr ⟨o, e.tk.frz _ _ _ h⟩)
  · exact .inr h
end

/-! ### data -/
inductive D where
  | i (n : Int) | b (k : Bool) | n | s (x : Str) | t (xs : List D)
inductive DR (K : PySem.W.Frag) (H : Hp) : D → V → Prop
  | i (n : Int) : DR K H (.i n) (.int n)
  | b (k : Bool) : DR K H (.b k) (.bl k)
  | n : DR K H .n .non
  | s (x : Str) : DR K H (.s x) (.str x)
  | t {a : Addr} {vs : List V} {ds : List D} (h : SqT K H a vs) (hl : ds.length = vs.length) (hv : ∀ (i : Nat) (e : D) (v : V), ds[i]? = some e → vs[i]? = some v → DR K H e v) : DR K H (.t ds) (.ref a)
theorem DR.tk {K : PySem.W.Frag} {H H' : Hp} {e : D} {v : V} (k : Tk H H') (h : DR K H e v) : DR K H' e v := by
  induction h with
  | i n => exact .i n
  | b n => exact .b n
  | n => exact .n
  | s n => exact .s n
  | t h hl _ ih => exact .t (k.sqT h) hl ih
/-- the items of a list of data -/
def DRl (K : PySem.W.Frag) (H : Hp) (ds : List D) (vs : List V) : Prop := ds.length = vs.length ∧ ∀ (i : Nat) (e : D) (v : V), ds[i]? = some e → vs[i]? = some v → DR K H e v
theorem DRl.tk {K : PySem.W.Frag} {H H' : Hp} {ds : List D} {vs : List V} (k : Tk H H') (h : DRl K H ds vs) : DRl K H' ds vs := ⟨h.1, fun i e v a b => (h.2 i e v a b).tk k⟩
theorem DRl.nil {K : PySem.W.Frag} {H : Hp} : DRl K H [] [] := ⟨rfl, fun i e v a _ => by cases a⟩
theorem DRl.snoc {K : PySem.W.Frag} {H : Hp} {ds : List D} {vs : List V} {e : D} {v : V} (h : DRl K H ds vs) (hv : DR K H e v) : DRl K H (ds ++ [e]) (vs ++ [v]) := by
  refine ⟨by simp [h.1], fun i e' v' a b => ?_⟩
  by_cases hi : i < ds.length
  · rw [List.getElem?_append_left hi] at a
    rw [List.getElem?_append_left (by rw [← h.1]; exact hi)] at b
    exact h.2 i e' v' a b
  · rw [List.getElem?_append_right (by omega)] at a
    rw [List.getElem?_append_right (by rw [← h.1]; omega)] at b
    rw [← h.1] at b
    have : i - ds.length = 0 := by
      cases q : i - ds.length with
      | zero => rfl
      | succ m => rw [q] at a; simp at a
    rw [this] at a b
    cases a; cases b; exact hv
theorem DRl.get {K : PySem.W.Frag} {H : Hp} {ds : List D} {vs : List V} {i : Nat} {e : D} (h : DRl K H ds vs) (a : ds[i]? = some e) : ∃ v, vs[i]? = some v ∧ DR K H e v := by
  have hi : i < ds.length := (List.getElem?_eq_some_iff.mp a).1
  have hv : i < vs.length := by rw [← h.1]; exact hi
  exact ⟨vs[i], List.getElem?_eq_getElem hv, h.2 i e _ a (List.getElem?_eq_getElem hv)⟩
theorem DRl.getV {K : PySem.W.Frag} {H : Hp} {ds : List D} {vs : List V} {i : Nat} {v : V} (h : DRl K H ds vs) (a : vs[i]? = some v) : ∃ e, ds[i]? = some e ∧ DR K H e v := by
  have hv : i < vs.length := (List.getElem?_eq_some_iff.mp a).1
  have hi : i < ds.length := by rw [h.1]; exact hv
  exact ⟨ds[i], List.getElem?_eq_getElem hi, h.2 i _ v (List.getElem?_eq_getElem hi) a⟩
theorem DRl.ints {K : PySem.W.Frag} {H : Hp} : ∀ {ns : List Int} {vs : List V}, DRl K H (ns.map D.i) vs → vs = ns.map V.int
  | [], [], _ => rfl
  | [], _ :: _, h => by have := h.1; simp at this
  | _ :: _, [], h => by have := h.1; simp at this
  | n :: ns, v :: vs, h => by
    have h0 := h.2 0 (.i n) v rfl rfl
    cases h0
    have ih := DRl.ints (ns := ns) (vs := vs) ⟨by have := h.1; simpa using this, fun i e v a b => h.2 (i + 1) e v a b⟩
    rw [ih]; rfl
theorem DRl.of_ints {K : PySem.W.Frag} {H : Hp} (ns : List Int) : DRl K H (ns.map D.i) (ns.map V.int) := by
  refine ⟨by simp, fun i e v a b => ?_⟩
  rw [List.getElem?_map] at a b
  cases q : ns[i]? with
  | none => rw [q] at a; cases a
  | some z => rw [q] at a b; cases a; cases b; exact .i z
theorem DR.tup {K : PySem.W.Frag} {H : Hp} {ds : List D} {v : V} (h : DR K H (.t ds) v) : ∃ a vs, v = .ref a ∧ SqT K H a vs ∧ DRl K H ds vs := by
  cases h with
  | t h hl hv => exact ⟨_, _, rfl, h, hl, hv⟩
theorem DR.of_tup {K : PySem.W.Frag} {H : Hp} {ds : List D} {a : Addr} {vs : List V} (h : SqT K H a vs) (hd : DRl K H ds vs) : DR K H (.t ds) (.ref a) := .t h hd.1 hd.2
/-- a tuple of ints -/
abbrev tI (ns : List Int) : D := .t (ns.map D.i)
theorem DR.tupI {K : PySem.W.Frag} {H : Hp} {ns : List Int} {v : V} (h : DR K H (tI ns) v) : ∃ a, v = .ref a ∧ SqT K H a (ns.map V.int) := by
  obtain ⟨a, vs, e, h1, h2⟩ := h.tup
  have := h2.ints
  subst this
  exact ⟨a, e, h1⟩

/-! ### what a slot holds -/
structure Rp (d : Option Addr) where
  p : V → Hp → Prop
  st : ∀ {v : V} {H H' : Hp}, Ext d H H' → p v H → p v H'
section
variable {d : Option Addr}
def rI (n : Int) : Rp d := ⟨fun v _ => v = .int n, fun _ h => h⟩
def rB (b : Bool) : Rp d := ⟨fun v _ => v = .bl b, fun _ h => h⟩
def rAny : Rp d := ⟨fun _ _ => True, fun _ h => h⟩
def dat (K : PySem.W.Frag) (e : D) : Rp d := ⟨fun v H => DR K H e v, fun e h => h.tk e.tk⟩
def exR {α : Type} (P : α → Prop) (R : α → Rp d) : Rp d := ⟨fun v H => ∃ z, P z ∧ (R z).p v H, fun e ⟨z, hz, h⟩ => ⟨z, hz, (R z).st e h⟩⟩
abbrev iE (P : Int → Prop) : Rp d := exR P rI
abbrev dE (K : PySem.W.Frag) (P : D → Prop) : Rp d := exR P (dat K)
/-- a list of the def's own (or any other that is tracked) at a -/
def own (K : PySem.W.Frag) (a : Addr) (ds : List D) : Rp d := ⟨fun v H => v = .ref a ∧ some a ≠ d ∧ ∃ vs, H a = some (.lst vs) ∧ DRl K H ds vs, fun e ⟨h1, h2, vs, h3, h4⟩ => ⟨h1, h2, vs, e.at h3 h2, h4.tk e.tk⟩⟩
/-- a list of the written part -/
def KL (K : PySem.W.Frag) (a : Addr) (xs : List V) : Prop := ∃ (o : Obj) (its : Array Value) (n : Nat), K.lookup a = some o ∧ o.cls = .type "list" ∧ o.dict = none ∧ o.data = .seq its n ∧ its.size ≤ sizeLine ∧ Vals xs its.toList
/-- a list that is read: tracked (and not the draws), locked, or written -/
def SqX (d : Option Addr) (K : PySem.W.Frag) (H : Hp) (a : Addr) (xs : List V) : Prop := (some a ≠ d ∧ H a = some (.lst xs)) ∨ (∃ o, H a = some (.frz o (.lst xs))) ∨ KL K a xs
theorem SqX.sq {K : PySem.W.Frag} {H : Hp} {a : Addr} {xs : List V} (h : SqX d K H a xs) : SqL K H a xs := by
  rcases h with ⟨_, h⟩ | ⟨o, h⟩ | h
  · exact .inl (.inl h)
  · exact .inl (.inr ⟨o, h⟩)
  · exact .inr h
theorem SqX.ext {K : PySem.W.Frag} {H H' : Hp} {a : Addr} {xs : List V} (h : SqX d K H a xs) (e : Ext d H H') : SqX d K H' a xs := by
  rcases h with ⟨h1, h⟩ | ⟨o, h⟩ | h
  · exact .inl ⟨h1, e.at h h1⟩
  · exact .inr (.inl ⟨o, e.tk.frz _ _ _ h⟩)
  · exact .inr (.inr h)
/-- a list that is only read, at a -/
def lstA (K : PySem.W.Frag) (a : Addr) (ds : List D) : Rp d := ⟨fun v H => v = .ref a ∧ True ∧ ∃ vs, SqX d K H a vs ∧ DRl K H ds vs, fun e ⟨h1, h2, vs, h3, h4⟩ => ⟨h1, h2, vs, h3.ext e, h4.tk e.tk⟩⟩
def lst (K : PySem.W.Frag) (ds : List D) : Rp d := exR (fun _ => True) fun a => lstA K a ds
/-- a new list: not in B -/
def newL (B : Hp) (K : PySem.W.Frag) (ds : List D) : Rp d := exR (fun a => B a = none) fun a => own K a ds
/-- a new list, its items told by P -/
def newE (B : Hp) (K : PySem.W.Frag) (P : List D → Prop) : Rp d := exR (fun ds => P ds) fun ds => newL B K ds
def drw : Rp d := ⟨fun v H => ∃ a, v = .ref a ∧ d = some a, fun _ h => h⟩
theorem own_lstA {K : PySem.W.Frag} {a : Addr} {ds : List D} {v : V} {H : Hp} (h : (own (d := d) K a ds).p v H) : (lstA (d := d) K a ds).p v H := by
  obtain ⟨h1, h2, vs, h3, h4⟩ := h
  exact ⟨h1, trivial, vs, .inl ⟨h2, h3⟩, h4⟩
theorem newL_lst {B : Hp} {K : PySem.W.Frag} {ds : List D} {v : V} {H : Hp} (h : (newL (d := d) B K ds).p v H) : (lst (d := d) K ds).p v H := by
  obtain ⟨a, _, h⟩ := h
  exact ⟨a, trivial, own_lstA h⟩

/-! ### states -/
abbrev Ro (d : Option Addr) := List (Option (Rp d))
def Good (ρ : Ro d) (σ : L2.St) (H : Hp) : Prop := σ.length = ρ.length ∧ ∀ (i : Nat) (R : Rp d), ρ[i]? = some (some R) → ∃ v, σ[i]? = some (some v) ∧ R.p v H
structure St (B : Hp) (ρ : Ro d) (σ : L2.St) (H : Hp) : Prop where
  ext : Ext d B H
  dr : ∀ a, d = some a → Drw H a
  good : Good ρ σ H
theorem Good.mono {ρ : Ro d} {σ : L2.St} {H H' : Hp} (g : Good ρ σ H) (e : Ext d H H') : Good ρ σ H' := ⟨g.1, fun i R h => let ⟨v, a, b⟩ := g.2 i R h; ⟨v, a, R.st e b⟩⟩
theorem St.mono {B : Hp} {ρ : Ro d} {σ : L2.St} {H H' : Hp} (s : St B ρ σ H) (e : Ext d H H') : St B ρ σ H' := ⟨s.ext.trans e, fun a h => e.draw a h (s.dr a h), s.good.mono e⟩
theorem Good.set {ρ : Ro d} {σ : L2.St} {H : Hp} (g : Good ρ σ H) (i : Nat) {v : V} {R : Rp d} (h : R.p v H) : Good (ρ.set i (some R)) (σ.set i (some v)) H := by
  refine ⟨by simp [g.1], fun j R' hj => ?_⟩
  by_cases hij : i = j
  · subst hij
    have hlt : i < ρ.length := by
      have := (List.getElem?_eq_some_iff.mp hj).1
      simpa using this
    rw [List.getElem?_set_self hlt] at hj
    cases hj
    exact ⟨v, List.getElem?_set_self (by rw [g.1]; exact hlt), h⟩
  · rw [List.getElem?_set_ne hij] at hj
    obtain ⟨w, a, b⟩ := g.2 j R' hj
    exact ⟨w, by rw [List.getElem?_set_ne hij]; exact a, b⟩
theorem Good.get {ρ : Ro d} {σ : L2.St} {H : Hp} {i : Nat} {R : Rp d} (g : Good ρ σ H) (h : ρ[i]? = some (some R)) : ∃ v, σ[i]? = some (some v) ∧ R.p v H := g.2 i R h
/-- an address that is new now was not in B, and is not the draws' -/
theorem St.fresh {B : Hp} {ρ : Ro d} {σ : L2.St} {H : Hp} {p : Addr} (s : St B ρ σ H) (h : H p = none) : B p = none ∧ some p ≠ d := by
  have hd : some p ≠ d := fun e => by
    obtain ⟨ns, _, q⟩ := s.dr p e.symm
    rw [h] at q; cases q
  refine ⟨?_, hd⟩
  cases e : B p with
  | none => rfl
  | some o =>
    have := s.ext.at e hd
    rw [h] at this; cases this

/-! ### the judgements -/
variable {X : Cx}
def EX (X : Cx) (B : Hp) (ρ : Ro d) (e : Expr) (R : Rp d) : Prop := PE X e fun σ H Q => St B ρ σ H ∧ ∀ v H', Ext d H H' → R.p v H' → Q v H'
def TX (X : Cx) (B : Hp) (ρ : Ro d) (e : Expr) (P : Bool → Prop) : Prop := PT X e fun σ H Q => St B ρ σ H ∧ ∀ b H', Ext d H H' → P b → Q b H'
def WX (X : Cx) (B : Hp) (ρ : Ro d) (e : Expr) (P : Bool → Prop) : Prop := PW X e fun σ H Q => St B ρ σ H ∧ ∀ b H', Ext d H H' → P b → Q b H'
def RsH : List (Rp d) → List V → Hp → Prop
  | [], [], _ => True
  | R :: Rs, v :: vs, H => R.p v H ∧ RsH Rs vs H
  | _, _, _ => False
theorem RsH.mono : ∀ {Rs : List (Rp d)} {vs : List V} {H H' : Hp}, Ext d H H' → RsH Rs vs H → RsH Rs vs H'
  | [], [], _, _, _, _ => trivial
  | R :: Rs, v :: vs, _, _, e, h => ⟨R.st e h.1, RsH.mono e h.2⟩
  | [], _ :: _, _, _, _, h => h.elim
  | _ :: _, [], _, _, _, h => h.elim
def AX (X : Cx) (B : Hp) (ρ : Ro d) (es : List Expr) (Rs : List (Rp d)) : Prop := PA X es fun σ H Q => St B ρ σ H ∧ ∀ vs H', Ext d H H' → RsH Rs vs H' → Q vs H'
structure Le (H : Hp) (Po E : Ends) : Prop where
  nx : ∀ σ' H', Tk H H' → Po.nx σ' H' → E.nx σ' H'
  rt : ∀ v H', Tk H H' → Po.rt v H' → E.rt v H'
  bk : ∀ σ' H', Tk H H' → Po.bk σ' H' → E.bk σ' H'
  ct : ∀ σ' H', Tk H H' → Po.ct σ' H' → E.ct σ' H'
def SX (X : Cx) (s : Stmt) (Pre : L2.St → Hp → Prop) (Po : Ends) : Prop := PS X s fun E σ H => Pre σ H ∧ Le H Po E
def BX (X : Cx) (s : List Stmt) (Pre : L2.St → Hp → Prop) (Po : Ends) : Prop := PSs X s fun E σ H => Pre σ H ∧ Le H Po E
theorem PE_wk {e : Expr} {t t' : TE} (h : PE X e t) (w : ∀ σ H Q, t' σ H Q → t σ H Q) : PE X e t' := ⟨fun pins s σ H Q I q => h.run pins s σ H Q I (w σ H Q q)⟩
theorem PT_wk {e : Expr} {t t' : TT} (h : PT X e t) (w : ∀ σ H Q, t' σ H Q → t σ H Q) : PT X e t' := ⟨fun pins s σ H Q I q => h.run pins s σ H Q I (w σ H Q q)⟩
theorem PW_wk {e : Expr} {t t' : TT} (h : PW X e t) (w : ∀ σ H Q, t' σ H Q → t σ H Q) : PW X e t' := ⟨fun wh pins s σ H Q I q => h.run wh pins s σ H Q I (w σ H Q q)⟩
theorem PA_wk {e : List Expr} {t t' : TA} (h : PA X e t) (w : ∀ σ H Q, t' σ H Q → t σ H Q) : PA X e t' := ⟨fun pos pins s σ H Q I q => h.run pos pins s σ H Q I (w σ H Q q)⟩
theorem PS_wk {e : Stmt} {t t' : TS} (h : PS X e t) (w : ∀ E σ H, t' E σ H → t E σ H) : PS X e t' := ⟨fun pins s σ H E I q => h.run pins s σ H E I (w E σ H q)⟩
theorem PSs_wk {e : List Stmt} {t t' : TS} (h : PSs X e t) (w : ∀ E σ H, t' E σ H → t E σ H) : PSs X e t' := ⟨fun pins s σ H E I q => h.run pins s σ H E I (w E σ H q)⟩
theorem Le.next {H H1 : Hp} {Po E : Ends} (l : Le H Po E) (k : Tk H H1) : Le H1 Po E := ⟨fun σ' H' a => l.nx σ' H' (k.trans a), fun σ' H' a => l.rt σ' H' (k.trans a), fun σ' H' a => l.bk σ' H' (k.trans a), fun σ' H' a => l.ct σ' H' (k.trans a)⟩

/-! ### expressions -/
variable {B : Hp} {ρ : Ro d} {a b c e : Expr} {es : List Expr} {R R' Ra Rb : Rp d} {Rs : List (Rp d)} {pos : Pos} {m n : Int}
theorem x_sub (h : EX X B ρ e R) (w : ∀ v H, R.p v H → R'.p v H) : EX X B ρ e R' := PE_wk h fun σ H Q ⟨s, q⟩ => ⟨s, fun v H' e1 hv => q v H' e1 (w v H' hv)⟩
theorem x_var (i : Nat) {x : Str} (h : ρ[i]? = some (some R)) (hN : X.N[i]? = some x := by rfl) (hv : Vis X.env.scope x := by first | exact Or.inl rfl | exact Or.inr (Or.inl rfl) | exact Or.inr (Or.inr rfl)) (hd : (x == ("__debug__" : Str)) = false := by decide)
    (hcd : (x == ("__classdict__" : Str)) = false := by decide) : EX X B ρ (.Name x pos) R :=
  PE_wk (pe_var hN hv hd hcd) fun σ H Q ⟨s, q⟩ => by
    obtain ⟨v, h1, h2⟩ := s.good.get h
    exact ⟨v, h1, q v H (Ext.refl H) h2⟩
theorem x_int {j : Nat} : EX X B ρ (.Constant (.int n) j pos) (rI n) := PE_wk pe_int fun σ H Q ⟨s, q⟩ => q _ H (Ext.refl H) rfl
theorem x_bl {k : Bool} {j : Nat} : EX X B ρ (.Constant (.bool k) j pos) (rB k) := PE_wk pe_bl fun σ H Q ⟨s, q⟩ => q _ H (Ext.refl H) rfl
theorem x_non {K : PySem.W.Frag} {j : Nat} : EX X B ρ (.Constant .none j pos) (dat K .n) := PE_wk pe_non fun σ H Q ⟨s, q⟩ => q _ H (Ext.refl H) .n
theorem x_op2 {op : Operator} {r : R2} (ho : OpR X (binaryOp op) r) (ha : EX X B ρ a Ra) (hb : EX X B ρ b Rb) (h : ∀ x y H σ Q, St B ρ σ H → Ra.p x H → Rb.p y H → (∀ v H', Ext d H H' → R.p v H' → Q v H') → r x y H Q) : EX X B ρ (.BinOp a op b pos) R :=
  PE_wk (pe_op ho ha hb) fun σ H Q ⟨s, q⟩ => ⟨s, fun x H1 e1 hx => ⟨s.mono e1, fun y H2 e2 hy => h x y H2 σ Q ((s.mono e1).mono e2) (Ra.st e2 hx) hy fun v H' e' hv => q v H' (e1.trans (e2.trans e')) hv⟩⟩
theorem x_add (ha : EX X B ρ a (rI m)) (hb : EX X B ρ b (rI n)) : EX X B ρ (.BinOp a .Add b pos) (rI (m + n)) := x_op2 op_add ha hb fun x y H σ Q _ hx hy q => ⟨m, n, hx, hy, q _ H (Ext.refl H) rfl⟩
theorem x_sub_ (ha : EX X B ρ a (rI m)) (hb : EX X B ρ b (rI n)) : EX X B ρ (.BinOp a .Sub b pos) (rI (m - n)) := x_op2 op_sub ha hb fun x y H σ Q _ hx hy q => ⟨m, n, hx, hy, q _ H (Ext.refl H) rfl⟩
theorem x_addE {P S : Int → Prop} (ha : EX X B ρ a (iE P)) (hb : EX X B ρ b (iE S)) : EX X B ρ (.BinOp a .Add b pos) (iE fun z => ∃ i j, P i ∧ S j ∧ z = i + j) := x_op2 op_add ha hb fun x y H σ Q _ ⟨i, hi, hx⟩ ⟨j, hj, hy⟩ q => ⟨i, j, hx, hy, q _ H (Ext.refl H) ⟨_, ⟨i, j, hi, hj, rfl⟩, rfl⟩⟩
theorem x_subE {P S : Int → Prop} (ha : EX X B ρ a (iE P)) (hb : EX X B ρ b (iE S)) : EX X B ρ (.BinOp a .Sub b pos) (iE fun z => ∃ i j, P i ∧ S j ∧ z = i - j) := x_op2 op_sub ha hb fun x y H σ Q _ ⟨i, hi, hx⟩ ⟨j, hj, hy⟩ q => ⟨i, j, hx, hy, q _ H (Ext.refl H) ⟨_, ⟨i, j, hi, hj, rfl⟩, rfl⟩⟩
theorem x_mulE {P S : Int → Prop} (ha : EX X B ρ a (iE P)) (hb : EX X B ρ b (iE S)) (hc : ∀ i j, P i → S j → CMul i j) : EX X B ρ (.BinOp a .Mult b pos) (iE fun z => ∃ i j, P i ∧ S j ∧ z = i * j) := x_op2 op_mul ha hb fun x y H σ Q _ ⟨i, hi, hx⟩ ⟨j, hj, hy⟩ q => ⟨i, j, hx, hy, hc i j hi hj, q _ H (Ext.refl H) ⟨_, ⟨i, j, hi, hj, rfl⟩, rfl⟩⟩
theorem x_modE {P S : Int → Prop} (ha : EX X B ρ a (iE P)) (hb : EX X B ρ b (iE S)) (hc : ∀ j, S j → 0 < j) : EX X B ρ (.BinOp a .Mod b pos) (iE fun z => ∃ i j, P i ∧ S j ∧ z = i % j) := x_op2 op_mod ha hb fun x y H σ Q _ ⟨i, hi, hx⟩ ⟨j, hj, hy⟩ q => ⟨i, j, hx, hy, hc j hj, q _ H (Ext.refl H) ⟨_, ⟨i, j, hi, hj, rfl⟩, rfl⟩⟩
theorem x_mod (ha : EX X B ρ a (rI m)) (hb : EX X B ρ b (rI n)) (hc : 0 < n) : EX X B ρ (.BinOp a .Mod b pos) (rI (m % n)) := x_op2 op_mod ha hb fun x y H σ Q _ hx hy q => ⟨m, n, hx, hy, hc, q _ H (Ext.refl H) rfl⟩
theorem x_mul (ha : EX X B ρ a (rI m)) (hb : EX X B ρ b (rI n)) (hc : CMul m n) : EX X B ρ (.BinOp a .Mult b pos) (rI (m * n)) := x_op2 op_mul ha hb fun x y H σ Q _ hx hy q => ⟨m, n, hx, hy, hc, q _ H (Ext.refl H) rfl⟩
theorem x_fdiv (ha : EX X B ρ a (rI m)) (hb : EX X B ρ b (rI n)) (hc : CDiv m n) : EX X B ρ (.BinOp a .FloorDiv b pos) (rI (m / n)) := x_op2 op_fdiv ha hb fun x y H σ Q _ hx hy q => ⟨m, n, hx, hy, hc, q _ H (Ext.refl H) rfl⟩
theorem x_pow (ha : EX X B ρ a (rI m)) (hb : EX X B ρ b (rI n)) (hc : CPow m n) : EX X B ρ (.BinOp a .Pow b pos) (rI (m ^ n.toNat)) := x_op2 op_pow ha hb fun x y H σ Q _ hx hy q => ⟨m, n, hx, hy, hc, q _ H (Ext.refl H) rfl⟩
theorem x_neg (ha : EX X B ρ a (rI m)) : EX X B ρ (.UnaryOp .USub a pos) (rI (-m)) :=
  PE_wk (pe_un un_neg ha) fun σ H Q ⟨s, q⟩ => ⟨s, fun x H1 e1 hx => ⟨m, hx, q _ H1 e1 rfl⟩⟩
theorem x_I (h : EX X B ρ e (rI n)) : EX X B ρ e (iE fun z => z = n) := x_sub h fun v H hv => ⟨n, rfl, hv⟩
theorem x_iE {P S : Int → Prop} (h : EX X B ρ e (iE P)) (w : ∀ z, P z → S z) : EX X B ρ e (iE S) := x_sub h fun v H ⟨z, hz, hv⟩ => ⟨z, w z hz, hv⟩
/-! ### tests and comparisons -/
theorem x_cmp {op : CmpOp} {r : R2} (ho : OpR X (compareOp op) r) (hm : behindInMarks op b = false) (ha : EX X B ρ a Ra) (hb : EX X B ρ b Rb) (h : ∀ x y H σ Q, St B ρ σ H → Ra.p x H → Rb.p y H → (∀ v H', Ext d H H' → R.p v H' → Q v H') → r x y H Q) : EX X B ρ (.Compare a [op] [b] pos) R :=
  PE_wk (pe_cmpR ho ha hb hm) fun σ H Q ⟨s, q⟩ => ⟨s, fun x H1 e1 hx => ⟨s.mono e1, fun y H2 e2 hy => h x y H2 σ Q ((s.mono e1).mono e2) (Ra.st e2 hx) hy fun v H' e' hv => q v H' (e1.trans (e2.trans e')) hv⟩⟩
theorem t_cmp {op : CmpOp} {r : R2} {P : Bool → Prop} (ho : OpR X (compareOp op) r) (hm : behindInMarks op b = false) (ha : EX X B ρ a Ra) (hb : EX X B ρ b Rb) (h : ∀ x y H σ Q, St B ρ σ H → Ra.p x H → Rb.p y H → (∀ k H', Ext d H H' → P k → Q (.bl k) H') → r x y H Q) : TX X B ρ (.Compare a [op] [b] pos) P :=
  PT_wk (pt_cmpR ho ha hb hm) fun σ H Q ⟨s, q⟩ => ⟨s, fun x H1 e1 hx => ⟨s.mono e1, fun y H2 e2 hy => h x y H2 σ _ ((s.mono e1).mono e2) (Ra.st e2 hx) hy fun k H' e' hk => ⟨k, rfl, q k H' (e1.trans (e2.trans e')) hk⟩⟩⟩
abbrev is (k : Bool) : Bool → Prop := fun b => b = k
theorem t_lt (ha : EX X B ρ a (rI m)) (hb : EX X B ρ b (rI n)) : TX X B ρ (.Compare a [.Lt] [b] pos) (is (decide (m < n))) := t_cmp op_lt (nomark _) ha hb fun x y H σ Q _ hx hy q => ⟨m, n, hx, hy, q _ H (Ext.refl H) rfl⟩
theorem t_le (ha : EX X B ρ a (rI m)) (hb : EX X B ρ b (rI n)) : TX X B ρ (.Compare a [.LtE] [b] pos) (is (decide (m ≤ n))) := t_cmp op_le (nomark _) ha hb fun x y H σ Q _ hx hy q => ⟨m, n, hx, hy, q _ H (Ext.refl H) rfl⟩
theorem t_gt (ha : EX X B ρ a (rI m)) (hb : EX X B ρ b (rI n)) : TX X B ρ (.Compare a [.Gt] [b] pos) (is (decide (n < m))) := t_cmp op_gt (nomark _) ha hb fun x y H σ Q _ hx hy q => ⟨m, n, hx, hy, q _ H (Ext.refl H) rfl⟩
theorem t_ge (ha : EX X B ρ a (rI m)) (hb : EX X B ρ b (rI n)) : TX X B ρ (.Compare a [.GtE] [b] pos) (is (decide (n ≤ m))) := t_cmp op_ge (nomark _) ha hb fun x y H σ Q _ hx hy q => ⟨m, n, hx, hy, q _ H (Ext.refl H) rfl⟩
theorem t_eq (ha : EX X B ρ a (rI m)) (hb : EX X B ρ b (rI n)) : TX X B ρ (.Compare a [.Eq] [b] pos) (is (decide (m = n))) := t_cmp op_eq (nomark _) ha hb fun x y H σ Q _ hx hy q => by
  subst hx; subst hy
  exact ⟨rfl, q _ H (Ext.refl H) (by rw [dec_int, Bool.beq_eq_decide_eq])⟩
theorem t_ne (ha : EX X B ρ a (rI m)) (hb : EX X B ρ b (rI n)) : TX X B ρ (.Compare a [.NotEq] [b] pos) (is (!decide (m = n))) := t_cmp op_ne (nomark _) ha hb fun x y H σ Q _ hx hy q => by
  subst hx; subst hy
  exact ⟨rfl, q _ H (Ext.refl H) (by show (!decide (V.int m = V.int n)) = _; rw [dec_int, Bool.beq_eq_decide_eq])⟩
theorem t_val {k : Bool} (h : EX X B ρ e (rB k)) (he : ∀ whole, isTrue e X.env whole = (do let v ← whole; standAt e.pos; holding [v] (truthy v)) := by intro _; rfl) : TX X B ρ e (is k) :=
  PT_wk (pt_val h he) fun σ H Q ⟨s, q⟩ => ⟨s, fun v H' e1 hv => ⟨k, hv, q k H' e1 rfl⟩⟩
theorem t_not {P : Bool → Prop} (h : TX X B ρ e P) : TX X B ρ (.UnaryOp .Not e pos) (fun k => P (!k)) :=
  PT_wk (pt_not h) fun σ H Q ⟨s, q⟩ => ⟨s, fun k H' e1 hk => q (!k) H' e1 (by show P (!!k); rw [Bool.not_not]; exact hk)⟩
theorem t_sub {P S : Bool → Prop} (h : TX X B ρ e P) (w : ∀ k, P k → S k) : TX X B ρ e S := PT_wk h fun σ H Q ⟨s, q⟩ => ⟨s, fun k H' e1 hk => q k H' e1 (w k hk)⟩
theorem w_and1 {P : Bool → Prop} (h : TX X B ρ e P) : WX X B ρ (.BoolOp .And [e] pos) P := pw_and1 h
theorem w_or1 {P : Bool → Prop} (h : TX X B ρ e P) : WX X B ρ (.BoolOp .Or [e] pos) P := pw_or1 h
theorem w_and {P S : Bool → Prop} (h : TX X B ρ a P) (hb : P true → WX X B ρ (.BoolOp .And (b :: es) pos) S) : WX X B ρ (.BoolOp .And (a :: b :: es) pos) (fun k => (P true ∧ S k) ∨ (P false ∧ k = false)) := by
  by_cases hp : P true
  · exact PW_wk (pw_and h (hb hp)) fun σ H Q ⟨s, q⟩ => ⟨s, fun k H' e1 hk => by
      cases k with
      | true => exact iteT ⟨s.mono e1, fun k2 H2 e2 h2 => q k2 H2 (e1.trans e2) (.inl ⟨hp, h2⟩)⟩
      | false => exact iteF (q false H' e1 (.inr ⟨hk, rfl⟩))⟩
  · refine ⟨fun wh pins s σ H Q I ⟨st, q⟩ => ?_⟩
    refine isTrue_and (thn (h.run pins s σ H (fun k H' => k = false ∧ Q k H') I ⟨st, fun k H' e1 hk => ?_⟩) fun k s1 ⟨H1, I1, q1⟩ => ?_)
    · cases k with
      | true => exact absurd hk hp
      | false => exact ⟨rfl, q false H' e1 (.inr ⟨hk, rfl⟩)⟩
    · obtain ⟨rfl, q1⟩ := q1
      exact ⟨H1, I1, q1⟩
theorem w_or {P S : Bool → Prop} (h : TX X B ρ a P) (hb : P false → WX X B ρ (.BoolOp .Or (b :: es) pos) S) : WX X B ρ (.BoolOp .Or (a :: b :: es) pos) (fun k => (P false ∧ S k) ∨ (P true ∧ k = true)) := by
  by_cases hp : P false
  · exact PW_wk (pw_or h (hb hp)) fun σ H Q ⟨s, q⟩ => ⟨s, fun k H' e1 hk => by
      cases k with
      | true => exact iteT (q true H' e1 (.inr ⟨hk, rfl⟩))
      | false => exact iteF ⟨s.mono e1, fun k2 H2 e2 h2 => q k2 H2 (e1.trans e2) (.inl ⟨hp, h2⟩)⟩⟩
  · refine ⟨fun wh pins s σ H Q I ⟨st, q⟩ => ?_⟩
    refine isTrue_or (thn (h.run pins s σ H (fun k H' => k = true ∧ Q k H') I ⟨st, fun k H' e1 hk => ?_⟩) fun k s1 ⟨H1, I1, q1⟩ => ?_)
    · cases k with
      | false => exact absurd hk hp
      | true => exact ⟨rfl, q true H' e1 (.inr ⟨hk, rfl⟩)⟩
    · obtain ⟨rfl, q1⟩ := q1
      exact ⟨H1, I1, q1⟩
theorem t_w {P : Bool → Prop} (h : WX X B ρ e P) : TX X B ρ e P := PW.pt h
end
end Cv

namespace Cv
open PySem PySem.Spec PyProof.Rows L2
section
variable {d : Option Addr} {X : Cx} {B : Hp} {ρ : Ro d} {a b c e : Expr} {es : List Expr} {R R' Ra Rb : Rp d} {Rs : List (Rp d)} {pos : Pos} {m n : Int}
/-! ### arguments, calls -/
theorem a_nil : AX X B ρ [] [] := PA_wk pa_nil fun σ H Q ⟨s, q⟩ => q [] H (Ext.refl H) trivial
theorem a_cons (ha : EX X B ρ e R) (hr : AX X B ρ es Rs) (hs : starEach (e :: es) X.env = (false, eval e X.env) :: starEach es X.env := by rfl) : AX X B ρ (e :: es) (R :: Rs) :=
  PA_wk (pa_cons ha hr hs) fun σ H Q ⟨s, q⟩ => ⟨s, fun v H1 e1 hv => ⟨s.mono e1, fun vs H2 e2 hvs => q (v :: vs) H2 (e1.trans e2) ⟨R.st e2 hv, hvs⟩⟩⟩
/-- a promise: arguments as told by As z, then a result as told by R z (H: the heap at the call) -/
def spP {α : Type} (d : Option Addr) (As : α → List (Rp d)) (R : α → Hp → Rp d) : Sp := fun vs H Q _ => ∃ z : α, RsH (As z) vs H ∧ (∀ a, d = some a → Drw H a) ∧ ∀ v H', Ext d H H' → (R z H).p v H' → Q v H'
theorem x_call {α : Type} {As : α → List (Rp d)} {Rz : α → Hp → Rp d} {x : Str} {p : Pos} {f : Addr} {fd : FuncData} {ps : List Str} {k : Nat} {CX : CXT} {E : XK} (F : FnOk X.prog X.w X.K X.mg X.base CX k f fd ps (spP d As Rz)) (hr : Room k X.A) (hg : Gl X x) (hm : X.mg x = some (.ref f)) (hk : PySem.W.keepIn X.K (.ref f) = true) (hb : Binds X.K fd ps []) (hx : Passes CX X E)
    (z : α) (ha : AX X B ρ (e :: es) (As z)) (hR : ∀ v H H' σ, St B ρ σ H → Ext d H H' → (Rz z H).p v H' → R.p v H')
    (hdb : (x == ("__debug__" : Str)) = false := by decide) (he : starEach (e :: es) X.env = (false, eval e X.env) :: starEach es X.env := by rfl) (hpl : (backTo pos (starEach es X.env)).any (·.1) = false := by rfl) : EX X B ρ (.Call (.Name x p) (e :: es) [] pos) R :=
  PE_wk (pe_call (dvs := []) (E := E) F hr hg hm hk hb .nil hx ha (hdb := hdb) (he := he) (hpl := hpl)) fun σ H Q ⟨s, q⟩ => ⟨s, fun vs H1 e1 hvs => by
    show spP d As Rz (vs ++ []) H1 Q E
    rw [List.append_nil]
    exact ⟨z, hvs, (s.mono e1).dr, fun v H' e2 hv => q v H' (e1.trans e2) (hR v H1 H' σ (s.mono e1) e2 hv)⟩⟩
/-- a built-in by its name -/
theorem x_callB {id : String} {r : List V → Hp → VK → Prop} {x : Str} {p : Pos} (hc : CallR X (.builtin id) r) (hg : Gl X x) (hm : X.mg x = none) (hv : bootBuiltins x = some (.builtin id)) (ha : AX X B ρ (e :: es) Rs)
    (h : ∀ vs H σ Q, St B ρ σ H → RsH Rs vs H → (∀ v H', Ext d H H' → R.p v H' → Q v H') → r vs H Q)
    (hn : x ≠ "__name__" := by decide) (hdb : (x == ("__debug__" : Str)) = false := by decide) (he : starEach (e :: es) X.env = (false, eval e X.env) :: starEach es X.env := by rfl) (hpl : (backTo pos (starEach es X.env)).any (·.1) = false := by rfl) : EX X B ρ (.Call (.Name x p) (e :: es) [] pos) R :=
  PE_wk (pe_callB hc hg hm hv ha hn hdb he hpl) fun σ H Q ⟨s, q⟩ => ⟨s, fun vs H1 e1 hvs => h vs H1 σ Q (s.mono e1) hvs fun v H' e2 hv => q v H' (e1.trans e2) hv⟩
theorem x_callT {T : String} {r : List V → Hp → VK → Prop} {x : Str} {p : Pos} (hc : CallR X (.type T) r) (hg : Gl X x) (hm : X.mg x = none) (hv : bootBuiltins x = some (.type T)) (ha : AX X B ρ (e :: es) Rs)
    (h : ∀ vs H σ Q, St B ρ σ H → RsH Rs vs H → (∀ v H', Ext d H H' → R.p v H' → Q v H') → r vs H Q)
    (hn : x ≠ "__name__" := by decide) (hdb : (x == ("__debug__" : Str)) = false := by decide) (he : starEach (e :: es) X.env = (false, eval e X.env) :: starEach es X.env := by rfl) (hpl : (backTo pos (starEach es X.env)).any (·.1) = false := by rfl) : EX X B ρ (.Call (.Name x p) (e :: es) [] pos) R :=
  PE_wk (pe_callTy hc hg hm hv ha hn hdb he hpl) fun σ H Q ⟨s, q⟩ => ⟨s, fun vs H1 e1 hvs => h vs H1 σ Q (s.mono e1) hvs fun v H' e2 hv => q v H' (e1.trans e2) hv⟩
/-! ### lists and tuples -/
theorem RsH.one {v : List V} {H : Hp} (h : RsH [R] v H) : ∃ x, v = [x] ∧ R.p x H := by
  match v, h with
  | [x], h => exact ⟨x, rfl, h.1⟩
theorem RsH.two {v : List V} {H : Hp} (h : RsH [Ra, Rb] v H) : ∃ x y, v = [x, y] ∧ Ra.p x H ∧ Rb.p y H := by
  match v, h with
  | [x, y], h => exact ⟨x, y, rfl, h.1, h.2.1⟩
theorem x_len_t {ds : List D} {p : Pos} (hg : Gl X "len") (hm : X.mg "len" = none) (h : EX X B ρ e (dat X.K (.t ds))) (he : starEach [e] X.env = (false, eval e X.env) :: starEach [] X.env := by rfl) (hpl : (backTo pos (starEach [] X.env)).any (·.1) = false := by rfl) : EX X B ρ (.Call (.Name "len" p) [e] [] pos) (rI ds.length) :=
  x_callB call_len_seq hg hm PySem.boot_len (a_cons h a_nil he) (fun vs H σ Q s hv q => by
    obtain ⟨x, rfl, hx⟩ := hv.one
    obtain ⟨a, us, rfl, h1, h2⟩ := DR.tup hx
    exact ⟨a, us, rfl, .inr h1, q _ H (Ext.refl H) (by show V.int _ = V.int _; rw [h2.1])⟩) (he := he) (hpl := hpl)
theorem x_len_l {ds : List D} {l : Addr} {p : Pos} (hg : Gl X "len") (hm : X.mg "len" = none) (h : EX X B ρ e (lstA X.K l ds)) (he : starEach [e] X.env = (false, eval e X.env) :: starEach [] X.env := by rfl) (hpl : (backTo pos (starEach [] X.env)).any (·.1) = false := by rfl) : EX X B ρ (.Call (.Name "len" p) [e] [] pos) (rI ds.length) :=
  x_callB call_len_seq hg hm PySem.boot_len (a_cons h a_nil he) (fun vs H σ Q s hv q => by
    obtain ⟨x, rfl, hx⟩ := hv.one
    obtain ⟨rfl, _, us, h1, h2⟩ := hx
    exact ⟨l, us, rfl, .inl h1.sq, q _ H (Ext.refl H) (by show V.int _ = V.int _; rw [h2.1])⟩) (he := he) (hpl := hpl)
/-- the draws' length: some number -/
theorem x_len_d {p : Pos} (hg : Gl X "len") (hm : X.mg "len" = none) (h : EX X B ρ e drw) (he : starEach [e] X.env = (false, eval e X.env) :: starEach [] X.env := by rfl) (hpl : (backTo pos (starEach [] X.env)).any (·.1) = false := by rfl) : EX X B ρ (.Call (.Name "len" p) [e] [] pos) (iE fun _ => True) :=
  x_callB call_len_seq hg hm PySem.boot_len (a_cons h a_nil he) (fun vs H σ Q s hv q => by
    obtain ⟨x, rfl, a, rfl, e⟩ := hv.one
    obtain ⟨ns, _, hn⟩ := s.dr a e
    exact ⟨a, _, rfl, .inl (SqL.of hn), q _ H (Ext.refl H) ⟨_, trivial, rfl⟩⟩) (he := he) (hpl := hpl)
theorem x_lstA {l : Addr} {ds : List D} {K : PySem.W.Frag} (h : EX X B ρ e (own K l ds)) : EX X B ρ e (lstA K l ds) := x_sub h fun v H hv => own_lstA hv
/-- t[i] -/
theorem x_ixt {ds : List D} {j : Int} {w : D} (ha : EX X B ρ a (dat X.K (.t ds))) (hb : EX X B ρ b (rI j)) (hw : atI ds j = some w) (hs : PlainIx b := by exact (fun _ _ => rfl)) : EX X B ρ (.Subscript a b pos) (dat X.K w) :=
  PE_wk (pe_ix ix_tup ha hb hs) fun σ H Q ⟨s, q⟩ => ⟨s, fun x H1 e1 hx => ⟨s.mono e1, fun y H2 e2 hy => by
    obtain ⟨p, us, rfl, h1, h2⟩ := DR.tup hx
    obtain ⟨k, hk, hkw⟩ : ∃ k : Nat, ixN ds.length j = some k ∧ ds[k]? = some w := by
      unfold atI at hw
      cases q' : ixN ds.length j with
      | none => rw [q'] at hw; cases hw
      | some k => rw [q'] at hw; exact ⟨k, rfl, hw⟩
    obtain ⟨v, hv, hr⟩ := h2.get hkw
    refine ⟨p, us, j, v, rfl, hy, e2.tk.sqT h1, ?_, q v H2 (e1.trans e2) (hr.tk e2.tk)⟩
    unfold atI
    rw [← h2.1, hk]
    exact hv⟩⟩
theorem x_ixl {l : Addr} {ds : List D} {j : Int} {w : D} (ha : EX X B ρ a (lstA X.K l ds)) (hb : EX X B ρ b (rI j)) (hw : atI ds j = some w) (hs : PlainIx b := by exact (fun _ _ => rfl)) : EX X B ρ (.Subscript a b pos) (dat X.K w) :=
  PE_wk (pe_ix ix_list ha hb hs) fun σ H Q ⟨s, q⟩ => ⟨s, fun x H1 e1 hx => ⟨s.mono e1, fun y H2 e2 hy => by
    obtain ⟨rfl, hd, us, h1, h2⟩ := hx
    obtain ⟨k, hk, hkw⟩ : ∃ k : Nat, ixN ds.length j = some k ∧ ds[k]? = some w := by
      unfold atI at hw
      cases q' : ixN ds.length j with
      | none => rw [q'] at hw; cases hw
      | some k => rw [q'] at hw; exact ⟨k, rfl, hw⟩
    obtain ⟨v, hv, hr⟩ := h2.get hkw
    refine ⟨l, us, j, v, rfl, hy, (h1.ext e2).sq, ?_, q v H2 (e1.trans e2) (hr.tk e2.tk)⟩
    unfold atI
    rw [← h2.1, hk]
    exact hv⟩⟩
/-- t[i], xs[i], the place only told by P -/
theorem x_ixlE {l : Addr} {ds : List D} {P : Int → Prop} (ha : EX X B ρ a (lstA X.K l ds)) (hb : EX X B ρ b (iE P)) (hw : ∀ j, P j → 0 ≤ j ∧ j < ds.length) (hs : PlainIx b := by exact (fun _ _ => rfl)) : EX X B ρ (.Subscript a b pos) (dE X.K fun w => ∃ k : Nat, P k ∧ ds[k]? = some w) :=
  PE_wk (pe_ix ix_list ha hb hs) fun σ H Q ⟨s, q⟩ => ⟨s, fun x H1 e1 hx => ⟨s.mono e1, fun y H2 e2 hy => by
    obtain ⟨rfl, hd, us, h1, h2⟩ := hx
    obtain ⟨j, hj, hy⟩ := hy
    obtain ⟨h0, hl⟩ := hw j hj
    obtain ⟨k, rfl⟩ : ∃ k : Nat, j = (k : Int) := ⟨j.toNat, by omega⟩
    have hk : k < ds.length := by omega
    obtain ⟨v, hv, hr⟩ := h2.get (List.getElem?_eq_getElem hk)
    exact ⟨l, us, _, v, rfl, hy, (h1.ext e2).sq, atI_nat hv, q v H2 (e1.trans e2) ⟨_, ⟨k, hj, List.getElem?_eq_getElem hk⟩, hr.tk e2.tk⟩⟩⟩⟩
/-- data that is an int, a bool -/
theorem x_dI {K : PySem.W.Frag} (h : EX X B ρ e (dat K (.i n))) : EX X B ρ e (rI n) := x_sub h fun v H hv => by cases hv; rfl
theorem x_dB {K : PySem.W.Frag} {k : Bool} (h : EX X B ρ e (dat K (.b k))) : EX X B ρ e (rB k) := x_sub h fun v H hv => by cases hv; rfl
theorem x_Id {K : PySem.W.Frag} (h : EX X B ρ e (rI n)) : EX X B ρ e (dat K (.i n)) := x_sub h fun v H hv => by cases hv; exact .i n
theorem x_Bd {K : PySem.W.Frag} {k : Bool} (h : EX X B ρ e (rB k)) : EX X B ρ e (dat K (.b k)) := x_sub h fun v H hv => by cases hv; exact .b k
theorem x_dEi {K : PySem.W.Frag} {P : Int → Prop} {S : D → Prop} (h : EX X B ρ e (dE K S)) (w : ∀ z, S z → ∃ n, z = .i n ∧ P n) : EX X B ρ e (iE P) := x_sub h fun v H ⟨z, hz, hv⟩ => by
  obtain ⟨n, rfl, hn⟩ := w z hz
  cases hv
  exact ⟨n, hn, rfl⟩
/-- (a, b, ..) of data -/
def DsH (K : PySem.W.Frag) : List D → List (Rp d)
  | [] => []
  | e :: es => dat K e :: DsH K es
theorem DsH.drl {K : PySem.W.Frag} : ∀ {ds : List D} {vs : List V} {H : Hp}, RsH (DsH (d := d) K ds) vs H → DRl K H ds vs
  | [], [], _, _ => DRl.nil
  | [], _ :: _, _, h => h.elim
  | _ :: _, [], _, h => h.elim
  | e :: ds, v :: vs, H, h => by
    have ih := DsH.drl (ds := ds) (vs := vs) (H := H) h.2
    refine ⟨by simp [ih.1], fun i e' v' a b => ?_⟩
    cases i with
    | zero => cases a; cases b; exact h.1
    | succ i => exact ih.2 i e' v' a b
theorem x_tup {ds : List D} {x1} (h : AX X B ρ es (DsH X.K ds)) (hl : ds.length ≤ 1000 := by first | decide | simp) : EX X B ρ (.Tuple es x1 pos) (dat X.K (.t ds)) :=
  PE_wk (pe_tup h) fun σ H Q ⟨s, q⟩ => ⟨s, fun vs H1 e1 hv => by
    have hd := DsH.drl hv
    refine ⟨by rw [← hd.1]; exact Nat.le_of_lt (small1000 hl), fun p hp => q _ _ (e1.trans (Ext.new hp)) ?_⟩
    exact DR.of_tup (SqT.of upd_same) (hd.tk (Ext.new (d := d) hp).tk)⟩
/-- [a, b, ..] -/
theorem x_lst {ds : List D} (h : AX X B ρ es (DsH X.K ds)) (hl : ds.length ≤ 1000 := by first | decide | simp) : EX X B ρ (.List es pos) (newL B X.K ds) :=
  PE_wk (pe_lst h) fun σ H Q ⟨s, q⟩ => ⟨s, fun vs H1 e1 hv => by
    have hd := DsH.drl hv
    refine ⟨by rw [← hd.1]; exact Nat.le_of_lt (small1000 hl), fun p hp => q _ _ (e1.trans (Ext.new hp)) ?_⟩
    obtain ⟨hB, hpd⟩ := (s.mono e1).fresh hp
    exact ⟨p, hB, rfl, hpd, vs, upd_same, hd.tk (Ext.new (d := d) hp).tk⟩⟩
/-- tuple(xs), list(xs), list(t) -/
theorem x_tuple_l {l : Addr} {ds : List D} {p : Pos} (hg : Gl X "tuple") (hm : X.mg "tuple" = none) (h : EX X B ρ e (lstA X.K l ds)) (he : starEach [e] X.env = (false, eval e X.env) :: starEach [] X.env := by rfl) (hpl : (backTo pos (starEach [] X.env)).any (·.1) = false := by rfl) : EX X B ρ (.Call (.Name "tuple" p) [e] [] pos) (dat X.K (.t ds)) :=
  x_callT call_tuple_of hg hm (by decide +kernel) (a_cons h a_nil he) (fun vs H σ Q s hv q => by
    obtain ⟨x, rfl, hx⟩ := hv.one
    obtain ⟨rfl, _, us, h1, h2⟩ := hx
    exact ⟨l, us, rfl, .inl ⟨h1.sq, fun r hr => q _ _ (Ext.new hr) (DR.of_tup (SqT.of upd_same) (h2.tk (Ext.new (d := d) hr).tk))⟩⟩) (he := he) (hpl := hpl)
theorem x_tuple_lE {S : List D → Prop} {p : Pos} (hg : Gl X "tuple") (hm : X.mg "tuple" = none) (h : EX X B ρ e (newE B X.K S)) (he : starEach [e] X.env = (false, eval e X.env) :: starEach [] X.env := by rfl) (hpl : (backTo pos (starEach [] X.env)).any (·.1) = false := by rfl) : EX X B ρ (.Call (.Name "tuple" p) [e] [] pos) (dE X.K fun w => ∃ ds, S ds ∧ w = .t ds) :=
  x_callT call_tuple_of hg hm (by decide +kernel) (a_cons h a_nil he) (fun vs H σ Q s hv q => by
    obtain ⟨x, rfl, hx⟩ := hv.one
    obtain ⟨ds, hS, l, _, rfl, _, us, h1, h2⟩ := hx
    exact ⟨l, us, rfl, .inl ⟨SqL.of h1, fun r hr => q _ _ (Ext.new hr) ⟨_, ⟨ds, hS, rfl⟩, DR.of_tup (SqT.of upd_same) (h2.tk (Ext.new (d := d) hr).tk)⟩⟩⟩) (he := he) (hpl := hpl)
theorem x_tuple_t {ds : List D} {p : Pos} (hg : Gl X "tuple") (hm : X.mg "tuple" = none) (h : EX X B ρ e (dat X.K (.t ds))) (he : starEach [e] X.env = (false, eval e X.env) :: starEach [] X.env := by rfl) (hpl : (backTo pos (starEach [] X.env)).any (·.1) = false := by rfl) : EX X B ρ (.Call (.Name "tuple" p) [e] [] pos) (dat X.K (.t ds)) :=
  x_callT call_tuple_of hg hm (by decide +kernel) (a_cons h a_nil he) (fun vs H σ Q s hv q => by
    obtain ⟨x, rfl, hx⟩ := hv.one
    obtain ⟨l, us, rfl, h1, h2⟩ := DR.tup hx
    exact ⟨l, us, rfl, .inr ⟨h1, q _ H (Ext.refl H) (DR.of_tup h1 h2)⟩⟩) (he := he) (hpl := hpl)
theorem x_list_l {l : Addr} {ds : List D} {p : Pos} (hg : Gl X "list") (hm : X.mg "list" = none) (h : EX X B ρ e (lstA X.K l ds)) (he : starEach [e] X.env = (false, eval e X.env) :: starEach [] X.env := by rfl) (hpl : (backTo pos (starEach [] X.env)).any (·.1) = false := by rfl) : EX X B ρ (.Call (.Name "list" p) [e] [] pos) (newL B X.K ds) :=
  x_callT call_list_of hg hm (by decide +kernel) (a_cons h a_nil he) (fun vs H σ Q s hv q => by
    obtain ⟨x, rfl, hx⟩ := hv.one
    obtain ⟨rfl, _, us, h1, h2⟩ := hx
    refine ⟨l, us, rfl, .inl h1.sq, fun r hr => q _ _ (Ext.new hr) ?_⟩
    obtain ⟨hB, hpd⟩ := s.fresh hr
    exact ⟨r, hB, rfl, hpd, us, upd_same, h2.tk (Ext.new (d := d) hr).tk⟩) (he := he) (hpl := hpl)
theorem x_list_t {ds : List D} {p : Pos} (hg : Gl X "list") (hm : X.mg "list" = none) (h : EX X B ρ e (dat X.K (.t ds))) (he : starEach [e] X.env = (false, eval e X.env) :: starEach [] X.env := by rfl) (hpl : (backTo pos (starEach [] X.env)).any (·.1) = false := by rfl) : EX X B ρ (.Call (.Name "list" p) [e] [] pos) (newL B X.K ds) :=
  x_callT call_list_of hg hm (by decide +kernel) (a_cons h a_nil he) (fun vs H σ Q s hv q => by
    obtain ⟨x, rfl, hx⟩ := hv.one
    obtain ⟨l, us, rfl, h1, h2⟩ := DR.tup hx
    refine ⟨l, us, rfl, .inr h1, fun r hr => q _ _ (Ext.new hr) ?_⟩
    obtain ⟨hB, hpd⟩ := s.fresh hr
    exact ⟨r, hB, rfl, hpd, us, upd_same, h2.tk (Ext.new (d := d) hr).tk⟩) (he := he) (hpl := hpl)
/-- int(e) -/
theorem x_intE {P : Int → Prop} {p : Pos} (hg : Gl X "int") (hm : X.mg "int" = none) (h : EX X B ρ e (iE P)) (he : starEach [e] X.env = (false, eval e X.env) :: starEach [] X.env := by rfl) (hpl : (backTo pos (starEach [] X.env)).any (·.1) = false := by rfl) : EX X B ρ (.Call (.Name "int" p) [e] [] pos) (iE P) :=
  x_callT call_int1 hg hm (by decide +kernel) (a_cons h a_nil he) (fun vs H σ Q s hv q => by
    obtain ⟨x, rfl, n, hn, rfl⟩ := hv.one
    exact .inl ⟨n, rfl, q _ H (Ext.refl H) ⟨n, hn, rfl⟩⟩) (he := he) (hpl := hpl)
theorem x_int_ {p : Pos} (hg : Gl X "int") (hm : X.mg "int" = none) (h : EX X B ρ e (rI n)) (he : starEach [e] X.env = (false, eval e X.env) :: starEach [] X.env := by rfl) (hpl : (backTo pos (starEach [] X.env)).any (·.1) = false := by rfl) : EX X B ρ (.Call (.Name "int" p) [e] [] pos) (rI n) :=
  x_callT call_int1 hg hm (by decide +kernel) (a_cons h a_nil he) (fun vs H σ Q s hv q => by
    obtain ⟨x, rfl, rfl⟩ := hv.one
    exact .inl ⟨n, rfl, q _ H (Ext.refl H) rfl⟩) (he := he) (hpl := hpl)
/-- a module's constant -/
theorem x_globI {x : Str} {t : Tok} (hg : Gl X x) (hm : X.mg x = some (.int n t)) (hd : (x == ("__debug__" : Str)) = false := by decide) : EX X B ρ (.Name x pos) (rI n) := PE_wk (pe_glob (v := .int n) hg hm ⟨_, rfl⟩ hd) fun σ H Q ⟨s, q⟩ => q _ H (Ext.refl H) rfl
end
end Cv

namespace Cv
open PySem PySem.Spec PyProof.Rows L2
section
variable {d : Option Addr} {X : Cx} {B : Hp} {ρ ρ' : Ro d} {a b c e : Expr} {es : List Expr} {R R' Ra Rb : Rp d} {Rs : List (Rp d)} {pos : Pos} {m n : Int} {st : Stmt} {rest body orelse : List Stmt} {Pre Mid : L2.St → Hp → Prop} {Po : Ends}
/-! ### slots that tell less -/
inductive Sub : Ro d → Ro d → Prop
  | nil : Sub [] []
  | drop {o : Option (Rp d)} {r r' : Ro d} (h : Sub r r') : Sub (o :: r) (none :: r')
  | same {o : Option (Rp d)} {r r' : Ro d} (h : Sub r r') : Sub (o :: r) (o :: r')
  | cons {R R' : Rp d} {r r' : Ro d} (w : ∀ v H, R.p v H → R'.p v H) (h : Sub r r') : Sub (some R :: r) (some R' :: r')
theorem Sub.len {r r' : Ro d} (h : Sub r r') : r.length = r'.length := by
  induction h with
  | nil => rfl
  | drop _ ih => simp [ih]
  | same _ ih => simp [ih]
  | cons _ _ ih => simp [ih]
theorem Sub.get {r r' : Ro d} (h : Sub r r') : ∀ (i : Nat) (R' : Rp d), r'[i]? = some (some R') → ∃ R : Rp d, r[i]? = some (some R) ∧ ∀ v H, R.p v H → R'.p v H := by
  induction h with
  | nil => intro i R' h; cases h
  | drop _ ih =>
    intro i R' h
    cases i with
    | zero => cases h
    | succ i => exact ih i R' h
  | same _ ih =>
    intro i R' h
    cases i with
    | zero => exact ⟨R', h, fun _ _ q => q⟩
    | succ i => exact ih i R' h
  | cons w _ ih =>
    intro i R' h
    cases i with
    | zero => cases h; exact ⟨_, rfl, w⟩
    | succ i => exact ih i R' h
theorem St.sub {σ : L2.St} {H : Hp} (s : St B ρ σ H) (w : Sub ρ ρ') : St B ρ' σ H := ⟨s.ext, s.dr, by rw [s.good.1, w.len], fun i R' h => by
  obtain ⟨R, h1, h2⟩ := w.get i R' h
  obtain ⟨v, h3, h4⟩ := s.good.2 i R h1
  exact ⟨v, h3, h2 v H h4⟩⟩
/-! ### blocks -/
theorem bx_nil (h : ∀ σ H, Pre σ H → Po.nx σ H) : BX X [] Pre Po := PSs_wk pss_nil fun E σ H ⟨p, l⟩ => l.nx σ H (Tk.refl H) (h σ H p)
theorem bx_cons (h1 : SX X st Pre { Po with nx := Mid }) (h2 : BX X rest Mid Po) : BX X (st :: rest) Pre Po :=
  PSs_wk (pss_cons h1 h2) fun E σ H ⟨p, l⟩ => ⟨p, fun σ' H' k q => ⟨q, l.next k⟩, l.rt, l.bk, l.ct⟩
theorem bx_one (h1 : SX X st Pre Po) : BX X [st] Pre Po := pss_one h1
theorem bx_pre {Pre' : L2.St → Hp → Prop} (h : BX X rest Pre' Po) (w : ∀ σ H, Pre σ H → Pre' σ H) : BX X rest Pre Po := PSs_wk h fun E σ H ⟨p, l⟩ => ⟨w σ H p, l⟩
theorem bx_sub (w : Sub ρ ρ') (h : BX X rest (St B ρ') Po) : BX X rest (St B ρ) Po := bx_pre h fun σ H s => s.sub w
theorem bx_ex {α : Type} {P : α → Prop} {Pr : α → L2.St → Hp → Prop} (h : ∀ z, P z → BX X rest (Pr z) Po) : BX X rest (fun σ H => ∃ z, P z ∧ Pr z σ H) Po :=
  ⟨fun pins s σ H E I ⟨⟨z, hz, p⟩, l⟩ => (h z hz).run pins s σ H E I ⟨p, l⟩⟩
theorem bx_and {P : Prop} (h : P → BX X rest Pre Po) : BX X rest (fun σ H => P ∧ Pre σ H) Po := ⟨fun pins s σ H E I ⟨⟨hp, p⟩, l⟩ => (h hp).run pins s σ H E I ⟨p, l⟩⟩
theorem bx_false : BX X rest (fun _ _ => False) Po := ⟨fun pins s σ H E I ⟨p, l⟩ => p.elim⟩
/-- a slot's existential opened -/
theorem bx_open {α : Type} {P : α → Prop} {Rz : α → Rp d} (i : Nat) (hi : ρ[i]? = some (some (exR P Rz))) (h : ∀ z, P z → BX X rest (St B (ρ.set i (some (Rz z)))) Po) : BX X rest (St B ρ) Po := by
  refine ⟨fun pins s σ H E I ⟨p, l⟩ => ?_⟩
  obtain ⟨v, h1, z, hz, h2⟩ := p.good.get hi
  refine (h z hz).run pins s σ H E I ⟨⟨p.ext, p.dr, ?_⟩, l⟩
  have g := p.good.set i (R := Rz z) h2
  have e : σ.set i (some v) = σ := by
    apply List.ext_getElem?
    intro j
    by_cases hij : i = j
    · subst hij
      rw [List.getElem?_set_self (List.getElem?_eq_some_iff.mp h1).1, h1]
    · rw [List.getElem?_set_ne hij]
  rw [e] at g
  exact g
/-- a fact that a slot's reading holds -/
theorem bx_fact {i : Nat} {P : Prop} (hi : ρ[i]? = some (some R)) (w : ∀ v H, R.p v H → P) (h : P → BX X rest (St B ρ) Po) : BX X rest (St B ρ) Po := by
  refine ⟨fun pins s σ H E I ⟨p, l⟩ => ?_⟩
  obtain ⟨v, h1, h2⟩ := p.good.get hi
  exact (h (w v H h2)).run pins s σ H E I ⟨p, l⟩
/-! ### statements -/
theorem s_set (i : Nat) {x : Str} {pos' : Pos} (he : EX X B ρ e R) (hN : X.N.Nodup) (hi : X.N[i]? = some x := by rfl) (hx : Loc X.env.scope x := by first | exact Or.inl rfl | exact Or.inr rfl) (hs : swapsWith e (some (.Name x pos')) pos.line X.env = pure false := by rfl)
    (hf : X.fn x = true ∨ X.env.scope.names.lookup x = some .local := by first | exact .inl rfl | exact .inr rfl | assumption) : SX X (.Assign [.Name x pos'] e pos) (St B ρ) { Po with nx := St B (ρ.set i (some R)) } :=
  PS_wk (ps_set hN hi hx he hs hf) fun E σ H ⟨s, l⟩ => ⟨s, fun v H' e1 hv => l.nx _ H' e1.tk ⟨s.ext.trans e1, (s.mono e1).dr, (s.mono e1).good.set i hv⟩⟩
theorem bx_set (i : Nat) {x : Str} {pos' : Pos} (he : EX X B ρ e R) (h : BX X rest (St B (ρ.set i (some R))) Po) (hN : X.N.Nodup) (hi : X.N[i]? = some x := by rfl) (hx : Loc X.env.scope x := by first | exact Or.inl rfl | exact Or.inr rfl) (hs : swapsWith e (some (.Name x pos')) pos.line X.env = pure false := by rfl)
    (hf : X.fn x = true ∨ X.env.scope.names.lookup x = some .local := by first | exact .inl rfl | exact .inr rfl | assumption) : BX X (.Assign [.Name x pos'] e pos :: rest) (St B ρ) Po := bx_cons (s_set i he hN hi hx hs hf) h
theorem bx_setLast (i : Nat) {x : Str} {pos' : Pos} (he : EX X B ρ e R) (h : ∀ σ H, St B (ρ.set i (some R)) σ H → Po.nx σ H) (hN : X.N.Nodup) (hi : X.N[i]? = some x := by rfl) (hx : Loc X.env.scope x := by first | exact Or.inl rfl | exact Or.inr rfl) (hs : swapsWith e (some (.Name x pos')) pos.line X.env = pure false := by rfl)
    (hf : X.fn x = true ∨ X.env.scope.names.lookup x = some .local := by first | exact .inl rfl | exact .inr rfl | assumption) : BX X [.Assign [.Name x pos'] e pos] (St B ρ) Po := bx_set i he (bx_nil h) hN hi hx hs hf
theorem bx_expr (he : EX X B ρ e R) (h : BX X rest (St B ρ) Po) (hs : swapsWith e none pos.line X.env = pure false := by rfl) : BX X (.Expr e pos :: rest) (St B ρ) Po :=
  bx_cons (PS_wk (ps_expr he hs) fun E σ H ⟨s, l⟩ => ⟨s, fun v H' e1 hv => l.nx σ H' e1.tk (s.mono e1)⟩) h
theorem bx_ret (he : EX X B ρ e R) (h : ∀ v σ H, St B ρ σ H → R.p v H → Po.rt v H) : BX X (.Return (some e) pos :: rest) (St B ρ) Po :=
  bx_cons (Mid := fun _ _ => False) (PS_wk (ps_ret he) fun E σ H ⟨s, l⟩ => ⟨s, fun v H' e1 hv => l.rt v H' e1.tk (h v σ H' (s.mono e1) hv)⟩) bx_false
/-- if c: body (that leaves); then the rest -/
theorem bx_ifret {P : Bool → Prop} (hc : TX X B ρ c P) (h1 : P true → BX X body (St B ρ) { Po with nx := fun _ _ => False }) (h2 : P false → BX X rest (St B ρ) Po) : BX X (.If c body [] pos :: rest) (St B ρ) Po := by
  refine bx_cons (Mid := fun σ H => P false ∧ St B ρ σ H) ?_ (bx_and h2)
  by_cases hp : P true
  · refine PS_wk (ps_if hc (h1 hp) pss_nil) fun E σ H ⟨s, l⟩ => ⟨s, fun k H' e1 hk => ?_⟩
    cases k with
    | true => exact iteT ⟨s.mono e1, ⟨fun _ _ _ q => q.elim, fun v H2 k2 q => l.rt v H2 (e1.tk.trans k2) q, fun σ2 H2 k2 q => l.bk σ2 H2 (e1.tk.trans k2) q, fun σ2 H2 k2 q => l.ct σ2 H2 (e1.tk.trans k2) q⟩⟩
    | false => exact iteF (l.nx σ H' e1.tk ⟨hk, s.mono e1⟩)
  · refine PS_wk (ps_if (PT_wk hc (t' := fun σ H Q => St B ρ σ H ∧ ∀ H', Ext d H H' → P false → Q false H') fun σ H Q ⟨s, q⟩ => ⟨s, fun k H' e1 hk => by
      cases k with
      | true => exact absurd hk hp
      | false => exact q H' e1 hk⟩) (pss_never (X := X)) pss_nil) fun E σ H ⟨s, l⟩ => ⟨s, fun H' e1 hk => iteF (l.nx σ H' e1.tk ⟨hk, s.mono e1⟩)⟩
/-- if c: body else: orelse, both to Mid -/
theorem bx_if {P : Bool → Prop} (Mid : L2.St → Hp → Prop) (hc : TX X B ρ c P) (h1 : P true → BX X body (St B ρ) { Po with nx := Mid }) (h2 : P false → BX X orelse (St B ρ) { Po with nx := Mid }) (h3 : BX X rest Mid Po) : BX X (.If c body orelse pos :: rest) (St B ρ) Po := by
  refine bx_cons (Mid := Mid) ?_ h3
  refine ⟨fun pins s σ H E I ⟨st, l⟩ => ?_⟩
  refine wpAny_If (thn (hc.run pins s σ H (fun k H' => Ext d H H' ∧ P k) I ⟨st, fun k H' e1 hk => ⟨e1, hk⟩⟩) fun k s1 ⟨H1, I1, e1, hk⟩ => ?_)
  have l1 : Le H1 { Po with nx := Mid } E := l.next e1.tk
  cases k with
  | true => exact (h1 hk).run pins s1 σ H1 E I1 ⟨st.mono e1, l1⟩
  | false => exact (h2 hk).run pins s1 σ H1 E I1 ⟨st.mono e1, l1⟩
/-! ### a def -/
def Rt (B : Hp) (R : Rp d) : Ends := { nx := fun _ H => Ext d B H ∧ R.p .non H, rt := fun v H => Ext d B H ∧ R.p v H }
theorem bx_retR (he : EX X B ρ e R) (hp : Po.rt = fun v H => Ext d B H ∧ R.p v H) : BX X (.Return (some e) pos :: rest) (St B ρ) Po := bx_ret he fun v σ H s hv => by rw [hp]; exact ⟨s.ext, hv⟩
def ro (Rs : List (Rp d)) (k : Nat) : Ro d := Rs.map some ++ List.replicate k none
theorem RsH.len : ∀ {Rs : List (Rp d)} {vs : List V} {H : Hp}, RsH Rs vs H → vs.length = Rs.length
  | [], [], _, _ => rfl
  | [], _ :: _, _, h => h.elim
  | _ :: _, [], _, h => h.elim
  | _ :: _, _ :: _, _, h => by simp [RsH.len h.2]
theorem RsH.get : ∀ {Rs : List (Rp d)} {vs : List V} {H : Hp} {i : Nat} {R : Rp d}, RsH Rs vs H → Rs[i]? = some R → ∃ v, vs[i]? = some v ∧ R.p v H
  | [], _, _, _, _, _, h => by simp at h
  | _ :: _, [], _, _, _, h, _ => h.elim
  | R :: Rs, v :: vs, H, 0, R', h, e => by cases e; exact ⟨v, rfl, h.1⟩
  | R :: Rs, v :: vs, H, i + 1, R', h, e => RsH.get (Rs := Rs) (vs := vs) h.2 e
theorem st_start {N : List Str} {vs : List V} {H : Hp} (h : RsH Rs vs H) (hl : Rs.length ≤ N.length) (dr : ∀ a, d = some a → Drw H a) : St H (ro Rs (N.length - Rs.length)) (L2.start N vs) H := by
  refine ⟨Ext.refl H, dr, ?_, fun i R e => ?_⟩
  · unfold L2.start ro
    rw [List.length_append, List.length_append, List.length_map, List.length_map, List.length_replicate, List.length_replicate, h.len]
  · unfold ro at e
    by_cases hi : i < Rs.length
    · rw [List.getElem?_append_left (by simpa using hi), List.getElem?_map] at e
      cases q : Rs[i]? with
      | none => rw [q] at e; cases e
      | some R0 =>
        rw [q] at e
        have e' : R0 = R := Option.some.inj (Option.some.inj e)
        subst e'
        obtain ⟨v, h1, h2⟩ := h.get q
        refine ⟨v, ?_, h2⟩
        unfold L2.start
        rw [List.getElem?_append_left (by rw [List.length_map, h.len]; exact hi), List.getElem?_map, h1]
        rfl
    · rw [List.getElem?_append_right (by simpa using Nat.le_of_not_lt hi), List.getElem?_replicate] at e
      split at e <;> cases e
variable {Pg : Program} {w : World} {K : PySem.W.Frag} {mg : Str → Option Value} {base : Heap}
theorem fn_ok {α : Type} {As : α → List (Rp d)} {Rz : α → Hp → Rp d} {x qual : Str} {sd : Stmt} {f : Addr} {fd : FuncData} {N ps : List Str} {k : Nat} (F : Fun K x qual sd f fd) (S : FnScope N ps (defScope sd)) (hl : ∀ z, (As z).length = ps.length) (hN : ps.length ≤ N.length)
    (body : ∀ (z : α) (H : Hp) (cdv : Value) (A : Around) (outer : List Env) (s : Shared) (E : XK), Room k (A.deeper (envOfC qual (defScope sd) s.heap.objs.size f cdv)) →
      BX (cxOf CX0 Pg w K mg base N qual (defScope sd) f cdv A outer s H E).nox (defBody sd) (St H (ro (As z) (N.length - (As z).length))) (Rt H (Rz z H))) : FnOk Pg w K mg base CX0 (k + 1) f fd ps (spP d As Rz) := by
  refine F.ok S (fun vs H Q E ⟨z, h, _⟩ => by rw [h.len, hl]) (fun cdv A outer s H vs Q E hr h => ?_)
  obtain ⟨z, hz, dr, q⟩ := h
  refine ⟨_, body z H cdv A outer s E hr, st_start hz (by rw [hl]; exact hN) dr, ?_⟩
  exact ⟨fun σ' H' _ ⟨e1, h1⟩ => q _ H' e1 h1, fun v H' _ ⟨e1, h1⟩ => q v H' e1 h1, fun _ _ _ h => h.elim, fun _ _ _ h => h.elim⟩
end
end Cv

namespace Cv
open PySem PySem.Spec PyProof.Rows L2 RZ
section
variable {d : Option Addr} {X : Cx} {B : Hp} {ρ ρ' : Ro d} {a b c e iter : Expr} {es : List Expr} {R R' Ra Rb : Rp d} {Rs : List (Rp d)} {pos : Pos} {m n : Int} {st : Stmt} {rest body orelse : List Stmt} {Pre Mid : L2.St → Hp → Prop} {Po : Ends}
/-! ### loops -/
/-- the state between two turns: some z with P z, the slots as r z -/
def IS {α : Type} (B : Hp) (P : α → Prop) (r : α → Ro d) : L2.St → Hp → Prop := fun σ H => ∃ z, P z ∧ St B (r z) σ H
def Lp (Po : Ends) (I : L2.St → Hp → Prop) (M : L2.St → Hp → Prop) : Ends := { nx := I, rt := Po.rt, bk := M, ct := I }
def tBody {Z : Type} (B : Hp) (pr : Z → Ro d) (S : Z → Prop) (po : Z → Ends) : TS := fun E σ H => ∃ z, S z ∧ St B (pr z) σ H ∧ Le H (po z) E
theorem bx_forT {α : Type} {ds : List D} (j : Nat) {x : Str} {tpos : Pos} (P : Nat → α → Prop) (r : Nat → α → Ro d) (hi : EX X B ρ iter (dat X.K (.t ds))) (h0 : ∀ σ H, St B ρ σ H → IS B (P 0) (r 0) σ H)
    (hb : ∀ i w z, ds[i]? = some w → P i z → BX X body (St B ((r i z).set j (some (dat X.K w)))) (Lp Po (IS B (P (i + 1)) (r (i + 1))) (IS B (P ds.length) (r ds.length)))) (h : BX X rest (IS B (P ds.length) (r ds.length)) Po)
    (hN : X.N.Nodup) (hp : PassesOwn (model X.prog X.w) X.A X.env X.xe) (hj : X.N[j]? = some x := by rfl) (hc : X.calm = true := by rfl) (hx : Loc X.env.scope x := by first | exact Or.inl rfl | exact Or.inr rfl)
    (hf : X.fn x = true ∨ X.env.scope.names.lookup x = some .local := by first | exact .inl rfl | exact .inr rfl | assumption) (hs : ∀ x, foldedSetIterable iter X.env x = pure x := by intro _; rfl) : BX X (.For (.Name x tpos) iter body [] pos :: rest) (St B ρ) Po := by
  refine bx_cons (Mid := IS B (P ds.length) (r ds.length)) ?_ h
  refine PS_wk (t := tFor (iTup X.K fun σ H Q => St B ρ σ H ∧ ∀ v H', Ext d H H' → (dat X.K (.t ds)).p v H' → Q v H') (gName j) (tBody (Z := Nat × D × α) B (fun z => (r z.1 z.2.2).set j (some (dat X.K z.2.1))) (fun z => ds[z.1]? = some z.2.1 ∧ P z.1 z.2.2) (fun z => Lp Po (IS B (P (z.1 + 1)) (r (z.1 + 1))) (IS B (P ds.length) (r ds.length)))))
    (ps_for hp hc (pi_tup hi) (pg_name hN hj hx hf) ⟨fun pins s σ H E I ⟨⟨i, w, z⟩, ⟨hw, hz⟩, q, l⟩ => (hb i w z hw hz).run pins s σ H E I ⟨q, l⟩⟩ hs) fun E σ H ⟨s, l⟩ => ⟨s, fun v H1 e1 hv => ?_⟩
  obtain ⟨t, us, rfl, h1, h2⟩ := DR.tup hv
  refine ⟨t, rfl, ⟨us, h1⟩, for_tup (K := X.K) (a := t) (xs := us) (g := gName j) (tb := tBody (Z := Nat × D × α) B (fun z => (r z.1 z.2.2).set j (some (dat X.K z.2.1))) (fun z => ds[z.1]? = some z.2.1 ∧ P z.1 z.2.2) (fun z => Lp Po (IS B (P (z.1 + 1)) (r (z.1 + 1))) (IS B (P ds.length) (r ds.length)))) (fun i σ H => Tk H1 H ∧ IS B (P i) (r i) σ H) ⟨Tk.refl _, h0 _ _ (s.mono e1)⟩ (fun i σ H _ q => q.1.sqT h1) (fun i x σ H hx ⟨k, z, hz, q⟩ => ?_) (fun σ H ⟨k, q⟩ => l.nx σ H (e1.tk.trans k) (by rw [h2.1]; exact q))⟩
  obtain ⟨w, hw, hr⟩ := h2.getV hx
  refine ⟨(i, w, z), ⟨hw, hz⟩, ⟨q.ext, q.dr, q.good.set j (hr.tk k)⟩, ?_⟩
  refine ⟨fun σ' H' k' q' => ⟨k.trans k', q'⟩, fun v H' k' q' => l.rt v H' ((e1.tk.trans k).trans k') q', fun σ' H' k' q' => l.nx σ' H' ((e1.tk.trans k).trans k') q', fun σ' H' k' q' => ⟨k.trans k', q'⟩⟩
/-- over a list at l that the body leaves (the slots tell so: SqL) -/
theorem bx_forL {α : Type} {ds : List D} {la : Addr} (j : Nat) {x : Str} {tpos : Pos} (P : Nat → α → Prop) (r : Nat → α → Ro d) (hi : EX X B ρ iter (lstA X.K la ds)) (h0 : ∀ σ H, St B ρ σ H → IS B (P 0) (r 0) σ H)
    (hl : ∀ i z, P i z → ∃ (k : Nat) (R : Rp d), (r i z)[k]? = some (some R) ∧ ∀ v H, R.p v H → (lstA (d := d) X.K la ds).p v H)
    (hb : ∀ i w z, ds[i]? = some w → P i z → BX X body (St B ((r i z).set j (some (dat X.K w)))) (Lp Po (IS B (P (i + 1)) (r (i + 1))) (IS B (P ds.length) (r ds.length)))) (h : BX X rest (IS B (P ds.length) (r ds.length)) Po)
    (hN : X.N.Nodup) (hp : PassesOwn (model X.prog X.w) X.A X.env X.xe) (hj : X.N[j]? = some x := by rfl) (hc : X.calm = true := by rfl) (hx : Loc X.env.scope x := by first | exact Or.inl rfl | exact Or.inr rfl)
    (hf : X.fn x = true ∨ X.env.scope.names.lookup x = some .local := by first | exact .inl rfl | exact .inr rfl | assumption) (hs : ∀ x, foldedSetIterable iter X.env x = pure x := by intro _; rfl) : BX X (.For (.Name x tpos) iter body [] pos :: rest) (St B ρ) Po := by
  refine bx_cons (Mid := IS B (P ds.length) (r ds.length)) ?_ h
  refine PS_wk (t := tFor (iList X.K fun σ H Q => St B ρ σ H ∧ ∀ v H', Ext d H H' → (lstA X.K la ds).p v H' → Q v H') (gName j) (tBody (Z := Nat × D × α) B (fun z => (r z.1 z.2.2).set j (some (dat X.K z.2.1))) (fun z => ds[z.1]? = some z.2.1 ∧ P z.1 z.2.2) (fun z => Lp Po (IS B (P (z.1 + 1)) (r (z.1 + 1))) (IS B (P ds.length) (r ds.length)))))
    (ps_for hp hc (pi_list hi) (pg_name hN hj hx hf) ⟨fun pins s σ H E I ⟨⟨i, w, z⟩, ⟨hw, hz⟩, q, l⟩ => (hb i w z hw hz).run pins s σ H E I ⟨q, l⟩⟩ hs) fun E σ H ⟨s, l⟩ => ⟨s, fun v H1 e1 hv => ?_⟩
  obtain ⟨rfl, hld, us, h1, h2⟩ := hv
  have still : ∀ i σ H, Tk H1 H ∧ IS B (P i) (r i) σ H ∧ SqL X.K H la us → SqL X.K H la us := fun i σ H q => q.2.2
  -- the list as the slots tell it is the same list: its items are those of us
  refine ⟨la, rfl, ⟨us, h1.sq⟩, ?_⟩
  have key : ∀ i σ H, IS B (P i) (r i) σ H → ∃ vs, SqL X.K H la vs ∧ DRl X.K H ds vs := fun i σ H ⟨z, hz, q⟩ => by
    obtain ⟨k, R, hk, hR⟩ := hl i z hz
    obtain ⟨v, _, g⟩ := q.good.get hk
    obtain ⟨_, _, vs, a1, a2⟩ := hR v H g
    exact ⟨vs, a1.sq, a2⟩
  refine ⟨fun i m σ H => m = ds.length - i ∧ i ≤ ds.length ∧ Tk H1 H ∧ IS B (P i) (r i) σ H, ⟨ds.length, rfl, Nat.zero_le _, Tk.refl _, h0 _ _ (s.mono e1)⟩, ?_⟩
  rintro i m σ H ⟨rfl, hi', k, q⟩
  obtain ⟨vs, a1, a2⟩ := key i σ H q
  by_cases hlt : i < ds.length
  · have hv : i < vs.length := by rw [← a2.1]; exact hlt
    refine .inr ⟨⟨vs, vs[i], a1, List.getElem?_eq_getElem hv⟩, fun σ' H' => Tk H1 H' ∧ IS B (P (i + 1)) (r (i + 1)) σ' H', fun σ' H' p' => ⟨ds.length - (i + 1), by omega, rfl, hlt, p'.1, p'.2⟩, fun x H' y => ?_⟩
    obtain ⟨rfl, y⟩ := y
    obtain ⟨w, hw, hr⟩ := a2.getV (y vs a1)
    obtain ⟨z, hz, q⟩ := q
    refine ⟨(i, w, z), ⟨hw, hz⟩, ⟨q.ext, q.dr, q.good.set j hr⟩, ?_⟩
    exact ⟨fun σ' H' k' q' => ⟨k.trans k', q'⟩, fun v H' k' q' => l.rt v H' ((e1.tk.trans k).trans k') q', fun σ' H' k' q' => l.nx σ' H' ((e1.tk.trans k).trans k') q', fun σ' H' k' q' => ⟨k.trans k', q'⟩⟩
  · have e : i = ds.length := by omega
    subst e
    exact .inl ⟨⟨vs, a1, by rw [← a2.1]; exact Nat.le_refl _⟩, l.nx σ H (e1.tk.trans k) q⟩
/-- for x in range(n) -/
theorem bx_forR {α : Type} {nn : Int} (j : Nat) {x : Str} {tpos p p2 : Pos} (P : Nat → α → Prop) (r : Nat → α → Ro d) (hg : Gl X "range") (hm : X.mg "range" = none) (hi : EX X B ρ e (rI nn)) (hn : nn < 2 ^ 62 ∧ -(2 ^ 62) ≤ nn) (h0 : ∀ σ H, St B ρ σ H → IS B (P 0) (r 0) σ H)
    (hb : ∀ (i : Nat) z, (i : Int) < nn → P i z → BX X body (St B ((r i z).set j (some (rI (i : Int))))) (Lp Po (IS B (P (i + 1)) (r (i + 1))) (IS B (P nn.toNat) (r nn.toNat)))) (h : BX X rest (IS B (P nn.toNat) (r nn.toNat)) Po)
    (hN : X.N.Nodup) (hp : PassesOwn (model X.prog X.w) X.A X.env X.xe) (hj : X.N[j]? = some x := by rfl) (hc : X.calm = true := by rfl) (hx : Loc X.env.scope x := by first | exact Or.inl rfl | exact Or.inr rfl)
    (hf : X.fn x = true ∨ X.env.scope.names.lookup x = some .local := by first | exact .inl rfl | exact .inr rfl | assumption) (he : starEach [e] X.env = [(false, eval e X.env)] := by rfl) (hs : ∀ x, foldedSetIterable (.Call (.Name "range" p) [e] [] p2) X.env x = pure x := by intro _; rfl) :
    BX X (.For (.Name x tpos) (.Call (.Name "range" p) [e] [] p2) body [] pos :: rest) (St B ρ) Po := by
  refine bx_cons (Mid := IS B (P nn.toNat) (r nn.toNat)) ?_ h
  refine PS_wk (t := tFor (iRng1 fun σ H Q => St B ρ σ H ∧ ∀ vs H', Ext d H H' → RsH [rI nn] vs H' → Q vs H') (gName j) (tBody (Z := Nat × α) B (fun z => (r z.1 z.2).set j (some (rI (z.1 : Int)))) (fun z => (z.1 : Int) < nn ∧ P z.1 z.2) (fun z => Lp Po (IS B (P (z.1 + 1)) (r (z.1 + 1))) (IS B (P nn.toNat) (r nn.toNat)))))
    (ps_for hp hc (pi_range1 hg hm (a_cons hi a_nil he) he) (pg_name hN hj hx hf) ⟨fun pins s σ H E I ⟨⟨i, z⟩, ⟨hw, hz⟩, q, l⟩ => (hb i z hw hz).run pins s σ H E I ⟨q, l⟩⟩ hs) fun E σ H ⟨s, l⟩ => ⟨s, fun vs H1 e1 hv => ?_⟩
  obtain ⟨v, rfl, hv'⟩ := hv.one
  obtain rfl : v = .int nn := hv'
  refine ⟨nn, rfl, hn.2, hn.1, for_range (lo := 0) (n := nn.toNat) (g := gName j) (tb := tBody (Z := Nat × α) B (fun z => (r z.1 z.2).set j (some (rI (z.1 : Int)))) (fun z => (z.1 : Int) < nn ∧ P z.1 z.2) (fun z => Lp Po (IS B (P (z.1 + 1)) (r (z.1 + 1))) (IS B (P nn.toNat) (r nn.toNat)))) (fun i σ H => Tk H1 H ∧ IS B (P i) (r i) σ H) ⟨Tk.refl _, h0 _ _ (s.mono e1)⟩ (fun i σ H hlt ⟨k, z, hz, q⟩ => ?_) (fun σ H ⟨k, q⟩ => l.nx σ H (e1.tk.trans k) q)⟩
  refine ⟨(i, z), ⟨(by show (i : Int) < nn; omega), hz⟩, ⟨q.ext, q.dr, ?_⟩, ?_⟩
  · rw [Int.zero_add]
    exact q.good.set j (R := rI (i : Int)) (v := .int (i : Int)) rfl
  · exact ⟨fun σ' H' k' q' => ⟨k.trans k', q'⟩, fun v H' k' q' => l.rt v H' ((e1.tk.trans k).trans k') q', fun σ' H' k' q' => l.nx σ' H' ((e1.tk.trans k).trans k') q', fun σ' H' k' q' => ⟨k.trans k', q'⟩⟩
/-- for x, y in zip(t, u), two tuples of one length -/
theorem bx_forZ {α : Type} {ds es' : List D} (j k : Nat) {x y : Str} {kk : Nat} {tpos p1 p2 p p3 : Pos} (P : Nat → α → Prop) (r : Nat → α → Ro d) (hg : Gl X "zip") (hm : X.mg "zip" = none) (ha : EX X B ρ a (dat X.K (.t ds))) (hb' : EX X B ρ b (dat X.K (.t es'))) (hlen : ds.length = es'.length) (h0 : ∀ σ H, St B ρ σ H → IS B (P 0) (r 0) σ H)
    (hb : ∀ (i : Nat) w u z, ds[i]? = some w → es'[i]? = some u → P i z → BX X body (St B (((r i z).set j (some (dat X.K w))).set k (some (dat X.K u)))) (Lp Po (IS B (P (i + 1)) (r (i + 1))) (IS B (P ds.length) (r ds.length)))) (h : BX X rest (IS B (P ds.length) (r ds.length)) Po)
    (hN : X.N.Nodup) (hp : PassesOwn (model X.prog X.w) X.A X.env X.xe) (hj : X.N[j]? = some x := by rfl) (hk : X.N[k]? = some y := by rfl) (hc : X.calm = true := by rfl) (hx : Loc X.env.scope x := by first | exact Or.inl rfl | exact Or.inr rfl) (hy : Loc X.env.scope y := by first | exact Or.inl rfl | exact Or.inr rfl)
    (hf : X.fn x = true ∨ X.env.scope.names.lookup x = some .local := by first | exact .inl rfl | exact .inr rfl | assumption) (hfy : X.fn y = true ∨ X.env.scope.names.lookup y = some .local := by first | exact .inl rfl | exact .inr rfl | assumption)
    (he : starEach [a, b] X.env = (false, eval a X.env) :: starEach [b] X.env := by rfl) (he2 : starEach [b] X.env = (false, eval b X.env) :: starEach [] X.env := by rfl) (hpl : (backTo p3 (starEach [b] X.env)).any (·.1) = false := by rfl)
    (hs : ∀ x, foldedSetIterable (.Call (.Name "zip" p) [a, b] [] p3) X.env x = pure x := by intro _; rfl) :
    BX X (.For (.Tuple [.Name x p1, .Name y p2] kk tpos) (.Call (.Name "zip" p) [a, b] [] p3) body [] pos :: rest) (St B ρ) Po := by
  refine bx_cons (Mid := IS B (P ds.length) (r ds.length)) ?_ h
  refine PS_wk (t := tFor (iZipA X.K fun σ H Q => St B ρ σ H ∧ ∀ vs H', Ext d H H' → RsH [dat X.K (.t ds), dat X.K (.t es')] vs H' → Q vs H') (gTup X.K 2 (gCons (gName j) (gCons (gName k) gNil))) (tBody (Z := Nat × D × D × α) B (fun z => ((r z.1 z.2.2.2).set j (some (dat X.K z.2.1))).set k (some (dat X.K z.2.2.1))) (fun z => ds[z.1]? = some z.2.1 ∧ es'[z.1]? = some z.2.2.1 ∧ P z.1 z.2.2.2) (fun z => Lp Po (IS B (P (z.1 + 1)) (r (z.1 + 1))) (IS B (P ds.length) (r ds.length)))))
    (ps_for hp hc (pi_zipA hg hm (a_cons ha (a_cons hb' a_nil he2) he) he hpl) (pg_tup hc (pgs_cons (pg_name hN hj hx hf) (pgs_cons (pg_name hN hk hy hfy) pgs_nil))) ⟨fun pins s σ H E I ⟨⟨i, w, u, z⟩, ⟨hw, hu, hz⟩, q, l⟩ => (hb i w u z hw hu hz).run pins s σ H E I ⟨q, l⟩⟩ hs) fun E σ H ⟨s, l⟩ => ⟨s, fun vs H1 e1 hv => ?_⟩
  obtain ⟨v, v2, rfl, hv', hv2⟩ := hv.two
  obtain ⟨t, us, rfl, h1, h2⟩ := DR.tup hv'
  obtain ⟨t2, us2, rfl, h3, h4⟩ := DR.tup hv2
  have hl : us.length = us2.length := by rw [← h2.1, ← h4.1]; exact hlen
  refine ⟨t, t2, us, us2, rfl, .inr ⟨h1, h3, for_zipT (K := X.K) (a := t) (b := t2) (xs := us) (ys := us2) (g := gTup X.K 2 (gCons (gName j) (gCons (gName k) gNil))) (tb := tBody (Z := Nat × D × D × α) B (fun z => ((r z.1 z.2.2.2).set j (some (dat X.K z.2.1))).set k (some (dat X.K z.2.2.1))) (fun z => ds[z.1]? = some z.2.1 ∧ es'[z.1]? = some z.2.2.1 ∧ P z.1 z.2.2.2) (fun z => Lp Po (IS B (P (z.1 + 1)) (r (z.1 + 1))) (IS B (P ds.length) (r ds.length)))) hl (fun i σ H => Tk H1 H ∧ IS B (P i) (r i) σ H) ⟨Tk.refl _, h0 _ _ (s.mono e1)⟩ (fun i σ H q => ⟨q.1.sqT h1, q.1.sqT h3⟩) (fun i x' y' T σ H hx hy ⟨kk, z, hz, q⟩ hT => ?_) (fun σ H ⟨kk, q⟩ => l.nx σ H (e1.tk.trans kk) (by rw [h2.1]; exact q))⟩⟩
  obtain ⟨w, hw, hr⟩ := h2.getV hx
  obtain ⟨u, hu, hr2⟩ := h4.getV hy
  have eT : Ext d H (upd H T (.tup [x', y'])) := Ext.new hT
  have kT := kk.trans eT.tk
  refine ⟨T, [x', y'], rfl, SqT.of upd_same, rfl, x', [y'], rfl, y', [], rfl, rfl, (i, w, u, z), ⟨hw, hu, hz⟩, ⟨(q.mono eT).ext, (q.mono eT).dr, ((q.mono eT).good.set j (R := dat X.K w) (hr.tk kT)).set k (R := dat X.K u) (hr2.tk kT)⟩, ?_⟩
  exact ⟨fun σ' H' k' q' => ⟨kT.trans k', q'⟩, fun v H' k' q' => l.rt v H' ((e1.tk.trans kT).trans k') q', fun σ' H' k' q' => l.nx σ' H' ((e1.tk.trans kT).trans k') q', fun σ' H' k' q' => ⟨kT.trans k', q'⟩⟩
end
end Cv

namespace Cv
open PySem PySem.Spec PyProof.Rows L2 RZ
open AutoSeq1 (wpAny_loadPart')
/-! ### xs[i] by values -/
theorem get_list {X : Cx} : PGet X (rIxL X.K) := by
  intro pins s σ H o i ov iv Q I ro ri h
  obtain ⟨p, xs, k, z, rfl, rfl, hq, he, q⟩ := h
  cases ro
  obtain ⟨t, rfl⟩ := ri
  obtain ⟨its, r, pl, hz⟩ := I.list hq
  obtain ⟨j, h1, h2, h3, h4, h5⟩ := atI_get he
  obtain ⟨y, ey, ry⟩ := r.get h2
  have hl := r.length
  have hn := line63
  have fin : EP X pins σ Q y s := ⟨z, H, I, ry, q⟩
  by_cases h0 : 0 ≤ k
  · have hj : k.toNat = j := by
      rw [seqIndex_of h0 h5] at h1
      exact Option.some.inj h1
    exact wpAny_getItem_list pl.isList h0 (by omega) (by rw [hj]; simpa using ey) fin
  · have hj : (k + (its.toArray.size : Int)).toNat = j := by
      rw [seqIndex_neg (by omega) h4] at h1
      rw [List.size_toArray, ← hl]
      exact Option.some.inj h1
    exact wpAny_getItem_list_neg pl.isList (by omega) (by rw [List.size_toArray] <;> omega) (by omega) (by rw [hj]; simpa using ey) fin
/-! ### enumerate(t), t a tuple -/
theorem meets_enumT (l : Addr) (its : Array Value) (n : Nat) (dc : Option Addr) (sl : Array (Option Value)) :
    Meets (Builtin.«enumerate.__new__» ⟨[.type "enumerate", .ref l], []⟩) (fun _ R s => s.heap.get? l = some { cls := .type "tuple", dict := dc, data := .seq its n, slots := sl } ∧
      R (.ok (.ret (.ref (s.heap.push { cls := .type "tuple_iterator", data := .fields #[.ref l, .int 0 0] }).objs.size)))
        { s with heap := (s.heap.push { cls := .type "tuple_iterator", data := .fields #[.ref l, .int 0 0] }).push { cls := .type "enumerate", data := .fields #[.none, .bool false, .ref s.heap.objs.size, rawInt 0, .none, .none] } }) :=
  .of_wp fun prog w A R s h => by
    obtain ⟨hp, gs, dr, tk, os⟩ := s
    obtain ⟨hl, h⟩ := h
    have hsub := sub_enumerate
    have hT : Heap.IsTuple (Shared.heap ⟨hp, gs, dr, tk, os⟩) l its := ⟨_, hl, rfl, n, rfl⟩
    wp_walk using wpAny_loadPart' hl
    refine wpAny_stack_any fun st => wpAny_pure ?_
    split
    · rename_i c _ _ _ _ _
      cases (c == Value.type "enumerate") <;> (wp_walk using wpAny_loadPart' hl, wpAny_pyIter_tuple hT; exact ⟨_, rfl, h⟩)
    · wp_walk using wpAny_loadPart' hl, wpAny_pyIter_tuple hT
      exact ⟨_, rfl, h⟩
section
variable {prog : Program} {w : World} {A : Around} {E : Value → Shared → Prop} {s : Shared}
theorem call_enumT {l : Addr} {its : Array Value} {Q : Value → Shared → Prop} (hL : s.heap.IsTuple l its)
    (h : ∀ h', IsEnum h' (s.heap.objs.size + 1) s.heap.objs.size 0 .none → h'.IsTupleIter s.heap.objs.size l 0 → h'.objs.size = s.heap.objs.size + 2 →
      (∀ b o, s.heap.get? b = some o → h'.get? b = some o) → Q (.ref (s.heap.objs.size + 1)) { s with heap := h' }) :
    wpAny (model prog w) A (call (.type "enumerate") [.ref l]) Q E s := by
  obtain ⟨⟨c, dct, dt, sl⟩, hl, hc, n, hd⟩ := hL
  obtain rfl : c = .type "tuple" := hc
  obtain rfl : dt = .seq its n := hd
  refine callType_new F.called_enumerate (by decide) (F.typeCall_enumerate_1 _) (F.newCall_enumerate_1 _) (fun obj => F.args_object_init_2 obj _) F.entry_enumerate_new (meets_enumT l its n dct sl) ⟨hl, ?_⟩
  have hz : (s.heap.push { cls := .type "tuple_iterator", data := .fields #[.ref l, .int 0 0] }).objs.size = s.heap.objs.size + 1 := Heap.size_push ..
  show _ ∧ _
  rw [hz]
  have he : IsEnum ((s.heap.push { cls := .type "tuple_iterator", data := .fields #[.ref l, .int 0 0] }).push
      { cls := .type "enumerate", data := .fields #[.none, .bool false, .ref s.heap.objs.size, rawInt 0, .none, .none] }) (s.heap.objs.size + 1) s.heap.objs.size 0 .none := by
    have := Heap.get?_push_size (s.heap.push { cls := .type "tuple_iterator", data := .fields #[.ref l, .int 0 0] })
      (o := { cls := .type "enumerate", data := .fields #[.none, .bool false, .ref s.heap.objs.size, rawInt 0, .none, .none] }) rfl
    rw [hz] at this; exact this
  exact ⟨⟨_, he, rfl⟩, h _ he ⟨_, Heap.get?_push_of_some _ (Heap.get?_push_size _ rfl), rfl, rfl⟩ (by rw [Heap.size_push, hz]) fun b o x => Heap.get?_push_of_some _ (Heap.get?_push_of_some _ x)⟩
end
/-- the tuple at a as it stands at each turn, each item in a new pair -/
def IteT (K : PySem.W.Frag) (a : Addr) : It :=
  ⟨fun i H => ∃ (xs : List V) (x : V), SqT K H a xs ∧ xs[i]? = some x, fun i H v H' => ∃ T x, v = .ref T ∧ H T = none ∧ H' = upd H T (.tup [.int (i : Nat), x]) ∧ ∀ xs, SqT K H a xs → xs[i]? = some x, fun i H => ∃ xs : List V, SqT K H a xs ∧ xs.length ≤ i⟩
theorem turn_enumT {P : Program} {w : World} {K : PySem.W.Frag} {elts : List Expr} {kk : Nat} {tpos : Pos} (a e it : Addr) (hai : a ≠ it) :
    Turn P w K (.Tuple elts kk tpos) (IteT K a) [e, it] e (fun i h => (∃ old, IsEnum h e it ((i : Nat) : Int) old) ∧ h.IsTupleIter it a i ∧ e ≠ it) where
  mem := by simp
  obj := fun i h st b hb => by
    obtain ⟨⟨old, he⟩, ⟨o, ho, hc, hd⟩, _⟩ := st
    have e' : b = e ∨ b = it := by simpa using hb
    rcases e' with z | z
    · subst z; exact ⟨_, he, fun v q => nomatch q⟩
    · subst z; exact ⟨o, ho, fun v q => by rw [hd] at q; cases q⟩
  keep := fun i h h' st k => let ⟨⟨old, he⟩, hi, hne⟩ := st; ⟨⟨old, k e (by simp) _ he⟩, hi.at fun o q => k it (by simp) o q, hne⟩
  item := by
    intro X hP hw hK hc i pins s σ H E I hf st hg
    subst hP hw hK
    obtain ⟨⟨old, he⟩, hit, hne⟩ := st
    obtain ⟨xs, x, hq, hx⟩ := hg
    obtain ⟨its, rv, pt, hz⟩ := I.tuple hq
    obtain ⟨u, hu, ru⟩ := rv.get hx
    have hel : e < s.heap.objs.size := Heap.lt_size he
    have hil : it < s.heap.objs.size := by obtain ⟨_, q, _⟩ := hit; exact Heap.lt_size q
    have hlt : i < its.toArray.size := by
      rw [List.size_toArray, ← rv.length]
      exact (List.getElem?_eq_some_iff.mp hx).1
    have hea : e ≠ a := fun z => by
      obtain ⟨o, ho, hc1, _⟩ := pt
      have he' : s.heap.get? e = some _ := he
      rw [z, ho] at he'
      cases he'
      have q1 : Value.type "enumerate" = Value.type "tuple" := hc1
      injection q1 with q2
      exact absurd q2 (by decide)
    refine wpAny_pyNext_enum_itemD (Draws.tuple (A := X.A.in1) (by exact I.ok.hd hc) it a hai its.toArray) he ⟨hit, pt⟩ hlt hne (by simp only [List.mem_cons, List.not_mem_nil, or_false, not_or]; exact ⟨hne, hea⟩) fun y h' tk hy ho st' hT hsz hk => ?_
    obtain ⟨hit', _⟩ := st'
    have eyu : y = u := by
      have h1 : its.toArray[i]? = some u := by simpa using hu
      exact Option.some.inj (hy.symm.trans h1)
    subst eyu
    refine ⟨_, rfl, wpAny_letOwnedTupleGo_enum (s := { s with heap := h', toks := tk + 1 }) ho fun h'' he' sb => ?_⟩
    have hT2 : h''.get? s.heap.objs.size = some { cls := .type "tuple", data := .seq #[.int i tk, y] } := (sb.2 _ (Nat.ne_of_gt hel)).trans hT
    have new : ObjOk X.prog X.w (upd H s.heap.objs.size (.tup [.int (i : Nat), x])) h'' s.heap.objs.size (.tup [.int (i : Nat), x]) :=
      ⟨by show 2 ≤ sizeLine; decide, [.int i tk, y], .cons ⟨_, rfl⟩ (.cons ru .nil), ⟨_, hT2, rfl, _, rfl⟩⟩
    have I1 : Inv X pins σ (upd H s.heap.objs.size (.tup [.int (i : Nat), x])) { s with heap := h'', toks := tk + 1 } :=
      I.turnedNew (ch := [e, it]) (fun b ob hb q => (sb.2 b (fun z => hb (by simp [z]))).trans (hk b ob (fun z => hb (by simp [z])) (fun z => hb (by simp [z])) q)) hf (Nat.le_refl _) new
    refine ⟨.ref s.heap.objs.size, _, I1, rfl, ⟨_, x, rfl, I.hok.fresh (Nat.le_refl _), rfl, fun ys hy => by rw [I.tuple_inj hy hq]; exact hx⟩, ⟨⟨y, ?_⟩, hit'.at fun o q => (sb.2 it (Ne.symm hne)).trans q, hne⟩, fun b hb => ?_⟩
    · have e1 : ((i + 1 : Nat) : Int) = (i : Int) + 1 := by omega
      rw [e1]; exact he'
    · have hb' : b < s.heap.objs.size := by
        have e' : b = e ∨ b = it := by simpa using hb
        rcases e' with z | z
        · subst z; exact hel
        · subst z; exact hil
      rw [upd_ne (Nat.ne_of_lt hb')]
      exact (hf b hb).1
  done := by
    intro X hP hw hK hc i pins s σ H E I hf st hg
    subst hP hw hK
    obtain ⟨⟨old, he⟩, hit, hne⟩ := st
    obtain ⟨xs, hq, hx⟩ := hg
    obtain ⟨its, rv, pt, hz⟩ := I.tuple hq
    obtain ⟨f0, f1, f2, f3, f4, f5⟩ := hf it (by simp)
    have hl := rv.length
    have hD := Draws.tuple (prog := X.prog) (w := X.w) (A := X.A.in1) (by exact I.ok.hd hc) it a hai its.toArray
    have hT : s.TypeIs (.ref e) "enumerate" := ⟨_, he, rfl⟩
    unfold pyNext
    refine wpAny_bind (wpAny_attempt (wpAny_callSpecial?_slot (name := Str.ofString "__next__") hT F.slot_enumerate_next (wpAny_call_entry F.slot_enumerate_next hT F.entry_enumerate_next ?_ (F.args_enumerate_next_1 _))))
    show wpAny _ _ (field (.ref e) 2 >>= _) _ _ _
    refine wpAny_bind (wpAny_field he rfl (x := .ref it) rfl ?_)
    refine wpAny_bind (wpAny_nextOf_tuple_end (by exact I.ok.hd hc) hit pt (by simp; omega) fun h' x he' hx' => ?_)
    obtain ⟨o, ho, hc'⟩ := hx'
    refine wpAny_bind (wpAny_isInstance (T := "StopIteration") (b := true) ⟨o, ho, hc'⟩ isSubtype_stop ?_)
    exact wpAny_pure ⟨rfl, I.turned (t' := s.toks) (fun b o hb q => he' b o hb q) f0 f1 f3 f4 f5⟩
  self := fun A i s Q E st h => let ⟨⟨_, he⟩, _⟩ := st; wpAny_pyIter_enum he h
def iEnumT (K : PySem.W.Frag) (ta : TA) : TI := fun σ H R => ta σ H fun vs H1 => ∃ a xs, vs = [.ref a] ∧ SqT K H1 a xs ∧ R (IteT K a) H1
theorem pi_enumT {X : Cx} {e : Expr} {ta : TA} {p pos tpos : Pos} {elts : List Expr} {kk : Nat} (hg : Gl X "enumerate") (hm : X.mg "enumerate" = none) (ha : PA X [e] ta) (hs : starEach [e] X.env = [(false, eval e X.env)] := by rfl) :
    PI X (.Tuple elts kk tpos) (.Call (.Name "enumerate" p) [e] [] pos) (iEnumT X.K ta) := by
  refine ⟨fun pins s σ H R I h => ?_⟩
  refine Call_ (ld_blt I hg hm boot_enumerate (PyProof.Rows.callWith_type1 (thn (ha.run pos pins s σ H _ I h) fun us s1 ⟨vs, H1, I1, r1, q1⟩ => ?_) hs rfl))
  obtain ⟨a, xs, ex, hq, q⟩ := q1
  subst ex
  cases r1 with
  | cons r rr =>
    cases rr
    cases r
    obtain ⟨its, rv, pt, hz⟩ := I1.tuple hq
    refine call_enumT (show s1.heap.IsTuple a its.toArray from pt) fun h' he hit hsz hk => wpAny_pyIter_enum he ?_
    have I2 : Inv X pins σ H1 { s1 with heap := h' } := I1.kept (t' := s1.toks) hk
    have hlt : a < s1.heap.objs.size := by obtain ⟨o, ho, _⟩ := pt; exact Heap.lt_size ho
    refine ⟨s1.heap.objs.size + 1, [s1.heap.objs.size + 1, s1.heap.objs.size], _, _, H1, rfl, I2, turn_enumT a (s1.heap.objs.size + 1) s1.heap.objs.size (Nat.ne_of_lt hlt), ⟨⟨.none, he⟩, hit, Nat.succ_ne_self _⟩, fun b hb => ?_, q⟩
    have hle : s1.heap.objs.size ≤ b := by
      have e' : b = s1.heap.objs.size + 1 ∨ b = s1.heap.objs.size := by simpa using hb
      rcases e' with z | z
      · rw [z]; exact Nat.le_succ _
      · rw [z]; exact Nat.le_refl _
    exact I1.fpOk hle (I1.hok.fresh hle)
end Cv

namespace Cv
open PySem PySem.Spec PyProof.Rows L2 RZ
section
variable {d : Option Addr} {X : Cx} {B : Hp} {ρ ρ' : Ro d} {a b c e iter elt : Expr} {es : List Expr} {R R' Ra Rb : Rp d} {Rs : List (Rp d)} {pos : Pos} {m n : Int} {st : Stmt} {rest body orelse : List Stmt} {Pre Mid : L2.St → Hp → Prop} {Po : Ends}
/-- for x, y in enumerate(t) -/
theorem bx_forE {α : Type} {ds : List D} (j k : Nat) {x y : Str} {kk : Nat} {tpos p1 p2 p p3 : Pos} (P : Nat → α → Prop) (r : Nat → α → Ro d) (hg : Gl X "enumerate") (hm : X.mg "enumerate" = none) (ha : EX X B ρ a (dat X.K (.t ds))) (h0 : ∀ σ H, St B ρ σ H → IS B (P 0) (r 0) σ H)
    (hb : ∀ (i : Nat) w z, ds[i]? = some w → P i z → BX X body (St B (((r i z).set j (some (rI (i : Int)))).set k (some (dat X.K w)))) (Lp Po (IS B (P (i + 1)) (r (i + 1))) (IS B (P ds.length) (r ds.length)))) (h : BX X rest (IS B (P ds.length) (r ds.length)) Po)
    (hN : X.N.Nodup) (hp : PassesOwn (model X.prog X.w) X.A X.env X.xe) (hj : X.N[j]? = some x := by rfl) (hk : X.N[k]? = some y := by rfl) (hc : X.calm = true := by rfl) (hx : Loc X.env.scope x := by first | exact Or.inl rfl | exact Or.inr rfl) (hy : Loc X.env.scope y := by first | exact Or.inl rfl | exact Or.inr rfl)
    (hf : X.fn x = true ∨ X.env.scope.names.lookup x = some .local := by first | exact .inl rfl | exact .inr rfl | assumption) (hfy : X.fn y = true ∨ X.env.scope.names.lookup y = some .local := by first | exact .inl rfl | exact .inr rfl | assumption)
    (he : starEach [a] X.env = [(false, eval a X.env)] := by rfl) (hs : ∀ x, foldedSetIterable (.Call (.Name "enumerate" p) [a] [] p3) X.env x = pure x := by intro _; rfl) :
    BX X (.For (.Tuple [.Name x p1, .Name y p2] kk tpos) (.Call (.Name "enumerate" p) [a] [] p3) body [] pos :: rest) (St B ρ) Po := by
  refine bx_cons (Mid := IS B (P ds.length) (r ds.length)) ?_ h
  refine PS_wk (t := tFor (iEnumT X.K fun σ H Q => St B ρ σ H ∧ ∀ vs H', Ext d H H' → RsH [dat X.K (.t ds)] vs H' → Q vs H') (gTup X.K 2 (gCons (gName j) (gCons (gName k) gNil))) (tBody (Z := Nat × D × α) B (fun z => ((r z.1 z.2.2).set j (some (rI (z.1 : Int)))).set k (some (dat X.K z.2.1))) (fun z => ds[z.1]? = some z.2.1 ∧ P z.1 z.2.2) (fun z => Lp Po (IS B (P (z.1 + 1)) (r (z.1 + 1))) (IS B (P ds.length) (r ds.length)))))
    (ps_for hp hc (pi_enumT hg hm (a_cons ha a_nil he) he) (pg_tup hc (pgs_cons (pg_name hN hj hx hf) (pgs_cons (pg_name hN hk hy hfy) pgs_nil))) ⟨fun pins s σ H E I ⟨⟨i, w, z⟩, ⟨hw, hz⟩, q, l⟩ => (hb i w z hw hz).run pins s σ H E I ⟨q, l⟩⟩ hs) fun E σ H ⟨s, l⟩ => ⟨s, fun vs H1 e1 hv => ?_⟩
  obtain ⟨v, rfl, hv'⟩ := hv.one
  obtain ⟨t, us, rfl, h1, h2⟩ := DR.tup hv'
  refine ⟨t, us, rfl, h1, fun i m σ H => m = us.length - i ∧ i ≤ us.length ∧ Tk H1 H ∧ IS B (P i) (r i) σ H, ⟨us.length, rfl, Nat.zero_le _, Tk.refl _, h0 _ _ (s.mono e1)⟩, ?_⟩
  rintro i m σ H ⟨rfl, hi, kk, q⟩
  have a1 := kk.sqT h1
  by_cases hlt : i < us.length
  · refine .inr ⟨⟨us, us[i], a1, List.getElem?_eq_getElem hlt⟩, fun σ' H' => Tk H1 H' ∧ IS B (P (i + 1)) (r (i + 1)) σ' H', fun σ' H' p' => ⟨us.length - (i + 1), by omega, rfl, hlt, p'.1, p'.2⟩, fun v H' yl => ?_⟩
    obtain ⟨T, x', rfl, hT, rfl, f1⟩ := yl
    obtain ⟨w, hw, hr⟩ := h2.getV (f1 us a1)
    obtain ⟨z, hz, q⟩ := q
    have eT : Ext d H (upd H T (.tup [.int (i : Nat), x'])) := Ext.new hT
    have kT := kk.trans eT.tk
    refine ⟨T, [.int (i : Nat), x'], rfl, SqT.of upd_same, rfl, .int (i : Nat), [x'], rfl, x', [], rfl, rfl, (i, w, z), ⟨hw, hz⟩, ⟨(q.mono eT).ext, (q.mono eT).dr, ((q.mono eT).good.set j (R := rI (i : Int)) rfl).set k (R := dat X.K w) (hr.tk kT)⟩, ?_⟩
    exact ⟨fun σ' H' k' q' => ⟨kT.trans k', q'⟩, fun v H' k' q' => l.rt v H' ((e1.tk.trans kT).trans k') q', fun σ' H' k' q' => l.nx σ' H' ((e1.tk.trans kT).trans k') q', fun σ' H' k' q' => ⟨kT.trans k', q'⟩⟩
  · have e' : i = us.length := by omega
    subst e'
    exact .inl ⟨⟨us, a1, Nat.le_refl _⟩, l.nx σ H (e1.tk.trans kk) (by rw [h2.1]; exact q)⟩
/-! ### unpacking -/
theorem bx_unp3 {A1 A2 A3 : D} (i1 i2 i3 : Nat) {x1 x2 x3 : Str} {q1 q2 q3 q4 : Pos} {kk : Nat} (he : EX X B ρ e (dat X.K (.t [A1, A2, A3]))) (h : BX X rest (St B (((ρ.set i1 (some (dat X.K A1))).set i2 (some (dat X.K A2))).set i3 (some (dat X.K A3)))) Po)
    (hN : X.N.Nodup) (h1 : X.N[i1]? = some x1 := by rfl) (h2 : X.N[i2]? = some x2 := by rfl) (h3 : X.N[i3]? = some x3 := by rfl) (hc : X.calm = true := by rfl) (l1 : Loc X.env.scope x1 := by first | exact Or.inl rfl | exact Or.inr rfl) (l2 : Loc X.env.scope x2 := by first | exact Or.inl rfl | exact Or.inr rfl) (l3 : Loc X.env.scope x3 := by first | exact Or.inl rfl | exact Or.inr rfl)
    (f1 : X.fn x1 = true ∨ X.env.scope.names.lookup x1 = some .local := by first | exact .inl rfl | exact .inr rfl | assumption) (f2 : X.fn x2 = true ∨ X.env.scope.names.lookup x2 = some .local := by first | exact .inl rfl | exact .inr rfl | assumption) (f3 : X.fn x3 = true ∨ X.env.scope.names.lookup x3 = some .local := by first | exact .inl rfl | exact .inr rfl | assumption)
    (hs : swapsWithSole [.Tuple [.Name x1 q1, .Name x2 q2, .Name x3 q3] kk q4] e pos.line X.env = pure false := by rfl) (hw : swappedStores [.Tuple [.Name x1 q1, .Name x2 q2, .Name x3 q3] kk q4] e X.env = pure none := by rfl) :
    BX X (.Assign [.Tuple [.Name x1 q1, .Name x2 q2, .Name x3 q3] kk q4] e pos :: rest) (St B ρ) Po := by
  refine bx_cons (Mid := St B (((ρ.set i1 (some (dat X.K A1))).set i2 (some (dat X.K A2))).set i3 (some (dat X.K A3)))) ?_ h
  refine PS_wk (ps_asg he (pg_tup hc (pgs_cons (pg_name hN h1 l1 f1) (pgs_cons (pg_name hN h2 l2 f2) (pgs_cons (pg_name hN h3 l3 f3) pgs_nil)))) hs hw) fun E σ H ⟨s, l⟩ => ⟨s, fun v H' e1 hv => ?_⟩
  obtain ⟨t, us, rfl, g1, g2⟩ := DR.tup hv
  match us, g2 with
  | [v1, v2, v3], g2 =>
    refine ⟨t, [v1, v2, v3], rfl, g1, rfl, v1, [v2, v3], rfl, v2, [v3], rfl, v3, [], rfl, rfl, ?_⟩
    exact l.nx _ H' e1.tk ⟨(s.mono e1).ext, (s.mono e1).dr, (((s.mono e1).good.set i1 (R := dat X.K A1) (g2.2 0 A1 v1 rfl rfl)).set i2 (R := dat X.K A2) (g2.2 1 A2 v2 rfl rfl)).set i3 (R := dat X.K A3) (g2.2 2 A3 v3 rfl rfl)⟩
  | [], g2 => exact absurd g2.1 (by simp)
  | [_], g2 => exact absurd g2.1 (by simp)
  | [_, _], g2 => exact absurd g2.1 (by simp)
  | _ :: _ :: _ :: _ :: _, g2 => exact absurd g2.1 (by simp)
/-! ### own lists changed -/
/-- what stands when the list at l changes -/
def Ind (l : Addr) (R : Rp d) : Prop := ∀ v H xs ys, H l = some (.lst xs) → R.p v H → R.p v (upd H l (.lst ys))
theorem ind_I {l : Addr} {n : Int} : Ind l (rI (d := d) n) := fun _ _ _ _ _ h => h
theorem ind_B {l : Addr} {n : Bool} : Ind l (rB (d := d) n) := fun _ _ _ _ _ h => h
theorem ind_any {l : Addr} : Ind l (rAny (d := d)) := fun _ _ _ _ _ h => h
theorem ind_drw {l : Addr} : Ind l (drw (d := d)) := fun _ _ _ _ _ h => h
theorem ind_dat {l : Addr} {K : PySem.W.Frag} {w : D} : Ind l (dat (d := d) K w) := fun _ _ _ _ hl h => h.tk (Tk.lst hl)
theorem ind_ex {l : Addr} {α : Type} {P : α → Prop} {Rz : α → Rp d} (h : ∀ z, Ind l (Rz z)) : Ind l (exR P Rz) := fun v H xs ys hl ⟨z, hz, q⟩ => ⟨z, hz, h z v H xs ys hl q⟩
theorem ind_own {l l' : Addr} {K : PySem.W.Frag} {ds : List D} (hne : l' ≠ l) : Ind l (own (d := d) K l' ds) := fun v H xs ys hl ⟨h1, h2, us, h3, h4⟩ => ⟨h1, h2, us, by rw [upd_ne hne]; exact h3, h4.tk (Tk.lst hl)⟩
theorem ind_lstA {l l' : Addr} {K : PySem.W.Frag} {ds : List D} (hne : l' ≠ l) : Ind l (lstA (d := d) K l' ds) := fun v H xs ys hl ⟨h1, h2, us, h3, h4⟩ => ⟨h1, h2, us, by
  rcases h3 with ⟨k, h⟩ | ⟨o, h⟩ | h
  · exact .inl ⟨k, by rw [upd_ne hne]; exact h⟩
  · exact .inr (.inl ⟨o, by rw [upd_ne hne]; exact h⟩)
  · exact .inr (.inr h), h4.tk (Tk.lst hl)⟩
/-- every slot (but i) stands -/
def IndA (l : Addr) (r : Ro d) : Prop := ∀ (j : Nat) (R : Rp d), r[j]? = some (some R) → Ind l R
def IndBut (l : Addr) (i : Nat) (r : Ro d) : Prop := ∀ (j : Nat) (R : Rp d), j ≠ i → r[j]? = some (some R) → Ind l R
theorem ia_nil {l : Addr} : IndA l ([] : Ro d) := fun j R h => by cases h
theorem ia_none {l : Addr} {r : Ro d} (h : IndA l r) : IndA l (none :: r) := fun j R e => by
  cases j with
  | zero => cases e
  | succ j => exact h j R e
theorem ia_some {l : Addr} {r : Ro d} {R : Rp d} (w : Ind l R) (h : IndA l r) : IndA l (some R :: r) := fun j R' e => by
  cases j with
  | zero => cases e; exact w
  | succ j => exact h j R' e
theorem ib_here {l : Addr} {o : Option (Rp d)} {r : Ro d} (h : IndA l r) : IndBut l 0 (o :: r) := fun j R hj e => by
  cases j with
  | zero => exact absurd rfl hj
  | succ j => exact h j R e
theorem ib_none {l : Addr} {i : Nat} {r : Ro d} (h : IndBut l i r) : IndBut l (i + 1) (none :: r) := fun j R hj e => by
  cases j with
  | zero => cases e
  | succ j => exact h j R (fun z => hj (by rw [z])) e
theorem ib_some {l : Addr} {i : Nat} {r : Ro d} {R : Rp d} (w : Ind l R) (h : IndBut l i r) : IndBut l (i + 1) (some R :: r) := fun j R' hj e => by
  cases j with
  | zero => cases e; exact w
  | succ j => exact h j R' (fun z => hj (by rw [z])) e
theorem st_own {K : PySem.W.Frag} {l : Addr} {ds ds' : List D} {vs' : List V} {i : Nat} {σ : L2.St} {H : Hp} (s : St B ρ σ H) (hi : ρ[i]? = some (some (own K l ds))) (hB : B l = none) (hb : IndBut l i ρ) (hd : DRl K H ds' vs') : St B (ρ.set i (some (own K l ds'))) σ (upd H l (.lst vs')) := by
  obtain ⟨v, h1, rfl, hl, vs, h2, h3⟩ := s.good.get hi
  refine ⟨s.ext.mut hB hl, fun a e => ?_, by simp [s.good.1], fun j R e => ?_⟩
  · obtain ⟨ns, hn, q⟩ := s.dr a e
    have : a ≠ l := fun z => hl (by rw [e, z])
    exact ⟨ns, hn, by rw [upd_ne this]; exact q⟩
  · by_cases hj : j = i
    · subst hj
      have hlt : j < ρ.length := (List.getElem?_eq_some_iff.mp hi).1
      rw [List.getElem?_set_self hlt] at e
      cases e
      exact ⟨_, h1, rfl, hl, vs', upd_same, hd.tk (Tk.lst h2)⟩
    · rw [List.getElem?_set_ne (fun z => hj z.symm)] at e
      obtain ⟨v', a1, a2⟩ := s.good.get e
      exact ⟨v', a1, hb j R hj e v' H vs vs' h2 a2⟩
/-- x.append(e), x in slot i -/
theorem bx_append (i : Nat) {x : Str} {p1 p2 p3 p4 : Pos} {K : PySem.W.Frag} {l : Addr} {ds : List D} {w : D} (hi : ρ[i]? = some (some (own K l ds))) (hK : X.K = K) (he : EX X B ρ e (dat K w)) (hB : B l = none) (hb : IndBut l i ρ) (hz : ds.length ≤ 1000) (h : BX X rest (St B (ρ.set i (some (own K l (ds ++ [w]))))) Po)
    (hN : X.N[i]? = some x := by rfl) (hv : Vis X.env.scope x := by first | exact Or.inl rfl | exact Or.inr (Or.inl rfl) | exact Or.inr (Or.inr rfl)) (hd : (x == ("__debug__" : Str)) = false := by decide) (hcd : (x == ("__classdict__" : Str)) = false := by decide)
    (hbase : attributeBase (.Name x p1) "append" X.env (eval (.Name x p1) X.env) = eval (.Name x p1) X.env := by rfl)
    (hfew : ((backTo p3 (starEach (e :: []) X.env)).all (fun x => !x.1) && (backToKw p3 (keywordEach [] X.env)).all (fun x => x.1.isSome)
      && decide ((e :: []).length + ([] : List Keyword).length + (if ([] : List Keyword).isEmpty then 0 else 1) < 30)) = true := by rfl)
    (hline : (p2.endLine == p3.line) = true := by rfl) (hs : starEach (e :: []) X.env = (false, eval e X.env) :: starEach [] X.env := by rfl) (hplain : (backTo p3 (starEach [] X.env)).any (·.1) = false := by rfl)
    (hsw : swapsWith (.Call (.Attribute (.Name x p1) "append" p2) [e] [] p3) none p4.line X.env = pure false := by rfl) :
    BX X (.Expr (.Call (.Attribute (.Name x p1) "append" p2) [e] [] p3) p4 :: rest) (St B ρ) Po := by
  subst hK
  refine bx_cons (Mid := St B (ρ.set i (some (own X.K l (ds ++ [w]))))) ?_ h
  refine PS_wk (ps_expr (pe_bm PySem.F.plainAttrs_list PySem.F.slot_list_append PySem.F.type_list_append mt_append (pe_var hN hv hd hcd) (a_cons he a_nil hs) hbase hfew hline hs hplain) hsw) fun E σ H ⟨s, q⟩ => ?_
  obtain ⟨v, h1, rfl, hl, vs, h2, h3⟩ := s.good.get hi
  refine ⟨_, h1, Or.inl ⟨rfl, _, SqL.of h2⟩, s, fun us H1 e1 hus => ?_⟩
  obtain ⟨y, rfl, hy⟩ := hus.one
  have s1 := s.mono e1
  have g2 := e1.at h2 hl
  refine ⟨l, vs, y, rfl, rfl, g2, small1000 (by rw [← h3.1]; exact hz), ?_⟩
  exact q.nx σ _ (e1.tk.trans (Tk.lst g2)) (st_own s1 hi hB hb ((h3.tk e1.tk).snoc hy))
/-- x[k] = e, x in slot i -/
theorem bx_setitem (i : Nat) {x : Str} {p1 p2 p3 : Pos} {K : PySem.W.Frag} {l : Addr} {ds : List D} {w : D} {k : Nat} (hi : ρ[i]? = some (some (own K l ds))) (hK : X.K = K) (he : EX X B ρ e (dat K w)) (hk : EX X B ρ b (rI (k : Int))) (hkl : k < ds.length) (hB : B l = none) (hb : IndBut l i ρ) (h : BX X rest (St B (ρ.set i (some (own K l (ds.set k w))))) Po)
    (hN : X.N[i]? = some x := by rfl) (hv : Vis X.env.scope x := by first | exact Or.inl rfl | exact Or.inr (Or.inl rfl) | exact Or.inr (Or.inr rfl)) (hd : (x == ("__debug__" : Str)) = false := by decide) (hcd : (x == ("__classdict__" : Str)) = false := by decide)
    (ha : ∀ v, assign (.Subscript (.Name x p1) b p2) X.env v = (do
      let ov ← holding [v] (eval (.Name x p1) X.env)
      let iv ← holding [v, ov] (eval b X.env)
      standAt p2
      holding [v, ov, iv] (setItem ov iv v)
      release [v, ov, iv] []) := by intro _; rfl)
    (hs : swapsWithSole [.Subscript (.Name x p1) b p2] e p3.line X.env = pure false := by rfl) (hw : swappedStores [.Subscript (.Name x p1) b p2] e X.env = pure none := by rfl) (h1 : (assignEach [.Subscript (.Name x p1) b p2] X.env).map (·.2) = [assign (.Subscript (.Name x p1) b p2) X.env] := by rfl) :
    BX X (.Assign [.Subscript (.Name x p1) b p2] e p3 :: rest) (St B ρ) Po := by
  subst hK
  refine bx_cons (Mid := St B (ρ.set i (some (own X.K l (ds.set k w))))) ?_ h
  refine PS_wk (ps_asg he (pg_sub (pe_var hN hv hd hcd) hk set_list ha) hs hw h1) fun E σ H ⟨s, q⟩ => ⟨s, fun y H1 e1 hy => ?_⟩
  have s1 := s.mono e1
  obtain ⟨v, a1, rfl, hl, vs, a2, a3⟩ := s1.good.get hi
  refine ⟨_, a1, s1, fun iv H2 e2 hiv => ?_⟩
  have s2 := s1.mono e2
  have g2 := e2.at a2 hl
  have a3' := a3.tk e2.tk
  have hkv : k < vs.length := by rw [← a3.1]; exact hkl
  refine ⟨l, vs, k, k, rfl, hiv, g2, by unfold ixN; rw [if_pos (by omega), if_pos (by omega)]; simp, ?_⟩
  refine q.nx σ _ ((e1.tk.trans e2.tk).trans (Tk.lst g2)) (st_own s2 hi hB hb ⟨by simp [a3.1], fun j e' v' b1 b2 => ?_⟩)
  by_cases hj : k = j
  · subst hj
    rw [List.getElem?_set_self hkl] at b1
    rw [List.getElem?_set_self hkv] at b2
    cases b1; cases b2
    exact DR.tk e2.tk hy
  · rw [List.getElem?_set_ne hj] at b1 b2
    exact a3'.2 j e' v' b1 b2
/-- x[k] += e, a list of ints, the place and the number told by P and S -/
theorem bx_augitem (i : Nat) {x : Str} {p1 p2 p3 : Pos} {K : PySem.W.Frag} {l : Addr} {ns : List Int} {P : Int → Prop} (hi : ρ[i]? = some (some (own K l (ns.map D.i)))) (hK : X.K = K) (hk : EX X B ρ b (iE P)) (hP : ∀ k, P k → 0 ≤ k ∧ k < ns.length) (he : EX X B ρ e (rI n)) (hB : B l = none) (hb : IndBut l i ρ)
    (h : ∀ (k : Nat) (z : Int), P k → ns[k]? = some z → BX X rest (St B (ρ.set i (some (own K l ((ns.set k (z + n)).map D.i))))) Po)
    (hN : X.N[i]? = some x := by rfl) (hv : Vis X.env.scope x := by first | exact Or.inl rfl | exact Or.inr (Or.inl rfl) | exact Or.inr (Or.inr rfl)) (hd : (x == ("__debug__" : Str)) = false := by decide) (hcd : (x == ("__classdict__" : Str)) = false := by decide)
    (ha : ∀ ov iv new, augStore b ov iv new = (do holding [new, ov, iv] (setItem ov iv new); release [new, ov, iv] []; pure .next) := by intros; rfl) :
    BX X (.AugAssign (.Subscript (.Name x p1) b p2) .Add e p3 :: rest) (St B ρ) Po := by
  subst hK
  refine bx_cons (Mid := fun σ H => ∃ kz : Nat × Int, (P kz.1 ∧ ns[kz.1]? = some kz.2) ∧ St B (ρ.set i (some (own X.K l ((ns.set kz.1 (kz.2 + n)).map D.i)))) σ H) ?_ (bx_ex fun kz hkz => h kz.1 kz.2 hkz.1 hkz.2)
  refine PS_wk (ps_augS (pe_var hN hv hd hcd) hk get_list he ip_add set_list ha) fun E σ H ⟨s, q⟩ => ?_
  obtain ⟨v, a1, rfl, hl, vs, a2, a3⟩ := s.good.get hi
  refine ⟨_, a1, s, fun iv H1 e1 ⟨k, hPk, hiv⟩ => ?_⟩
  obtain ⟨h0, hkl⟩ := hP k hPk
  obtain ⟨j, rfl⟩ : ∃ j : Nat, k = (j : Int) := ⟨k.toNat, by omega⟩
  have hj : j < ns.length := by omega
  obtain rfl := a3.ints
  have g2 := e1.at a2 hl
  obtain rfl : iv = .int (j : Int) := hiv
  have hz : (ns.map V.int)[j]? = some (.int ns[j]) := by rw [List.getElem?_map, List.getElem?_eq_getElem hj]; rfl
  refine ⟨l, ns.map V.int, j, .int ns[j], rfl, rfl, SqL.of g2, atI_nat hz, s.mono e1, fun y H2 e2 hy => ?_⟩
  obtain rfl : y = .int n := hy
  have g3 := e2.at g2 hl
  refine ⟨ns[j], n, rfl, rfl, l, ns.map V.int, j, j, rfl, rfl, g3, by unfold ixN; rw [if_pos (by omega), if_pos (by rw [List.length_map]; omega)]; simp, ?_⟩
  refine q.nx σ _ ((e1.tk.trans e2.tk).trans (Tk.lst g3)) ⟨(j, ns[j]), ⟨hPk, List.getElem?_eq_getElem hj⟩, ?_⟩
  refine st_own ((s.mono e1).mono e2) hi hB hb ?_
  have eq : (ns.map V.int).set j (.int (ns[j] + n)) = (ns.set j (ns[j] + n)).map V.int := by rw [List.map_set]
  rw [eq]
  exact DRl.of_ints _
end
end Cv

namespace Cv
open PySem PySem.Spec PyProof.Rows L2 RZ
section
variable {d : Option Addr} {X : Cx} {B : Hp} {ρ ρ' : Ro d} {a b c e iter elt : Expr} {es : List Expr} {R R' Ra Rb : Rp d} {Rs : List (Rp d)} {pos : Pos} {m n : Int} {st : Stmt} {rest body orelse : List Stmt} {Pre Mid : L2.St → Hp → Prop} {Po : Ends}
/-! ### comprehensions -/
theorem wipe1 (σ : L2.St) (j : Nat) (x : V) : wipe ((wipe σ [j]).set j (some x)) [j] = wipe σ [j] := by
  show ((σ.set j none).set j (some x)).set j none = σ.set j none
  rw [List.set_set, List.set_set]
/-- the items so far, in the new list at D -/
def Lc (H1 : Hp) (K : PySem.W.Frag) (Dl : Addr) (d : Option Addr) (P : Nat → D → Prop) (i : Nat) (H : Hp) : Prop :=
  Ext d H1 H ∧ ∃ vs ds, H Dl = some (.lst vs) ∧ DRl K H ds vs ∧ ds.length = i ∧ ∀ k w, ds[k]? = some w → P k w
theorem lc_step {H1 H H2 : Hp} {K : PySem.W.Frag} {Dl : Addr} {P : Nat → D → Prop} {i : Nat} {y : V} (hn : H1 Dl = none) (hd : some Dl ≠ d) (h : Lc H1 K Dl d P i H) (e : Ext d H H2) (hy : ∃ w, P i w ∧ DR K H2 w y) (hi : i < 2000) :
    ∃ acc, H2 Dl = some (.lst acc) ∧ acc.length < sizeLine ∧ Lc H1 K Dl d P (i + 1) (upd H2 Dl (.lst (acc ++ [y]))) := by
  obtain ⟨h0, vs, ds, h1, h2, h3, h4⟩ := h
  obtain ⟨w, hw, hr⟩ := hy
  have g := e.at h1 hd
  refine ⟨vs, g, Nat.lt_of_lt_of_le (show vs.length < 2000 by rw [← h2.1, h3]; exact hi) (by decide), (h0.trans e).mut hn hd, _, ds ++ [w], upd_same, ((h2.tk e.tk).snoc hr).tk (Tk.lst g), by simp [h3], fun k u hk => ?_⟩
  by_cases hlt : k < ds.length
  · rw [List.getElem?_append_left hlt] at hk
    exact h4 k u hk
  · rw [List.getElem?_append_right (by omega)] at hk
    have : k - ds.length = 0 := by
      cases q : k - ds.length with
      | zero => rfl
      | succ z => rw [q] at hk; simp at hk
    rw [this] at hk
    cases hk
    have : k = i := by omega
    subst this
    exact hw
def tElt {Z : Type} (B : Hp) (K : PySem.W.Frag) (pr : Z → Ro d) (S : Z → Prop) (P : Z → D → Prop) : TE := fun σ H Q => ∃ z, S z ∧ St B (pr z) σ H ∧ ∀ v H', Ext d H H' → (∃ w, P z w ∧ DR K H' w v) → Q v H'
theorem elt_of {Z : Type} {K : PySem.W.Frag} {pr : Z → Ro d} {S : Z → Prop} {P : Z → D → Prop} {Y : Cx} (h : ∀ z, S z → EX Y B (pr z) elt (dE K (P z))) : PE Y elt (tElt B K pr S P) := ⟨fun pins s σ H Q I ⟨z, hz, st, q⟩ => (h z hz).run pins s σ H Q I ⟨st, fun v H' e1 hv => q v H' e1 hv⟩⟩
theorem st_wipe {σ : L2.St} {H : Hp} {j : Nat} {v : V} (s : St B ρ σ H) (h : R.p v H) : St B (ρ.set j (some R)) ((wipe σ [j]).set j (some v)) H := by
  have e : (wipe σ [j]).set j (some v) = σ.set j (some v) := by show (σ.set j none).set j (some v) = _; rw [List.set_set]
  rw [e]
  exact ⟨s.ext, s.dr, s.good.set j h⟩
/-- [elt for x in range(e)] -/
theorem x_lcR {nn : Int} (j : Nat) {x : Str} {scope : Scope} {tpos p p2 : Pos} (P : Nat → D → Prop) (hg : Gl X "range") (hm : X.mg "range" = none) (hi : EX X B ρ e (rI nn)) (hn : nn < 2000 ∧ -(2 ^ 62) ≤ nn) (hN : X.N.Nodup) (hok : BlkOk X.N X.env.scope scope [(x, j)])
    (hgn : ∀ (s : Shared) (H : Hp) (C : Addr) (cl : List (Str × Addr)) (fp : List Addr), PG (X.blk s H scope (compEnvC scope cl C X.env) fp) (.Name x tpos) (gName j))
    (hb : ∀ (s : Shared) (H : Hp) (C : Addr) (cl : List (Str × Addr)) (fp : List Addr) (i : Nat), (i : Int) < nn → EX (X.blk s H scope (compEnvC scope cl C X.env) fp) B (ρ.set j (some (rI (i : Int)))) elt (dE X.K (P i)))
    (hc : X.calm = true := by rfl) (he : starEach [e] X.env = [(false, eval e X.env)] := by rfl) (hs : ∀ x, foldedSetIterable (.Call (.Name "range" p) [e] [] p2) X.env x = pure x := by intro _; rfl) :
    EX X B ρ (.ListComp elt [⟨.Name x tpos, .Call (.Name "range" p) [e] [] p2, [], 0⟩] scope pos) (newE B X.K fun ds => ds.length = nn.toNat ∧ ∀ k w, ds[k]? = some w → P k w) := by
  refine PE_wk (pe_lc (own := [(x, j)]) (g := gName j) (tt := tYes) (te := tElt (Z := Nat) B X.K (fun i => ρ.set j (some (rI (i : Int)))) (fun i => (i : Int) < nn) P) hc hN (pi_range1 hg hm (a_cons hi a_nil he) he) hok hgn (fun _ _ _ _ _ => pts_nil) (fun s H C cl fp => elt_of fun i hi' => hb s H C cl fp i hi') hs) fun σ H Q ⟨s, q⟩ => ⟨s, fun vs H1 e1 hv => ?_⟩
  obtain ⟨v, rfl, hv'⟩ := hv.one
  obtain rfl : v = .int nn := hv'
  have s1 := s.mono e1
  refine ⟨nn, rfl, hn.2, by have := hn.1; omega, fun Dl hD => ?_⟩
  obtain ⟨hB, hDd⟩ := s1.fresh hD
  refine lc_range (lo := 0) (n := nn.toNat) (Lc H1 X.K Dl d P) ⟨Ext.new hD, [], [], upd_same, DRl.nil, rfl, fun k w h => by cases h⟩ (fun i H' hlt L => ?_) (fun H' L => ?_)
  · refine ⟨wipe1 _ _ _, ?_⟩
    refine ⟨i, by omega, ?_, fun y H2 e2 hy => lc_step hD hDd L e2 hy (by have := hn.1; omega)⟩
    rw [Int.zero_add]
    exact st_wipe (s1.mono L.1) (R := rI (i : Int)) rfl
  · obtain ⟨h0, us, ds, h1, h2, h3, h4⟩ := L
    exact q _ H' (e1.trans h0) ⟨ds, ⟨h3, h4⟩, Dl, hB, rfl, hDd, us, h1, h2⟩
/-- [elt for x in t] -/
theorem x_lcT {src : List D} (j : Nat) {x : Str} {scope : Scope} {tpos : Pos} (P : Nat → D → Prop) (hi : EX X B ρ iter (dat X.K (.t src))) (hn : src.length < 2000) (hN : X.N.Nodup) (hok : BlkOk X.N X.env.scope scope [(x, j)])
    (hgn : ∀ (s : Shared) (H : Hp) (C : Addr) (cl : List (Str × Addr)) (fp : List Addr), PG (X.blk s H scope (compEnvC scope cl C X.env) fp) (.Name x tpos) (gName j))
    (hb : ∀ (s : Shared) (H : Hp) (C : Addr) (cl : List (Str × Addr)) (fp : List Addr) (i : Nat) (w : D), src[i]? = some w → EX (X.blk s H scope (compEnvC scope cl C X.env) fp) B (ρ.set j (some (dat X.K w))) elt (dE X.K (P i)))
    (hc : X.calm = true := by rfl) (hs : ∀ x, foldedSetIterable iter X.env x = pure x := by intro _; rfl) :
    EX X B ρ (.ListComp elt [⟨.Name x tpos, iter, [], 0⟩] scope pos) (newE B X.K fun ds => ds.length = src.length ∧ ∀ k w, ds[k]? = some w → P k w) := by
  refine PE_wk (pe_lc (own := [(x, j)]) (g := gName j) (tt := tYes) (te := tElt (Z := Nat × D) B X.K (fun z => ρ.set j (some (dat X.K z.2))) (fun z => src[z.1]? = some z.2) (fun z => P z.1)) hc hN (pi_tup hi) hok hgn (fun _ _ _ _ _ => pts_nil) (fun s H C cl fp => elt_of fun z hz => hb s H C cl fp z.1 z.2 hz) hs) fun σ H Q ⟨s, q⟩ => ⟨s, fun v H1 e1 hv => ?_⟩
  obtain ⟨t, us, rfl, g1, g2⟩ := DR.tup hv
  have s1 := s.mono e1
  refine ⟨t, rfl, ⟨us, g1⟩, fun Dl hD => ?_⟩
  obtain ⟨hB, hDd⟩ := s1.fresh hD
  refine lc_tup (K := X.K) (a := t) (xs := us) (Lc H1 X.K Dl d P) ⟨Ext.new hD, [], [], upd_same, DRl.nil, rfl, fun k w h => by cases h⟩ (fun i H' _ L => L.1.tk.sqT g1) (fun i y H' hy L => ?_) (fun H' L => ?_)
  · obtain ⟨w, hw, hr⟩ := g2.getV hy
    refine ⟨wipe1 _ _ _, ?_⟩
    exact ⟨(i, w), hw, st_wipe (s1.mono L.1) (R := dat X.K w) (hr.tk L.1.tk), fun y H2 e2 hy => lc_step hD hDd L e2 hy (Nat.lt_trans (List.getElem?_eq_some_iff.mp hw).1 hn)⟩
  · obtain ⟨h0, vs, ds, h1, h2, h3, h4⟩ := L
    exact q _ H' (e1.trans h0) ⟨ds, ⟨by rw [h3, g2.1], h4⟩, Dl, hB, rfl, hDd, vs, h1, h2⟩
/-- [elt for x in xs], xs a list at l -/
theorem x_lcL {src : List D} {l : Addr} (j : Nat) {x : Str} {scope : Scope} {tpos : Pos} (P : Nat → D → Prop) (hi : EX X B ρ iter (lstA X.K l src)) (hn : src.length < 2000) (hN : X.N.Nodup) (hok : BlkOk X.N X.env.scope scope [(x, j)])
    (hgn : ∀ (s : Shared) (H : Hp) (C : Addr) (cl : List (Str × Addr)) (fp : List Addr), PG (X.blk s H scope (compEnvC scope cl C X.env) fp) (.Name x tpos) (gName j))
    (hb : ∀ (s : Shared) (H : Hp) (C : Addr) (cl : List (Str × Addr)) (fp : List Addr) (i : Nat) (w : D), src[i]? = some w → EX (X.blk s H scope (compEnvC scope cl C X.env) fp) B (ρ.set j (some (dat X.K w))) elt (dE X.K (P i)))
    (hc : X.calm = true := by rfl) (hs : ∀ x, foldedSetIterable iter X.env x = pure x := by intro _; rfl) :
    EX X B ρ (.ListComp elt [⟨.Name x tpos, iter, [], 0⟩] scope pos) (newE B X.K fun ds => ds.length = src.length ∧ ∀ k w, ds[k]? = some w → P k w) := by
  refine PE_wk (pe_lc (own := [(x, j)]) (g := gName j) (tt := tYes) (te := tElt (Z := Nat × D) B X.K (fun z => ρ.set j (some (dat X.K z.2))) (fun z => src[z.1]? = some z.2) (fun z => P z.1)) hc hN (pi_list hi) hok hgn (fun _ _ _ _ _ => pts_nil) (fun s H C cl fp => elt_of fun z hz => hb s H C cl fp z.1 z.2 hz) hs) fun σ H Q ⟨s, q⟩ => ⟨s, fun v H1 e1 hv => ?_⟩
  obtain ⟨rfl, hld, us, g1, g2⟩ := hv
  have s1 := s.mono e1
  refine ⟨l, rfl, ⟨us, g1.sq⟩, fun Dl hD => ?_⟩
  obtain ⟨hB, hDd⟩ := s1.fresh hD
  refine lc_list (K := X.K) (a := l) (xs := us) (Lc H1 X.K Dl d P) ⟨Ext.new hD, [], [], upd_same, DRl.nil, rfl, fun k w h => by cases h⟩ (fun i H' _ L => (g1.ext L.1).sq) (fun i y H' hy L => ?_) (fun H' L => ?_)
  · obtain ⟨w, hw, hr⟩ := g2.getV hy
    refine ⟨wipe1 _ _ _, ?_⟩
    exact ⟨(i, w), hw, st_wipe (s1.mono L.1) (R := dat X.K w) (hr.tk L.1.tk), fun y H2 e2 hy => lc_step hD hDd L e2 hy (Nat.lt_trans (List.getElem?_eq_some_iff.mp hw).1 hn)⟩
  · obtain ⟨h0, vs, ds, h1, h2, h3, h4⟩ := L
    exact q _ H' (e1.trans h0) ⟨ds, ⟨by rw [h3, g2.1], h4⟩, Dl, hB, rfl, hDd, vs, h1, h2⟩
/-- what is told of each item makes the list, where it is one thing -/
theorem ds_of {F : Nat → D} : ∀ {ds : List D} {n : Nat}, ds.length = n → (∀ k w, ds[k]? = some w → w = F k) → ds = (List.range n).map F := fun {ds n} h1 h2 => by
  apply List.ext_getElem?
  intro i
  rw [List.getElem?_map, ]
  by_cases hi : i < n
  · rw [List.getElem?_range hi, List.getElem?_eq_getElem (by rw [h1]; exact hi)]
    show _ = some (F i)
    rw [← h2 i _ (List.getElem?_eq_getElem (by rw [h1]; exact hi))]
  · rw [List.getElem?_eq_none (by rw [h1]; exact Nat.le_of_not_lt hi), List.getElem?_eq_none (by rw [List.length_range]; exact Nat.le_of_not_lt hi)]
    rfl
theorem ints_of {P : Nat → Int → Prop} : ∀ {ds : List D}, (∀ k w, ds[k]? = some w → ∃ z, w = .i z ∧ P k z) → ∃ ns : List Int, ds = ns.map D.i ∧ ∀ k z, ns[k]? = some z → P k z := fun {ds} => by
  induction ds generalizing P with
  | nil => exact fun _ => ⟨[], rfl, fun k z h => by cases h⟩
  | cons e ds ih =>
    intro h
    obtain ⟨z, rfl, hz⟩ := h 0 e rfl
    obtain ⟨ns, rfl, hns⟩ := ih (P := fun k => P (k + 1)) fun k w hk => h (k + 1) w hk
    refine ⟨z :: ns, rfl, fun k y hk => ?_⟩
    cases k with
    | zero => cases hk; exact hz
    | succ k => exact hns k y hk
/-! ### a list times a number; a range's list; reverse -/
theorem x_rep {l0 : List D} (ha : EX X B ρ a (newL B X.K l0)) (hb : EX X B ρ b (rI n)) (hn : l0.length * n.toNat ≤ 1000) (h1 : -(2 ^ 62) ≤ n ∧ n < 2 ^ 62) : EX X B ρ (.BinOp a .Mult b pos) (newL B X.K (List.replicate n.toNat l0).flatten) :=
  x_op2 op_rep ha hb fun x y H σ Q s hx hy q => by
    obtain ⟨l, _, rfl, hl, vs, g1, g2⟩ := hx
    refine ⟨l, n, vs, rfl, hy, g1, by omega, by omega, by rw [← g2.1]; exact Nat.le_of_lt (small1000 hn), fun p hp => q _ _ (Ext.new hp) ?_⟩
    obtain ⟨hB, hpd⟩ := s.fresh hp
    refine ⟨p, hB, rfl, hpd, _, upd_same, DRl.tk (Ext.new (d := d) hp).tk ?_⟩
    have key : ∀ k : Nat, DRl X.K H (List.replicate k l0).flatten (List.replicate k vs).flatten := fun k => by
      induction k with
      | zero => exact DRl.nil
      | succ k ih =>
        rw [List.replicate_succ, List.replicate_succ, List.flatten_cons, List.flatten_cons]
        refine ⟨by rw [List.length_append, List.length_append, g2.1, ih.1], fun i e' v' h1 h2 => ?_⟩
        by_cases hi : i < l0.length
        · rw [List.getElem?_append_left hi] at h1
          rw [List.getElem?_append_left (by rw [← g2.1]; exact hi)] at h2
          exact g2.2 i e' v' h1 h2
        · rw [List.getElem?_append_right (by omega)] at h1
          rw [List.getElem?_append_right (by rw [← g2.1]; omega), ← g2.1] at h2
          exact ih.2 _ e' v' h1 h2
    exact key n.toNat
theorem x_listR {p p2 p3 : Pos} (hg : Gl X "list") (hm : X.mg "list" = none) (hg2 : Gl X "range") (hm2 : X.mg "range" = none) (hi : EX X B ρ e (rI n)) (hn : 0 ≤ n ∧ n ≤ 1000) (hc : X.calm = true := by rfl) (na : starEach [e] X.env = (false, eval e X.env) :: starEach [] X.env := by rfl)
    (na2 : starEach [.Call (.Name "range" p2) [e] [] p3] X.env = (false, eval (.Call (.Name "range" p2) [e] [] p3) X.env) :: starEach [] X.env := by rfl) : EX X B ρ (.Call (.Name "list" p) [.Call (.Name "range" p2) [e] [] p3] [] pos) (newL B X.K ((List.range n.toNat).map fun (i : Nat) => D.i (i : Int))) :=
  PE_wk (pe_listRg hc hg hm (prg_1 hg2 hm2 hi na) na2) fun σ H Q ⟨s, q⟩ => ⟨s, fun v H1 e1 hv => by
    obtain rfl : v = .int n := hv
    refine ⟨n, rfl, RgOk.of_le (by omega) (by omega) (by omega) (by omega), fun r hr => q _ _ (e1.trans (Ext.new hr)) ?_⟩
    obtain ⟨hB, hpd⟩ := (s.mono e1).fresh hr
    refine ⟨r, hB, rfl, hpd, _, upd_same, ?_⟩
    have e0 : rgV 0 n = ((List.range n.toNat).map fun (i : Nat) => (i : Int)).map V.int := by
      unfold rgV
      rw [List.map_map, Int.sub_zero]
      apply List.map_congr_left
      intro i _
      show V.int ((0 : Int) + (i : Nat)) = V.int (i : Int)
      rw [Int.zero_add]
    have e2 : ((List.range n.toNat).map fun (i : Nat) => D.i (i : Int)) = ((List.range n.toNat).map fun (i : Nat) => (i : Int)).map D.i := by rw [List.map_map]; rfl
    rw [e0, e2]
    exact DRl.of_ints _⟩
theorem x_tupR {p p2 p3 : Pos} (hg : Gl X "tuple") (hm : X.mg "tuple" = none) (hg2 : Gl X "range") (hm2 : X.mg "range" = none) (hi : EX X B ρ e (rI n)) (hn : 0 ≤ n ∧ n ≤ 1000) (hc : X.calm = true := by rfl) (na : starEach [e] X.env = (false, eval e X.env) :: starEach [] X.env := by rfl)
    (na2 : starEach [.Call (.Name "range" p2) [e] [] p3] X.env = (false, eval (.Call (.Name "range" p2) [e] [] p3) X.env) :: starEach [] X.env := by rfl) : EX X B ρ (.Call (.Name "tuple" p) [.Call (.Name "range" p2) [e] [] p3] [] pos) (dat X.K (tI ((List.range n.toNat).map fun (i : Nat) => (i : Int)))) :=
  PE_wk (pe_tupRg hc hg hm (prg_1 hg2 hm2 hi na) na2) fun σ H Q ⟨s, q⟩ => ⟨s, fun v H1 e1 hv => by
    obtain rfl : v = .int n := hv
    refine ⟨n, rfl, RgOk.of_le (by omega) (by omega) (by omega) (by omega), fun r hr => q _ _ (e1.trans (Ext.new hr)) ?_⟩
    have e0 : rgV 0 n = ((List.range n.toNat).map fun (i : Nat) => (i : Int)).map V.int := by
      unfold rgV
      rw [List.map_map, Int.sub_zero]
      apply List.map_congr_left
      intro i _
      show V.int ((0 : Int) + (i : Nat)) = V.int (i : Int)
      rw [Int.zero_add]
    rw [e0]
    exact DR.of_tup (SqT.of upd_same) (DRl.of_ints _)⟩
/-- x.reverse(), x in slot i -/
theorem bx_reverse (i : Nat) {x : Str} {p1 p2 p3 p4 : Pos} {K : PySem.W.Frag} {l : Addr} {ds : List D} (hi : ρ[i]? = some (some (own K l ds))) (hK : X.K = K) (hB : B l = none) (hb : IndBut l i ρ) (h : BX X rest (St B (ρ.set i (some (own K l ds.reverse)))) Po)
    (hN : X.N[i]? = some x := by rfl) (hv : Vis X.env.scope x := by first | exact Or.inl rfl | exact Or.inr (Or.inl rfl) | exact Or.inr (Or.inr rfl)) (hd : (x == ("__debug__" : Str)) = false := by decide) (hcd : (x == ("__classdict__" : Str)) = false := by decide)
    (hbase : attributeBase (.Name x p1) "reverse" X.env (eval (.Name x p1) X.env) = eval (.Name x p1) X.env := by rfl) (hline : (p2.endLine == p3.line) = true := by rfl)
    (hsw : swapsWith (.Call (.Attribute (.Name x p1) "reverse" p2) [] [] p3) none p4.line X.env = pure false := by rfl) :
    BX X (.Expr (.Call (.Attribute (.Name x p1) "reverse" p2) [] [] p3) p4 :: rest) (St B ρ) Po := by
  subst hK
  refine bx_cons (Mid := St B (ρ.set i (some (own X.K l ds.reverse)))) ?_ h
  refine PS_wk (ps_expr (pe_bm0 PySem.F.plainAttrs_list PySem.F.slot_list_reverse PySem.F.type_list_reverse mt_reverse (pe_var hN hv hd hcd) hbase hline) hsw) fun E σ H ⟨s, q⟩ => ?_
  obtain ⟨v, h1, rfl, hl, vs, h2, h3⟩ := s.good.get hi
  refine ⟨_, h1, Or.inl ⟨rfl, _, SqL.of h2⟩, l, vs, rfl, rfl, h2, ?_⟩
  refine q.nx σ _ (Tk.lst h2) (st_own s hi hB hb ⟨by simp [h3.1], fun j e' v' b1 b2 => ?_⟩)
  have hj : j < ds.length := by
    have := (List.getElem?_eq_some_iff.mp b1).1
    simpa using this
  rw [List.getElem?_reverse hj] at b1
  rw [List.getElem?_reverse (by rw [← h3.1]; exact hj), ← h3.1] at b2
  exact h3.2 _ e' v' b1 b2
end
end Cv

namespace Cv
open PySem PySem.Spec PyProof.Rows L2 RZ
/-! ### data compared -/
mutual
def D.py : D → PyData
  | .i n => .int n
  | .b k => .bool k
  | .n => .none
  | .s x => .str x
  | .t xs => .tuple (pyL xs)
def pyL : List D → List PyData
  | [] => []
  | e :: r => e.py :: pyL r
end
theorem dpAll_of {K : PySem.W.Frag} {H : Hp} : ∀ {ds : List D} {vs : List V}, ds.length = vs.length → (∀ (i : Nat) (e : D) (v : V), ds[i]? = some e → vs[i]? = some v → Dp K H v e.py) → DpAll K H vs (pyL ds)
  | [], [], _, _ => .nil
  | [], _ :: _, h, _ => absurd h (by simp)
  | _ :: _, [], h, _ => absurd h (by simp)
  | e :: ds, v :: vs, h, g => .cons (g 0 e v rfl rfl) (dpAll_of (by simpa using h) fun i e' v' a b => g (i + 1) e' v' a b)
theorem dp_of {K : PySem.W.Frag} {H : Hp} {e : D} {v : V} (h : DR K H e v) : Dp K H v e.py := by
  induction h with
  | i n => exact .int n
  | b k => exact .bl k
  | n => exact .non
  | s x => exact .str x
  | t h hl _ ih => exact .tup h (dpAll_of hl ih)
/-- plain data (no bools) of a depth -/
inductive Shp : Nat → D → Prop
  | i {k : Nat} (n : Int) : Shp k (.i n)
  | n {k : Nat} : Shp k .n
  | s {k : Nat} (x : Str) (h : PyData.strOk x = true) : Shp k (.s x)
  | t {k : Nat} {xs : List D} (h : ∀ e ∈ xs, Shp k e) : Shp (k + 1) (.t xs)
theorem shpL {k : Nat} : ∀ {xs : List D}, (∀ e ∈ xs, e.py.canLay0 = true ∧ e.py.depth ≤ k) → PyData.canLayAll0 (pyL xs) = true ∧ PyData.depthAll (pyL xs) ≤ k
  | [], _ => ⟨by simp [pyL, PyData.canLayAll0], by simp [pyL, PyData.depthAll]⟩
  | e :: r, h => by
    obtain ⟨h1, h2⟩ := h e List.mem_cons_self
    obtain ⟨h3, h4⟩ := shpL (xs := r) fun e' he => h e' (List.mem_cons_of_mem _ he)
    refine ⟨?_, ?_⟩
    · simp only [pyL, PyData.canLayAll0, h1, h3, Bool.and_self]
    · simp only [pyL, PyData.depthAll]
      exact Nat.max_le.mpr ⟨h2, h4⟩
theorem Shp.lay {k : Nat} {e : D} (h : Shp k e) : e.py.canLay0 = true ∧ e.py.depth ≤ k := by
  induction h with
  | i n => exact ⟨by simp [D.py, PyData.canLay0], by simp [D.py, PyData.depth]⟩
  | n => exact ⟨by simp [D.py, PyData.canLay0], by simp [D.py, PyData.depth]⟩
  | s x h => exact ⟨by simpa [D.py, PyData.canLay0] using h, by simp [D.py, PyData.depth]⟩
  | t _ ih =>
    obtain ⟨h1, h2⟩ := shpL ih
    exact ⟨by simpa [D.py, PyData.canLay0] using h1, by simpa [D.py, PyData.depth] using h2⟩
theorem Shp.shaped {k : Nat} {e : D} (h : Shp k e) (hk : k ≤ 64) : SeqAt.shaped e.py = true := by
  obtain ⟨h1, h2⟩ := h.lay
  unfold SeqAt.shaped
  rw [h1, Bool.true_and]
  exact decide_eq_true (Nat.le_trans h2 hk)
theorem eqvL : ∀ {xs ys : List D}, (∀ e ∈ xs, ∀ {f : D}, (∃ k, Shp k f) → (PyData.eqv e.py f.py = true ↔ e = f)) → (∀ f ∈ ys, ∃ k, Shp k f) → (PyData.eqvAll (pyL xs) (pyL ys) = true ↔ xs = ys)
  | [], [], _, _ => by simp [pyL, PyData.eqvAll]
  | [], _ :: _, _, _ => by simp [pyL, PyData.eqvAll]
  | _ :: _, [], _, _ => by simp [pyL, PyData.eqvAll]
  | x :: xs, y :: ys, h, g => by
    have h1 := h x List.mem_cons_self (f := y) (g y List.mem_cons_self)
    have h2 := eqvL (xs := xs) (ys := ys) (fun e he => h e (List.mem_cons_of_mem _ he)) fun f hf => g f (List.mem_cons_of_mem _ hf)
    simp only [pyL, PyData.eqvAll, Bool.and_eq_true, h1, h2, List.cons.injEq]
theorem Shp.eqv {k : Nat} {e : D} (h : Shp k e) : ∀ {f : D}, (∃ j, Shp j f) → (PyData.eqv e.py f.py = true ↔ e = f) := by
  induction h with
  | i n =>
    rintro f ⟨j, hf⟩
    cases hf with
    | i m => simp [D.py, PyData.eqv]
    | n => simp [D.py, PyData.eqv]
    | s y _ => simp [D.py, PyData.eqv]
    | t _ => simp [D.py, PyData.eqv]
  | n =>
    rintro f ⟨j, hf⟩
    cases hf with
    | i m => simp [D.py, PyData.eqv]
    | n => simp [D.py, PyData.eqv]
    | s y _ => simp [D.py, PyData.eqv]
    | t _ => simp [D.py, PyData.eqv]
  | s x _ =>
    rintro f ⟨j, hf⟩
    cases hf with
    | i m => simp [D.py, PyData.eqv]
    | n => simp [D.py, PyData.eqv]
    | s y _ => simp [D.py, PyData.eqv]
    | t _ => simp [D.py, PyData.eqv]
  | @t k xs _ ih =>
    rintro f ⟨j, hf⟩
    cases hf with
    | i m => simp [D.py, PyData.eqv]
    | n => simp [D.py, PyData.eqv]
    | s y _ => simp [D.py, PyData.eqv]
    | @t j' ys g =>
      have := eqvL (xs := xs) (ys := ys) (fun e he {f} hf => ih e he hf) fun f hf => ⟨_, g f hf⟩
      simpa [D.py, PyData.eqv] using this
theorem shp_tI {k : Nat} (ns : List Int) : Shp (k + 1) (tI ns) := .t fun e he => by
  obtain ⟨n, _, rfl⟩ := List.mem_map.mp he
  exact .i n
section
variable {d : Option Addr} {X : Cx} {B : Hp} {ρ ρ' : Ro d} {a b c e iter elt : Expr} {es : List Expr} {R R' Ra Rb : Rp d} {Rs : List (Rp d)} {pos : Pos} {m n : Int} {st : Stmt} {rest body orelse : List Stmt} {Pre Mid : L2.St → Hp → Prop} {Po : Ends}
theorem bool_iff {k : Bool} {P : Prop} [Decidable P] (h : k = true ↔ P) : k = decide P := by
  by_cases hp : P
  · rw [decide_eq_true hp]; exact h.mpr hp
  · rw [decide_eq_false hp]
    cases k with
    | true => exact absurd (h.mp rfl) hp
    | false => rfl
theorem t_eqD {x y : D} {k j : Nat} (hu : X.A.units + 64 < cLine) (ha : EX X B ρ a (dat X.K x)) (hb : EX X B ρ b (dat X.K y)) (hx : Shp k x) (hy : Shp j y) (hk : k ≤ 64 := by decide) (hj : j ≤ 64 := by decide) : TX X B ρ (.Compare a [.Eq] [b] pos) (fun q => q = true ↔ x = y) :=
  t_cmp (op_eqD hu) (nomark _) ha hb fun u v H σ Q _ hx' hy' q => ⟨x.py, y.py, dp_of hx', dp_of hy', hx.shaped hk, hy.shaped hj, q _ H (Ext.refl H) (hx.eqv ⟨_, hy⟩)⟩
theorem t_neD {x y : D} {k j : Nat} (hu : X.A.units + 64 < cLine) (ha : EX X B ρ a (dat X.K x)) (hb : EX X B ρ b (dat X.K y)) (hx : Shp k x) (hy : Shp j y) (hk : k ≤ 64 := by decide) (hj : j ≤ 64 := by decide) : TX X B ρ (.Compare a [.NotEq] [b] pos) (fun q => q = false ↔ x = y) :=
  t_cmp (op_neD hu) (nomark _) ha hb fun u v H σ Q _ hx' hy' q => ⟨x.py, y.py, dp_of hx', dp_of hy', hx.shaped hk, hy.shaped hj, q _ H (Ext.refl H) (by have := hx.eqv ⟨_, hy⟩; rw [← this]; cases PyData.eqv x.py y.py <;> simp)⟩
theorem x_eqD {x y : D} {k j : Nat} (hu : X.A.units + 64 < cLine) (ha : EX X B ρ a (dat X.K x)) (hb : EX X B ρ b (dat X.K y)) (hx : Shp k x) (hy : Shp j y) (hk : k ≤ 64 := by decide) (hj : j ≤ 64 := by decide) : EX X B ρ (.Compare a [.Eq] [b] pos) (exR (fun q => q = true ↔ x = y) rB) :=
  x_cmp (op_eqD hu) (nomark _) ha hb fun u v H σ Q _ hx' hy' q => ⟨x.py, y.py, dp_of hx', dp_of hy', hx.shaped hk, hy.shaped hj, q _ H (Ext.refl H) ⟨_, hx.eqv ⟨_, hy⟩, rfl⟩⟩
theorem t_isN {x : D} {K : PySem.W.Frag} {j : Nat} {p2 : Pos} (ha : EX X B ρ a (dat K x)) : TX X B ρ (.Compare a [.Is] [.Constant .none j p2] pos) (fun q => q = true ↔ x = .n) :=
  t_cmp op_isN (nomark _) ha (x_non (K := K)) fun u v H σ Q _ hx' hy' q => by
    cases hy'
    refine ⟨rfl, q _ H (Ext.refl H) ?_⟩
    cases hx' <;> simp
theorem x_isN {x : D} {K : PySem.W.Frag} {j : Nat} {p2 : Pos} (ha : EX X B ρ a (dat K x)) : EX X B ρ (.Compare a [.Is] [.Constant .none j p2] pos) (exR (fun q => q = true ↔ x = .n) rB) :=
  x_cmp op_isN (nomark _) ha (x_non (K := K)) fun u v H σ Q _ hx' hy' q => by
    cases hy'
    refine ⟨rfl, q _ H (Ext.refl H) ⟨_, ?_, rfl⟩⟩
    cases hx' <;> simp
theorem t_notN {x : D} {K : PySem.W.Frag} {j : Nat} {p2 : Pos} (ha : EX X B ρ a (dat K x)) : TX X B ρ (.Compare a [.IsNot] [.Constant .none j p2] pos) (fun q => q = false ↔ x = .n) :=
  t_cmp op_notN (nomark _) ha (x_non (K := K)) fun u v H σ Q _ hx' hy' q => by
    cases hy'
    refine ⟨rfl, q _ H (Ext.refl H) ?_⟩
    cases hx' <;> simp
theorem x_notN {x : D} {K : PySem.W.Frag} {j : Nat} {p2 : Pos} (ha : EX X B ρ a (dat K x)) : EX X B ρ (.Compare a [.IsNot] [.Constant .none j p2] pos) (exR (fun q => q = false ↔ x = .n) rB) :=
  x_cmp op_notN (nomark _) ha (x_non (K := K)) fun u v H σ Q _ hx' hy' q => by
    cases hy'
    refine ⟨rfl, q _ H (Ext.refl H) ⟨_, ?_, rfl⟩⟩
    cases hx' <;> simp
theorem t_neB {p q : Bool} (ha : EX X B ρ a (rB p)) (hb : EX X B ρ b (rB q)) : TX X B ρ (.Compare a [.NotEq] [b] pos) (is (!decide (p = q))) := t_cmp op_ne (nomark _) ha hb fun x y H σ Q _ hx hy k => by
  subst hx; subst hy
  exact ⟨rfl, k _ H (Ext.refl H) (by show (!decide (V.bl p = V.bl q)) = _; rw [dec_bl, Bool.beq_eq_decide_eq])⟩
theorem t_neBE {P S : Bool → Prop} (ha : EX X B ρ a (exR P rB)) (hb : EX X B ρ b (exR S rB)) : TX X B ρ (.Compare a [.NotEq] [b] pos) (fun k => ∃ p q, P p ∧ S q ∧ k = !decide (p = q)) := t_cmp op_ne (nomark _) ha hb fun x y H σ Q _ hx hy k => by
  obtain ⟨p, hp, hx⟩ := hx
  obtain ⟨q, hq, hy⟩ := hy
  subst hx; subst hy
  exact ⟨rfl, k _ H (Ext.refl H) ⟨p, q, hp, hq, by show (!decide (V.bl p = V.bl q)) = _; rw [dec_bl, Bool.beq_eq_decide_eq]⟩⟩
theorem t_eqBE {P S : Bool → Prop} (ha : EX X B ρ a (exR P rB)) (hb : EX X B ρ b (exR S rB)) : TX X B ρ (.Compare a [.Eq] [b] pos) (fun k => ∃ p q, P p ∧ S q ∧ k = decide (p = q)) := t_cmp op_eq (nomark _) ha hb fun x y H σ Q _ hx hy k => by
  obtain ⟨p, hp, hx⟩ := hx
  obtain ⟨q, hq, hy⟩ := hy
  subst hx; subst hy
  exact ⟨rfl, k _ H (Ext.refl H) ⟨p, q, hp, hq, by rw [dec_bl, Bool.beq_eq_decide_eq]⟩⟩
theorem x_B {k : Bool} (h : EX X B ρ e (rB k)) : EX X B ρ e (exR (is k) rB) := x_sub h fun v H hv => ⟨k, rfl, hv⟩
theorem t_valE {P : Bool → Prop} (h : EX X B ρ e (exR P rB)) (he : ∀ whole, isTrue e X.env whole = (do let v ← whole; standAt e.pos; holding [v] (truthy v)) := by intro _; rfl) : TX X B ρ e P :=
  PT_wk (pt_val h he) fun σ H Q ⟨s, q⟩ => ⟨s, fun v H' e1 ⟨k, hk, hv⟩ => ⟨k, hv, q k H' e1 hk⟩⟩
theorem t_eqE {P S : Int → Prop} (ha : EX X B ρ a (iE P)) (hb : EX X B ρ b (iE S)) : TX X B ρ (.Compare a [.Eq] [b] pos) (fun k => ∃ i j, P i ∧ S j ∧ k = decide (i = j)) := t_cmp op_eq (nomark _) ha hb fun x y H σ Q _ hx hy q => by
  obtain ⟨i, hi, hx⟩ := hx
  obtain ⟨j, hj, hy⟩ := hy
  subst hx; subst hy
  exact ⟨rfl, q _ H (Ext.refl H) ⟨i, j, hi, hj, by rw [dec_int, Bool.beq_eq_decide_eq]⟩⟩
/-! ### isinstance of data -/
def tyD : D → String
  | .i _ => "int"
  | .b _ => "bool"
  | .n => "NoneType"
  | .s _ => "str"
  | .t _ => "tuple"
theorem tyX_of {K : PySem.W.Frag} {H : Hp} {x : D} {v : V} (h : DR K H x v) : TyX K H v (.type (tyD x)) := by
  cases h with
  | i n => exact .base (.int n)
  | b k => exact .base (.bl k)
  | n => exact .base .non
  | s z => exact .base (.str z)
  | t h _ _ =>
    rcases h with (h | ⟨o, h⟩) | ⟨o, its, n, h1, h2, _⟩
    · exact .base (.tup h)
    · exact .fTuple h
    · exact .kTuple h1 h2
theorem x_isi {x : D} {T : Str} (t ty0 : String) (r : Bool) {p p2 : Pos} (hg : Gl X "isinstance") (hm : X.mg "isinstance" = none) (hgT : Gl X T) (hmT : X.mg T = none) (hT : bootBuiltins T = some (.type t)) (hty : tyD x = ty0) (hk : kitB ty0 t = some r) (h : EX X B ρ e (dat X.K x)) (hn : T ≠ "__name__" := by decide) (hdb : (T == ("__debug__" : Str)) = false := by decide)
    (he : starEach [e, .Name T p2] X.env = (false, eval e X.env) :: starEach [.Name T p2] X.env := by rfl) (he2 : starEach [.Name T p2] X.env = (false, eval (.Name T p2) X.env) :: starEach [] X.env := by rfl) (hpl : (backTo pos (starEach [.Name T p2] X.env)).any (·.1) = false := by rfl) : EX X B ρ (.Call (.Name "isinstance" p) [e, .Name T p2] [] pos) (rB r) :=
  x_callB (Rs := [dat X.K x, ⟨fun v _ => v = .ty t, fun _ h => h⟩]) call_isi hg hm (by decide +kernel) (a_cons h (a_cons (PE_wk (pe_bltn (v := .ty t) hgT hmT hT rfl hn hdb) fun σ H Q ⟨s, q⟩ => q _ H (Ext.refl H) rfl) a_nil he2) he) (fun vs H σ Q s hv q => by
    obtain ⟨u, w, rfl, h1, h2⟩ := hv.two
    subst hty
    exact ⟨u, w, .type (tyD x), .type t, r, rfl, by rw [show w = .ty t from h2]; exact .ty t, tyX_of h1, kit_ty hk, q _ H (Ext.refl H) rfl⟩) (he := he) (hpl := hpl)
/-! ### and, or, not as values (bools) -/
theorem x_one {op : BoolOp} (h : EX X B ρ a R) : EX X B ρ (.BoolOp op [a] pos) R := pe_one h
theorem x_and {P S : Bool → Prop} (ha : EX X B ρ a (exR P rB)) (hb : P true → EX X B ρ (.BoolOp .And (b :: es) pos) (exR S rB)) : EX X B ρ (.BoolOp .And (a :: b :: es) pos) (exR (fun k => (P true ∧ S k) ∨ (P false ∧ k = false)) rB) := by
  by_cases hp : P true
  · exact PE_wk (pe_and ha (hb hp)) fun σ H Q ⟨s, q⟩ => ⟨s, fun v H1 e1 ⟨k, hk, hv⟩ => ⟨k, hv, by
      cases k with
      | true => exact iteT ⟨s.mono e1, fun v2 H2 e2 ⟨k2, hk2, hv2⟩ => q v2 H2 (e1.trans e2) ⟨k2, .inl ⟨hp, hk2⟩, hv2⟩⟩
      | false => exact iteF (q _ H1 e1 ⟨false, .inr ⟨hk, rfl⟩, rfl⟩)⟩⟩
  · refine ⟨fun pins s σ H Q I ⟨st, q⟩ => ?_⟩
    refine BoolOp_and (thn (ha.run pins s σ H (fun v H' => v = .bl false ∧ Q v H') I ⟨st, fun v H' e1 ⟨k, hk, hv⟩ => ?_⟩) fun v s1 ⟨x, H1, I1, r1, q1⟩ => ?_)
    · cases k with
      | true => exact absurd hk hp
      | false => exact ⟨hv, q v H' e1 ⟨false, .inr ⟨hk, rfl⟩, hv⟩⟩
    · obtain ⟨rfl, q1⟩ := q1
      cases r1
      exact wpAny_truthy_bool ⟨.bl false, H1, I1, rfl, q1⟩
theorem x_or {P S : Bool → Prop} (ha : EX X B ρ a (exR P rB)) (hb : P false → EX X B ρ (.BoolOp .Or (b :: es) pos) (exR S rB)) : EX X B ρ (.BoolOp .Or (a :: b :: es) pos) (exR (fun k => (P false ∧ S k) ∨ (P true ∧ k = true)) rB) := by
  by_cases hp : P false
  · exact PE_wk (pe_or ha (hb hp)) fun σ H Q ⟨s, q⟩ => ⟨s, fun v H1 e1 ⟨k, hk, hv⟩ => ⟨k, hv, by
      cases k with
      | true => exact iteT (q _ H1 e1 ⟨true, .inr ⟨hk, rfl⟩, rfl⟩)
      | false => exact iteF ⟨s.mono e1, fun v2 H2 e2 ⟨k2, hk2, hv2⟩ => q v2 H2 (e1.trans e2) ⟨k2, .inl ⟨hp, hk2⟩, hv2⟩⟩⟩⟩
  · refine ⟨fun pins s σ H Q I ⟨st, q⟩ => ?_⟩
    refine BoolOp_or (thn (ha.run pins s σ H (fun v H' => v = .bl true ∧ Q v H') I ⟨st, fun v H' e1 ⟨k, hk, hv⟩ => ?_⟩) fun v s1 ⟨x, H1, I1, r1, q1⟩ => ?_)
    · cases k with
      | false => exact absurd hk hp
      | true => exact ⟨hv, q v H' e1 ⟨true, .inr ⟨hk, rfl⟩, hv⟩⟩
    · obtain ⟨rfl, q1⟩ := q1
      cases r1
      exact wpAny_truthy_bool ⟨.bl true, H1, I1, rfl, q1⟩
theorem x_not {P : Bool → Prop} (h : EX X B ρ a (exR P rB)) : EX X B ρ (.UnaryOp .Not a pos) (exR (fun k => P (!k)) rB) :=
  PE_wk (pe_not h) fun σ H Q ⟨s, q⟩ => ⟨s, fun v H1 e1 ⟨k, hk, hv⟩ => ⟨k, hv, q _ H1 e1 ⟨!k, by show P (!!k); rw [Bool.not_not]; exact hk, rfl⟩⟩⟩
theorem x_bE {P S : Bool → Prop} (h : EX X B ρ e (exR P rB)) (w : ∀ k, P k → S k) : EX X B ρ e (exR S rB) := x_sub h fun v H ⟨k, hk, hv⟩ => ⟨k, w k hk, hv⟩
theorem x_bIs {P : Bool → Prop} {k : Bool} (h : EX X B ρ e (exR P rB)) (w : ∀ q, P q → q = k) : EX X B ρ e (rB k) := x_sub h fun v H ⟨q, hq, hv⟩ => by rw [w q hq] at hv; exact hv
end
end Cv

namespace Cv
open PySem PySem.Spec PyProof.Rows L2 RZ
section
variable {d : Option Addr} {X : Cx} {B : Hp} {ρ ρ' : Ro d} {a b c e iter elt : Expr} {es : List Expr} {R R' Ra Rb : Rp d} {Rs : List (Rp d)} {pos : Pos} {m n : Int} {st : Stmt} {rest body orelse : List Stmt} {Pre Mid : L2.St → Hp → Prop} {Po : Ends}
/-! ### instances -/
def FsH (F : List (Str × Rp d)) (fs : List (Str × V)) (H : Hp) : Prop := ∀ (i : Nat) (f : Str) (R : Rp d), F[i]? = some (f, R) → ∃ v, fs.lookup f = some v ∧ R.p v H
theorem FsH.mono {F : List (Str × Rp d)} {fs : List (Str × V)} {H H' : Hp} (e : Ext d H H') (h : FsH F fs H) : FsH F fs H' := fun i f R k => let ⟨v, a, b⟩ := h i f R k; ⟨v, a, R.st e b⟩
/-- an instance of the class at C, at x -/
def insA (C x : Addr) (F : List (Str × Rp d)) : Rp d := ⟨fun v H => v = .ref x ∧ ∃ dx fs, H x = some (.ins C dx fs) ∧ fs.length ≤ F.length ∧ FsH F fs H, fun e ⟨h0, dx, fs, h1, h2, h3⟩ => ⟨h0, dx, fs, e.keep _ _ h1 fun _ _ q => (by cases q), h2, h3.mono e⟩⟩
def insR (C : Addr) (F : List (Str × Rp d)) : Rp d := exR (fun _ => True) fun x => insA C x F
theorem x_insR {C x : Addr} {F : List (Str × Rp d)} (h : EX X B ρ e (insA C x F)) : EX X B ρ e (insR C F) := x_sub h fun v H hv => ⟨x, trivial, hv⟩
theorem x_fld {C : Addr} {F : List (Str × Rp d)} {f : Str} (i : Nat) (cl : Cls X.K C) (na : NoAttr X.K C f) (h : EX X B ρ e (insR C F)) (hi : F[i]? = some (f, R) := by rfl) (hb : attributeBase e f X.env (eval e X.env) = eval e X.env := by rfl) : EX X B ρ (.Attribute e f pos) R :=
  PE_wk (pe_fld h hb) fun σ H Q ⟨s, q⟩ => ⟨s, fun v H1 e1 hv => by
    obtain ⟨x, _, rfl, dx, fs, h1, h2, h3⟩ := hv
    obtain ⟨u, hu, hr⟩ := h3 i f R hi
    exact ⟨x, C, dx, fs, u, rfl, h1, cl, na, hu, q u H1 e1 hr⟩⟩
def IndO (x : Addr) (R : Rp d) : Prop := ∀ v H C dx fs fs', H x = some (.ins C dx fs) → R.p v H → R.p v (upd H x (.ins C dx fs'))
theorem tk_ins {H : Hp} {x C dx : Addr} {fs fs' : List (Str × V)} (h : H x = some (.ins C dx fs)) : Tk H (upd H x (.ins C dx fs')) := by
  refine ⟨fun a zs e => ?_, fun a o u e => ?_⟩
  · have : a ≠ x := fun q => by rw [q, h] at e; cases e
    rw [upd_ne this]; exact e
  · have : a ≠ x := fun q => by rw [q, h] at e; cases e
    rw [upd_ne this]; exact e
theorem io_I {x : Addr} {n : Int} : IndO x (rI (d := d) n) := fun _ _ _ _ _ _ _ h => h
theorem io_any {x : Addr} : IndO x (rAny (d := d)) := fun _ _ _ _ _ _ _ h => h
theorem io_dat {x : Addr} {K : PySem.W.Frag} {w : D} : IndO x (dat (d := d) K w) := fun _ _ _ _ _ _ hx h => h.tk (tk_ins hx)
theorem io_own {x l : Addr} {K : PySem.W.Frag} {ds : List D} : IndO x (own (d := d) K l ds) := fun _ H _ _ _ _ hx ⟨h1, h2, us, h3, h4⟩ => ⟨h1, h2, us, by rw [upd_ne (show l ≠ x from fun z => by rw [z, hx] at h3; cases h3)]; exact h3, h4.tk (tk_ins hx)⟩
theorem io_lstA {x l : Addr} {K : PySem.W.Frag} {ds : List D} : IndO x (lstA (d := d) K l ds) := fun _ H _ _ _ _ hx ⟨h1, h2, us, h3, h4⟩ => ⟨h1, h2, us, by
  rcases h3 with ⟨k, h⟩ | ⟨o, h⟩ | h
  · exact .inl ⟨k, by rw [upd_ne (show l ≠ x from fun z => by rw [z, hx] at h; cases h)]; exact h⟩
  · exact .inr (.inl ⟨o, by rw [upd_ne (show l ≠ x from fun z => by rw [z, hx] at h; cases h)]; exact h⟩)
  · exact .inr (.inr h), h4.tk (tk_ins hx)⟩
theorem io_ex {x : Addr} {α : Type} {P : α → Prop} {Rz : α → Rp d} (h : ∀ z, IndO x (Rz z)) : IndO x (exR P Rz) := fun v H C dx fs fs' hx ⟨z, hz, q⟩ => ⟨z, hz, h z v H C dx fs fs' hx q⟩
def IoBut (x : Addr) (i : Nat) (r : Ro d) : Prop := ∀ (j : Nat) (R : Rp d), j ≠ i → r[j]? = some (some R) → IndO x R
/-- self.f = e (self in slot i) -/
theorem bx_setfld (i : Nat) {x : Str} {p1 p2 : Pos} {C y : Addr} {F : List (Str × Rp d)} {f : Str} (hi : ρ[i]? = some (some (insA C y F))) (hF : F.length ≤ 50) (cl : Cls X.K C) (na : NoAttr X.K C f) (he : EX X B ρ e R) (hB : B y = none) (hb : IoBut y i ρ) (hR : IndO y R) (hFs : ∀ p ∈ F, IndO y p.2 ∧ p.1 ≠ f)
    (h : BX X rest (St B (ρ.set i (some (insA C y ((f, R) :: F))))) Po)
    (hN : X.N[i]? = some x := by rfl) (hv : Vis X.env.scope x := by first | exact Or.inl rfl | exact Or.inr (Or.inl rfl) | exact Or.inr (Or.inr rfl)) (hd : (x == ("__debug__" : Str)) = false := by decide) (hcd : (x == ("__classdict__" : Str)) = false := by decide)
    (hs : swapsWith e (some (.Attribute (.Name x p1) f p2)) pos.line X.env = pure false := by rfl) :
    BX X (.Assign [.Attribute (.Name x p1) f p2] e pos :: rest) (St B ρ) Po := by
  refine bx_cons (Mid := St B (ρ.set i (some (insA C y ((f, R) :: F))))) ?_ h
  refine PS_wk (ps_fld (pe_var hN hv hd hcd) he hs) fun E σ H ⟨s, q⟩ => ⟨s, fun v H1 e1 hvv => ?_⟩
  have s1 := s.mono e1
  obtain ⟨u, a1, rfl, dx, fs, a2, a3, a4⟩ := s1.good.get hi
  refine ⟨_, a1, y, C, dx, fs, rfl, a2, cl, na, by omega, ?_⟩
  have hyd : some y ≠ d := fun z => by
    obtain ⟨ns, _, q'⟩ := s1.dr y z.symm
    rw [a2] at q'; cases q'
  refine q.nx σ _ (e1.tk.trans (tk_ins a2)) ⟨s1.ext.mut hB hyd, fun a' z => ?_, by simp [s1.good.1], fun j R' hj => ?_⟩
  · obtain ⟨ns, hn, q'⟩ := s1.dr a' z
    have : a' ≠ y := fun w => hyd (by rw [z, w])
    exact ⟨ns, hn, by rw [upd_ne this]; exact q'⟩
  · by_cases hij : j = i
    · subst hij
      have hlt : j < ρ.length := (List.getElem?_eq_some_iff.mp hi).1
      rw [List.getElem?_set_self hlt] at hj
      cases hj
      refine ⟨_, a1, rfl, dx, _, upd_same, ?_, fun k g R'' hk => ?_⟩
      · exact Nat.le_trans (length_putF f v fs) (by simpa using a3)
      · rw [lookup_putF]
        cases k with
        | zero => cases hk; rw [if_pos rfl]; exact ⟨v, rfl, hR v H1 C dx fs _ a2 hvv⟩
        | succ k =>
          have hm : (g, R'') ∈ F := List.mem_of_getElem? hk
          obtain ⟨w1, w2⟩ := hFs _ hm
          rw [if_neg w2]
          obtain ⟨v', b1, b2⟩ := a4 k g R'' hk
          exact ⟨v', b1, w1 v' H1 C dx fs _ a2 b2⟩
    · rw [List.getElem?_set_ne (fun z => hij z.symm)] at hj
      obtain ⟨v', b1, b2⟩ := s1.good.get hj
      exact ⟨v', b1, hb j R' hij hj v' H1 C dx fs _ a2 b2⟩
theorem io_insA {x y C' : Addr} {F : List (Str × Rp d)} (hne : y ≠ x) (h : ∀ p ∈ F, IndO x p.2) : IndO x (insA C' y F) := fun v H C dx fs fs' hx ⟨h0, dy, gs, h1, h2, h3⟩ => ⟨h0, dy, gs, by rw [upd_ne hne]; exact h1, h2, fun i f R k => let ⟨u, p, q⟩ := h3 i f R k; ⟨u, p, h _ (List.mem_of_getElem? k) u H C dx fs fs' hx q⟩⟩
theorem ib_all {x : Addr} {i : Nat} {r : Ro d} (h : ∀ (j : Nat) (R : Rp d), j ≠ i → r[j]? = some (some R) → IndO x R) : IoBut x i r := h
theorem io_nil {x : Addr} : ∀ (j : Nat) (R : Rp d), ([] : Ro d)[j]? = some (some R) → IndO x R := fun j R h => by cases h
theorem io_none {x : Addr} {r : Ro d} (h : ∀ (j : Nat) (R : Rp d), r[j]? = some (some R) → IndO x R) : ∀ (j : Nat) (R : Rp d), ((none :: r : Ro d))[j]? = some (some R) → IndO x R := fun j R e => by
  cases j with
  | zero => cases e
  | succ j => exact h j R e
theorem io_some {x : Addr} {r : Ro d} {R : Rp d} (w : IndO x R) (h : ∀ (j : Nat) (R : Rp d), r[j]? = some (some R) → IndO x R) : ∀ (j : Nat) (R' : Rp d), ((some R :: r : Ro d))[j]? = some (some R') → IndO x R' := fun j R' e => by
  cases j with
  | zero => cases e; exact w
  | succ j => exact h j R' e
theorem io_here {x : Addr} {o : Option (Rp d)} {r : Ro d} (h : ∀ (j : Nat) (R : Rp d), r[j]? = some (some R) → IndO x R) : IoBut x 0 (o :: r) := fun j R hj e => by
  cases j with
  | zero => exact absurd rfl hj
  | succ j => exact h j R e
theorem ind_insA {l C y : Addr} {F : List (Str × Rp d)} (h : ∀ p ∈ F, Ind l p.2) : Ind l (insA C y F) := fun v H xs ys hl ⟨h0, dy, gs, h1, h2, h3⟩ => ⟨h0, dy, gs, by rw [upd_ne (show y ≠ l from fun z => by rw [z, hl] at h1; cases h1)]; exact h1, h2, fun i f R k => let ⟨u, p, q⟩ := h3 i f R k; ⟨u, p, h _ (List.mem_of_getElem? k) u H xs ys hl q⟩⟩
/-! ### defs with any promise -/
variable {Pg : Program} {w : World} {K : PySem.W.Frag} {mg : Str → Option Value} {base : Heap}
theorem fn_okG {x qual : Str} {sd : Stmt} {f : Addr} {fd : FuncData} {N ps : List Str} {k : Nat} {sp : Sp} (F : Fun K x qual sd f fd) (S : FnScope N ps (defScope sd)) (len : ∀ vs H Q E, sp vs H Q E → vs.length = ps.length)
    (body : ∀ (vs : List V) (H : Hp) (Q : VK) (E : XK), sp vs H Q E → ∀ (cdv : Value) (A : Around) (outer : List Env) (s : Shared), Room k (A.deeper (envOfC qual (defScope sd) s.heap.objs.size f cdv)) →
      ∃ (Pre : L2.St → Hp → Prop) (Po : Ends), Pre (L2.start N vs) H ∧ BX (cxOf CX0 Pg w K mg base N qual (defScope sd) f cdv A outer s H E).nox (defBody sd) Pre Po ∧ Le H Po { nx := fun _ H' => Q .non H', rt := Q }) : FnOk Pg w K mg base CX0 (k + 1) f fd ps sp := by
  refine F.ok S len (fun cdv A outer s H vs Q E hr h => ?_)
  obtain ⟨Pre, Po, h1, h2, h3⟩ := body vs H Q E h cdv A outer s hr
  exact ⟨_, h2, h1, h3⟩
theorem fn_okX {x qual : Str} {sd : Stmt} {f : Addr} {fd : FuncData} {N ps : List Str} {k : Nat} {sp : Sp} (F : Fun K x qual sd f fd) (S : FnScope N ps (defScope sd)) (len : ∀ vs H Q E, sp vs H Q E → vs.length = ps.length)
    (body : ∀ (vs : List V) (H : Hp) (Q : VK) (E : XK), sp vs H Q E → ∀ (cdv : Value) (A : Around) (outer : List Env) (s : Shared), Room k (A.deeper (envOfC qual (defScope sd) s.heap.objs.size f cdv)) →
      ∃ (Pre : L2.St → Hp → Prop) (Po : Ends), Pre (L2.start N vs) H ∧ BX (cxOf (L2.CX Pg w) Pg w K mg base N qual (defScope sd) f cdv A outer s H E) (defBody sd) Pre Po ∧ Le H Po { nx := fun _ H' => Q .non H', rt := Q }) : FnOk Pg w K mg base (L2.CX Pg w) (k + 1) f fd ps sp := by
  refine F.okX S len (fun cdv A outer s H vs Q E hr h => ?_)
  obtain ⟨Pre, Po, h1, h2, h3⟩ := body vs H Q E h cdv A outer s hr
  exact ⟨_, h2, h1, h3⟩
/-- the heap without x -/
def del (H : Hp) (x : Addr) : Hp := fun b => if b = x then none else H b
theorem del_same {H : Hp} {x : Addr} : del H x x = none := if_pos rfl
theorem del_ne {H : Hp} {x b : Addr} (h : b ≠ x) : del H x b = H b := if_neg h
theorem del_ext {H : Hp} {x : Addr} (hx : some x ≠ d) : Ext d (del H x) H := ⟨fun a o h _ => by
    by_cases z : a = x
    · rw [z, del_same] at h; cases h
    · rw [del_ne z] at h; exact h,
  fun a e ⟨ns, hn, h⟩ => ⟨ns, hn, by rw [del_ne (fun z => hx (by rw [e, z]))] at h; exact h⟩⟩
/-- an __init__'s promise: the new instance at x gets the fields told by F z -/
def spI {α : Type} (d : Option Addr) (C : Addr) (As : α → List (Rp d)) (F : α → List (Str × Rp d)) : Sp := fun vs H Q _ => ∃ (z : α) (x dx : Addr) (us : List V), vs = .ref x :: us ∧ H x = some (.ins C dx []) ∧ RsH (As z) us (del H x) ∧ (∀ a, d = some a → Drw H a) ∧ ∀ H', Ext d (del H x) H' → (insA C x (F z)).p (.ref x) H' → Q .non H'
/-- C(e, ..) -/
theorem x_make {α : Type} {C : Addr} {As : α → List (Rp d)} {F : α → List (Str × Rp d)} {x : Str} {p : Pos} {f : Addr} {fd : FuncData} {ps : List Str} {k : Nat} {CX : CXT} {E : XK} (M : Mk X.K C f) (G : FnOk X.prog X.w X.K X.mg X.base CX k f fd ps (spI d C As F)) (hr : Room (k + 1) X.A) (hg : Gl X x) (hm : X.mg x = some (.ref C)) (hb : Binds X.K fd ps []) (hx : Passes CX X E)
    (z : α) (ha : AX X B ρ (e :: es) (As z))
    (hdb : (x == ("__debug__" : Str)) = false := by decide) (he : starEach (e :: es) X.env = (false, eval e X.env) :: starEach es X.env := by rfl) (hpl : (backTo pos (starEach es X.env)).any (·.1) = false := by rfl) : EX X B ρ (.Call (.Name x p) (e :: es) [] pos) (insR C (F z)) :=
  PE_wk (pe_make (dvs := []) (E := E) M G hr hg hm hb .nil hx ha (hdb := hdb) (he := he) (hpl := hpl)) fun σ H Q ⟨s, q⟩ => ⟨s, fun vs H1 e1 hvs y dy ny ndy hne => by
    rw [List.append_nil]
    have s1 := s.mono e1
    have hyd : some y ≠ d := (s1.fresh ny).2
    have n2 : (upd H1 dy (.own y)) y = none := by rw [upd_ne hne.symm]; exact ny
    have x1 : Ext d H1 (upd H1 dy (.own y)) := Ext.new ndy
    have e2 : del (upd (upd H1 dy (.own y)) y (.ins C dy [])) y = upd H1 dy (.own y) := by
      funext b
      by_cases hb : b = y
      · rw [hb, del_same, n2]
      · rw [del_ne hb, upd_ne hb]
    refine ⟨z, y, dy, vs, rfl, upd_same, by rw [e2]; exact hvs.mono x1, ((s1.mono x1).mono (Ext.new n2)).dr, fun H' e3 h3 => ⟨rfl, ?_⟩⟩
    rw [e2] at e3
    exact q _ H' (e1.trans (x1.trans e3)) ⟨y, trivial, h3⟩⟩
/-! ### draws -/
/-- _law_take(draws, limit) -/
def spTake : Sp := fun vs H Q _ => ∃ (a : Addr) (ns : List Int) (n : Int), vs = [.ref a, .int n] ∧ H a = some (.lst (ns.map V.int)) ∧ ns.length ≤ 1000 ∧ 0 < n ∧
  ∀ (z : Int) (ms : List Int) H', 0 ≤ z → z < n → H' a = some (.lst (ms.map V.int)) → ms.length ≤ 1000 → (∀ b o, b ≠ a → H b = some o → H' b = some o) → Q (.int z) H'
theorem x_take {x : Str} {p : Pos} {f : Addr} {fd : FuncData} {ps : List Str} {k : Nat} {E : XK} {CX : CXT} (F : FnOk X.prog X.w X.K X.mg X.base CX k f fd ps spTake) (hr : Room k X.A) (hg : Gl X x) (hm : X.mg x = some (.ref f)) (hk : PySem.W.keepIn X.K (.ref f) = true) (hb : Binds X.K fd ps []) (hx : Passes CX X E)
    (ha : EX X B ρ a drw) (hn : EX X B ρ b (rI n)) (h0 : 0 < n)
    (hdb : (x == ("__debug__" : Str)) = false := by decide) (he : starEach [a, b] X.env = (false, eval a X.env) :: starEach [b] X.env := by rfl) (he2 : starEach [b] X.env = (false, eval b X.env) :: starEach [] X.env := by rfl) (hpl : (backTo pos (starEach [b] X.env)).any (·.1) = false := by rfl) : EX X B ρ (.Call (.Name x p) [a, b] [] pos) (iE fun z => 0 ≤ z ∧ z < n) :=
  PE_wk (pe_call (dvs := []) (E := E) F hr hg hm hk hb .nil hx (a_cons ha (a_cons hn a_nil he2) he) (hdb := hdb) (he := he) (hpl := hpl)) fun σ H Q ⟨s, q⟩ => ⟨s, fun vs H1 e1 hvs => by
    obtain ⟨u, v, rfl, ⟨t, rfl, hd⟩, rfl⟩ := hvs.two
    obtain ⟨ns, hl, hns⟩ := (s.mono e1).dr t hd
    refine ⟨t, ns, n, rfl, hns, hl, h0, fun z ms H' z0 z1 hm hml hk => q _ H' (e1.trans ⟨fun c o hc hq => ?_, fun c hc _ => ?_⟩) ⟨z, ⟨z0, z1⟩, rfl⟩⟩
    · by_cases hct : c = t
      · subst hct
        rw [hns] at hc
        cases hc
        exact absurd rfl (hq hd.symm _)
      · exact hk c o hct hc
    · rw [hd] at hc
      cases hc
      exact ⟨ms, hml, hm⟩⟩
end
end Cv

namespace Cv
open PySem PySem.Spec PyProof.Rows L2 RZ
section
variable {d : Option Addr} {X : Cx} {B : Hp} {ρ ρ' : Ro d} {a b c e iter elt : Expr} {es : List Expr} {R R' Ra Rb : Rp d} {Rs : List (Rp d)} {pos : Pos} {m n : Int} {st : Stmt} {rest body orelse : List Stmt} {Pre Mid : L2.St → Hp → Prop} {Po : Ends}
/-! ### a list that was there at the start -/
def lstB (B : Hp) (K : PySem.W.Frag) (a : Addr) (ds : List D) : Rp d := ⟨fun v H => v = .ref a ∧ ∃ vs, ((B a ≠ none ∧ SqX d K H a vs) ∨ KL K a vs) ∧ DRl K H ds vs,
  fun e ⟨h1, vs, h2, h3⟩ => ⟨h1, vs, h2.imp (fun h => ⟨h.1, h.2.ext e⟩) id, h3.tk e.tk⟩⟩
theorem lstB_A {B : Hp} {K : PySem.W.Frag} {a : Addr} {ds : List D} {v : V} {H : Hp} (h : (lstB (d := d) B K a ds).p v H) : (lstA (d := d) K a ds).p v H := by
  obtain ⟨h1, vs, h2 | h2, h3⟩ := h
  · exact ⟨h1, trivial, vs, h2.2, h3⟩
  · exact ⟨h1, trivial, vs, .inr (.inr h2), h3⟩
theorem x_lstB {B' : Hp} {K : PySem.W.Frag} {l : Addr} {ds : List D} (h : EX X B ρ e (lstB B' K l ds)) : EX X B ρ e (lstA K l ds) := x_sub h fun v H hv => lstB_A hv
theorem ind_lstB {l a' : Addr} {K : PySem.W.Frag} {ds : List D} (hB : B l = none) : Ind l (lstB (d := d) B K a' ds) := fun v H xs ys hl ⟨h1, us, h2, h3⟩ => by
  refine ⟨h1, us, ?_, h3.tk (Tk.lst hl)⟩
  rcases h2 with ⟨hb, h⟩ | h
  · have hne : a' ≠ l := fun z => hb (by rw [z]; exact hB)
    refine .inl ⟨hb, ?_⟩
    rcases h with ⟨k, h⟩ | ⟨o, h⟩ | h
    · exact .inl ⟨k, by rw [upd_ne hne]; exact h⟩
    · exact .inr (.inl ⟨o, by rw [upd_ne hne]; exact h⟩)
    · exact .inr (.inr h)
  · exact .inr h
theorem io_lstB {x l : Addr} {K : PySem.W.Frag} {ds : List D} : IndO x (lstB (d := d) B K l ds) := fun v H C dx fs fs' hx ⟨h1, us, h2, h3⟩ => by
  refine ⟨h1, us, ?_, h3.tk (tk_ins hx)⟩
  rcases h2 with ⟨hb, h⟩ | h
  · refine .inl ⟨hb, ?_⟩
    rcases h with ⟨k, h⟩ | ⟨o, h⟩ | h
    · exact .inl ⟨k, by rw [upd_ne (show l ≠ x from fun z => by rw [z, hx] at h; cases h)]; exact h⟩
    · exact .inr (.inl ⟨o, by rw [upd_ne (show l ≠ x from fun z => by rw [z, hx] at h; cases h)]; exact h⟩)
    · exact .inr (.inr h)
  · exact .inr h
theorem st_toB {K : PySem.W.Frag} {l : Addr} {ds : List D} {σ : L2.St} {H : Hp} (i : Nat) (hi : ρ[i]? = some (some (lstA K l ds))) (s : St H ρ σ H) : St H (ρ.set i (some (lstB H K l ds))) σ H := by
  refine ⟨s.ext, s.dr, by simp [s.good.1], fun j R e => ?_⟩
  by_cases hj : i = j
  · subst hj
    have hlt : i < ρ.length := (List.getElem?_eq_some_iff.mp hi).1
    rw [List.getElem?_set_self hlt] at e
    cases e
    obtain ⟨v, h1, rfl, _, us, h3, h4⟩ := s.good.get hi
    refine ⟨_, h1, rfl, us, ?_, h4⟩
    rcases h3 with ⟨k, h⟩ | ⟨o, h⟩ | h
    · exact .inl ⟨by rw [h]; exact fun z => (by cases z), .inl ⟨k, h⟩⟩
    · exact .inl ⟨by rw [h]; exact fun z => (by cases z), .inr (.inl ⟨o, h⟩)⟩
    · exact .inr h
  · rw [List.getElem?_set_ne hj] at e
    exact s.good.get e
/-- the draws' address becomes known -/
theorem lstB_d {d' : Option Addr} {B : Hp} {K : PySem.W.Frag} {a : Addr} {ds : List D} {v : V} {H : Hp} (hd : ∀ l, d' = some l → B l = none) (h : (lstB (d := none) B K a ds).p v H) : (lstB (d := d') B K a ds).p v H := by
  obtain ⟨h1, vs, h2, h3⟩ := h
  refine ⟨h1, vs, ?_, h3⟩
  rcases h2 with ⟨hb, h⟩ | h
  · refine .inl ⟨hb, ?_⟩
    rcases h with ⟨k, h⟩ | ⟨o, h⟩ | h
    · exact .inl ⟨fun z => hb (hd a z.symm), h⟩
    · exact .inr (.inl ⟨o, h⟩)
    · exact .inr (.inr h)
  · exact .inr h
theorem newE_up {ρ1 : Ro d} {K : PySem.W.Frag} {S : List D → Prop} {σ : L2.St} {H H' : Hp} {v : V} (s : St B ρ1 σ H) (h : (newE (d := d) H K S).p v H') : (newE (d := d) B K S).p v H' := by
  obtain ⟨ds, hS, l, hl, h⟩ := h
  exact ⟨ds, hS, l, (s.fresh hl).1, h⟩
/-- a list that a new one can't be -/
def Known (l : Addr) (ρ : Ro d) : Prop := ∃ (k : Nat) (R : Rp d), ρ[k]? = some (some R) ∧ ∀ v H, R.p v H → H l ≠ none
theorem known_own {K : PySem.W.Frag} {l : Addr} {ds : List D} (k : Nat) (h : ρ[k]? = some (some (own K l ds))) : Known l ρ := ⟨k, _, h, fun v H ⟨_, _, us, q, _⟩ => by rw [q]; exact fun z => by cases z⟩
/-- x = a new list: it is none of those that are known -/
theorem bx_new (i : Nat) {x : Str} {pos' : Pos} {K : PySem.W.Frag} {ds : List D} (ls : List Addr) (hls : ∀ l ∈ ls, Known l ρ) (he : ∀ B' : Hp, EX X B' ρ e (newL B' K ds)) (h : ∀ l, B l = none → (∀ l' ∈ ls, l ≠ l') → BX X rest (St B (ρ.set i (some (own K l ds)))) Po) (hN : X.N.Nodup) (hi : X.N[i]? = some x := by rfl) (hx : Loc X.env.scope x := by first | exact Or.inl rfl | exact Or.inr rfl) (hs : swapsWith e (some (.Name x pos')) pos.line X.env = pure false := by rfl)
    (hf : X.fn x = true ∨ X.env.scope.names.lookup x = some .local := by first | exact .inl rfl | exact .inr rfl | assumption) : BX X (.Assign [.Name x pos'] e pos :: rest) (St B ρ) Po := by
  refine bx_cons (Mid := fun σ H => ∃ l, (B l = none ∧ ∀ l' ∈ ls, l ≠ l') ∧ St B (ρ.set i (some (own K l ds))) σ H) ?_ (bx_ex fun l hl => h l hl.1 hl.2)
  refine ⟨fun pins s σ H E I ⟨st, q⟩ => ?_⟩
  have hE := ps_set (X := X) (pos := pos) (pos' := pos') hN hi hx (he H) hs hf
  refine hE.run pins s σ H E I ⟨⟨Ext.refl H, st.dr, st.good⟩, fun v H' e1 hv => ?_⟩
  obtain ⟨l, hl, hv⟩ := hv
  have hld : some l ≠ d := hv.2.1
  refine q.nx _ H' e1.tk ⟨l, ⟨?_, fun l' hl' z => ?_⟩, st.ext.trans e1, (st.mono e1).dr, (st.mono e1).good.set i hv⟩
  · cases e2 : B l with
    | none => rfl
    | some o =>
      have := st.ext.at e2 hld
      rw [hl] at this; cases this
  · obtain ⟨k, R, h1, h2⟩ := hls l' hl'
    obtain ⟨w, _, h3⟩ := st.good.get h1
    exact h2 w H h3 (by rw [← z]; exact hl)
theorem bx_newE (i : Nat) {x : Str} {pos' : Pos} {K : PySem.W.Frag} {S : List D → Prop} (ls : List Addr) (hls : ∀ l ∈ ls, Known l ρ) (he : ∀ B' : Hp, EX X B' ρ e (newE B' K S)) (h : ∀ l ds, S ds → B l = none → (∀ l' ∈ ls, l ≠ l') → BX X rest (St B (ρ.set i (some (own K l ds)))) Po) (hN : X.N.Nodup) (hi : X.N[i]? = some x := by rfl) (hx : Loc X.env.scope x := by first | exact Or.inl rfl | exact Or.inr rfl) (hs : swapsWith e (some (.Name x pos')) pos.line X.env = pure false := by rfl)
    (hf : X.fn x = true ∨ X.env.scope.names.lookup x = some .local := by first | exact .inl rfl | exact .inr rfl | assumption) : BX X (.Assign [.Name x pos'] e pos :: rest) (St B ρ) Po := by
  refine bx_cons (Mid := fun σ H => ∃ z : Addr × List D, (S z.2 ∧ B z.1 = none ∧ ∀ l' ∈ ls, z.1 ≠ l') ∧ St B (ρ.set i (some (own K z.1 z.2))) σ H) ?_ (bx_ex fun z hz => h z.1 z.2 hz.1 hz.2.1 hz.2.2)
  refine ⟨fun pins s σ H E I ⟨st, q⟩ => ?_⟩
  have hE := ps_set (X := X) (pos := pos) (pos' := pos') hN hi hx (he H) hs hf
  refine hE.run pins s σ H E I ⟨⟨Ext.refl H, st.dr, st.good⟩, fun v H' e1 hv => ?_⟩
  obtain ⟨ds, hS, l, hl, hv⟩ := hv
  have hld : some l ≠ d := hv.2.1
  refine q.nx _ H' e1.tk ⟨(l, ds), ⟨hS, ?_, fun l' hl' z => ?_⟩, st.ext.trans e1, (st.mono e1).dr, (st.mono e1).good.set i hv⟩
  · cases e2 : B l with
    | none => rfl
    | some o =>
      have := st.ext.at e2 hld
      rw [hl] at this; cases this
  · obtain ⟨k, R, h1, h2⟩ := hls l' hl'
    obtain ⟨w, _, h3⟩ := st.good.get h1
    exact h2 w H h3 (by have z' : l = l' := z; rw [← z']; exact hl)
variable {Pg : Program} {w : World} {K : PySem.W.Frag} {mg : Str → Option Value} {base : Heap}
/-- a def, its slots at the start told anew -/
theorem fn_okB {α : Type} {As : α → List (Rp d)} {Rz : α → Hp → Rp d} {x qual : Str} {sd : Stmt} {f : Addr} {fd : FuncData} {N ps : List Str} {k : Nat} (F : Fun K x qual sd f fd) (S : FnScope N ps (defScope sd)) (hl : ∀ z, (As z).length = ps.length) (hN : ps.length ≤ N.length) (r0 : α → Hp → Ro d) (h0 : ∀ z H σ, St H (ro (As z) (N.length - (As z).length)) σ H → St H (r0 z H) σ H)
    (body : ∀ (z : α) (H : Hp) (cdv : Value) (A : Around) (outer : List Env) (s : Shared) (E : XK), Room k (A.deeper (envOfC qual (defScope sd) s.heap.objs.size f cdv)) →
      BX (cxOf CX0 Pg w K mg base N qual (defScope sd) f cdv A outer s H E).nox (defBody sd) (St H (r0 z H)) (Rt H (Rz z H))) : FnOk Pg w K mg base CX0 (k + 1) f fd ps (spP d As Rz) := by
  refine F.ok S (fun vs H Q E ⟨z, h, _⟩ => by rw [h.len, hl]) (fun cdv A outer s H vs Q E hr h => ?_)
  obtain ⟨z, hz, dr, q⟩ := h
  refine ⟨_, body z H cdv A outer s E hr, h0 z H _ (st_start hz (by rw [hl]; exact hN) dr), ?_⟩
  exact ⟨fun σ' H' _ ⟨e1, h1⟩ => q _ H' e1 h1, fun v H' _ ⟨e1, h1⟩ => q v H' e1 h1, fun _ _ _ h => h.elim, fun _ _ _ h => h.elim⟩
end
section
variable {d : Option Addr} {X : Cx} {B : Hp} {ρ ρ' : Ro d} {a b c e iter elt : Expr} {es : List Expr} {R R' Ra Rb : Rp d} {Rs : List (Rp d)} {pos : Pos} {m n : Int} {st : Stmt} {rest body orelse : List Stmt} {Pre Mid : L2.St → Hp → Prop} {Po : Ends}
/-- for x in range(n), n only told by S -/
theorem bx_forRE {α : Type} {S : Int → Prop} (j : Nat) {x : Str} {tpos p p2 : Pos} (P : Nat → α → Prop) (r : Nat → α → Ro d) (hg : Gl X "range") (hm : X.mg "range" = none) (hi : EX X B ρ e (iE S)) (hn : ∀ nn, S nn → nn < 2 ^ 62 ∧ -(2 ^ 62) ≤ nn) (h0 : ∀ σ H, St B ρ σ H → IS B (P 0) (r 0) σ H)
    (hb : ∀ (nn : Int), S nn → ∀ (i : Nat) z, (i : Int) < nn → P i z → BX X body (St B ((r i z).set j (some (rI (i : Int))))) (Lp Po (IS B (P (i + 1)) (r (i + 1))) (fun σ H => ∃ nn : Int, S nn ∧ IS B (P nn.toNat) (r nn.toNat) σ H))) (h : ∀ nn : Int, S nn → BX X rest (IS B (P nn.toNat) (r nn.toNat)) Po)
    (hN : X.N.Nodup) (hp : PassesOwn (model X.prog X.w) X.A X.env X.xe) (hj : X.N[j]? = some x := by rfl) (hc : X.calm = true := by rfl) (hx : Loc X.env.scope x := by first | exact Or.inl rfl | exact Or.inr rfl)
    (hf : X.fn x = true ∨ X.env.scope.names.lookup x = some .local := by first | exact .inl rfl | exact .inr rfl | assumption) (he : starEach [e] X.env = [(false, eval e X.env)] := by rfl) (hs : ∀ x, foldedSetIterable (.Call (.Name "range" p) [e] [] p2) X.env x = pure x := by intro _; rfl) :
    BX X (.For (.Name x tpos) (.Call (.Name "range" p) [e] [] p2) body [] pos :: rest) (St B ρ) Po := by
  refine bx_cons (Mid := fun σ H => ∃ nn : Int, S nn ∧ IS B (P nn.toNat) (r nn.toNat) σ H) ?_ (bx_ex h)
  refine PS_wk (t := tFor (iRng1 fun σ H Q => St B ρ σ H ∧ ∀ vs H', Ext d H H' → RsH [iE S] vs H' → Q vs H') (gName j) (tBody (Z := Int × Nat × α) B (fun z => (r z.2.1 z.2.2).set j (some (rI (z.2.1 : Int)))) (fun z => S z.1 ∧ (z.2.1 : Int) < z.1 ∧ P z.2.1 z.2.2) (fun z => Lp Po (IS B (P (z.2.1 + 1)) (r (z.2.1 + 1))) (fun σ H => ∃ nn : Int, S nn ∧ IS B (P nn.toNat) (r nn.toNat) σ H))))
    (ps_for hp hc (pi_range1 hg hm (a_cons hi a_nil he) he) (pg_name hN hj hx hf) ⟨fun pins s σ H E I ⟨⟨nn, i, z⟩, ⟨hnn, hw, hz⟩, q, l⟩ => (hb nn hnn i z hw hz).run pins s σ H E I ⟨q, l⟩⟩ hs) fun E σ H ⟨s, l⟩ => ⟨s, fun vs H1 e1 hv => ?_⟩
  obtain ⟨v, rfl, hv'⟩ := hv.one
  obtain ⟨nn, hnn, hv'⟩ := hv'
  obtain rfl : v = .int nn := hv'
  refine ⟨nn, rfl, (hn nn hnn).2, (hn nn hnn).1, for_range (lo := 0) (n := nn.toNat) (g := gName j) (tb := tBody (Z := Int × Nat × α) B (fun z => (r z.2.1 z.2.2).set j (some (rI (z.2.1 : Int)))) (fun z => S z.1 ∧ (z.2.1 : Int) < z.1 ∧ P z.2.1 z.2.2) (fun z => Lp Po (IS B (P (z.2.1 + 1)) (r (z.2.1 + 1))) (fun σ H => ∃ nn : Int, S nn ∧ IS B (P nn.toNat) (r nn.toNat) σ H))) (fun i σ H => Tk H1 H ∧ IS B (P i) (r i) σ H) ⟨Tk.refl _, h0 _ _ (s.mono e1)⟩ (fun i σ H hlt ⟨k, z, hz, q⟩ => ?_) (fun σ H ⟨k, q⟩ => l.nx σ H (e1.tk.trans k) ⟨nn, hnn, q⟩)⟩
  refine ⟨(nn, i, z), ⟨hnn, (by show (i : Int) < nn; omega), hz⟩, ⟨q.ext, q.dr, ?_⟩, ?_⟩
  · rw [Int.zero_add]
    exact q.good.set j (R := rI (i : Int)) (v := .int (i : Int)) rfl
  · exact ⟨fun σ' H' k' q' => ⟨k.trans k', q'⟩, fun v H' k' q' => l.rt v H' ((e1.tk.trans k).trans k') q', fun σ' H' k' q' => l.nx σ' H' ((e1.tk.trans k).trans k') q', fun σ' H' k' q' => ⟨k.trans k', q'⟩⟩
/-- x[k] = e, the value told by S -/
theorem bx_setitemE (i : Nat) {x : Str} {p1 p2 p3 : Pos} {K : PySem.W.Frag} {l : Addr} {ds : List D} {S : D → Prop} {k : Nat} (hi : ρ[i]? = some (some (own K l ds))) (hK : X.K = K) (he : EX X B ρ e (dE K S)) (hk : EX X B ρ b (rI (k : Int))) (hkl : k < ds.length) (hB : B l = none) (hb : IndBut l i ρ) (h : ∀ w, S w → BX X rest (St B (ρ.set i (some (own K l (ds.set k w))))) Po)
    (hN : X.N[i]? = some x := by rfl) (hv : Vis X.env.scope x := by first | exact Or.inl rfl | exact Or.inr (Or.inl rfl) | exact Or.inr (Or.inr rfl)) (hd : (x == ("__debug__" : Str)) = false := by decide) (hcd : (x == ("__classdict__" : Str)) = false := by decide)
    (ha : ∀ v, assign (.Subscript (.Name x p1) b p2) X.env v = (do
      let ov ← holding [v] (eval (.Name x p1) X.env)
      let iv ← holding [v, ov] (eval b X.env)
      standAt p2
      holding [v, ov, iv] (setItem ov iv v)
      release [v, ov, iv] []) := by intro _; rfl)
    (hs : swapsWithSole [.Subscript (.Name x p1) b p2] e p3.line X.env = pure false := by rfl) (hw : swappedStores [.Subscript (.Name x p1) b p2] e X.env = pure none := by rfl) (h1 : (assignEach [.Subscript (.Name x p1) b p2] X.env).map (·.2) = [assign (.Subscript (.Name x p1) b p2) X.env] := by rfl) :
    BX X (.Assign [.Subscript (.Name x p1) b p2] e p3 :: rest) (St B ρ) Po := by
  subst hK
  refine bx_cons (Mid := fun σ H => ∃ w, S w ∧ St B (ρ.set i (some (own X.K l (ds.set k w)))) σ H) ?_ (bx_ex h)
  refine PS_wk (ps_asg he (pg_sub (pe_var hN hv hd hcd) hk set_list ha) hs hw h1) fun E σ H ⟨s, q⟩ => ⟨s, fun y H1 e1 ⟨w, hSw, hy⟩ => ?_⟩
  have s1 := s.mono e1
  obtain ⟨v, a1, rfl, hl, vs, a2, a3⟩ := s1.good.get hi
  refine ⟨_, a1, s1, fun iv H2 e2 hiv => ?_⟩
  have s2 := s1.mono e2
  have g2 := e2.at a2 hl
  have a3' := a3.tk e2.tk
  have hkv : k < vs.length := by rw [← a3.1]; exact hkl
  refine ⟨l, vs, k, k, rfl, hiv, g2, by unfold ixN; rw [if_pos (by omega), if_pos (by omega)]; simp, ?_⟩
  refine q.nx σ _ ((e1.tk.trans e2.tk).trans (Tk.lst g2)) ⟨w, hSw, st_own s2 hi hB hb ⟨by simp [a3.1], fun j e' v' b1 b2 => ?_⟩⟩
  by_cases hj : k = j
  · subst hj
    rw [List.getElem?_set_self hkl] at b1
    rw [List.getElem?_set_self hkv] at b2
    cases b1; cases b2
    exact DR.tk e2.tk hy
  · rw [List.getElem?_set_ne hj] at b1 b2
    exact a3'.2 j e' v' b1 b2
theorem x_iEd {K : PySem.W.Frag} {P : Int → Prop} (h : EX X B ρ e (iE P)) : EX X B ρ e (dE K fun w => ∃ z, P z ∧ w = .i z) := x_sub h fun v H ⟨z, hz, hv⟩ => ⟨_, ⟨z, hz, rfl⟩, by cases hv; exact .i z⟩
theorem x_dE {K : PySem.W.Frag} {P S : D → Prop} (h : EX X B ρ e (dE K P)) (w : ∀ z, P z → S z) : EX X B ρ e (dE K S) := x_sub h fun v H ⟨z, hz, hv⟩ => ⟨z, w z hz, hv⟩
theorem x_d {K : PySem.W.Frag} {x : D} (h : EX X B ρ e (dat K x)) : EX X B ρ e (dE K fun w => w = x) := x_sub h fun v H hv => ⟨x, rfl, hv⟩
theorem x_ixtI {ns : List Int} {k : Nat} {z : Int} (ha : EX X B ρ a (dat X.K (tI ns))) (hb : EX X B ρ b (rI (k : Int))) (hz : ns[k]? = some z) (hs : PlainIx b := by exact (fun _ _ => rfl)) : EX X B ρ (.Subscript a b pos) (rI z) := x_dI (x_ixt ha hb (atI_nat (by rw [List.getElem?_map, hz]; rfl)) hs)
theorem x_ixlI {l : Addr} {ns : List Int} {k : Nat} {z : Int} (ha : EX X B ρ a (lstA X.K l (ns.map D.i))) (hb : EX X B ρ b (rI (k : Int))) (hz : ns[k]? = some z) (hs : PlainIx b := by exact (fun _ _ => rfl)) : EX X B ρ (.Subscript a b pos) (rI z) := x_dI (x_ixl ha hb (atI_nat (by rw [List.getElem?_map, hz]; rfl)) hs)
theorem x_ixnE {ds : List D} {P : Int → Prop} (ha : EX X B ρ a (newL B X.K ds)) (hb : EX X B ρ b (iE P)) (hw : ∀ j, P j → 0 ≤ j ∧ j < ds.length) (hs : PlainIx b := by exact (fun _ _ => rfl)) : EX X B ρ (.Subscript a b pos) (dE X.K fun w => ∃ k : Nat, P k ∧ ds[k]? = some w) :=
  PE_wk (pe_ix ix_list ha hb hs) fun σ H Q ⟨s, q⟩ => ⟨s, fun x H1 e1 hx => ⟨s.mono e1, fun y H2 e2 hy => by
    obtain ⟨l, _, rfl, hd, us, h1, h2⟩ := hx
    obtain ⟨j, hj, hy⟩ := hy
    obtain ⟨h0, hl⟩ := hw j hj
    obtain ⟨k, rfl⟩ : ∃ k : Nat, j = (k : Int) := ⟨j.toNat, by omega⟩
    have hk : k < ds.length := by omega
    obtain ⟨v, hv, hr⟩ := h2.get (List.getElem?_eq_getElem hk)
    exact ⟨l, us, _, v, rfl, hy, SqL.of (e2.at h1 hd), atI_nat hv, q v H2 (e1.trans e2) ⟨_, ⟨k, hj, List.getElem?_eq_getElem hk⟩, hr.tk e2.tk⟩⟩⟩⟩
/-- [elt for x in range(e)], e told by S -/
theorem x_lcRE {S : Int → Prop} (j : Nat) {x : Str} {scope : Scope} {tpos p p2 : Pos} (P : Nat → D → Prop) (hg : Gl X "range") (hm : X.mg "range" = none) (hi : EX X B ρ e (iE S)) (hn : ∀ nn, S nn → nn < 2000 ∧ -(2 ^ 62) ≤ nn) (hN : X.N.Nodup) (hok : BlkOk X.N X.env.scope scope [(x, j)])
    (hgn : ∀ (s : Shared) (H : Hp) (C : Addr) (cl : List (Str × Addr)) (fp : List Addr), PG (X.blk s H scope (compEnvC scope cl C X.env) fp) (.Name x tpos) (gName j))
    (hb : ∀ (s : Shared) (H : Hp) (C : Addr) (cl : List (Str × Addr)) (fp : List Addr) (i : Nat), EX (X.blk s H scope (compEnvC scope cl C X.env) fp) B (ρ.set j (some (rI (i : Int)))) elt (dE X.K (P i)))
    (hc : X.calm = true := by rfl) (he : starEach [e] X.env = [(false, eval e X.env)] := by rfl) (hs : ∀ x, foldedSetIterable (.Call (.Name "range" p) [e] [] p2) X.env x = pure x := by intro _; rfl) :
    EX X B ρ (.ListComp elt [⟨.Name x tpos, .Call (.Name "range" p) [e] [] p2, [], 0⟩] scope pos) (newE B X.K fun ds => (∃ nn, S nn ∧ ds.length = nn.toNat) ∧ ∀ k w, ds[k]? = some w → P k w) := by
  refine PE_wk (pe_lc (own := [(x, j)]) (g := gName j) (tt := tYes) (te := tElt (Z := Nat) B X.K (fun i => ρ.set j (some (rI (i : Int)))) (fun i => True) P) hc hN (pi_range1 hg hm (a_cons hi a_nil he) he) hok hgn (fun _ _ _ _ _ => pts_nil) (fun s H C cl fp => elt_of fun i _ => hb s H C cl fp i) hs) fun σ H Q ⟨s, q⟩ => ⟨s, fun vs H1 e1 hv => ?_⟩
  obtain ⟨v, rfl, hv'⟩ := hv.one
  obtain ⟨nn, hnn, hv'⟩ := hv'
  obtain rfl : v = .int nn := hv'
  have hn' := hn nn hnn
  have s1 := s.mono e1
  refine ⟨nn, rfl, hn'.2, by omega, fun Dl hD => ?_⟩
  obtain ⟨hB, hDd⟩ := s1.fresh hD
  refine lc_range (lo := 0) (n := nn.toNat) (Lc H1 X.K Dl d P) ⟨Ext.new hD, [], [], upd_same, DRl.nil, rfl, fun k w h => by cases h⟩ (fun i H' hlt L => ?_) (fun H' L => ?_)
  · refine ⟨wipe1 _ _ _, ?_⟩
    refine ⟨i, trivial, ?_, fun y H2 e2 hy => lc_step hD hDd L e2 hy (by omega)⟩
    rw [Int.zero_add]
    exact st_wipe (s1.mono L.1) (R := rI (i : Int)) rfl
  · obtain ⟨h0, us, ds, h1, h2, h3, h4⟩ := L
    exact q _ H' (e1.trans h0) ⟨ds, ⟨⟨nn, hnn, h3⟩, h4⟩, Dl, hB, rfl, hDd, us, h1, h2⟩
/-- a <= b <= c -/
theorem t_chainLe {i j k : Int} (ha : EX X B ρ a (rI i)) (hb : EX X B ρ b (rI j)) (hc : EX X B ρ c (rI k)) (hm : lastMarks [CmpOp.LtE, CmpOp.LtE] [b, c] = false := by with_unfolding_all rfl) : TX X B ρ (.Compare a [.LtE, .LtE] [b, c] pos) (is (decide (i ≤ j) && decide (j ≤ k))) :=
  PT_wk (pt_chain op_le op_le ha hb hc hm) fun σ H Q ⟨s, q⟩ => ⟨s, fun x H1 e1 hx => ⟨s.mono e1, fun y H2 e2 hy => by
    obtain rfl : x = .int i := hx
    obtain rfl : y = .int j := hy
    refine ⟨i, j, rfl, rfl, _, rfl, ?_⟩
    by_cases h : i ≤ j
    · rw [if_pos (decide_eq_true h)]
      refine ⟨(s.mono e1).mono e2, fun z H3 e3 hz => ?_⟩
      obtain rfl : z = .int k := hz
      exact ⟨j, k, rfl, rfl, _, rfl, q _ H3 (e1.trans (e2.trans e3)) (by rw [decide_eq_true h, Bool.true_and])⟩
    · rw [if_neg (by rw [decide_eq_false h]; exact Bool.false_ne_true)]
      exact ⟨false, rfl, q _ H2 (e1.trans e2) (by rw [decide_eq_false h, Bool.false_and])⟩⟩⟩
/-- [elt for x in t], t told by S -/
theorem x_lcTE {S : List D → Prop} (j : Nat) {x : Str} {scope : Scope} {tpos : Pos} (P : Nat → D → Prop) (hi : EX X B ρ iter (dE X.K fun w => ∃ src, S src ∧ w = .t src)) (hn : ∀ src, S src → src.length < 2000) (hN : X.N.Nodup) (hok : BlkOk X.N X.env.scope scope [(x, j)])
    (hgn : ∀ (s : Shared) (H : Hp) (C : Addr) (cl : List (Str × Addr)) (fp : List Addr), PG (X.blk s H scope (compEnvC scope cl C X.env) fp) (.Name x tpos) (gName j))
    (hb : ∀ (s : Shared) (H : Hp) (C : Addr) (cl : List (Str × Addr)) (fp : List Addr) (src : List D), S src → ∀ (i : Nat) (w : D), src[i]? = some w → EX (X.blk s H scope (compEnvC scope cl C X.env) fp) B (ρ.set j (some (dat X.K w))) elt (dE X.K (P i)))
    (hc : X.calm = true := by rfl) (hs : ∀ x, foldedSetIterable iter X.env x = pure x := by intro _; rfl) :
    EX X B ρ (.ListComp elt [⟨.Name x tpos, iter, [], 0⟩] scope pos) (newE B X.K fun ds => ∃ src, S src ∧ ds.length = src.length ∧ ∀ k w, ds[k]? = some w → P k w) := by
  refine PE_wk (pe_lc (own := [(x, j)]) (g := gName j) (tt := tYes) (te := tElt (Z := List D × Nat × D) B X.K (fun z => ρ.set j (some (dat X.K z.2.2))) (fun z => S z.1 ∧ z.1[z.2.1]? = some z.2.2) (fun z => P z.2.1)) hc hN (pi_tup hi) hok hgn (fun _ _ _ _ _ => pts_nil) (fun s H C cl fp => elt_of fun z hz => hb s H C cl fp z.1 hz.1 z.2.1 z.2.2 hz.2) hs) fun σ H Q ⟨s, q⟩ => ⟨s, fun v H1 e1 hv => ?_⟩
  obtain ⟨w0, ⟨src, hS, rfl⟩, hv⟩ := hv
  obtain ⟨t, us, rfl, g1, g2⟩ := DR.tup hv
  have s1 := s.mono e1
  refine ⟨t, rfl, ⟨us, g1⟩, fun Dl hD => ?_⟩
  obtain ⟨hB, hDd⟩ := s1.fresh hD
  refine lc_tup (K := X.K) (a := t) (xs := us) (Lc H1 X.K Dl d P) ⟨Ext.new hD, [], [], upd_same, DRl.nil, rfl, fun k w h => by cases h⟩ (fun i H' _ L => L.1.tk.sqT g1) (fun i y H' hy L => ?_) (fun H' L => ?_)
  · obtain ⟨w, hw, hr⟩ := g2.getV hy
    refine ⟨wipe1 _ _ _, ?_⟩
    exact ⟨(src, i, w), ⟨hS, hw⟩, st_wipe (s1.mono L.1) (R := dat X.K w) (hr.tk L.1.tk), fun y H2 e2 hy => lc_step hD hDd L e2 hy (Nat.lt_trans (List.getElem?_eq_some_iff.mp hw).1 (hn src hS))⟩
  · obtain ⟨h0, vs, ds, h1, h2, h3, h4⟩ := L
    exact q _ H' (e1.trans h0) ⟨ds, ⟨src, hS, by rw [h3, g2.1], h4⟩, Dl, hB, rfl, hDd, vs, h1, h2⟩
end
end Cv

namespace Cv
open PySem PySem.Spec PyProof.Rows L2 RZ
/-! ### the greatest of a tuple -/
theorem mx2 {i j : Int} : (if j > i then j else i) = max i j := by
  rw [Int.max_def]
  split <;> split <;> omega
theorem ints_at : ∀ {us : List Value} {ns : List Int}, IntsAre us ns → ∀ (i : Nat) (v : Value), us[i]? = some v → ∃ t, v = Value.int (ns.getD i 0) t
  | _, _, .nil, i, v, h => by cases h
  | _, _, .cons n t h, 0, v, e => by cases e; exact ⟨t, rfl⟩
  | _, _, .cons n t h, i + 1, v, e => ints_at h i v e
theorem ints_len : ∀ {us : List Value} {ns : List Int}, IntsAre us ns → us.length = ns.length
  | _, _, .nil => rfl
  | _, _, .cons n t h => congrArg (· + 1) (ints_len h)
theorem maxT_raw {prog : Program} {w : World} {A : Around} {E : Value → Shared → Prop} {s : Shared} {l : Addr} {its : List Value} {ns : List Int} {Q : Value → Shared → Prop} (hh : A.handled = none) (hl : s.heap.IsTuple l its.toArray) (hi : IntsAre its ns) (hne : 0 < ns.length)
    (h : ∀ (h' : Heap) (tk : Nat) (M : Int) (t' : Tok), (∀ (b : Addr) (o : Obj), s.heap.get? b = some o → h'.get? b = some o) → M ∈ ns → (∀ a, a ∈ ns → a ≤ M) → Q (Value.int M t') { heap := h', gens := s.gens, drawn := s.drawn, toks := tk, os := s.os }) :
    wpAny (model prog w) A (call (Value.builtin "max") [Value.ref l]) Q E s := by
  have hlen := ints_len hi
  have hlt : ∀ (b : Addr) (o : Obj), s.heap.get? b = some o → b < s.heap.objs.size := fun b o h => by
    unfold Heap.get? at h
    cases q : s.heap.objs[b]? with
    | none => rw [q] at h; cases h
    | some x => exact (Array.getElem?_eq_some_iff.mp q).1
  have hll : l < s.heap.objs.size := by
    obtain ⟨o, ho, _⟩ := hl
    exact hlt _ _ ho
  refine call_max_walk (wpAny_pyIter_tuple hl ?_)
  refine ⟨s.heap.objs.size, _, _, its.toArray.size, _, _, fun i j => decide (ns.getD i 0 > ns.getD j 0), rfl, Walks.tuple (A := A.in1) hh s.heap.objs.size l (Nat.ne_of_lt hll) its.toArray, ⟨⟨_, Heap.get?_push_size _ rfl, rfl, rfl⟩, ?_⟩, ?_, ?_, CmpOf.ints_gt (fun i => ns.getD i 0) ?_, ?_⟩
  · obtain ⟨o, ho, h1⟩ := hl
    exact ⟨o, Heap.get?_push_of_some _ ho, h1⟩
  · intro b hb
    show b < (s.heap.push _).objs.size
    rw [Heap.size_push]
    rcases List.mem_cons.mp hb with rfl | hb
    · exact Nat.lt_succ_self _
    · rcases List.mem_cons.mp hb with rfl | hb
      · exact Nat.lt_succ_of_lt hll
      · cases hb
  · simpa [hlen] using hne
  · intro i v hv
    rw [List.getElem?_toArray] at hv
    exact ints_at hi i v hv
  · intro v h' tk hP hk
    rw [List.getElem?_toArray] at hP
    obtain ⟨t, rfl⟩ := ints_at hi _ v hP
    obtain ⟨h1, h2⟩ := argBest_gt (fun i => ns.getD i 0) (its.toArray.size - 1)
    have hsz : its.toArray.size = ns.length := by rw [List.size_toArray, hlen]
    rw [hsz] at h1 h2 ⊢
    refine h h' tk _ t (fun b o ho => hk b o (fun hb => ?_) (Heap.get?_push_of_some _ ho)) ?_ fun a ha => ?_
    · rcases List.mem_cons.mp hb with rfl | hb
      · exact absurd (hlt _ _ ho) (Nat.lt_irrefl _)
      · cases hb
    · have hlt' : argBest (fun i j => decide (ns.getD i 0 > ns.getD j 0)) (ns.length - 1) < ns.length := by omega
      rw [List.getD_eq_getElem?_getD, List.getElem?_eq_getElem hlt']
      exact List.getElem_mem hlt'
    · obtain ⟨k, hk'⟩ := List.getElem?_of_mem ha
      have hkl := (List.getElem?_eq_some_iff.mp hk').1
      have := h2 k (by omega)
      rw [List.getD_eq_getElem?_getD, hk'] at this
      exact this
theorem cr_maxT {X : Cx} (hc : X.calm = true) : CallR X (.builtin "max") (fun vs H Q => ∃ (a : Addr) (ns : List Int), vs = [V.ref a] ∧ SqT X.K H a (ns.map V.int) ∧ 0 < ns.length ∧ ∀ m, m ∈ ns → (∀ y, y ∈ ns → y ≤ m) → Q (.int m) H) := by
  rintro pins s σ H vs us Q I r ⟨a, ns, rfl, hs, hne, q⟩
  obtain ⟨its, rv, hl, _⟩ := I.tuple hs
  rw [Vals.ref1 r]
  exact maxT_raw (I.ok.hd hc) hl (Vals.ints rv) hne fun h' tk m t' hk h1 h2 => ⟨V.int m, H, Inv.kept I hk, ⟨t', rfl⟩, q m h1 h2⟩
section
variable {d : Option Addr} {X : Cx} {B : Hp} {ρ ρ' : Ro d} {a b c e iter elt : Expr} {es : List Expr} {R R' Ra Rb : Rp d} {Rs : List (Rp d)} {pos : Pos} {m n : Int} {st : Stmt} {rest body orelse : List Stmt} {Pre Mid : L2.St → Hp → Prop} {Po : Ends}
theorem x_maxT {ns : List Int} {p : Pos} (hg : Gl X "max") (hm : X.mg "max" = none) (h : EX X B ρ e (dat X.K (tI ns))) (hne : 0 < ns.length) (hc : X.calm = true := by rfl) (he : starEach [e] X.env = (false, eval e X.env) :: starEach [] X.env := by rfl) (hpl : (backTo pos (starEach [] X.env)).any (·.1) = false := by rfl) : EX X B ρ (.Call (.Name "max" p) [e] [] pos) (iE fun M => M ∈ ns ∧ ∀ y, y ∈ ns → y ≤ M) :=
  x_callB (cr_maxT hc) hg hm (by decide +kernel) (a_cons h a_nil he) (fun vs H σ Q s hv q => by
    obtain ⟨x, rfl, hx⟩ := hv.one
    obtain ⟨t, rfl, h1⟩ := hx.tupI
    exact ⟨t, ns, rfl, h1, hne, fun M h2 h3 => q _ H (Ext.refl H) ⟨M, ⟨h2, h3⟩, rfl⟩⟩) (he := he) (hpl := hpl)
theorem x_max2 {p : Pos} (hg : Gl X "max") (hm : X.mg "max" = none) (ha : EX X B ρ a (rI m)) (hb : EX X B ρ b (rI n)) (hc : X.calm = true := by rfl) (he : starEach [a, b] X.env = (false, eval a X.env) :: starEach [b] X.env := by rfl) (he2 : starEach [b] X.env = (false, eval b X.env) :: starEach [] X.env := by rfl) (hpl : (backTo pos (starEach [b] X.env)).any (·.1) = false := by rfl) : EX X B ρ (.Call (.Name "max" p) [a, b] [] pos) (rI (max m n)) :=
  x_callB (call_max2 hc) hg hm (by decide +kernel) (a_cons ha (a_cons hb a_nil he2) he) (fun vs H σ Q s hv q => by
    obtain ⟨x, y, rfl, h1, h2⟩ := hv.two
    obtain rfl : x = .int m := h1
    obtain rfl : y = .int n := h2
    exact ⟨m, n, rfl, q _ H (Ext.refl H) (by show V.int _ = V.int _; rw [mx2])⟩) (he := he) (hpl := hpl)
/-! ### parts of lists and tuples -/
theorem DRl.drop {K : PySem.W.Frag} {H : Hp} {ds : List D} {vs : List V} (h : DRl K H ds vs) (k : Nat) : DRl K H (ds.drop k) (vs.drop k) := ⟨by rw [List.length_drop, List.length_drop, h.1], fun i e v a b => by
  rw [List.getElem?_drop] at a b
  exact h.2 _ e v a b⟩
theorem DRl.take {K : PySem.W.Frag} {H : Hp} {ds : List D} {vs : List V} (h : DRl K H ds vs) (k : Nat) : DRl K H (ds.take k) (vs.take k) := ⟨by rw [List.length_take, List.length_take, h.1], fun i e v a b => by
  rw [List.getElem?_take] at a b
  split at a
  · rw [if_pos (by assumption)] at b
    exact h.2 _ e v a b
  · cases a⟩
theorem DRl.app {K : PySem.W.Frag} {H : Hp} {ds es : List D} {vs us : List V} (h : DRl K H ds vs) (g : DRl K H es us) : DRl K H (ds ++ es) (vs ++ us) := ⟨by rw [List.length_append, List.length_append, h.1, g.1], fun i e v a b => by
  by_cases hi : i < ds.length
  · rw [List.getElem?_append_left hi] at a
    rw [List.getElem?_append_left (by rw [← h.1]; exact hi)] at b
    exact h.2 i e v a b
  · rw [List.getElem?_append_right (by omega)] at a
    rw [List.getElem?_append_right (by rw [← h.1]; omega), ← h.1] at b
    exact g.2 _ e v a b⟩
theorem cut_hi (vs : List V) (k : Nat) : cutV vs none (some (k : Int)) = vs.take k := by
  have e1 : HT.sIx vs.length 0 none = 0 := rfl
  have e2 : HT.sIx vs.length vs.length (some (k : Int)) = min k vs.length := by
    unfold HT.sIx
    dsimp only
    rw [if_neg (by omega)]
    rfl
  unfold cutV
  rw [e1, e2, List.drop_zero, Nat.sub_zero, ← List.take_eq_take_min]
theorem cut_lo (vs : List V) (k : Nat) : cutV vs (some (k : Int)) none = vs.drop k := by
  have e1 : HT.sIx vs.length 0 (some (k : Int)) = min k vs.length := by
    unfold HT.sIx
    dsimp only
    rw [if_neg (by omega)]
    rfl
  have e2 : HT.sIx vs.length vs.length none = vs.length := rfl
  unfold cutV
  rw [e1, e2]
  rw [List.take_of_length_le (by rw [List.length_drop]; omega)]
  by_cases h : k ≤ vs.length
  · rw [Nat.min_eq_left h]
  · rw [Nat.min_eq_right (by omega), List.drop_length, List.drop_eq_nil_of_le (by omega)]
theorem x_slHi {l : Addr} {ds : List D} {k : Nat} {p2 : Pos} (ha : EX X B ρ a (lstA X.K l ds)) (hb : EX X B ρ b (rI (k : Int))) : EX X B ρ (.Subscript a (.Slice none (some b) none p2) pos) (newL B X.K (ds.take k)) :=
  PE_wk (pe_slice sl_list ha po_none (po_some hb)) fun σ H Q ⟨s, q⟩ => ⟨s, fun x H1 e1 hx => ⟨s.mono e1, fun y H2 e2 hy => ⟨(k : Int), hy, by
    obtain ⟨rfl, _, us, h1, h2⟩ := hx
    refine ⟨l, us, rfl, (h1.ext e2).sq, fun p hp => q _ _ (e1.trans (e2.trans (Ext.new hp))) ?_⟩
    obtain ⟨hB, hd⟩ := ((s.mono e1).mono e2).fresh hp
    rw [cut_hi]
    exact ⟨p, hB, rfl, hd, us.take k, upd_same, (h2.take k).tk (e2.trans (Ext.new (d := d) hp)).tk⟩⟩⟩⟩
theorem x_slLo {l : Addr} {ds : List D} {k : Nat} {p2 : Pos} (ha : EX X B ρ a (lstA X.K l ds)) (hb : EX X B ρ b (rI (k : Int))) : EX X B ρ (.Subscript a (.Slice (some b) none none p2) pos) (newL B X.K (ds.drop k)) :=
  PE_wk (pe_slice sl_list ha (po_some hb) po_none) fun σ H Q ⟨s, q⟩ => ⟨s, fun x H1 e1 hx => ⟨s.mono e1, fun y H2 e2 hy => ⟨(k : Int), hy, by
    obtain ⟨rfl, _, us, h1, h2⟩ := hx
    refine ⟨l, us, rfl, (h1.ext e2).sq, fun p hp => q _ _ (e1.trans (e2.trans (Ext.new hp))) ?_⟩
    obtain ⟨hB, hd⟩ := ((s.mono e1).mono e2).fresh hp
    rw [cut_lo]
    exact ⟨p, hB, rfl, hd, us.drop k, upd_same, (h2.drop k).tk (e2.trans (Ext.new (d := d) hp)).tk⟩⟩⟩⟩
theorem x_tlHi {ds : List D} {k : Nat} {p2 : Pos} (ha : EX X B ρ a (dat X.K (.t ds))) (hb : EX X B ρ b (rI (k : Int))) : EX X B ρ (.Subscript a (.Slice none (some b) none p2) pos) (dat X.K (.t (ds.take k))) :=
  PE_wk (pe_slice sl_tupA ha po_none (po_some hb)) fun σ H Q ⟨s, q⟩ => ⟨s, fun x H1 e1 hx => ⟨s.mono e1, fun y H2 e2 hy => ⟨(k : Int), hy, by
    obtain ⟨t, us, rfl, h1, h2⟩ := DR.tup hx
    refine ⟨t, us, rfl, e2.tk.sqT h1, fun h => q _ _ (e1.trans e2) ?_, fun h p hp => q _ _ (e1.trans (e2.trans (Ext.new hp))) ?_⟩
    · have e : us.take k = us := by
        rw [← cut_hi]
        unfold cutV
        rw [h.1, h.2, Nat.sub_zero, List.drop_zero, List.take_length]
      have := h2.take k
      rw [e] at this
      exact DR.of_tup (e2.tk.sqT h1) (this.tk e2.tk)
    · rw [cut_hi]
      exact DR.of_tup (SqT.of upd_same) ((h2.take k).tk (e2.trans (Ext.new (d := d) hp)).tk)⟩⟩⟩
theorem x_tlLo {ds : List D} {k : Nat} {p2 : Pos} (ha : EX X B ρ a (dat X.K (.t ds))) (hb : EX X B ρ b (rI (k : Int))) : EX X B ρ (.Subscript a (.Slice (some b) none none p2) pos) (dat X.K (.t (ds.drop k))) :=
  PE_wk (pe_slice sl_tupA ha (po_some hb) po_none) fun σ H Q ⟨s, q⟩ => ⟨s, fun x H1 e1 hx => ⟨s.mono e1, fun y H2 e2 hy => ⟨(k : Int), hy, by
    obtain ⟨t, us, rfl, h1, h2⟩ := DR.tup hx
    refine ⟨t, us, rfl, e2.tk.sqT h1, fun h => q _ _ (e1.trans e2) ?_, fun h p hp => q _ _ (e1.trans (e2.trans (Ext.new hp))) ?_⟩
    · have e : us.drop k = us := by
        rw [← cut_lo]
        unfold cutV
        rw [h.1, h.2, Nat.sub_zero, List.drop_zero, List.take_length]
      have := h2.drop k
      rw [e] at this
      exact DR.of_tup (e2.tk.sqT h1) (this.tk e2.tk)
    · rw [cut_lo]
      exact DR.of_tup (SqT.of upd_same) ((h2.drop k).tk (e2.trans (Ext.new (d := d) hp)).tk)⟩⟩⟩
/-! ### lists and tuples joined -/
theorem x_catL {ds es' : List D} (ha : EX X B ρ a (newL B X.K ds)) (hb : EX X B ρ b (newL B X.K es')) (hl : ds.length + es'.length ≤ 1000) : EX X B ρ (.BinOp a .Add b pos) (newL B X.K (ds ++ es')) :=
  x_op2 op_cat ha hb fun x y H σ Q s hx hy q => by
    obtain ⟨l, _, rfl, _, us, h1, h2⟩ := hx
    obtain ⟨l2, _, rfl, _, us2, h3, h4⟩ := hy
    refine ⟨l, l2, us, us2, rfl, rfl, h1, h3, by rw [← h2.1, ← h4.1]; exact Nat.le_of_lt (small1000 hl), fun p hp => q _ _ (Ext.new hp) ?_⟩
    obtain ⟨hB, hd⟩ := s.fresh hp
    exact ⟨p, hB, rfl, hd, us ++ us2, upd_same, (h2.app h4).tk (Ext.new (d := d) hp).tk⟩
theorem x_catT {ds es' : List D} (ha : EX X B ρ a (dat X.K (.t ds))) (hb : EX X B ρ b (dat X.K (.t es'))) (hl : ds.length + es'.length ≤ 1000) : EX X B ρ (.BinOp a .Add b pos) (dat X.K (.t (ds ++ es'))) :=
  x_op2 op_catA ha hb fun x y H σ Q s hx hy q => by
    obtain ⟨l, us, rfl, h1, h2⟩ := DR.tup hx
    obtain ⟨l2, us2, rfl, h3, h4⟩ := DR.tup hy
    have h5 := h2.app h4
    refine ⟨l, l2, us, us2, rfl, rfl, h1, h3, by rw [← h2.1, ← h4.1]; exact Nat.le_of_lt (small1000 hl), fun z => q _ _ (Ext.refl H) ?_, fun _ z => q _ _ (Ext.refl H) ?_, fun _ _ p hp => q _ _ (Ext.new hp) ?_⟩
    · rw [z, List.nil_append] at h5
      exact DR.of_tup h3 h5
    · rw [z, List.append_nil] at h5
      exact DR.of_tup h1 h5
    · exact DR.of_tup (SqT.of upd_same) (h5.tk (Ext.new (d := d) hp).tk)
/-! ### texts; lists compared -/
theorem x_str {K : PySem.W.Frag} {j : Nat} {x : Str} : EX X B ρ (.Constant (.str x) j pos) (dat K (.s x)) := PE_wk pe_str fun σ H Q ⟨s, q⟩ => q _ H (Ext.refl H) (.s x)
theorem t_eqS {K : PySem.W.Frag} {x y : Str} (ha : EX X B ρ a (dat K (.s x))) (hb : EX X B ρ b (dat K (.s y))) : TX X B ρ (.Compare a [.Eq] [b] pos) (is (decide (x = y))) := t_cmp op_eq (nomark _) ha hb fun u v H σ Q _ hx hy q => by
  cases hx; cases hy
  refine ⟨rfl, q _ H (Ext.refl H) ?_⟩
  by_cases h : x = y
  · rw [h, decide_eq_true rfl, decide_eq_true rfl]
  · rw [decide_eq_false h, decide_eq_false fun z => h (V.str.inj z)]
theorem shpLs {k : Nat} {xs : List D} (h : ∀ e ∈ xs, Shp k e) (hk : k < 64) : SeqAt.shaped (.list (pyL xs)) = true := by
  obtain ⟨h1, h2⟩ := shpL fun e he => (h e he).lay
  unfold SeqAt.shaped
  have e1 : (PyData.list (pyL xs)).canLay0 = true := by simpa [PyData.canLay0] using h1
  have e2 : (PyData.list (pyL xs)).depth ≤ 64 := by
    have : (PyData.list (pyL xs)).depth ≤ k + 1 := by simpa [PyData.depth] using h2
    omega
  rw [e1, Bool.true_and]
  exact decide_eq_true e2
theorem eqvLs {k j : Nat} {xs ys : List D} (h : ∀ e ∈ xs, Shp k e) (g : ∀ e ∈ ys, Shp j e) : PyData.eqv (.list (pyL xs)) (.list (pyL ys)) = true ↔ xs = ys := by
  have := eqvL (xs := xs) (ys := ys) (fun e he {f} hf => (h e he).eqv hf) fun f hf => ⟨_, g f hf⟩
  simpa [PyData.eqv] using this
theorem dpLs {K : PySem.W.Frag} {l : Addr} {ds : List D} {v : V} {H : Hp} (h : (lstA (d := d) K l ds).p v H) : Dp K H v (.list (pyL ds)) := by
  obtain ⟨rfl, _, us, h1, h2⟩ := h
  exact .lst h1.sq (dpAll_of h2.1 fun i e v a b => dp_of (h2.2 i e v a b))
theorem t_eqL {l1 l2 : Addr} {xs ys : List D} {k j : Nat} (hu : X.A.units + 64 < cLine) (ha : EX X B ρ a (lstA X.K l1 xs)) (hb : EX X B ρ b (lstA X.K l2 ys)) (hx : ∀ e ∈ xs, Shp k e) (hy : ∀ e ∈ ys, Shp j e) (hk : k < 64 := by decide) (hj : j < 64 := by decide) : TX X B ρ (.Compare a [.Eq] [b] pos) (fun q => q = true ↔ xs = ys) :=
  t_cmp (op_eqD hu) (nomark _) ha hb fun u v H σ Q _ hx' hy' q => ⟨_, _, dpLs hx', dpLs hy', shpLs hx hk, shpLs hy hj, q _ H (Ext.refl H) (eqvLs hx hy)⟩
theorem t_neL {l1 l2 : Addr} {xs ys : List D} {k j : Nat} (hu : X.A.units + 64 < cLine) (ha : EX X B ρ a (lstA X.K l1 xs)) (hb : EX X B ρ b (lstA X.K l2 ys)) (hx : ∀ e ∈ xs, Shp k e) (hy : ∀ e ∈ ys, Shp j e) (hk : k < 64 := by decide) (hj : j < 64 := by decide) : TX X B ρ (.Compare a [.NotEq] [b] pos) (fun q => q = false ↔ xs = ys) :=
  t_cmp (op_neD hu) (nomark _) ha hb fun u v H σ Q _ hx' hy' q => ⟨_, _, dpLs hx', dpLs hy', shpLs hx hk, shpLs hy hj, q _ H (Ext.refl H) (by have := eqvLs hx hy; rw [← this]; cases PyData.eqv (.list (pyL xs)) (.list (pyL ys)) <;> simp)⟩
theorem x_eqL {l1 l2 : Addr} {xs ys : List D} {k j : Nat} (hu : X.A.units + 64 < cLine) (ha : EX X B ρ a (lstA X.K l1 xs)) (hb : EX X B ρ b (lstA X.K l2 ys)) (hx : ∀ e ∈ xs, Shp k e) (hy : ∀ e ∈ ys, Shp j e) (hk : k < 64 := by decide) (hj : j < 64 := by decide) : EX X B ρ (.Compare a [.Eq] [b] pos) (exR (fun q => q = true ↔ xs = ys) rB) :=
  x_cmp (op_eqD hu) (nomark _) ha hb fun u v H σ Q _ hx' hy' q => ⟨_, _, dpLs hx', dpLs hy', shpLs hx hk, shpLs hy hj, q _ H (Ext.refl H) ⟨_, eqvLs hx hy, rfl⟩⟩
/-! ### a tuple of what is no data -/
def tupR (K : PySem.W.Frag) (Rs : List (Rp d)) : Rp d := ⟨fun v H => ∃ t vs, v = .ref t ∧ SqT K H t vs ∧ RsH Rs vs H, fun e ⟨t, vs, h1, h2, h3⟩ => ⟨t, vs, h1, e.tk.sqT h2, h3.mono e⟩⟩
theorem x_tupX {x1} (h : AX X B ρ es Rs) (hl : Rs.length ≤ 1000 := by first | decide | simp) : EX X B ρ (.Tuple es x1 pos) (tupR X.K Rs) :=
  PE_wk (pe_tup h) fun σ H Q ⟨s, q⟩ => ⟨s, fun vs H1 e1 hv => by
    refine ⟨by rw [hv.len]; exact Nat.le_of_lt (small1000 hl), fun p hp => q _ _ (e1.trans (Ext.new hp)) ?_⟩
    exact ⟨p, vs, rfl, SqT.of upd_same, hv.mono (Ext.new hp)⟩⟩
theorem x_ixX (k : Nat) (ha : EX X B ρ a (tupR X.K Rs)) (hb : EX X B ρ b (rI (k : Int))) (hw : Rs[k]? = some R) (hs : PlainIx b := by exact (fun _ _ => rfl)) : EX X B ρ (.Subscript a b pos) R :=
  PE_wk (pe_ix ix_tup ha hb hs) fun σ H Q ⟨s, q⟩ => ⟨s, fun x H1 e1 hx => ⟨s.mono e1, fun y H2 e2 hy => by
    obtain ⟨t, us, rfl, h1, h2⟩ := hx
    obtain ⟨v, hv, hr⟩ := h2.get hw
    exact ⟨t, us, _, v, rfl, hy, e2.tk.sqT h1, atI_nat hv, q v H2 (e1.trans e2) (R.st e2 hr)⟩⟩⟩
/-- for x, y in enumerate(a list that the slots tell) -/
theorem bx_forEL {α : Type} {ds : List D} {la : Addr} (j k : Nat) {x y : Str} {kk : Nat} {tpos p1 p2 p p3 : Pos} (P : Nat → α → Prop) (r : Nat → α → Ro d) (hg : Gl X "enumerate") (hm : X.mg "enumerate" = none) (ha : EX X B ρ a (lstA X.K la ds)) (h0 : ∀ σ H, St B ρ σ H → IS B (P 0) (r 0) σ H)
    (hl : ∀ i z, P i z → ∃ (k : Nat) (R : Rp d), (r i z)[k]? = some (some R) ∧ ∀ v H, R.p v H → (lstA (d := d) X.K la ds).p v H)
    (hb : ∀ (i : Nat) w z, ds[i]? = some w → P i z → BX X body (St B (((r i z).set j (some (rI (i : Int)))).set k (some (dat X.K w)))) (Lp Po (IS B (P (i + 1)) (r (i + 1))) (IS B (P ds.length) (r ds.length)))) (h : BX X rest (IS B (P ds.length) (r ds.length)) Po)
    (hN : X.N.Nodup) (hp : PassesOwn (model X.prog X.w) X.A X.env X.xe) (hj : X.N[j]? = some x := by rfl) (hk : X.N[k]? = some y := by rfl) (hc : X.calm = true := by rfl) (hx : Loc X.env.scope x := by first | exact Or.inl rfl | exact Or.inr rfl) (hy : Loc X.env.scope y := by first | exact Or.inl rfl | exact Or.inr rfl)
    (hf : X.fn x = true ∨ X.env.scope.names.lookup x = some .local := by first | exact .inl rfl | exact .inr rfl | assumption) (hfy : X.fn y = true ∨ X.env.scope.names.lookup y = some .local := by first | exact .inl rfl | exact .inr rfl | assumption)
    (he : starEach [a] X.env = [(false, eval a X.env)] := by rfl) (hs : ∀ x, foldedSetIterable (.Call (.Name "enumerate" p) [a] [] p3) X.env x = pure x := by intro _; rfl) :
    BX X (.For (.Tuple [.Name x p1, .Name y p2] kk tpos) (.Call (.Name "enumerate" p) [a] [] p3) body [] pos :: rest) (St B ρ) Po := by
  refine bx_cons (Mid := IS B (P ds.length) (r ds.length)) ?_ h
  refine PS_wk (t := tFor (iEnum X.K fun σ H Q => St B ρ σ H ∧ ∀ vs H', Ext d H H' → RsH [lstA X.K la ds] vs H' → Q vs H') (gTup X.K 2 (gCons (gName j) (gCons (gName k) gNil))) (tBody (Z := Nat × D × α) B (fun z => ((r z.1 z.2.2).set j (some (rI (z.1 : Int)))).set k (some (dat X.K z.2.1))) (fun z => ds[z.1]? = some z.2.1 ∧ P z.1 z.2.2) (fun z => Lp Po (IS B (P (z.1 + 1)) (r (z.1 + 1))) (IS B (P ds.length) (r ds.length)))))
    (ps_for hp hc (pi_enum hg hm (a_cons ha a_nil he) he) (pg_tup hc (pgs_cons (pg_name hN hj hx hf) (pgs_cons (pg_name hN hk hy hfy) pgs_nil))) ⟨fun pins s σ H E I ⟨⟨i, w, z⟩, ⟨hw, hz⟩, q, l⟩ => (hb i w z hw hz).run pins s σ H E I ⟨q, l⟩⟩ hs) fun E σ H ⟨s, l⟩ => ⟨s, fun vs H1 e1 hv => ?_⟩
  obtain ⟨v, rfl, hv'⟩ := hv.one
  obtain ⟨rfl, hld, us, h1, h2⟩ := hv'
  have key : ∀ i σ H, IS B (P i) (r i) σ H → ∃ vs, SqL X.K H la vs ∧ DRl X.K H ds vs := fun i σ H ⟨z, hz, q⟩ => by
    obtain ⟨k, R, hk, hR⟩ := hl i z hz
    obtain ⟨v, _, g⟩ := q.good.get hk
    obtain ⟨_, _, vs, a1, a2⟩ := hR v H g
    exact ⟨vs, a1.sq, a2⟩
  refine ⟨la, us, rfl, h1.sq, fun i m σ H => m = ds.length - i ∧ i ≤ ds.length ∧ Tk H1 H ∧ IS B (P i) (r i) σ H, ⟨ds.length, rfl, Nat.zero_le _, Tk.refl _, h0 _ _ (s.mono e1)⟩, ?_⟩
  rintro i m σ H ⟨rfl, hi, kk, q⟩
  obtain ⟨vs, a1, a2⟩ := key i σ H q
  by_cases hlt : i < ds.length
  · have hv : i < vs.length := by rw [← a2.1]; exact hlt
    refine .inr ⟨⟨vs, vs[i], a1, List.getElem?_eq_getElem hv⟩, fun σ' H' => Tk H1 H' ∧ IS B (P (i + 1)) (r (i + 1)) σ' H', fun σ' H' p' => ⟨ds.length - (i + 1), by omega, rfl, hlt, p'.1, p'.2⟩, fun v H' yl => ?_⟩
    obtain ⟨T, x', rfl, hT, rfl, f1⟩ := yl
    obtain ⟨w, hw, hr⟩ := a2.getV (f1 vs a1)
    obtain ⟨z, hz, q⟩ := q
    have eT : Ext d H (upd H T (.tup [.int (i : Nat), x'])) := Ext.new hT
    have kT := kk.trans eT.tk
    refine ⟨T, [.int (i : Nat), x'], rfl, SqT.of upd_same, rfl, .int (i : Nat), [x'], rfl, x', [], rfl, rfl, (i, w, z), ⟨hw, hz⟩, ⟨(q.mono eT).ext, (q.mono eT).dr, ((q.mono eT).good.set j (R := rI (i : Int)) rfl).set k (R := dat X.K w) (hr.tk eT.tk)⟩, ?_⟩
    exact ⟨fun σ' H' k' q' => ⟨kT.trans k', q'⟩, fun v H' k' q' => l.rt v H' ((e1.tk.trans kT).trans k') q', fun σ' H' k' q' => l.nx σ' H' ((e1.tk.trans kT).trans k') q', fun σ' H' k' q' => ⟨kT.trans k', q'⟩⟩
  · have e' : i = ds.length := by omega
    subst e'
    exact .inl ⟨⟨vs, a1, by rw [← a2.1]; exact Nat.le_refl _⟩, l.nx σ H (e1.tk.trans kk) q⟩
theorem t_ltE {P S : Int → Prop} (ha : EX X B ρ a (iE P)) (hb : EX X B ρ b (iE S)) : TX X B ρ (.Compare a [.Lt] [b] pos) (fun k => ∃ i j, P i ∧ S j ∧ k = decide (i < j)) := t_cmp op_lt (nomark _) ha hb fun x y H σ Q _ ⟨i, hi, hx⟩ ⟨j, hj, hy⟩ q => ⟨i, j, hx, hy, q _ H (Ext.refl H) ⟨i, j, hi, hj, rfl⟩⟩
theorem t_gtE {P S : Int → Prop} (ha : EX X B ρ a (iE P)) (hb : EX X B ρ b (iE S)) : TX X B ρ (.Compare a [.Gt] [b] pos) (fun k => ∃ i j, P i ∧ S j ∧ k = decide (j < i)) := t_cmp op_gt (nomark _) ha hb fun x y H σ Q _ ⟨i, hi, hx⟩ ⟨j, hj, hy⟩ q => ⟨i, j, hx, hy, q _ H (Ext.refl H) ⟨i, j, hi, hj, rfl⟩⟩
theorem x_newE {ds : List D} {K : PySem.W.Frag} (h : EX X B ρ e (newL B K ds)) : EX X B ρ e (newE B K fun es => es = ds) := x_sub h fun v H hv => ⟨ds, rfl, hv⟩
theorem x_lstE {P : Int → Prop} (h : EX X B ρ e (iE P)) (hs : starEach [e] X.env = (false, eval e X.env) :: starEach [] X.env := by rfl) : EX X B ρ (.List [e] pos) (newE B X.K fun ds => ∃ z, P z ∧ ds = [.i z]) :=
  PE_wk (pe_lst (a_cons h a_nil hs)) fun σ H Q ⟨s, q⟩ => ⟨s, fun vs H1 e1 hv => by
    obtain ⟨v, rfl, z, hz, hv⟩ := hv.one
    obtain rfl : v = .int z := hv
    refine ⟨Nat.le_of_lt (small1000 (by simp)), fun p hp => q _ _ (e1.trans (Ext.new hp)) ?_⟩
    obtain ⟨hB, hpd⟩ := (s.mono e1).fresh hp
    exact ⟨_, ⟨z, hz, rfl⟩, p, hB, rfl, hpd, [.int z], upd_same, DRl.of_ints [z]⟩⟩
theorem x_catLE {P S : List D → Prop} (ha : EX X B ρ a (newE B X.K P)) (hb : EX X B ρ b (newE B X.K S)) (hl : ∀ x y, P x → S y → x.length + y.length ≤ 1000) : EX X B ρ (.BinOp a .Add b pos) (newE B X.K fun ds => ∃ x y, P x ∧ S y ∧ ds = x ++ y) :=
  x_op2 op_cat ha hb fun x y H σ Q s hx hy q => by
    obtain ⟨ds, hds, l, _, rfl, _, us, h1, h2⟩ := hx
    obtain ⟨es', hes, l2, _, rfl, _, us2, h3, h4⟩ := hy
    refine ⟨l, l2, us, us2, rfl, rfl, h1, h3, by rw [← h2.1, ← h4.1]; exact Nat.le_of_lt (small1000 (hl _ _ hds hes)), fun p hp => q _ _ (Ext.new hp) ?_⟩
    obtain ⟨hB, hd⟩ := s.fresh hp
    exact ⟨_, ⟨ds, es', hds, hes, rfl⟩, p, hB, rfl, hd, us ++ us2, upd_same, (h2.app h4).tk (Ext.new (d := d) hp).tk⟩
/-- y = [elt for ..]: a store of its own kind -/
def AsgX (X : Cx) (B : Hp) (ρ : Ro d) (i : Nat) (st : Stmt) (R : Rp d) : Prop := PS X st fun E σ H => St B ρ σ H ∧ ∀ v H', Ext d H H' → R.p v H' → E.nx (σ.set i (some v)) H'
theorem as_sub {i : Nat} (h : AsgX X B ρ i st R) (w : ∀ v H, R.p v H → R'.p v H) : AsgX X B ρ i st R' := PS_wk h fun E σ H ⟨s, q⟩ => ⟨s, fun v H' e1 hv => q v H' e1 (w v H' hv)⟩
theorem bx_newA (i : Nat) {K : PySem.W.Frag} {S : List D → Prop} (ls : List Addr) (hls : ∀ l ∈ ls, Known l ρ) (he : ∀ B' : Hp, AsgX X B' ρ i st (newE B' K S)) (h : ∀ l ds, S ds → B l = none → (∀ l' ∈ ls, l ≠ l') → BX X rest (St B (ρ.set i (some (own K l ds)))) Po) : BX X (st :: rest) (St B ρ) Po := by
  refine bx_cons (Mid := fun σ H => ∃ z : Addr × List D, (S z.2 ∧ B z.1 = none ∧ ∀ l' ∈ ls, z.1 ≠ l') ∧ St B (ρ.set i (some (own K z.1 z.2))) σ H) ?_ (bx_ex fun z hz => h z.1 z.2 hz.1 hz.2.1 hz.2.2)
  refine ⟨fun pins s σ H E I ⟨st, q⟩ => ?_⟩
  refine (he H).run pins s σ H E I ⟨⟨Ext.refl H, st.dr, st.good⟩, fun v H' e1 hv => ?_⟩
  obtain ⟨ds, hS, l, hl, hv⟩ := hv
  have hld : some l ≠ d := hv.2.1
  refine q.nx _ H' e1.tk ⟨(l, ds), ⟨hS, ?_, fun l' hl' z => ?_⟩, st.ext.trans e1, (st.mono e1).dr, (st.mono e1).good.set i hv⟩
  · cases e2 : B l with
    | none => rfl
    | some o =>
      have := st.ext.at e2 hld
      rw [hl] at this; cases this
  · obtain ⟨k, R, h1, h2⟩ := hls l' hl'
    obtain ⟨w, _, h3⟩ := st.good.get h1
    exact h2 w H h3 (by have z' : l = l' := z; rw [← z']; exact hl)
theorem as_lcRE {S : Int → Prop} (i0 j : Nat) {x y : Str} {py spos : Pos} {scope : Scope} {tpos p p2 : Pos} (P : Nat → D → Prop) (hg : Gl X "range") (hm : X.mg "range" = none) (hi : EX X B ρ e (iE S)) (hn : ∀ nn, S nn → nn < 2000 ∧ -(2 ^ 62) ≤ nn) (hN : X.N.Nodup) (hok : BlkOk X.N X.env.scope scope [(x, j)])
    (hgn : ∀ (s : Shared) (H : Hp) (C : Addr) (cl : List (Str × Addr)) (fp : List Addr), PG (X.blk s H scope (compEnvC scope cl C X.env) fp) (.Name x tpos) (gName j))
    (hb : ∀ (s : Shared) (H : Hp) (C : Addr) (cl : List (Str × Addr)) (fp : List Addr) (i : Nat), EX (X.blk s H scope (compEnvC scope cl C X.env) fp) B (ρ.set j (some (rI (i : Int)))) elt (dE X.K (P i)))
    (hc : X.calm = true := by rfl) (he : starEach [e] X.env = [(false, eval e X.env)] := by rfl) (hs : ∀ x, foldedSetIterable (.Call (.Name "range" p) [e] [] p2) X.env x = pure x := by intro _; rfl)
    (hy : X.N[i0]? = some y := by rfl) (hyl : X.env.scope.names.lookup y = some .local := by rfl) (hsw : swapsWith (.ListComp elt [⟨.Name x tpos, .Call (.Name "range" p) [e] [] p2, [], 0⟩] scope pos) (some (.Name y py)) spos.line X.env = pure true := by rfl) :
    AsgX X B ρ i0 (.Assign [.Name y py] (.ListComp elt [⟨.Name x tpos, .Call (.Name "range" p) [e] [] p2, [], 0⟩] scope pos) spos) (newE B X.K fun ds => (∃ nn, S nn ∧ ds.length = nn.toNat) ∧ ∀ k w, ds[k]? = some w → P k w) := by
  refine PS_wk (ps_setLc (own := [(x, j)]) (g := gName j) (tt := tYes) (te := tElt (Z := Nat) B X.K (fun i => ρ.set j (some (rI (i : Int)))) (fun i => True) P) hc hN hy hyl hsw (pi_range1 hg hm (a_cons hi a_nil he) he) hok hgn (fun _ _ _ _ _ => pts_nil) (fun s H C cl fp => elt_of fun i _ => hb s H C cl fp i) hs) fun E σ H ⟨s, q⟩ => ⟨s, fun vs H1 e1 hv => ?_⟩
  obtain ⟨v, rfl, hv'⟩ := hv.one
  obtain ⟨nn, hnn, hv'⟩ := hv'
  obtain rfl : v = .int nn := hv'
  have hn' := hn nn hnn
  have s1 := s.mono e1
  refine ⟨nn, rfl, hn'.2, by omega, fun Dl hD => ?_⟩
  obtain ⟨hB, hDd⟩ := s1.fresh hD
  refine lc_range (lo := 0) (n := nn.toNat) (Lc H1 X.K Dl d P) ⟨Ext.new hD, [], [], upd_same, DRl.nil, rfl, fun k w h => by cases h⟩ (fun i H' hlt L => ?_) (fun H' L => ?_)
  · refine ⟨wipe1 _ _ _, ?_⟩
    refine ⟨i, trivial, ?_, fun y H2 e2 hy => lc_step hD hDd L e2 hy (by omega)⟩
    rw [Int.zero_add]
    exact st_wipe (s1.mono L.1) (R := rI (i : Int)) rfl
  · obtain ⟨h0, us, ds, h1, h2, h3, h4⟩ := L
    exact q _ H' (e1.trans h0) ⟨ds, ⟨⟨nn, hnn, h3⟩, h4⟩, Dl, hB, rfl, hDd, us, h1, h2⟩
theorem tupR2_up {ρ1 : Ro d} {K : PySem.W.Frag} {S : List D → Prop} {σ : L2.St} {H H' : Hp} {v : V} (s : St B ρ1 σ H) (h : (tupR (d := d) K [newE H K S, rAny]).p v H') : (tupR (d := d) K [newE B K S, rAny]).p v H' := by
  obtain ⟨t, vs, h1, h2, h3⟩ := h
  obtain ⟨x, y, rfl, h4, h5⟩ := h3.two
  exact ⟨t, [x, y], h1, h2, newE_up s h4, trivial, trivial⟩
end
end Cv

namespace Cv
open PySem PySem.Spec PyProof.Rows L2 RZ
section
variable {d : Option Addr} {X : Cx} {B : Hp} {ρ ρ' : Ro d} {a b c e iter elt : Expr} {es : List Expr} {R R' Ra Rb : Rp d} {Rs : List (Rp d)} {pos : Pos} {m n : Int} {st : Stmt} {rest body orelse : List Stmt} {Pre Mid : L2.St → Hp → Prop} {Po : Ends}
theorem bx_unp2 {A1 A2 : D} (i1 i2 : Nat) {x1 x2 : Str} {q1 q2 q4 : Pos} {kk : Nat} (he : EX X B ρ e (dat X.K (.t [A1, A2]))) (h : BX X rest (St B ((ρ.set i1 (some (dat X.K A1))).set i2 (some (dat X.K A2)))) Po)
    (hN : X.N.Nodup) (h1 : X.N[i1]? = some x1 := by rfl) (h2 : X.N[i2]? = some x2 := by rfl) (hc : X.calm = true := by rfl) (l1 : Loc X.env.scope x1 := by first | exact Or.inl rfl | exact Or.inr rfl) (l2 : Loc X.env.scope x2 := by first | exact Or.inl rfl | exact Or.inr rfl)
    (f1 : X.fn x1 = true ∨ X.env.scope.names.lookup x1 = some .local := by first | exact .inl rfl | exact .inr rfl | assumption) (f2 : X.fn x2 = true ∨ X.env.scope.names.lookup x2 = some .local := by first | exact .inl rfl | exact .inr rfl | assumption)
    (hs : swapsWithSole [.Tuple [.Name x1 q1, .Name x2 q2] kk q4] e pos.line X.env = pure false := by rfl) (hw : swappedStores [.Tuple [.Name x1 q1, .Name x2 q2] kk q4] e X.env = pure none := by rfl) :
    BX X (.Assign [.Tuple [.Name x1 q1, .Name x2 q2] kk q4] e pos :: rest) (St B ρ) Po := by
  refine bx_cons (Mid := St B ((ρ.set i1 (some (dat X.K A1))).set i2 (some (dat X.K A2)))) ?_ h
  refine PS_wk (ps_asg he (pg_tup hc (pgs_cons (pg_name hN h1 l1 f1) (pgs_cons (pg_name hN h2 l2 f2) pgs_nil))) hs hw) fun E σ H ⟨s, l⟩ => ⟨s, fun v H' e1 hv => ?_⟩
  obtain ⟨t, us, rfl, g1, g2⟩ := DR.tup hv
  match us, g2 with
  | [v1, v2], g2 =>
    refine ⟨t, [v1, v2], rfl, g1, rfl, v1, [v2], rfl, v2, [], rfl, rfl, ?_⟩
    exact l.nx _ H' e1.tk ⟨(s.mono e1).ext, (s.mono e1).dr, ((s.mono e1).good.set i1 (R := dat X.K A1) (g2.2 0 A1 v1 rfl rfl)).set i2 (R := dat X.K A2) (g2.2 1 A2 v2 rfl rfl)⟩
  | [], g2 => exact absurd g2.1 (by simp)
  | [_], g2 => exact absurd g2.1 (by simp)
  | _ :: _ :: _ :: _, g2 => exact absurd g2.1 (by simp)
theorem passX : Passes (L2.CX X.prog X.w) X E0 := fun _ _ _ _ _ _ _ h => by
  obtain ⟨_, _, _, _, _, _, _, _, _, _, _, _, z⟩ := h
  exact z.elim
/-- a class of errors of the program's own, made with a text -/
structure ErrTxt (K : PySem.W.Frag) (mg : Str → Option Value) (C : Addr) (x : Str) : Prop where
  gC : mg x = some (.ref C)
  exc : PySem.W.excIn K C [Value.type "ValueError", Value.type "Exception", Value.type "BaseException", Value.type "object"] "ValueError.__new__" = true
  kC : PySem.W.keepIn K (.ref C) = true
  exB : PySem.W.subIn K (.ref C) (.type "BaseException") = some true
  tyC : PySem.W.typeIn K (.ref C) = some (.type "type")
  te : PySem.W.exmOne K (.ref C) (.ref C) = some true
/-- raise C('text') -/
theorem bx_raiseC {C : Addr} {x m : Str} {j : Nat} {p p2 pos2 : Pos} {E : XK} {W : L2.WX} (T : ErrTxt X.K X.mg C x) (tk : L2.Takes X W) (hW : ∀ σ H, E (.ref C) none H → W (.ref C) none σ H) (hE : ∀ H1, Ext d B H1 → E (.ref C) none H1)
    (hc : X.calm = true := by rfl) (hg : Gl X x := by rfl) (hd : (x == ("__debug__" : Str)) = false := by decide) :
    BX X (.Raise (some (.Call (.Name x p) [.Constant (.str m) j p2] [] pos)) none pos2 :: rest) (St B ρ) Po :=
  bx_cons (Mid := fun _ _ => False) (PS_wk (L2.ps_raise hc tk (L2.pmk_own PySem.F.excBase_ValueError T.exc T.gC T.kC (raises_own T.exB T.tyC) hg hd)) fun D σ H ⟨s, _⟩ => hW σ H (hE H s.ext)) bx_false
/-- the call's promise tells of results and errors -/
def spE {α : Type} (d : Option Addr) (As : α → List (Rp d)) (Ok : α → Prop) (Rz : α → Rp d) (Bad : α → Prop) (c : Value) : Sp := fun vs H Q E => ∃ z : α, RsH (As z) vs H ∧ (∀ a, d = some a → Drw H a) ∧ (Ok z → ∀ v H', Ext d H H' → (Rz z).p v H' → Q v H') ∧ (Bad z → ∀ H', Ext d H H' → E c none H') ∧ (Ok z ∨ Bad z)
end
section
variable {d : Option Addr} {Pg : Program} {w : World} {K : PySem.W.Frag} {mg : Str → Option Value} {base : Heap}
/-- a def that may raise c: its body with B := the heap at the start -/
theorem fn_okE {α : Type} {As : α → List (Rp d)} {Ok : α → Prop} {Rz : α → Rp d} {Bad : α → Prop} {c : Value} {x qual : Str} {sd : Stmt} {f : Addr} {fd : FuncData} {N ps : List Str} {k : Nat} (F : Fun K x qual sd f fd) (S : FnScope N ps (defScope sd)) (hl : ∀ z, (As z).length = ps.length) (hN : ps.length ≤ N.length)
    (body : ∀ (z : α) (H : Hp) (cdv : Value) (A : Around) (outer : List Env) (s : Shared) (E : XK), Room k (A.deeper (envOfC qual (defScope sd) s.heap.objs.size f cdv)) → (Bad z → ∀ H', Ext d H H' → E c none H') → (Ok z ∨ Bad z) →
      BX (cxOf (L2.CX Pg w) Pg w K mg base N qual (defScope sd) f cdv A outer s H E) (defBody sd) (St H (ro (As z) (N.length - (As z).length))) { nx := fun _ H' => Ok z ∧ Ext d H H' ∧ (Rz z).p .non H', rt := fun v H' => Ok z ∧ Ext d H H' ∧ (Rz z).p v H' }) : FnOk Pg w K mg base (L2.CX Pg w) (k + 1) f fd ps (spE d As Ok Rz Bad c) := by
  refine fn_okX F S (fun vs H Q E ⟨z, h, _⟩ => by rw [h.len, hl]) fun vs H Q E h cdv A outer s hr => ?_
  obtain ⟨z, hz, dr, q, qe, ob⟩ := h
  refine ⟨_, _, st_start hz (by rw [hl]; exact hN) dr, body z H cdv A outer s E hr qe ob, ?_⟩
  exact ⟨fun σ' H' _ ⟨o, e1, h1⟩ => q o _ H' e1 h1, fun v H' _ ⟨o, e1, h1⟩ => q o v H' e1 h1, fun _ _ _ h => h.elim, fun _ _ _ h => h.elim⟩
end
end Cv

namespace Cv
open PySem PySem.Spec PyProof.Rows L2 RZ
/-! ### zip(a, b, c), tuples of one length -/
def IteZ (K : PySem.W.Frag) (a b c : Addr) : It :=
  ⟨fun i H => ∃ (xs ys zs : List V) (x y z : V), SqT K H a xs ∧ SqT K H b ys ∧ SqT K H c zs ∧ xs[i]? = some x ∧ ys[i]? = some y ∧ zs[i]? = some z,
    fun i H v H' => ∃ T x y z, v = .ref T ∧ H T = none ∧ H' = upd H T (.tup [x, y, z]) ∧ (∀ xs, SqT K H a xs → xs[i]? = some x) ∧ (∀ xs, SqT K H b xs → xs[i]? = some y) ∧ (∀ xs, SqT K H c xs → xs[i]? = some z),
    fun i H => ∃ xs ys zs : List V, SqT K H a xs ∧ SqT K H b ys ∧ SqT K H c zs ∧ xs.length = i ∧ ys.length = i ∧ zs.length = i⟩
theorem turn_zip3 {P : Program} {w : World} {K : PySem.W.Frag} {elts : List Expr} {kk : Nat} {tpos : Pos} {a b c z TI TO i1 i2 i3 : Addr} (sep : ZipSep3 z TI TO i1 i2 i3 [i1, a] [i2, b] [i3, c]) (h1 : a ≠ i1) (h2 : b ≠ i2) (h3 : c ≠ i3) :
    Turn P w K (.Tuple elts kk tpos) (IteZ K a b c) [z, TI, TO, i1, i2, i3] z (fun i h => IsZip h z TI TO .none ∧ IsTupOf3 h TI (.ref i1) (.ref i2) (.ref i3) ∧ (∃ a1 a2 a3, IsTupOf3 h TO a1 a2 a3) ∧ h.IsTupleIter i1 a i ∧ h.IsTupleIter i2 b i ∧ h.IsTupleIter i3 c i) where
  mem := by simp
  obj := fun i h ⟨q1, q2, ⟨_, _, _, q3⟩, ⟨o4, q4, _, d4⟩, ⟨o5, q5, _, d5⟩, ⟨o6, q6, _, d6⟩⟩ x hx => by
    have e : x = z ∨ x = TI ∨ x = TO ∨ x = i1 ∨ x = i2 ∨ x = i3 := by simpa using hx
    rcases e with e | e | e | e | e | e
    · rw [e]; exact ⟨_, q1, fun v q => nomatch q⟩
    · rw [e]; exact ⟨_, q2, fun v q => nomatch q⟩
    · rw [e]; exact ⟨_, q3, fun v q => nomatch q⟩
    · rw [e]; exact ⟨_, q4, fun v q => by rw [d4] at q; cases q⟩
    · rw [e]; exact ⟨_, q5, fun v q => by rw [d5] at q; cases q⟩
    · rw [e]; exact ⟨_, q6, fun v q => by rw [d6] at q; cases q⟩
  keep := fun i h h' ⟨q1, q2, ⟨a1, a2, a3, q3⟩, q4, q5, q6⟩ k => ⟨k z (by simp) _ q1, k TI (by simp) _ q2, ⟨a1, a2, a3, k TO (by simp) _ q3⟩, q4.at fun o q => k i1 (by simp) o q, q5.at fun o q => k i2 (by simp) o q, q6.at fun o q => k i3 (by simp) o q⟩
  item := by
    intro X hP hw hK hc i pins s σ H E I hf st hg
    subst hP hw hK
    obtain ⟨xs, ys, zs, x, y, u, hx, hy, hu, ex, ey, eu⟩ := hg
    obtain ⟨s1, s2, s3, s4, s5, s6⟩ := st
    obtain ⟨t1, r1, p1, _⟩ := I.tuple hx
    obtain ⟨t2, r2, p2, _⟩ := I.tuple hy
    obtain ⟨t3, r3, p3, _⟩ := I.tuple hu
    obtain ⟨x', hx', rx⟩ := r1.get ex
    obtain ⟨y', hy', ry⟩ := r2.get ey
    obtain ⟨u', hu', ru⟩ := r3.get eu
    have l1 : i < t1.toArray.size := by rw [List.size_toArray, ← r1.length]; exact (List.getElem?_eq_some_iff.mp ex).1
    have l2 : i < t2.toArray.size := by rw [List.size_toArray, ← r2.length]; exact (List.getElem?_eq_some_iff.mp ey).1
    have l3 : i < t3.toArray.size := by rw [List.size_toArray, ← r3.length]; exact (List.getElem?_eq_some_iff.mp eu).1
    have G := GoesN.zip3 (prog := X.prog) (w := X.w) (A := X.A) (elts := elts) (x1 := kk) (pos := tpos) sep (Draws.tuple (A := X.A.in1) (by exact I.ok.hd hc) i1 a h1 t1.toArray) (Draws.tuple (A := X.A.in1) (by exact I.ok.hd hc) i2 b h2 t2.toArray) (Draws.tuple (A := X.A.in1) (by exact I.ok.hd hc) i3 c h3 t3.toArray)
    refine G.goes i s _ E (by omega) ⟨s1, s2, s3, ⟨s4, p1⟩, ⟨s5, p2⟩, ⟨s6, p3⟩⟩ fun v h' tk hY hS hk _ => ?_
    obtain ⟨T, x2, y2, u2, rfl, hT, e1, e2, e3, hTup⟩ := hY
    obtain ⟨k1, k2, k3, ⟨k4, _⟩, ⟨k5, _⟩, ⟨k6, _⟩⟩ := hS
    have e1 : x2 = x' := by
      have q : t1.toArray[i]? = some x' := by simpa using hx'
      exact Option.some.inj (e1.symm.trans q)
    have e2 : y2 = y' := by
      have q : t2.toArray[i]? = some y' := by simpa using hy'
      exact Option.some.inj (e2.symm.trans q)
    have e3 : u2 = u' := by
      have q : t3.toArray[i]? = some u' := by simpa using hu'
      exact Option.some.inj (e3.symm.trans q)
    subst e1 e2 e3
    have new : ObjOk X.prog X.w (upd H T (.tup [x, y, u])) h' T (.tup [x, y, u]) :=
      ⟨by show 3 ≤ sizeLine; exact Nat.le_of_lt (small1000 (by decide)), [x2, y2, u2], .cons rx (.cons ry (.cons ru .nil)), hTup⟩
    have I1 : Inv X pins σ (upd H T (.tup [x, y, u])) { s with heap := h', toks := tk } :=
      I.turnedNew (ch := [z, TO, i1, i2, i3]) (fun b' ob hb q => hk b' ob hb q) (fun b' hb => hf b' (by simp at hb ⊢; rcases hb with e | e | e | e | e <;> simp [e])) hT new
    refine ⟨.ref T, _, I1, rfl, ⟨T, x, y, u, rfl, I.hok.fresh hT, rfl, fun q hq => by rw [I.tuple_inj hq hx]; exact ex, fun q hq => by rw [I.tuple_inj hq hy]; exact ey, fun q hq => by rw [I.tuple_inj hq hu]; exact eu⟩, ⟨k1, k2, k3, k4, k5, k6⟩, fun b' hb => ?_⟩
    have hb' : b' < s.heap.objs.size := by
      have e : b' = z ∨ b' = TI ∨ b' = TO ∨ b' = i1 ∨ b' = i2 ∨ b' = i3 := by simpa using hb
      obtain ⟨_, _, _, s3⟩ := s3
      obtain ⟨_, s4, _⟩ := s4
      obtain ⟨_, s5, _⟩ := s5
      obtain ⟨_, s6, _⟩ := s6
      rcases e with e | e | e | e | e | e
      · rw [e]; exact Heap.lt_size s1
      · rw [e]; exact Heap.lt_size s2
      · rw [e]; exact Heap.lt_size s3
      · rw [e]; exact Heap.lt_size s4
      · rw [e]; exact Heap.lt_size s5
      · rw [e]; exact Heap.lt_size s6
    rw [upd_ne (Nat.ne_of_lt (Nat.lt_of_lt_of_le hb' hT))]
    exact (hf b' hb).1
  done := by
    intro X hP hw hK hc i pins s σ H E I hf st hg
    subst hP hw hK
    obtain ⟨xs, ys, zs, hx, hy, hu, ex, ey, eu⟩ := hg
    obtain ⟨s1, s2, s3, s4, s5, s6⟩ := st
    obtain ⟨t1, r1, p1, _⟩ := I.tuple hx
    obtain ⟨t2, r2, p2, _⟩ := I.tuple hy
    obtain ⟨t3, r3, p3, _⟩ := I.tuple hu
    have l1 : t1.toArray.size = i := by rw [List.size_toArray, ← r1.length]; exact ex
    have l2 : t2.toArray.size = i := by rw [List.size_toArray, ← r2.length]; exact ey
    have l3 : t3.toArray.size = i := by rw [List.size_toArray, ← r3.length]; exact eu
    have G := GoesN.zip3 (prog := X.prog) (w := X.w) (A := X.A) (elts := elts) (x1 := kk) (pos := tpos) sep (Draws.tuple (A := X.A.in1) (by exact I.ok.hd hc) i1 a h1 t1.toArray) (Draws.tuple (A := X.A.in1) (by exact I.ok.hd hc) i2 b h2 t2.toArray) (Draws.tuple (A := X.A.in1) (by exact I.ok.hd hc) i3 c h3 t3.toArray)
    have en : min (min t1.toArray.size t2.toArray.size) t3.toArray.size = i := by omega
    refine G.stops s _ E (by rw [en]; exact ⟨s1, s2, s3, ⟨s4, p1⟩, ⟨s5, p2⟩, ⟨s6, p3⟩⟩) fun h' tk hk _ => ?_
    exact I.turnedL (ch := [z, TO, i1, i2, i3]) (fun b' o hb q => hk b' o hb q) (fun b' hb => hf b' (by simp at hb ⊢; rcases hb with e | e | e | e | e <;> simp [e]))
  self := fun A i s Q E ⟨s1, _⟩ h => wpAny_pyIter_zip s1 h
def iZip3 (K : PySem.W.Frag) (ta : TA) : TI := fun σ H R => ta σ H fun vs H1 => ∃ a b c xs ys zs, vs = [.ref a, .ref b, .ref c] ∧ SqT K H1 a xs ∧ SqT K H1 b ys ∧ SqT K H1 c zs ∧ R (IteZ K a b c) H1
theorem pi_zip3 {X : Cx} {e e2 e3 : Expr} {ta : TA} {p pos tpos : Pos} {elts : List Expr} {kk : Nat} (hg : Gl X "zip") (hm : X.mg "zip" = none) (ha : PA X [e, e2, e3] ta) (hs : starEach [e, e2, e3] X.env = (false, eval e X.env) :: starEach [e2, e3] X.env := by rfl) (hpl : (backTo pos (starEach [e2, e3] X.env)).any (·.1) = false := by rfl) :
    PI X (.Tuple elts kk tpos) (.Call (.Name "zip" p) [e, e2, e3] [] pos) (iZip3 X.K ta) := by
  refine ⟨fun pins s σ H R I h => ?_⟩
  refine Call_ (ld_blt I hg hm boot_zip (PyProof.Rows.callWith_type1 (thn (ha.run pos pins s σ H _ I h) fun us s1 ⟨vs, H1, I1, r1, q1⟩ => ?_) hs hpl))
  obtain ⟨a, b, c, xs, ys, zs, ex, hx, hy, hz, q⟩ := q1
  subst ex
  cases r1 with
  | cons ra rr =>
    cases rr with
    | cons rb rr =>
      cases rr with
      | cons rc rr =>
        cases rr
        cases ra
        cases rb
        cases rc
        obtain ⟨t1, rv1, p1, _⟩ := I1.tuple hx
        obtain ⟨t2, rv2, p2, _⟩ := I1.tuple hy
        obtain ⟨t3, rv3, p3, _⟩ := I1.tuple hz
        have la : a < s1.heap.objs.size := by obtain ⟨o, ho, _⟩ := p1; exact Heap.lt_size ho
        have lb : b < s1.heap.objs.size := by obtain ⟨o, ho, _⟩ := p2; exact Heap.lt_size ho
        have lc : c < s1.heap.objs.size := by obtain ⟨o, ho, _⟩ := p3; exact Heap.lt_size ho
        refine zip_begins3 (begins_tuple a t1.toArray) (begins_tuple b t2.toArray) (begins_tuple c t3.toArray) p1 p2 p3 fun h' hz hTI hTO o1 o2 o3 hsz hk => wpAny_pyIter_zip hz ?_
        have I2 : Inv X pins σ H1 { s1 with heap := h' } := I1.kept (t' := s1.toks) hk
        refine ⟨_, _, _, _, H1, rfl, I2, turn_zip3 (zip_sep3 (N := s1.heap.objs.size) (fp1 := [a]) (fp2 := [b]) (fp3 := [c]) (by simpa using la) (by simpa using lb) (by simpa using lc)) (Nat.ne_of_lt la) (Nat.ne_of_lt (Nat.lt_succ_of_lt lb)) (Nat.ne_of_lt (Nat.lt_succ_of_lt (Nat.lt_succ_of_lt lc))), ⟨hz, hTI, ⟨_, _, _, hTO⟩, ⟨_, o1, rfl, rfl⟩, ⟨_, o2, rfl, rfl⟩, ⟨_, o3, rfl, rfl⟩⟩, fun b' hb => ?_, q⟩
        have hle : s1.heap.objs.size ≤ b' := by
          simp at hb
          rcases hb with e | e | e | e | e | e <;> (rw [e]; first | exact Nat.le_refl _ | exact Nat.le_add_right _ _)
        exact I1.fpOk hle (I1.hok.fresh hle)
section
variable {d : Option Addr} {X : Cx} {B : Hp} {ρ ρ' : Ro d} {a b c e iter elt : Expr} {es : List Expr} {R R' Ra Rb : Rp d} {Rs : List (Rp d)} {pos : Pos} {m n : Int} {st : Stmt} {rest body orelse : List Stmt} {Pre Mid : L2.St → Hp → Prop} {Po : Ends}
/-- for x, y, z in zip(a, b, c), tuples of one length -/
theorem bx_forZ3 {α : Type} {ds es' fs : List D} (j k l0 : Nat) {x y z : Str} {kk : Nat} {tpos p1 p2 p4 p p3 : Pos} (P : Nat → α → Prop) (r : Nat → α → Ro d) (hg : Gl X "zip") (hm : X.mg "zip" = none) (ha : EX X B ρ a (dat X.K (.t ds))) (hb' : EX X B ρ b (dat X.K (.t es'))) (hc' : EX X B ρ c (dat X.K (.t fs))) (hlen : ds.length = es'.length) (hlen2 : ds.length = fs.length) (h0 : ∀ σ H, St B ρ σ H → IS B (P 0) (r 0) σ H)
    (hb : ∀ (i : Nat) w u t z, ds[i]? = some w → es'[i]? = some u → fs[i]? = some t → P i z → BX X body (St B ((((r i z).set j (some (dat X.K w))).set k (some (dat X.K u))).set l0 (some (dat X.K t)))) (Lp Po (IS B (P (i + 1)) (r (i + 1))) (IS B (P ds.length) (r ds.length)))) (h : BX X rest (IS B (P ds.length) (r ds.length)) Po)
    (hN : X.N.Nodup) (hp : PassesOwn (model X.prog X.w) X.A X.env X.xe) (hj : X.N[j]? = some x := by rfl) (hk : X.N[k]? = some y := by rfl) (hl : X.N[l0]? = some z := by rfl) (hc : X.calm = true := by rfl) (hx : Loc X.env.scope x := by first | exact Or.inl rfl | exact Or.inr rfl) (hy : Loc X.env.scope y := by first | exact Or.inl rfl | exact Or.inr rfl) (hz : Loc X.env.scope z := by first | exact Or.inl rfl | exact Or.inr rfl)
    (hf : X.fn x = true ∨ X.env.scope.names.lookup x = some .local := by first | exact .inl rfl | exact .inr rfl | assumption) (hfy : X.fn y = true ∨ X.env.scope.names.lookup y = some .local := by first | exact .inl rfl | exact .inr rfl | assumption) (hfz : X.fn z = true ∨ X.env.scope.names.lookup z = some .local := by first | exact .inl rfl | exact .inr rfl | assumption)
    (he : starEach [a, b, c] X.env = (false, eval a X.env) :: starEach [b, c] X.env := by rfl) (he2 : starEach [b, c] X.env = (false, eval b X.env) :: starEach [c] X.env := by rfl) (he3 : starEach [c] X.env = (false, eval c X.env) :: starEach [] X.env := by rfl) (hpl : (backTo p3 (starEach [b, c] X.env)).any (·.1) = false := by rfl)
    (hs : ∀ x, foldedSetIterable (.Call (.Name "zip" p) [a, b, c] [] p3) X.env x = pure x := by intro _; rfl) :
    BX X (.For (.Tuple [.Name x p1, .Name y p2, .Name z p4] kk tpos) (.Call (.Name "zip" p) [a, b, c] [] p3) body [] pos :: rest) (St B ρ) Po := by
  refine bx_cons (Mid := IS B (P ds.length) (r ds.length)) ?_ h
  refine PS_wk (t := tFor (iZip3 X.K fun σ H Q => St B ρ σ H ∧ ∀ vs H', Ext d H H' → RsH [dat X.K (.t ds), dat X.K (.t es'), dat X.K (.t fs)] vs H' → Q vs H') (gTup X.K 3 (gCons (gName j) (gCons (gName k) (gCons (gName l0) gNil)))) (tBody (Z := Nat × D × D × D × α) B (fun z => (((r z.1 z.2.2.2.2).set j (some (dat X.K z.2.1))).set k (some (dat X.K z.2.2.1))).set l0 (some (dat X.K z.2.2.2.1))) (fun z => ds[z.1]? = some z.2.1 ∧ es'[z.1]? = some z.2.2.1 ∧ fs[z.1]? = some z.2.2.2.1 ∧ P z.1 z.2.2.2.2) (fun z => Lp Po (IS B (P (z.1 + 1)) (r (z.1 + 1))) (IS B (P ds.length) (r ds.length)))))
    (ps_for hp hc (pi_zip3 hg hm (a_cons ha (a_cons hb' (a_cons hc' a_nil he3) he2) he) he hpl) (pg_tup hc (pgs_cons (pg_name hN hj hx hf) (pgs_cons (pg_name hN hk hy hfy) (pgs_cons (pg_name hN hl hz hfz) pgs_nil)))) ⟨fun pins s σ H E I ⟨⟨i, w, u, t, z⟩, ⟨hw, hu, ht, hz⟩, q, l⟩ => (hb i w u t z hw hu ht hz).run pins s σ H E I ⟨q, l⟩⟩ hs) fun E σ H ⟨s, l⟩ => ⟨s, fun vs H1 e1 hv => ?_⟩
  match vs, hv with
  | [v1, v2, v3], ⟨g1, g2, g3, _⟩ =>
    obtain ⟨t1, us, rfl, h1, h2⟩ := DR.tup g1
    obtain ⟨t2, us2, rfl, h3, h4⟩ := DR.tup g2
    obtain ⟨t3, us3, rfl, h5, h6⟩ := DR.tup g3
    have k1 : us.length = us2.length := by rw [← h2.1, ← h4.1]; exact hlen
    have k2 : us.length = us3.length := by rw [← h2.1, ← h6.1]; exact hlen2
    refine ⟨t1, t2, t3, us, us2, us3, rfl, h1, h3, h5, fun i m σ H => m = us.length - i ∧ i ≤ us.length ∧ Tk H1 H ∧ IS B (P i) (r i) σ H, ⟨us.length, rfl, Nat.zero_le _, Tk.refl _, h0 _ _ (s.mono e1)⟩, ?_⟩
    rintro i m σ H ⟨rfl, hi, kk, q⟩
    have a1 := kk.sqT h1
    have a2 := kk.sqT h3
    have a3 := kk.sqT h5
    by_cases hlt : i < us.length
    · refine .inr ⟨⟨us, us2, us3, us[i], us2[i]'(by omega), us3[i]'(by omega), a1, a2, a3, List.getElem?_eq_getElem hlt, List.getElem?_eq_getElem (by omega), List.getElem?_eq_getElem (by omega)⟩, fun σ' H' => Tk H1 H' ∧ IS B (P (i + 1)) (r (i + 1)) σ' H', fun σ' H' p' => ⟨us.length - (i + 1), by omega, rfl, hlt, p'.1, p'.2⟩, fun v H' yl => ?_⟩
      obtain ⟨T, x', y', z', rfl, hT, rfl, f1, f2, f3⟩ := yl
      obtain ⟨w, hw, hr⟩ := h2.getV (f1 us a1)
      obtain ⟨u, hu, hr2⟩ := h4.getV (f2 us2 a2)
      obtain ⟨t, ht, hr3⟩ := h6.getV (f3 us3 a3)
      obtain ⟨z, hz, q⟩ := q
      have eT : Ext d H (upd H T (.tup [x', y', z'])) := Ext.new hT
      have kT := kk.trans eT.tk
      refine ⟨T, [x', y', z'], rfl, SqT.of upd_same, rfl, x', [y', z'], rfl, y', [z'], rfl, z', [], rfl, rfl, (i, w, u, t, z), ⟨hw, hu, ht, hz⟩, ⟨(q.mono eT).ext, (q.mono eT).dr, (((q.mono eT).good.set j (R := dat X.K w) (hr.tk kT)).set k (R := dat X.K u) (hr2.tk kT)).set l0 (R := dat X.K t) (hr3.tk kT)⟩, ?_⟩
      exact ⟨fun σ' H' k' q' => ⟨kT.trans k', q'⟩, fun v H' k' q' => l.rt v H' ((e1.tk.trans kT).trans k') q', fun σ' H' k' q' => l.nx σ' H' ((e1.tk.trans kT).trans k') q', fun σ' H' k' q' => ⟨kT.trans k', q'⟩⟩
    · have e' : i = us.length := by omega
      subst e'
      exact .inl ⟨⟨us, us2, us3, a1, a2, a3, rfl, by omega, by omega⟩, l.nx σ H (e1.tk.trans kk) (by rw [h2.1]; exact q)⟩
theorem mn2 {i j : Int} : (if j < i then j else i) = min i j := by
  rw [Int.min_def]
  split <;> split <;> omega
theorem x_min2 {p : Pos} (hg : Gl X "min") (hm : X.mg "min" = none) (ha : EX X B ρ a (rI m)) (hb : EX X B ρ b (rI n)) (hc : X.calm = true := by rfl) (he : starEach [a, b] X.env = (false, eval a X.env) :: starEach [b] X.env := by rfl) (he2 : starEach [b] X.env = (false, eval b X.env) :: starEach [] X.env := by rfl) (hpl : (backTo pos (starEach [b] X.env)).any (·.1) = false := by rfl) : EX X B ρ (.Call (.Name "min" p) [a, b] [] pos) (rI (min m n)) :=
  x_callB (call_min2 hc) hg hm (by decide +kernel) (a_cons ha (a_cons hb a_nil he2) he) (fun vs H σ Q s hv q => by
    obtain ⟨x, y, rfl, h1, h2⟩ := hv.two
    obtain rfl : x = .int m := h1
    obtain rfl : y = .int n := h2
    exact ⟨m, n, rfl, q _ H (Ext.refl H) (by show V.int _ = V.int _; rw [mn2])⟩) (he := he) (hpl := hpl)
/-- x.append(e), e told by S -/
theorem bx_appendE (i : Nat) {x : Str} {p1 p2 p3 p4 : Pos} {K : PySem.W.Frag} {l : Addr} {ds : List D} {S : D → Prop} (hi : ρ[i]? = some (some (own K l ds))) (hK : X.K = K) (he : EX X B ρ e (dE K S)) (hB : B l = none) (hb : IndBut l i ρ) (hz : ds.length ≤ 1000) (h : ∀ w, S w → BX X rest (St B (ρ.set i (some (own K l (ds ++ [w]))))) Po)
    (hN : X.N[i]? = some x := by rfl) (hv : Vis X.env.scope x := by first | exact Or.inl rfl | exact Or.inr (Or.inl rfl) | exact Or.inr (Or.inr rfl)) (hd : (x == ("__debug__" : Str)) = false := by decide) (hcd : (x == ("__classdict__" : Str)) = false := by decide)
    (hbase : attributeBase (.Name x p1) "append" X.env (eval (.Name x p1) X.env) = eval (.Name x p1) X.env := by rfl)
    (hfew : ((backTo p3 (starEach (e :: []) X.env)).all (fun x => !x.1) && (backToKw p3 (keywordEach [] X.env)).all (fun x => x.1.isSome)
      && decide ((e :: []).length + ([] : List Keyword).length + (if ([] : List Keyword).isEmpty then 0 else 1) < 30)) = true := by rfl)
    (hline : (p2.endLine == p3.line) = true := by rfl) (hs : starEach (e :: []) X.env = (false, eval e X.env) :: starEach [] X.env := by rfl) (hplain : (backTo p3 (starEach [] X.env)).any (·.1) = false := by rfl)
    (hsw : swapsWith (.Call (.Attribute (.Name x p1) "append" p2) [e] [] p3) none p4.line X.env = pure false := by rfl) :
    BX X (.Expr (.Call (.Attribute (.Name x p1) "append" p2) [e] [] p3) p4 :: rest) (St B ρ) Po := by
  subst hK
  refine bx_cons (Mid := fun σ H => ∃ w, S w ∧ St B (ρ.set i (some (own X.K l (ds ++ [w])))) σ H) ?_ (bx_ex fun w hw => h w hw)
  refine PS_wk (ps_expr (pe_bm PySem.F.plainAttrs_list PySem.F.slot_list_append PySem.F.type_list_append mt_append (pe_var hN hv hd hcd) (a_cons he a_nil hs) hbase hfew hline hs hplain) hsw) fun E σ H ⟨s, q⟩ => ?_
  obtain ⟨v, h1, rfl, hl, vs, h2, h3⟩ := s.good.get hi
  refine ⟨_, h1, Or.inl ⟨rfl, _, SqL.of h2⟩, s, fun us H1 e1 hus => ?_⟩
  obtain ⟨y, rfl, w, hw, hy⟩ := hus.one
  have s1 := s.mono e1
  have g2 := e1.at h2 hl
  refine ⟨l, vs, y, rfl, rfl, g2, small1000 (by rw [← h3.1]; exact hz), ?_⟩
  exact q.nx σ _ (e1.tk.trans (Tk.lst g2)) ⟨w, hw, st_own s1 hi hB hb ((h3.tk e1.tk).snoc hy)⟩
end
end Cv

namespace Cv
open PySem PySem.Spec PyProof.Rows L2 RZ
/-! ### try, an except that names the error and one more behind it -/
def wAs2 (K : PySem.W.Frag) (c c2 : Value) (i : Nat) (ts ts2 : Addr → Value → Option Addr → TS) (D : Ends) : L2.WX := fun cls d σ H =>
  ∃ b, PySem.W.exmOne K cls c = some b ∧ (b = true → ∀ a, H a = none → ts a cls d { nx := fun σ' H' => D.nx (σ'.set i none) H', rt := D.rt, bk := fun σ' H' => D.bk (σ'.set i none) H', ct := fun σ' H' => D.ct (σ'.set i none) H' } (σ.set i (some (.ref a))) H) ∧
    (b = false → PySem.W.exmOne K cls c2 = some true ∧ ∀ a, H a = none → ts2 a cls d D σ H)
theorem ps_try_as2 {X : Cx} {x n x2 : Str} {c c2 : Value} {i : Nat} {body suite suite2 : List Stmt} {b₀ b₂ : Stmt} {np np2 pos pos' pos2 : Pos} {tb : L2.WX → TS} {ts ts2 : Addr → Value → Option Addr → TS} (hs : X.stack = X.env :: X.outer) (hf : X.env.frame = some X.env.locals) (hN : X.N.Nodup) (hi : X.N[i]? = some n) (hln : X.env.kindOf n = some .local)
    (hg : Gl X x) (hdbg : (x == ("__debug__" : Str)) = false) (hm : X.mg x = some c) (hg2 : Gl X x2) (hdbg2 : (x2 == ("__debug__" : Str)) = false) (hm2 : X.mg x2 = some c2)
    (hb : ∀ (W : L2.WX) (pn : List (Addr × Obj)) (xe : Value → Shared → Prop), L2N.Takes (X.tr pn xe) W → PassesOwn (model X.prog X.w) X.A X.env xe → PSs (X.tr pn xe) body (tb W))
    (hsu : ∀ (a : Addr) (oe : Obj) (cls : Value) (d : Option Addr) (pn : List (Addr × Obj)), L2N.Zn cls d oe → (∃ vs, oe.data = .fields vs) → PSs (X.suite a ((a, oe) :: pn)) (b₀ :: suite) (ts a cls d))
    (hsu2 : ∀ (a : Addr) (oe : Obj) (cls : Value) (d : Option Addr) (pn : List (Addr × Obj)), L2N.Zn cls d oe → (∃ vs, oe.data = .fields vs) → PSs (X.suite a ((a, oe) :: pn)) (b₂ :: suite2) (ts2 a cls d)) :
    PS X (.Try body [.ExceptHandler (some (.Name x np)) (some n) (b₀ :: suite) pos', .ExceptHandler (some (.Name x2 np2)) none (b₂ :: suite2) pos2] [] [] pos) fun D σ H => tb (wAs2 X.K c c2 i ts ts2 D) D σ H := by
  refine ⟨fun pins s σ H D I h => ?_⟩
  have ok := I.ok
  have hfr : X.A.frames = some (X.env :: X.outer) := by rw [ok.frames, hs]
  have hloc : Loc X.env.scope n := Or.inl hln
  refine wpAny_Try_except (wpAny_mono ((hb (wAs2 X.K c c2 i ts ts2 D) (X.pn ++ pins)
    (fun e s₁ => wpAny (model X.prog X.w) X.A (noteFrame e X.env) (fun _ s₂ => wpAny (model X.prog X.w) X.A (setFlight e none) (fun _ s₃ => wpAny (model X.prog X.w) X.A (handleBy e X.env [.ExceptHandler (some (.Name x np)) (some n) (b₀ :: suite) pos', .ExceptHandler (some (.Name x2 np2)) none (b₂ :: suite2) pos2]) (SP X pins D) X.xe s₃) X.xe s₂) X.xe s₁)
    (fun u s' xx => ?_) PassesOwn.looking).run [] s σ H D (I.toTry _) h) (fun f s1 hsp => ?_) (fun e s1 he => he))
  · obtain ⟨a, B, sI, pins', σ', H', cls, d, rfl, J', nb, up, sky, na, os, ag, b, hb1, hyes, hno⟩ := xx
    have J := J'.ofTry ok
    have sky' : Sky B (X.env :: X.outer) a (L2N.Zn cls d) X.env.locals s'.heap := by rw [← hs]; exact sky
    show wpAny (model X.prog X.w) X.A (noteFrame (.ref a) X.env) _ _ _
    refine L2N.Sky.land L2N.Zn.steady hfr hf sky' fun h3 fl3 up3 => ?_
    have J3 : L2.Inv X pins σ' H' { heap := h3, gens := s'.gens, drawn := s'.drawn, toks := s'.toks, os := s'.os } := J.landed nb fl3.left (Heap.UpToSlots.trans up up3) os ag
    obtain ⟨oe3, vs3, he3, hz3, hd3⟩ := HandSPX.FlyingZ.there fl3
    have nfr : ¬ a ∈ (X.env :: X.outer).filterMap (·.frame) := fun hm => by
      obtain ⟨_, o', e', hnf⟩ := Heap.FunFrames.mem fl3.right.right.left hm
      rw [he3] at e'
      cases e'
      exact hnf vs3 hd3
    have nL : a ≠ X.env.locals := fun z => nfr (List.mem_filterMap.mpr ⟨X.env, List.mem_cons_self, by rw [hf, z]⟩)
    have nF : ¬ a ∈ X.outer.filterMap (·.frame) := fun hm => by
      obtain ⟨e, he, q⟩ := List.mem_filterMap.mp hm
      exact nfr (List.mem_filterMap.mpr ⟨e, List.mem_cons_of_mem X.env he, q⟩)
    have S3 := J3.suite he3 hd3 na nL nF
    have LM := PySem.W.exm_one (M := model X.prog X.w) J3.kIn (fun A Q E s k q => wpAny_typeOf_ref (k a oe3 he3) (by rw [hz3.left]; exact q)) hb1
    refine wpAny_handleBy_cons (codeAny_handlers_test (ld_glob S3 hg hm (PySem.W.Looks.here LM ?_) hdbg)) (fun q => by cases q)
    cases b with
    | true =>
      refine codeAny_handlers_suite_as (HandSPX.lands_againZ fl3 fun h4 fl4 up4 => ?_)
      have J4 : L2.Inv X pins σ' H' { heap := h4, gens := s'.gens, drawn := s'.drawn, toks := s'.toks, os := s'.os } := J.landed nb fl4.left (Heap.UpToSlots.trans (Heap.UpToSlots.trans up up3) up4) os ag
      obtain ⟨oe4, vs4, he4, hz4, hd4⟩ := HandSPX.FlyingZ.there fl4
      have S4 := J4.suite he4 hd4 na nL nF
      refine store_ok (X := X.suite a ((a, oe4) :: (X.pn ++ pins))) S4 hN hi hloc (show RelV (.ref a) (Value.ref a) from rfl) (fun s5 S5 => wpAny_mono ((hsu a oe4 cls d (X.pn ++ pins) hz4 ⟨vs4, hd4⟩).run [] s5 _ H' _ S5 (hyes rfl a na)) (fun f s6 hsp => ?_) (fun _ _ z => z.elim)) (Or.inr hln)
      cases f with
      | next =>
        obtain ⟨σ6, H6, S6, q6⟩ := hsp
        exact gone_ok (S6.unsuite ok) hN hi hln fun s7 J7 => ⟨σ6.set i none, H6, J7, q6⟩
      | brk =>
        obtain ⟨σ6, H6, S6, q6⟩ := hsp
        exact gone_ok (S6.unsuite ok) hN hi hln fun s7 J7 => ⟨σ6.set i none, H6, J7, q6⟩
      | cont =>
        obtain ⟨σ6, H6, S6, q6⟩ := hsp
        exact gone_ok (S6.unsuite ok) hN hi hln fun s7 J7 => ⟨σ6.set i none, H6, J7, q6⟩
      | ret u =>
        obtain ⟨v6, σ6, H6, S6, r6, q6⟩ := hsp
        exact gone_ok (S6.unsuite ok) hN hi hln fun s7 J7 => ⟨v6, σ6.set i none, H6, J7, r6, q6⟩
    | false =>
      obtain ⟨hb2, hy2⟩ := hno rfl
      have LM2 := PySem.W.exm_one (M := model X.prog X.w) J3.kIn (fun A Q E s k q => wpAny_typeOf_ref (k a oe3 he3) (by rw [hz3.left]; exact q)) hb2
      refine wpAny_handleBy_cons (codeAny_handlers_test (ld_glob S3 hg2 hm2 (PySem.W.Looks.here LM2 ?_) hdbg2)) (fun q => by cases q)
      refine codeAny_handlers_suite (HandSPX.lands_againZ fl3 fun h4 fl4 up4 => ?_)
      have J4 : L2.Inv X pins σ' H' { heap := h4, gens := s'.gens, drawn := s'.drawn, toks := s'.toks, os := s'.os } := J.landed nb fl4.left (Heap.UpToSlots.trans (Heap.UpToSlots.trans up up3) up4) os ag
      obtain ⟨oe4, vs4, he4, hz4, hd4⟩ := HandSPX.FlyingZ.there fl4
      have S4 := J4.suite he4 hd4 na nL nF
      refine wpAny_mono ((hsu2 a oe4 cls d (X.pn ++ pins) hz4 ⟨vs4, hd4⟩).run [] _ σ' H' D S4 (hy2 a na)) (fun f s6 hsp => ?_) (fun _ _ z => z.elim)
      cases f with
      | next =>
        obtain ⟨σ6, H6, S6, q6⟩ := hsp
        exact ⟨σ6, H6, S6.unsuite ok, q6⟩
      | brk =>
        obtain ⟨σ6, H6, S6, q6⟩ := hsp
        exact ⟨σ6, H6, S6.unsuite ok, q6⟩
      | cont =>
        obtain ⟨σ6, H6, S6, q6⟩ := hsp
        exact ⟨σ6, H6, S6.unsuite ok, q6⟩
      | ret u =>
        obtain ⟨v6, σ6, H6, S6, r6, q6⟩ := hsp
        exact ⟨v6, σ6, H6, S6.unsuite ok, r6, q6⟩
  · cases f with
    | next =>
      obtain ⟨σ', H', J', q⟩ := hsp
      exact wpAny_execs_nil ⟨σ', H', J'.ofTry ok, q⟩
    | brk =>
      obtain ⟨σ', H', J', q⟩ := hsp
      exact ⟨σ', H', J'.ofTry ok, q⟩
    | cont =>
      obtain ⟨σ', H', J', q⟩ := hsp
      exact ⟨σ', H', J'.ofTry ok, q⟩
    | ret u =>
      obtain ⟨v, σ', H', J', r, q⟩ := hsp
      exact ⟨v, σ', H', J'.ofTry ok, r, q⟩
end Cv

namespace Cv
open PySem PySem.Spec PyProof.Rows L2 RZ
theorem set4 {α : Type} {σ : List α} {j k : Nat} {a b x y : α} : ((((σ.set k b).set j a).set j x).set k y) = (σ.set j x).set k y := by
  apply List.ext_getElem?
  intro i
  simp only [List.getElem?_set, List.length_set]
  by_cases h1 : k = i
  · simp [h1]
  · by_cases h2 : j = i
    · simp [h1, h2]
    · simp [h1, h2]
theorem set6 {α : Type} {σ : List α} {j k : Nat} {a b x y : α} : ((((((σ.set k b).set j a).set j x).set k y).set k b).set j a) = (σ.set k b).set j a := by
  apply List.ext_getElem?
  intro i
  simp only [List.getElem?_set, List.length_set]
  by_cases h1 : k = i
  · simp [h1]
  · by_cases h2 : j = i
    · simp [h1, h2]
    · simp [h1, h2]
theorem wipe2 (σ : L2.St) (j k : Nat) (x y : V) : wipe (((wipe σ [j, k]).set j (some x)).set k (some y)) [j, k] = wipe σ [j, k] := by
  show ((((((σ.set k none).set j none).set j (some x)).set k (some y)).set k none).set j none) = ((σ.set k none).set j none)
  exact set6
section
variable {d : Option Addr} {X : Cx} {B : Hp} {ρ ρ' : Ro d} {a b c e iter elt : Expr} {es : List Expr} {R R' Ra Rb : Rp d} {Rs : List (Rp d)} {pos : Pos} {m n : Int} {st : Stmt} {rest body orelse : List Stmt} {Pre Mid : L2.St → Hp → Prop} {Po : Ends}
/-- [elt for x, y in zip(a, b)], tuples of one length -/
theorem x_lcZ {ds es' : List D} (j k : Nat) {x y : Str} {kk : Nat} {scope : Scope} {tpos p1 p2 p p3 : Pos} (P : Nat → D → Prop) (hg : Gl X "zip") (hm : X.mg "zip" = none) (ha : EX X B ρ a (dat X.K (.t ds))) (hb' : EX X B ρ b (dat X.K (.t es'))) (hlen : ds.length = es'.length) (hn : ds.length < 2000) (hN : X.N.Nodup) (hok : BlkOk X.N X.env.scope scope [(x, j), (y, k)])
    (hgn : ∀ (s : Shared) (H : Hp) (C : Addr) (cl : List (Str × Addr)) (fp : List Addr), PG (X.blk s H scope (compEnvC scope cl C X.env) fp) (.Tuple [.Name x p1, .Name y p2] kk tpos) (gTup X.K 2 (gCons (gName j) (gCons (gName k) gNil))))
    (hb : ∀ (s : Shared) (H : Hp) (C : Addr) (cl : List (Str × Addr)) (fp : List Addr) (i : Nat) (w u : D), ds[i]? = some w → es'[i]? = some u → EX (X.blk s H scope (compEnvC scope cl C X.env) fp) B ((ρ.set j (some (dat X.K w))).set k (some (dat X.K u))) elt (dE X.K (P i)))
    (hc : X.calm = true := by rfl) (he : starEach [a, b] X.env = (false, eval a X.env) :: starEach [b] X.env := by rfl) (he2 : starEach [b] X.env = (false, eval b X.env) :: starEach [] X.env := by rfl) (hpl : (backTo p3 (starEach [b] X.env)).any (·.1) = false := by rfl) (hs : ∀ x, foldedSetIterable (.Call (.Name "zip" p) [a, b] [] p3) X.env x = pure x := by intro _; rfl) :
    EX X B ρ (.ListComp elt [⟨.Tuple [.Name x p1, .Name y p2] kk tpos, .Call (.Name "zip" p) [a, b] [] p3, [], 0⟩] scope pos) (newE B X.K fun fs => fs.length = ds.length ∧ ∀ k w, fs[k]? = some w → P k w) := by
  refine PE_wk (pe_lc (own := [(x, j), (y, k)]) (g := gTup X.K 2 (gCons (gName j) (gCons (gName k) gNil))) (tt := tYes) (te := tElt (Z := Nat × D × D) B X.K (fun z => (ρ.set j (some (dat X.K z.2.1))).set k (some (dat X.K z.2.2))) (fun z => ds[z.1]? = some z.2.1 ∧ es'[z.1]? = some z.2.2) (fun z => P z.1)) hc hN (pi_zipA hg hm (a_cons ha (a_cons hb' a_nil he2) he) he hpl) hok hgn (fun _ _ _ _ _ => pts_nil) (fun s H C cl fp => elt_of fun z hz => hb s H C cl fp z.1 z.2.1 z.2.2 hz.1 hz.2) hs) fun σ H Q ⟨s, q⟩ => ⟨s, fun vs H1 e1 hv => ?_⟩
  obtain ⟨v, v2, rfl, hv', hv2⟩ := hv.two
  obtain ⟨t, us, rfl, h1, h2⟩ := DR.tup hv'
  obtain ⟨t2, us2, rfl, h3, h4⟩ := DR.tup hv2
  have hl : us.length = us2.length := by rw [← h2.1, ← h4.1]; exact hlen
  have s1 := s.mono e1
  refine ⟨t, t2, us, us2, rfl, .inr ⟨h1, h3, fun Dl hD => ?_⟩⟩
  obtain ⟨hB, hDd⟩ := s1.fresh hD
  refine ⟨fun i m H => m = us.length - i ∧ i ≤ us.length ∧ Lc H1 X.K Dl d P i H, ⟨us.length, rfl, Nat.zero_le _, Ext.new hD, [], [], upd_same, DRl.nil, rfl, fun k w h => by cases h⟩, ?_⟩
  rintro i m H' ⟨rfl, hi, L⟩
  by_cases hlt : i < us.length
  · refine .inr ⟨⟨us, us2, us[i], us2[i]'(by omega), L.1.tk.sqT h1, L.1.tk.sqT h3, List.getElem?_eq_getElem hlt, List.getElem?_eq_getElem (by omega)⟩, fun H'' => Lc H1 X.K Dl d P (i + 1) H'', fun H'' p => ⟨us.length - (i + 1), by omega, rfl, hlt, p⟩, fun v H'' yl => ?_⟩
    obtain ⟨T, x', y', rfl, hT, rfl, f1, f2⟩ := yl
    obtain ⟨w, hw, hr⟩ := h2.getV (f1 us (L.1.tk.sqT h1))
    obtain ⟨u, hu, hr2⟩ := h4.getV (f2 us2 (L.1.tk.sqT h3))
    have eT : Ext d H' (upd H' T (.tup [x', y'])) := Ext.new hT
    have kT := L.1.tk.trans eT.tk
    have s2 := (s1.mono L.1).mono eT
    refine ⟨T, [x', y'], rfl, SqT.of upd_same, rfl, x', [y'], rfl, y', [], rfl, rfl, wipe2 _ _ _ _ _, (i, w, u), ⟨hw, hu⟩, ?_, fun y H2 e2 hy => lc_step hD hDd L (eT.trans e2) hy (by rw [h2.1] at hn; omega)⟩
    have e : ((wipe σ [j, k]).set j (some x')).set k (some y') = (σ.set j (some x')).set k (some y') := by
      show ((((σ.set k none).set j none).set j (some x')).set k (some y')) = _
      exact set4
    show St B _ (((wipe σ [j, k]).set j (some x')).set k (some y')) _
    rw [e]
    exact ⟨s2.ext, s2.dr, (s2.good.set j (R := dat X.K w) (hr.tk kT)).set k (R := dat X.K u) (hr2.tk kT)⟩
  · obtain ⟨h0, vs, fs, g1, g2, g3, g4⟩ := L
    exact .inl ⟨⟨us, us2, h0.tk.sqT h1, h0.tk.sqT h3, .inl (by omega)⟩, q _ H' (e1.trans h0) ⟨fs, ⟨by rw [g3, h2.1]; omega, g4⟩, Dl, hB, rfl, hDd, vs, g1, g2⟩⟩
/-- x.extend(a new list), x in slot i -/
theorem bx_extend (i : Nat) {x : Str} {p1 p2 p3 p4 : Pos} {K : PySem.W.Frag} {l : Addr} {ds es' : List D} (hi : ρ[i]? = some (some (own K l ds))) (hK : X.K = K) (he : EX X B ρ e (newL B K es')) (hB : B l = none) (hb : IndBut l i ρ) (hz : ds.length + es'.length ≤ 1000) (h : BX X rest (St B (ρ.set i (some (own K l (ds ++ es'))))) Po)
    (hN : X.N[i]? = some x := by rfl) (hv : Vis X.env.scope x := by first | exact Or.inl rfl | exact Or.inr (Or.inl rfl) | exact Or.inr (Or.inr rfl)) (hd : (x == ("__debug__" : Str)) = false := by decide) (hcd : (x == ("__classdict__" : Str)) = false := by decide)
    (hbase : attributeBase (.Name x p1) "extend" X.env (eval (.Name x p1) X.env) = eval (.Name x p1) X.env := by rfl)
    (hfew : ((backTo p3 (starEach (e :: []) X.env)).all (fun x => !x.1) && (backToKw p3 (keywordEach [] X.env)).all (fun x => x.1.isSome)
      && decide ((e :: []).length + ([] : List Keyword).length + (if ([] : List Keyword).isEmpty then 0 else 1) < 30)) = true := by rfl)
    (hline : (p2.endLine == p3.line) = true := by rfl) (hs : starEach (e :: []) X.env = (false, eval e X.env) :: starEach [] X.env := by rfl) (hplain : (backTo p3 (starEach [] X.env)).any (·.1) = false := by rfl)
    (hsw : swapsWith (.Call (.Attribute (.Name x p1) "extend" p2) [e] [] p3) none p4.line X.env = pure false := by rfl) :
    BX X (.Expr (.Call (.Attribute (.Name x p1) "extend" p2) [e] [] p3) p4 :: rest) (St B ρ) Po := by
  subst hK
  refine bx_cons (Mid := St B (ρ.set i (some (own X.K l (ds ++ es'))))) ?_ h
  refine PS_wk (ps_expr (pe_bm PySem.F.plainAttrs_list PySem.F.slot_list_extend PySem.F.type_list_extend mt_extend (pe_var hN hv hd hcd) (a_cons he a_nil hs) hbase hfew hline hs hplain) hsw) fun E σ H ⟨s, q⟩ => ?_
  obtain ⟨v, h1, rfl, hl, vs, h2, h3⟩ := s.good.get hi
  refine ⟨_, h1, Or.inl ⟨rfl, _, SqL.of h2⟩, s, fun us H1 e1 hus => ?_⟩
  obtain ⟨y, rfl, l2, _, rfl, _, us2, g1, g3⟩ := hus.one
  have s1 := s.mono e1
  have g2 := e1.at h2 hl
  refine ⟨l, l2, vs, us2, rfl, rfl, g2, g1, by rw [← h3.1, ← g3.1]; exact Nat.le_of_lt (small1000 hz), ?_⟩
  exact q.nx σ _ (e1.tk.trans (Tk.lst g2)) (st_own s1 hi hB hb ((h3.tk e1.tk).app g3))
/-- for x, y in xs, its items pairs -/
theorem bx_forL2 {α : Type} {ds : List D} {la : Addr} (j k : Nat) {x y : Str} {kk : Nat} {tpos p1 p2 : Pos} (P : Nat → α → Prop) (r : Nat → α → Ro d) (hi : EX X B ρ iter (lstA X.K la ds)) (h0 : ∀ σ H, St B ρ σ H → IS B (P 0) (r 0) σ H)
    (hl : ∀ i z, P i z → ∃ (k : Nat) (R : Rp d), (r i z)[k]? = some (some R) ∧ ∀ v H, R.p v H → (lstA (d := d) X.K la ds).p v H) (hd : ∀ (i : Nat) w, ds[i]? = some w → ∃ A C, w = .t [A, C])
    (hb : ∀ (i : Nat) A C z, ds[i]? = some (.t [A, C]) → P i z → BX X body (St B (((r i z).set j (some (dat X.K A))).set k (some (dat X.K C)))) (Lp Po (IS B (P (i + 1)) (r (i + 1))) (IS B (P ds.length) (r ds.length)))) (h : BX X rest (IS B (P ds.length) (r ds.length)) Po)
    (hN : X.N.Nodup) (hp : PassesOwn (model X.prog X.w) X.A X.env X.xe) (hj : X.N[j]? = some x := by rfl) (hk : X.N[k]? = some y := by rfl) (hc : X.calm = true := by rfl) (hx : Loc X.env.scope x := by first | exact Or.inl rfl | exact Or.inr rfl) (hy : Loc X.env.scope y := by first | exact Or.inl rfl | exact Or.inr rfl)
    (hf : X.fn x = true ∨ X.env.scope.names.lookup x = some .local := by first | exact .inl rfl | exact .inr rfl | assumption) (hfy : X.fn y = true ∨ X.env.scope.names.lookup y = some .local := by first | exact .inl rfl | exact .inr rfl | assumption) (hs : ∀ x, foldedSetIterable iter X.env x = pure x := by intro _; rfl) :
    BX X (.For (.Tuple [.Name x p1, .Name y p2] kk tpos) iter body [] pos :: rest) (St B ρ) Po := by
  refine bx_cons (Mid := IS B (P ds.length) (r ds.length)) ?_ h
  refine PS_wk (t := tFor (iList X.K fun σ H Q => St B ρ σ H ∧ ∀ v H', Ext d H H' → (lstA X.K la ds).p v H' → Q v H') (gTup X.K 2 (gCons (gName j) (gCons (gName k) gNil))) (tBody (Z := Nat × D × D × α) B (fun z => ((r z.1 z.2.2.2).set j (some (dat X.K z.2.1))).set k (some (dat X.K z.2.2.1))) (fun z => ds[z.1]? = some (.t [z.2.1, z.2.2.1]) ∧ P z.1 z.2.2.2) (fun z => Lp Po (IS B (P (z.1 + 1)) (r (z.1 + 1))) (IS B (P ds.length) (r ds.length)))))
    (ps_for hp hc (pi_list hi) (pg_tup hc (pgs_cons (pg_name hN hj hx hf) (pgs_cons (pg_name hN hk hy hfy) pgs_nil))) ⟨fun pins s σ H E I ⟨⟨i, A, C, z⟩, ⟨hw, hz⟩, q, l⟩ => (hb i A C z hw hz).run pins s σ H E I ⟨q, l⟩⟩ hs) fun E σ H ⟨s, l⟩ => ⟨s, fun v H1 e1 hv => ?_⟩
  obtain ⟨rfl, hld, us, h1, h2⟩ := hv
  refine ⟨la, rfl, ⟨us, h1.sq⟩, ?_⟩
  have key : ∀ i σ H, IS B (P i) (r i) σ H → ∃ vs, SqL X.K H la vs ∧ DRl X.K H ds vs := fun i σ H ⟨z, hz, q⟩ => by
    obtain ⟨k, R, hk, hR⟩ := hl i z hz
    obtain ⟨v, _, g⟩ := q.good.get hk
    obtain ⟨_, _, vs, a1, a2⟩ := hR v H g
    exact ⟨vs, a1.sq, a2⟩
  refine ⟨fun i m σ H => m = ds.length - i ∧ i ≤ ds.length ∧ Tk H1 H ∧ IS B (P i) (r i) σ H, ⟨ds.length, rfl, Nat.zero_le _, Tk.refl _, h0 _ _ (s.mono e1)⟩, ?_⟩
  rintro i m σ H ⟨rfl, hi', k', q⟩
  obtain ⟨vs, a1, a2⟩ := key i σ H q
  by_cases hlt : i < ds.length
  · have hv : i < vs.length := by rw [← a2.1]; exact hlt
    refine .inr ⟨⟨vs, vs[i], a1, List.getElem?_eq_getElem hv⟩, fun σ' H' => Tk H1 H' ∧ IS B (P (i + 1)) (r (i + 1)) σ' H', fun σ' H' p' => ⟨ds.length - (i + 1), by omega, rfl, hlt, p'.1, p'.2⟩, fun x H' y => ?_⟩
    obtain ⟨rfl, y⟩ := y
    obtain ⟨w, hw, hr⟩ := a2.getV (y vs a1)
    obtain ⟨A, C, rfl⟩ := hd i w hw
    obtain ⟨z, hz, q⟩ := q
    obtain ⟨t, ws, rfl, g1, g2⟩ := DR.tup hr
    match ws, g2 with
    | [w1, w2], g2 =>
      refine ⟨t, [w1, w2], rfl, g1, rfl, w1, [w2], rfl, w2, [], rfl, rfl, (i, A, C, z), ⟨hw, hz⟩, ⟨q.ext, q.dr, (q.good.set j (R := dat X.K A) (g2.2 0 A w1 rfl rfl)).set k (R := dat X.K C) (g2.2 1 C w2 rfl rfl)⟩, ?_⟩
      exact ⟨fun σ' H' k2 q' => ⟨k'.trans k2, q'⟩, fun v H' k2 q' => l.rt v H' ((e1.tk.trans k').trans k2) q', fun σ' H' k2 q' => l.nx σ' H' ((e1.tk.trans k').trans k2) q', fun σ' H' k2 q' => ⟨k'.trans k2, q'⟩⟩
    | [], g2 => exact absurd g2.1 (by simp)
    | [_], g2 => exact absurd g2.1 (by simp)
    | _ :: _ :: _ :: _, g2 => exact absurd g2.1 (by simp)
  · have e : i = ds.length := by omega
    subst e
    exact .inl ⟨⟨vs, a1, by rw [← a2.1]; exact Nat.le_refl _⟩, l.nx σ H (e1.tk.trans k') q⟩
/-- for x, (y, z) in enumerate(xs), its items pairs -/
theorem bx_forEL2 {α : Type} {ds : List D} {la : Addr} (j k l0 : Nat) {x y z : Str} {kk k2 : Nat} {tpos tp2 p1 p2 p4 p p3 : Pos} (P : Nat → α → Prop) (r : Nat → α → Ro d) (hg : Gl X "enumerate") (hm : X.mg "enumerate" = none) (ha : EX X B ρ a (lstA X.K la ds)) (h0 : ∀ σ H, St B ρ σ H → IS B (P 0) (r 0) σ H)
    (hl : ∀ i z, P i z → ∃ (k : Nat) (R : Rp d), (r i z)[k]? = some (some R) ∧ ∀ v H, R.p v H → (lstA (d := d) X.K la ds).p v H) (hd : ∀ (i : Nat) w, ds[i]? = some w → ∃ A C, w = .t [A, C])
    (hb : ∀ (i : Nat) A C z, ds[i]? = some (.t [A, C]) → P i z → BX X body (St B ((((r i z).set j (some (rI (i : Int)))).set k (some (dat X.K A))).set l0 (some (dat X.K C)))) (Lp Po (IS B (P (i + 1)) (r (i + 1))) (IS B (P ds.length) (r ds.length)))) (h : BX X rest (IS B (P ds.length) (r ds.length)) Po)
    (hN : X.N.Nodup) (hp : PassesOwn (model X.prog X.w) X.A X.env X.xe) (hj : X.N[j]? = some x := by rfl) (hk : X.N[k]? = some y := by rfl) (hz : X.N[l0]? = some z := by rfl) (hc : X.calm = true := by rfl) (hx : Loc X.env.scope x := by first | exact Or.inl rfl | exact Or.inr rfl) (hy : Loc X.env.scope y := by first | exact Or.inl rfl | exact Or.inr rfl) (hlz : Loc X.env.scope z := by first | exact Or.inl rfl | exact Or.inr rfl)
    (hf : X.fn x = true ∨ X.env.scope.names.lookup x = some .local := by first | exact .inl rfl | exact .inr rfl | assumption) (hfy : X.fn y = true ∨ X.env.scope.names.lookup y = some .local := by first | exact .inl rfl | exact .inr rfl | assumption) (hfz : X.fn z = true ∨ X.env.scope.names.lookup z = some .local := by first | exact .inl rfl | exact .inr rfl | assumption)
    (he : starEach [a] X.env = [(false, eval a X.env)] := by rfl) (hs : ∀ x, foldedSetIterable (.Call (.Name "enumerate" p) [a] [] p3) X.env x = pure x := by intro _; rfl) :
    BX X (.For (.Tuple [.Name x p1, .Tuple [.Name y p2, .Name z p4] k2 tp2] kk tpos) (.Call (.Name "enumerate" p) [a] [] p3) body [] pos :: rest) (St B ρ) Po := by
  refine bx_cons (Mid := IS B (P ds.length) (r ds.length)) ?_ h
  refine PS_wk (t := tFor (iEnum X.K fun σ H Q => St B ρ σ H ∧ ∀ vs H', Ext d H H' → RsH [lstA X.K la ds] vs H' → Q vs H') (gTup X.K 2 (gCons (gName j) (gCons (gTup X.K 2 (gCons (gName k) (gCons (gName l0) gNil))) gNil))) (tBody (Z := Nat × D × D × α) B (fun z => (((r z.1 z.2.2.2).set j (some (rI (z.1 : Int)))).set k (some (dat X.K z.2.1))).set l0 (some (dat X.K z.2.2.1))) (fun z => ds[z.1]? = some (.t [z.2.1, z.2.2.1]) ∧ P z.1 z.2.2.2) (fun z => Lp Po (IS B (P (z.1 + 1)) (r (z.1 + 1))) (IS B (P ds.length) (r ds.length)))))
    (ps_for hp hc (pi_enum hg hm (a_cons ha a_nil he) he) (pg_tup hc (pgs_cons (pg_name hN hj hx hf) (pgs_cons (pg_tup hc (pgs_cons (pg_name hN hk hy hfy) (pgs_cons (pg_name hN hz hlz hfz) pgs_nil))) pgs_nil))) ⟨fun pins s σ H E I ⟨⟨i, A, C, z⟩, ⟨hw, hz⟩, q, l⟩ => (hb i A C z hw hz).run pins s σ H E I ⟨q, l⟩⟩ hs) fun E σ H ⟨s, l⟩ => ⟨s, fun vs H1 e1 hv => ?_⟩
  obtain ⟨v, rfl, hv'⟩ := hv.one
  obtain ⟨rfl, hld, us, h1, h2⟩ := hv'
  have key : ∀ i σ H, IS B (P i) (r i) σ H → ∃ vs, SqL X.K H la vs ∧ DRl X.K H ds vs := fun i σ H ⟨z, hz, q⟩ => by
    obtain ⟨k, R, hk, hR⟩ := hl i z hz
    obtain ⟨v, _, g⟩ := q.good.get hk
    obtain ⟨_, _, vs, a1, a2⟩ := hR v H g
    exact ⟨vs, a1.sq, a2⟩
  refine ⟨la, us, rfl, h1.sq, fun i m σ H => m = ds.length - i ∧ i ≤ ds.length ∧ Tk H1 H ∧ IS B (P i) (r i) σ H, ⟨ds.length, rfl, Nat.zero_le _, Tk.refl _, h0 _ _ (s.mono e1)⟩, ?_⟩
  rintro i m σ H ⟨rfl, hi, kk, q⟩
  obtain ⟨vs, a1, a2⟩ := key i σ H q
  by_cases hlt : i < ds.length
  · have hv : i < vs.length := by rw [← a2.1]; exact hlt
    refine .inr ⟨⟨vs, vs[i], a1, List.getElem?_eq_getElem hv⟩, fun σ' H' => Tk H1 H' ∧ IS B (P (i + 1)) (r (i + 1)) σ' H', fun σ' H' p' => ⟨ds.length - (i + 1), by omega, rfl, hlt, p'.1, p'.2⟩, fun v H' yl => ?_⟩
    obtain ⟨T, x', rfl, hT, rfl, f1⟩ := yl
    obtain ⟨w, hw, hr⟩ := a2.getV (f1 vs a1)
    obtain ⟨A, C, rfl⟩ := hd i w hw
    obtain ⟨z, hz, q⟩ := q
    have eT : Ext d H (upd H T (.tup [.int (i : Nat), x'])) := Ext.new hT
    have kT := kk.trans eT.tk
    obtain ⟨t, ws, rfl, g1, g2⟩ := DR.tup (hr.tk eT.tk)
    match ws, g2 with
    | [w1, w2], g2 =>
      refine ⟨T, [.int (i : Nat), .ref t], rfl, SqT.of upd_same, rfl, .int (i : Nat), [.ref t], rfl, .ref t, [], rfl, ⟨t, [w1, w2], rfl, g1, rfl, w1, [w2], rfl, w2, [], rfl, rfl, rfl, (i, A, C, z), ⟨hw, hz⟩, ⟨(q.mono eT).ext, (q.mono eT).dr, (((q.mono eT).good.set j (R := rI (i : Int)) rfl).set k (R := dat X.K A) (g2.2 0 A w1 rfl rfl)).set l0 (R := dat X.K C) (g2.2 1 C w2 rfl rfl)⟩, ?_⟩⟩
      exact ⟨fun σ' H' k' q' => ⟨kT.trans k', q'⟩, fun v H' k' q' => l.rt v H' ((e1.tk.trans kT).trans k') q', fun σ' H' k' q' => l.nx σ' H' ((e1.tk.trans kT).trans k') q', fun σ' H' k' q' => ⟨kT.trans k', q'⟩⟩
    | [], g2 => exact absurd g2.1 (by simp)
    | [_], g2 => exact absurd g2.1 (by simp)
    | _ :: _ :: _ :: _, g2 => exact absurd g2.1 (by simp)
  · have e' : i = ds.length := by omega
    subst e'
    exact .inl ⟨⟨vs, a1, by rw [← a2.1]; exact Nat.le_refl _⟩, l.nx σ H (e1.tk.trans kk) q⟩
end
end Cv

set_option maxHeartbeats 4000000
namespace PySem
namespace LowX
open PySem.W PySem.Calls PyProof.Rows PySem.HandSPX
/-! ### the text of __init__ -/
def iA (p1 p2 : Pos) : Arguments := { posonlyargs := [], args := [{ arg := "self", annotation := none, pos := p1 }, { arg := "position", annotation := none, pos := p2 }], vararg := none, kwonlyargs := [], kw_defaults := [], kwarg := none, defaults := [] }
def iB (q1 q2 q3 q4 : Pos) : List Stmt := [.Assign [.Attribute (.Name "self" q1) "position" q2] (.Name "position" q3) q4]
def iS : Scope := { kind := .function, names := [(PySem.Str.ofString "self", .local), (PySem.Str.ofString "position", .local)], isGenerator := false, isCoroutine := false, more := [] }
/-- what the written part says of Low, at C, and of its __init__, at fI -/
structure LowTxt (K : Frag) (mg : Str → Option Value) (C fI : Addr) : Prop where
  gC : mg "NotEnabled" = some (.ref C)
  cls : ∃ nm q N bs bm sn sub ab col dd k0 k1 k2 k3 k5, K.lookup C = some (excClassObj nm q C N bs bm true sn sub ab col dd k0 k1 k2 k3 k5 "ValueError.__new__") ∧ refsVE bm = true
  sa : findIn K (.ref C) "__setattr__" = some (some (.builtin "object.__setattr__"))
  ga : findIn K (.ref C) "__getattribute__" = some (some (.builtin "BaseException.__getattribute__"))
  gg : findIn K (.ref C) "__getattr__" = some none
  noN : findIn K (.ref C) "position" = some none
  iC : findIn K (.ref C) "__init__" = some (some (.ref fI))
  tC : typeIn K (.ref fI) = some (.type "function")
  kC : keepIn K (.ref C) = true
  exC : subIn K (.ref C) (.type "BaseException") = some true
  tyC : typeIn K (.ref C) = some (.type "type")
  hdC : hasDictIn K C = true
  te : exmOne K (.ref C) (.ref C) = some true
  fn : ∃ (oc : Value) (od : Option Addr) (doc pm : Value) (an : Option Addr) (cdv ct : Value) (osl : Array (Option Value)) (p1 p2 q1 q2 q3 q4 : Pos),
    K.lookup fI = some ⟨oc, od, .func (fnOf "__init__" "NotEnabled.__init__" (iA p1 p2) (iB q1 q2 q3 q4) iS .none .none doc pm an cdv ct), osl⟩ ∧ codeIn K cdv "NotEnabled.__init__" = true
theorem one_size (v : Value) : [v].length ≤ sizeLine := by
  rw [sizeLine_eq]
  exact (by decide : 1 ≤ 16777216)
theorem kept_but {K : Frag} {h h' : Heap} {x : Addr} (X : K.In h) (hx : K.lookup x = none) (k : ∀ b o, b ≠ x → h.get? b = some o → h'.get? b = some o) : K.In h' := fun a o e =>
  k a o (fun z => by rw [z, hx] at e; cases e) (X a o e)
theorem ldC {M : Model} {s : Shared} {name : Str} {scope : Scope} {L a : Addr} {cd : Value} {m : Str → Option Value} {x : Str} {pos : Pos} {v : Value} {Q : Value → Shared → Prop} {A : Around} {E : Value → Shared → Prop} (hn : s.heap.Ns L m) (hv : m x = some v) (h : Q v s)
    (hk : scope.kind = .function := by rfl) (hl : (envOfC name scope L a cd).kindOf x = some .local := by rfl) (hd : (x == ("__debug__" : Str)) = false := by decide) :
    wpAny M A (eval (.Name x pos) (envOfC name scope L a cd)) Q E s := wpAny_Name (wpAny_loadName_local hk hl hn hv h) hd
/-- what __init__ leaves of a fresh exception at x -/
structure InitEnd (h h' : Heap) (x C dx t1 : Addr) (v : Value) : Prop where
  keep : ∀ b o, b ≠ x → h.get? b = some o → h'.get? b = some o
  obj : h'.get? x = some { cls := .ref C, dict := some dx, data := .fields #[.ref t1, .none, .none, .none, .bool false, .none] }
  dbig : h.objs.size ≤ dx
  dne : dx ≠ x
  ns : h'.Ns1 dx (fun y => if y = "position" then some v else none)
/-- a made Low -/
structure OwnMade (h h' : Heap) (e C d : Addr) (v : Value) : Prop where
  keep : ∀ b o, h.get? b = some o → h'.get? b = some o
  new : h.objs.size ≤ e
  obj : ∃ oe vs, h'.get? e = some oe ∧ oe.cls = .ref C ∧ oe.dict = some d ∧ oe.data = .fields vs ∧ vs[1]? = some .none ∧ vs[2]? = some .none
  dbig : h.objs.size ≤ d
  dne : d ≠ e
  ns : h'.Ns1 d (fun y => if y = "position" then some v else none)
section
variable {prog : Program} {w : World} {A : Around} {E : Value → Shared → Prop} {R : Result → Shared → Prop} {s : Shared} {K : Frag} {mg : Str → Option Value} {C fI : Addr}
theorem low_init (T : LowTxt K mg C fI) {x t0 : Addr} {v : Value} (X : K.In s.heap) (hlim : s.heap.NoLimit) (hx : s.heap.get? x = some (excO C t0)) (hnx : K.lookup x = none) (hroom : A.depth < recursionLimit)
    (hq : ∀ h' tk dx, InitEnd s.heap h' x C dx t0 v → R (.ok (.ret .none)) { s with heap := h', toks := tk }) :
    codeAny (model prog w) A (.call (.ref fI) ⟨[.ref x, v], []⟩) R s := by
  obtain ⟨oc, od, doc, pm, an, cdv, ct, osl, p1, p2, q1, q2, q3, q4, ho, hcd⟩ := T.fn
  obtain ⟨nm, q, N, bs, bm, sn, sub, ab, col, dd, k0, k1, k2, k3, k5, hC, hbm⟩ := T.cls
  have hcl : clsIn K C = some { name := nm, bases := bs, mro := .ref C :: bm, ns := N, qualname := q, hasDict := true, slotNames := sn, subclasses := sub, abstract := ab, collection := col, hasDel := false } := by unfold clsIn; rw [hC] <;> rfl
  refine Att.call_fn (binds := [("self", .ref x), ("position", v)]) X hlim ho hcd hroom (BindsTo.of_eq (by first | rfl | with_unfolding_all rfl)) (by first | rfl | decide | with_unfolding_all rfl) (fun s₁ IC => ?_) rfl rfl rfl
  obtain ⟨h₁, tk₁, rfl⟩ := IC.toInCall.same
  have k : ∀ b o, s.heap.get? b = some o → h₁.get? b = some o := IC.toInCall.keep
  have hn := IC.toInCall.ns
  have hxL : s.heap.objs.size ≠ x := Nat.ne_of_gt (Heap.lt_size hx)
  have X₁ : K.In h₁ := X.keeps k
  have hx₁ := k _ _ hx
  -- self.by = by
  show wpAny _ _ (execs _ _) _ _ _
  refine wpAny_execs_cons (plainObj_wpAny_Assign_Attribute ?_)
  refine ldC (v := v) hn (by first | rfl | with_unfolding_all rfl | kernel_rfl) (ldC (v := .ref x) hn (by first | rfl | with_unfolding_all rfl | kernel_rfl) ?_)
  refine set_plain X₁ (ox := excO C t0) (od := none) ⟨hx₁, rfl, rfl, trivial⟩ T.sa ?_
  refine exc_osa X₁ hx₁ hcl (show refsVE (.ref C :: bm) = true from hbm) rfl T.noN (fun h₃ tk₃ dx k₃ dn dne hx₃ hn₃ => ?_)
  show wpAny _ _ (execs _ _) _ _ _
  have z : s.heap.objs.size < h₁.objs.size := hn.lt
  exact wpAny_execs_nil (hq h₃ tk₃ dx ⟨fun b o hb e => k₃ b o hb (k b o e), hx₃, Nat.le_of_lt (Nat.lt_of_lt_of_le z dn), dne, hn₃⟩)
theorem low_made (T : LowTxt K mg C fI) {v : Value} (X : K.In s.heap) (hlim : s.heap.NoLimit) (hroom : A.depth + 1 < recursionLimit)
    (hq : ∀ h' tk e d, OwnMade s.heap h' e C d v → R (.ok (.ret (.ref e))) { s with heap := h', toks := tk }) :
    codeAny (model prog w) A (.call (.ref C) ⟨[v], []⟩) R s := by
  obtain ⟨nm, q, N, bs, bm, sn, sub, ab, col, dd, k0, k1, k2, k3, k5, hC, hbm⟩ := T.cls
  obtain ⟨hp, g, dr, tk, os⟩ := s
  have k : ∀ b o, hp.get? b = some o → ((hp.push (kdv_tup [v])).push (excO C hp.objs.size)).get? b = some o := fun b o e => Heap.get?_push_of_some _ (Heap.get?_push_of_some _ e)
  have hget : ((hp.push (kdv_tup [v])).push (excO C hp.objs.size)).get? (hp.objs.size + 1) = some (excO C hp.objs.size) := by heap_get
  have hnx : K.lookup (hp.objs.size + 1) = none := by
    cases e : K.lookup (hp.objs.size + 1) with
    | none => rfl
    | some o =>
      have z : hp.get? (hp.objs.size + 1) = some o := X _ _ e
      exact absurd (Nat.lt_of_succ_lt (Heap.lt_size z)) (Nat.lt_irrefl _)
  refine call_own F.excBase_ValueError (fun X => refsVE_contains X bm hbm) (X _ _ hC) (looks_findIn X T.iC) (fun self => bind_fn X self T.tC) (one_size v) ?_
  refine low_init (s := ⟨(hp.push (kdv_tup [v])).push (excO C hp.objs.size), g, dr, tk, os⟩) T (X.keeps k) (hlim.keeps k) hget hnx ?_ fun h' tk' dx ⟨k', hx, dn, dne, hns⟩ => ?_
  · show A.depth + 1 < recursionLimit
    exact hroom
  · have old : ∀ b o, hp.get? b = some o → h'.get? b = some o := fun b o e => k' b o (Nat.ne_of_lt (Nat.lt_succ_of_lt (Heap.lt_size e))) (k b o e)
    have z : hp.objs.size + 1 + 1 ≤ dx := by
      first
        | (simpa only [Heap.size_push] using dn)
        | exact dn
        | (have q := dn; rw [Heap.size_push, Heap.size_push] at q; exact q)
    exact ⟨rfl, hq h' tk' (hp.objs.size + 1) dx ⟨old, Nat.le_succ _, ⟨_, _, hx, rfl, rfl, rfl, rfl, rfl⟩, Nat.le_trans (Nat.le_trans (Nat.le_succ _) (Nat.le_succ _)) z, dne, hns⟩⟩
end
end LowX
end PySem
namespace L2
open PySem PySem.Spec PyProof.Rows
theorem relO_low {v : V} {v' : Value} (r : RelV v v') (f : Str) : RelO (List.lookup f [(("position" : Str), v)]) (if f = "position" then some v' else none) := by
  by_cases hw : f = "position"
  · subst hw
    rw [if_pos rfl]
    have q : List.lookup ("position" : Str) [(("position" : Str), v)] = some v := by simp [List.lookup]
    rw [q]
    exact r
  · rw [if_neg hw]
    have qw : (f == ("position" : Str)) = false := by simpa using hw
    have q2 : List.lookup f [(("position" : Str), v)] = none := by simp [List.lookup, qw]
    rw [q2]
    trivial
section
variable {X : Cx} {C fI : Addr}
/-- Low(e) -/
def tMkLow (C : Addr) (ta : TA) : St → Hp → XK → Prop := fun σ H Q => ta σ H fun vs H1 => ∃ v, vs = [v] ∧ ∀ d, H1 d = none → Q (.ref C) (some d) (upd H1 d (.xd [(("position" : Str), v)]))
theorem pmk_low {a : Expr} {ta : TA} {p pos : Pos} {k : Nat} (T : PySem.LowX.LowTxt X.K X.mg C fI) (hr : Room k X.A) (ha : PA X [a] ta) (hg : Gl X "NotEnabled" := by rfl)
    (he : starEach (a :: []) X.env = (false, eval a X.env) :: starEach [] X.env := by rfl) (hpl : (backTo pos (starEach [] X.env)).any (·.1) = false := by rfl) :
    L2N.PMk X (.Call (.Name "NotEnabled" p) [a] [] pos) (tMkLow C ta) := by
  intro pins s σ H Q I h
  refine wpAny_Call_Name_kw (ld_glob I hg T.gC ?_)
  refine PySem.W.callWith_K (h₀ := X.base) I.ok.mod.kin T.kC (thn (ha.run pos pins s σ H _ I h) fun us s1 hh => ?_) he hpl
  obtain ⟨vs, H1, I1, r1, v, ev, q1⟩ := hh
  subst ev
  refine ⟨I1.kIn, ?_⟩
  cases r1 with
  | cons rv rn =>
    rename_i v' us'
    cases rn
    show wpAny _ _ (call (.ref C) [v']) _ _ _
    have hlim := I1.nolimit
    obtain ⟨hp, g, dr, tk, os⟩ := s1
    refine wpAny_call (PySem.LowX.low_made T I1.kIn hlim (by have := hr.dp; omega) fun h' tk' e d M => ?_)
    show L2N.MkP X pins σ Q (.ref e) ⟨h', g, dr, tk', os⟩
    obtain ⟨oe, fv, hoe, hc, hd, hdat, h1, h2⟩ := M.obj
    have hns := M.ns
    obtain ⟨G', g1, g2⟩ := restrict h' fun b => decide (b ≠ e)
    have gk : ∀ b, b ≠ e → G'.get? b = h'.get? b := fun b hb => g1 b (decide_eq_true hb)
    have ge : G'.get? e = none := g2 e (by simp)
    have old : ∀ b o, hp.get? b = some o → G'.get? b = some o := fun b o q => (gk b (Nat.ne_of_lt (Nat.lt_of_lt_of_le (Heap.lt_size q) M.new))).trans (M.keep b o q)
    have ob : ObjOk X.prog X.w (upd H1 d (.xd [(("position" : Str), v)])) G' d (.xd [(("position" : Str), v)]) :=
      ⟨_, hns.at (fun o q => (gk d M.dne).trans q), fun f => relO_low rv f⟩
    have J : Inv X pins σ (upd H1 d (.xd [(("position" : Str), v)])) ⟨G', g, dr, tk', os⟩ := I1.laid (t' := tk') old M.dbig ob
    refine ⟨e, oe, fv, ⟨G', g, dr, tk', os⟩, _, .ref C, some d, rfl, J, fun b o q => ?_, ge, hoe, ⟨hc, hd, fun vs e => by rw [hdat] at e; cases e; exact h2⟩, hdat, h1, ?_, rfl, I1.bare, raises_own T.exC T.tyC, q1 d (I1.hok.fresh M.dbig)⟩
    · by_cases hb : b = e
      · have q' : G'.get? b = some o := q
        rw [hb, ge] at q'; cases q'
      · exact (gk b hb).symm.trans q
    · rw [upd_ne (Ne.symm M.dne)]
      exact I1.hok.fresh M.new
/-- raise Low(e) -/
def tRaiseLow (C : Addr) (W : WX) (ta : TA) : TS := fun _ σ H => tMkLow C ta σ H fun cls d H' => W cls d σ H'
theorem ps_raiseLow {a : Expr} {ta : TA} {W : WX} {p pos pos2 : Pos} {k : Nat} (hc : X.calm = true) (T : PySem.LowX.LowTxt X.K X.mg C fI) (hr : Room k X.A) (tk : L2N.Takes X W) (ha : PA X [a] ta) (hg : Gl X "NotEnabled" := by rfl)
    (he : starEach (a :: []) X.env = (false, eval a X.env) :: starEach [] X.env := by rfl) (hpl : (backTo pos (starEach [] X.env)).any (·.1) = false := by rfl) :
    PS X (.Raise (some (.Call (.Name "NotEnabled" p) [a] [] pos)) none pos2) (tRaiseLow C W ta)   := L2N.ps_raise hc tk (pmk_low T hr ha hg he hpl)
/-- low.by, low the exception that the suite holds (at a; its class cls, its dict d) -/
def tByLow (C : Addr) (a : Addr) (cls : Value) (d : Option Addr) (te : TE) : TE := fun σ H Q => te σ H fun x H1 => x = .ref a ∧ cls = .ref C ∧ ∃ (dd : Addr) (v : V), d = some dd ∧ H1 dd = some (.xd [(("position" : Str), v)]) ∧ Q v H1
theorem pe_byLow {a : Addr} {oe : Obj} {cls : Value} {d : Option Addr} {pn : List (Addr × Obj)} {e : Expr} {te : TE} {pos : Pos} (T : PySem.LowX.LowTxt X.K X.mg C fI) (hz : L2N.Zn cls d oe) (hf : ∃ vs, oe.data = .fields vs) (he : PE (X.suite a ((a, oe) :: pn)) e te)
    (hb : attributeBase e "position" X.env (eval e X.env) = eval e X.env := by rfl) :
    PE (X.suite a ((a, oe) :: pn)) (.Attribute e "position" pos) (tByLow C a cls d te) := by
  refine ⟨fun pins s σ H Q I h => ?_⟩
  refine attr_of hb (thn (he.run pins s σ H _ I h) fun u s1 hh => ?_)
  obtain ⟨x, H1, I1, rx, ex, ec, dd, v, ed, ea, q⟩ := hh
  subst ex
  obtain rfl : u = Value.ref a := rx
  subst ec
  subst ed
  obtain ⟨ha, _⟩ := I1.pin (a, oe) (List.mem_append_left _ List.mem_cons_self)
  obtain ⟨vs, hd⟩ := hf
  have hx : ObjOk X.prog X.w H1 s1.heap dd (.xd [(("position" : Str), v)]) := I1.hok dd _ ea
  obtain ⟨mA, hns, hr⟩ := hx
  obtain ⟨od, ho, hl⟩ := lookIn_ns hns
  have l : List.lookup ("position" : Str) [(("position" : Str), v)] = some v := by simp [List.lookup]
  obtain ⟨u, hu, ru⟩ := RelO.some_of (v := v) (o := mA "position") (by rw [← l]; exact hr "position")
  have J : PySem.W.InstAt s1.heap a oe C (some od) := ⟨ha, hz.1, by unfold PySem.W.notCls; rw [hd] <;> rfl, by rw [hz.2.1]; exact ho⟩
  exact HandSPX.exc_get I1.kIn J T.ga T.gg T.exC (PySem.W.findObj_own T.hdC T.noN rfl (by rw [hl, hu])) (handed_of ru) ⟨v, H1, I1.tok _, ru, q⟩
end
end L2


namespace Cv
open PySem PySem.Spec PyProof.Rows L2 RZ
section
variable {d : Option Addr} {X : Cx} {B : Hp} {ρ ρ' : Ro d} {a b c e iter elt : Expr} {es : List Expr} {R R' Ra Rb : Rp d} {Rs : List (Rp d)} {pos : Pos} {m n : Int} {st : Stmt} {rest body orelse : List Stmt} {Pre Mid : L2.St → Hp → Prop} {Po : Ends}
/-- a <= b < c -/
theorem t_chainLt {i j k : Int} (ha : EX X B ρ a (rI i)) (hb : EX X B ρ b (rI j)) (hc : EX X B ρ c (rI k)) (hm : lastMarks [CmpOp.LtE, CmpOp.Lt] [b, c] = false := by with_unfolding_all rfl) : TX X B ρ (.Compare a [.LtE, .Lt] [b, c] pos) (is (decide (i ≤ j) && decide (j < k))) :=
  PT_wk (pt_chain op_le op_lt ha hb hc hm) fun σ H Q ⟨s, q⟩ => ⟨s, fun x H1 e1 hx => ⟨s.mono e1, fun y H2 e2 hy => by
    obtain rfl : x = .int i := hx
    obtain rfl : y = .int j := hy
    refine ⟨i, j, rfl, rfl, _, rfl, ?_⟩
    by_cases h : i ≤ j
    · rw [if_pos (decide_eq_true h)]
      refine ⟨(s.mono e1).mono e2, fun z H3 e3 hz => ?_⟩
      obtain rfl : z = .int k := hz
      exact ⟨j, k, rfl, rfl, _, rfl, q _ H3 (e1.trans (e2.trans e3)) (by rw [decide_eq_true h, Bool.true_and])⟩
    · rw [if_neg (by rw [decide_eq_false h]; exact Bool.false_ne_true)]
      exact ⟨false, rfl, q _ H2 (e1.trans e2) (by rw [decide_eq_false h, Bool.false_and])⟩⟩⟩
/-- a <= b < c, c only asked where a <= b -/
theorem t_chainLtG {i j k : Int} (ha : EX X B ρ a (rI i)) (hb : EX X B ρ b (rI j)) (hc : i ≤ j → EX X B ρ c (rI k)) (hm : lastMarks [CmpOp.LtE, CmpOp.Lt] [b, c] = false := by with_unfolding_all rfl) : TX X B ρ (.Compare a [.LtE, .Lt] [b, c] pos) (is (decide (i ≤ j) && decide (j < k))) := by
  by_cases h : i ≤ j
  · exact t_chainLt ha hb (hc h) hm
  · have hc' : PE X c fun _ _ _ => False := ⟨fun pins s σ H Q I q => q.elim⟩
    exact PT_wk (pt_chain op_le op_lt ha hb hc' hm) fun σ H Q ⟨s, q⟩ => ⟨s, fun x H1 e1 hx => ⟨s.mono e1, fun y H2 e2 hy => by
      obtain rfl : x = .int i := hx
      obtain rfl : y = .int j := hy
      refine ⟨i, j, rfl, rfl, _, rfl, ?_⟩
      rw [if_neg (by rw [decide_eq_false h]; exact Bool.false_ne_true)]
      exact ⟨false, rfl, q _ H2 (e1.trans e2) (by rw [decide_eq_false h, Bool.false_and])⟩⟩⟩
/-- the same as a value -/
theorem x_chainLt {i j k : Int} (ha : EX X B ρ a (rI i)) (hb : EX X B ρ b (rI j)) (hc : EX X B ρ c (rI k)) (hm : lastMarks [CmpOp.LtE, CmpOp.Lt] [b, c] = false := by with_unfolding_all rfl) : EX X B ρ (.Compare a [.LtE, .Lt] [b, c] pos) (rB (decide (i ≤ j) && decide (j < k))) :=
  PE_wk (pe_chain op_le op_lt ha hb hc hm) fun σ H Q ⟨s, q⟩ => ⟨s, fun x H1 e1 hx => ⟨s.mono e1, fun y H2 e2 hy => by
    obtain rfl : x = .int i := hx
    obtain rfl : y = .int j := hy
    refine ⟨i, j, rfl, rfl, _, rfl, ?_⟩
    by_cases h : i ≤ j
    · rw [if_pos (decide_eq_true h)]
      refine ⟨(s.mono e1).mono e2, fun z H3 e3 hz => ?_⟩
      obtain rfl : z = .int k := hz
      exact ⟨j, k, rfl, rfl, q _ H3 (e1.trans (e2.trans e3)) (by rw [decide_eq_true h, Bool.true_and]; exact rfl)⟩
    · rw [if_neg (by rw [decide_eq_false h]; exact Bool.false_ne_true)]
      exact q _ H2 (e1.trans e2) (by rw [decide_eq_false h, Bool.false_and]; exact rfl)⟩⟩
/-- for x, y in t, its items pairs -/
theorem bx_forT2 {α : Type} {ds : List D} (j k : Nat) {x y : Str} {kk : Nat} {tpos p1 p2 : Pos} (P : Nat → α → Prop) (r : Nat → α → Ro d) (hi : EX X B ρ iter (dat X.K (.t ds))) (h0 : ∀ σ H, St B ρ σ H → IS B (P 0) (r 0) σ H)
    (hd : ∀ (i : Nat) w, ds[i]? = some w → ∃ A C, w = .t [A, C])
    (hb : ∀ (i : Nat) A C z, ds[i]? = some (.t [A, C]) → P i z → BX X body (St B (((r i z).set j (some (dat X.K A))).set k (some (dat X.K C)))) (Lp Po (IS B (P (i + 1)) (r (i + 1))) (IS B (P ds.length) (r ds.length)))) (h : BX X rest (IS B (P ds.length) (r ds.length)) Po)
    (hN : X.N.Nodup) (hp : PassesOwn (model X.prog X.w) X.A X.env X.xe) (hj : X.N[j]? = some x := by rfl) (hk : X.N[k]? = some y := by rfl) (hc : X.calm = true := by rfl) (hx : Loc X.env.scope x := by first | exact Or.inl rfl | exact Or.inr rfl) (hy : Loc X.env.scope y := by first | exact Or.inl rfl | exact Or.inr rfl)
    (hf : X.fn x = true ∨ X.env.scope.names.lookup x = some .local := by first | exact .inl rfl | exact .inr rfl | assumption) (hfy : X.fn y = true ∨ X.env.scope.names.lookup y = some .local := by first | exact .inl rfl | exact .inr rfl | assumption) (hs : ∀ x, foldedSetIterable iter X.env x = pure x := by intro _; rfl) :
    BX X (.For (.Tuple [.Name x p1, .Name y p2] kk tpos) iter body [] pos :: rest) (St B ρ) Po := by
  refine bx_cons (Mid := IS B (P ds.length) (r ds.length)) ?_ h
  refine PS_wk (t := tFor (iTup X.K fun σ H Q => St B ρ σ H ∧ ∀ v H', Ext d H H' → (dat X.K (.t ds)).p v H' → Q v H') (gTup X.K 2 (gCons (gName j) (gCons (gName k) gNil))) (tBody (Z := Nat × D × D × α) B (fun z => ((r z.1 z.2.2.2).set j (some (dat X.K z.2.1))).set k (some (dat X.K z.2.2.1))) (fun z => ds[z.1]? = some (.t [z.2.1, z.2.2.1]) ∧ P z.1 z.2.2.2) (fun z => Lp Po (IS B (P (z.1 + 1)) (r (z.1 + 1))) (IS B (P ds.length) (r ds.length)))))
    (ps_for hp hc (pi_tup hi) (pg_tup hc (pgs_cons (pg_name hN hj hx hf) (pgs_cons (pg_name hN hk hy hfy) pgs_nil))) ⟨fun pins s σ H E I ⟨⟨i, A, C, z⟩, ⟨hw, hz⟩, q, l⟩ => (hb i A C z hw hz).run pins s σ H E I ⟨q, l⟩⟩ hs) fun E σ H ⟨s, l⟩ => ⟨s, fun v H1 e1 hv => ?_⟩
  obtain ⟨t, us, rfl, h1, h2⟩ := DR.tup hv
  refine ⟨t, rfl, ⟨us, h1⟩, for_tup (K := X.K) (a := t) (xs := us) (g := gTup X.K 2 (gCons (gName j) (gCons (gName k) gNil))) (tb := tBody (Z := Nat × D × D × α) B (fun z => ((r z.1 z.2.2.2).set j (some (dat X.K z.2.1))).set k (some (dat X.K z.2.2.1))) (fun z => ds[z.1]? = some (.t [z.2.1, z.2.2.1]) ∧ P z.1 z.2.2.2) (fun z => Lp Po (IS B (P (z.1 + 1)) (r (z.1 + 1))) (IS B (P ds.length) (r ds.length)))) (fun i σ H => Tk H1 H ∧ IS B (P i) (r i) σ H) ⟨Tk.refl _, h0 _ _ (s.mono e1)⟩ (fun i σ H _ q => q.1.sqT h1) (fun i x σ H hx ⟨k', z, hz, q⟩ => ?_) (fun σ H ⟨k', q⟩ => l.nx σ H (e1.tk.trans k') (by rw [h2.1]; exact q))⟩
  obtain ⟨w, hw, hr⟩ := h2.getV hx
  obtain ⟨A, C, rfl⟩ := hd i w hw
  obtain ⟨t2, ws, rfl, g1, g2⟩ := DR.tup (hr.tk k')
  match ws, g2 with
  | [w1, w2], g2 =>
    refine ⟨t2, [w1, w2], rfl, g1, rfl, w1, [w2], rfl, w2, [], rfl, rfl, (i, A, C, z), ⟨hw, hz⟩, ⟨q.ext, q.dr, (q.good.set j (R := dat X.K A) (g2.2 0 A w1 rfl rfl)).set k (R := dat X.K C) (g2.2 1 C w2 rfl rfl)⟩, ?_⟩
    exact ⟨fun σ' H' k2 q' => ⟨k'.trans k2, q'⟩, fun v H' k2 q' => l.rt v H' ((e1.tk.trans k').trans k2) q', fun σ' H' k2 q' => l.nx σ' H' ((e1.tk.trans k').trans k2) q', fun σ' H' k2 q' => ⟨k'.trans k2, q'⟩⟩
  | [], g2 => exact absurd g2.1 (by simp)
  | [_], g2 => exact absurd g2.1 (by simp)
  | _ :: _ :: _ :: _, g2 => exact absurd g2.1 (by simp)

/-! ### dicts -/
def valD {κ : Type} [DecidableEq κ] (kvs : List (κ × D)) (k : κ) : Option D := (kvs.find? fun kv => decide (kv.1 = k)).map (·.2)
/-- the pairs of a dict: keys alike, values told -/
def KD {κ : Type} (K : PySem.W.Frag) (H : Hp) (kvs : List (κ × D)) (us : List (κ × V)) : Prop := us.map (·.1) = kvs.map (·.1) ∧ DRl K H (kvs.map (·.2)) (us.map (·.2))
theorem KD.tk {κ : Type} {K : PySem.W.Frag} {H H' : Hp} {kvs : List (κ × D)} {us : List (κ × V)} (k : Tk H H') (h : KD K H kvs us) : KD K H' kvs us := ⟨h.1, h.2.tk k⟩
theorem KD.len {κ : Type} {K : PySem.W.Frag} {H : Hp} {kvs : List (κ × D)} {us : List (κ × V)} (h : KD K H kvs us) : us.length = kvs.length := by have := congrArg List.length h.1; simpa using this
theorem DRl.cons_ {K : PySem.W.Frag} {H : Hp} {e : D} {ds : List D} {v : V} {vs : List V} (h : DRl K H (e :: ds) (v :: vs)) : DR K H e v ∧ DRl K H ds vs := ⟨h.2 0 e v rfl rfl, by have := h.1; simpa using this, fun i e' v' a b => h.2 (i + 1) e' v' a b⟩
theorem KD.val {κ : Type} [DecidableEq κ] {K : PySem.W.Frag} {H : Hp} : ∀ {kvs : List (κ × D)} {us : List (κ × V)} (k : κ), KD K H kvs us → (valV us k = none ∧ valD kvs k = none) ∨ ∃ v w, valV us k = some v ∧ valD kvs k = some w ∧ DR K H w v
  | [], [], k, _ => .inl ⟨rfl, rfl⟩
  | [], _ :: _, k, h => by have := h.len; simp at this
  | _ :: _, [], k, h => by have := h.len; simp at this
  | (k1, w) :: kvs, (k2, v) :: us, k, h => by
    have e : k2 = k1 := (List.cons.inj h.1).1
    subst e
    have hd := DRl.cons_ h.2
    by_cases hk : k2 = k
    · exact .inr ⟨v, w, by simp [valV, hk], by simp [valD, hk], hd.1⟩
    · have ih := KD.val (kvs := kvs) (us := us) k ⟨(List.cons.inj h.1).2, hd.2⟩
      have e1 : valV ((k2, v) :: us) k = valV us k := by simp [valV, hk]
      have e2 : valD ((k2, w) :: kvs) k = valD kvs k := by simp [valD, hk]
      rw [e1, e2]
      exact ih
theorem KD.isSome {κ : Type} [DecidableEq κ] {K : PySem.W.Frag} {H : Hp} {kvs : List (κ × D)} {us : List (κ × V)} (k : κ) (h : KD K H kvs us) : (valV us k).isSome = (valD kvs k).isSome := by
  rcases h.val k with ⟨a, b⟩ | ⟨v, w, a, b, _⟩
  · rw [a, b]; rfl
  · rw [a, b]; rfl
theorem KD.snoc {κ : Type} {K : PySem.W.Frag} {H : Hp} {kvs : List (κ × D)} {us : List (κ × V)} {k : κ} {w : D} {v : V} (h : KD K H kvs us) (hv : DR K H w v) : KD K H (kvs ++ [(k, w)]) (us ++ [(k, v)]) := by
  refine ⟨by simp [h.1], ?_⟩
  rw [List.map_append, List.map_append]
  exact h.2.snoc hv
/-- a dict of keys that are ints and texts, at a -/
def dct (K : PySem.W.Frag) (a : Addr) (kvs : List (Key × D)) : Rp d := ⟨fun v H => v = .ref a ∧ ∃ us, H a = some (.dK us) ∧ KD K H kvs us, fun e ⟨h1, us, h2, h3⟩ => ⟨h1, us, e.keep _ _ h2 fun _ _ q => (by cases q), h3.tk e.tk⟩⟩
/-- a dict whose keys are tuples of ints, at a -/
def dcT (K : PySem.W.Frag) (a : Addr) (kvs : List (List Key × D)) : Rp d := ⟨fun v H => v = .ref a ∧ ∃ us, H a = some (.dT us) ∧ KD K H kvs us, fun e ⟨h1, us, h2, h3⟩ => ⟨h1, us, e.keep _ _ h2 fun _ _ q => (by cases q), h3.tk e.tk⟩⟩
/-- x = {}, x in slot i -/
theorem bx_dict (i : Nat) {x : Str} {pos' pos2 : Pos} {K : PySem.W.Frag} (hK : X.K = K) (h : ∀ l, B l = none → BX X rest (St B (ρ.set i (some (dct K l [])))) Po) (hN : X.N.Nodup) (hi : X.N[i]? = some x := by rfl) (hx : Loc X.env.scope x := by first | exact Or.inl rfl | exact Or.inr rfl) (hs : swapsWith (.Dict [] [] pos2) (some (.Name x pos')) pos.line X.env = pure false := by rfl) (hf : X.fn x = true ∨ X.env.scope.names.lookup x = some .local := by first | exact .inl rfl | exact .inr rfl | assumption) :
    BX X (.Assign [.Name x pos'] (.Dict [] [] pos2) pos :: rest) (St B ρ) Po := by
  subst hK
  refine bx_cons (Mid := fun σ H => ∃ l, B l = none ∧ St B (ρ.set i (some (dct X.K l []))) σ H) ?_ (bx_ex fun l hl => h l hl)
  refine PS_wk (ps_set hN hi hx pe_dnewK hs hf) fun E σ H ⟨s, q⟩ => fun l hl => ?_
  obtain ⟨hB, hd⟩ := s.fresh hl
  have e1 : Ext d H (upd H l (.dK [])) := Ext.new hl
  exact q.nx _ _ e1.tk ⟨l, hB, (s.mono e1).ext, (s.mono e1).dr, (s.mono e1).good.set i (R := dct X.K l []) ⟨rfl, [], upd_same, rfl, DRl.nil⟩⟩
theorem bx_dictT (i : Nat) {x : Str} {pos' pos2 : Pos} {K : PySem.W.Frag} (hK : X.K = K) (h : ∀ l, B l = none → BX X rest (St B (ρ.set i (some (dcT K l [])))) Po) (hN : X.N.Nodup) (hi : X.N[i]? = some x := by rfl) (hx : Loc X.env.scope x := by first | exact Or.inl rfl | exact Or.inr rfl) (hs : swapsWith (.Dict [] [] pos2) (some (.Name x pos')) pos.line X.env = pure false := by rfl) (hf : X.fn x = true ∨ X.env.scope.names.lookup x = some .local := by first | exact .inl rfl | exact .inr rfl | assumption) :
    BX X (.Assign [.Name x pos'] (.Dict [] [] pos2) pos :: rest) (St B ρ) Po := by
  subst hK
  refine bx_cons (Mid := fun σ H => ∃ l, B l = none ∧ St B (ρ.set i (some (dcT X.K l []))) σ H) ?_ (bx_ex fun l hl => h l hl)
  refine PS_wk (ps_set hN hi hx pe_dnewT hs hf) fun E σ H ⟨s, q⟩ => fun l hl => ?_
  obtain ⟨hB, hd⟩ := s.fresh hl
  have e1 : Ext d H (upd H l (.dT [])) := Ext.new hl
  exact q.nx _ _ e1.tk ⟨l, hB, (s.mono e1).ext, (s.mono e1).dr, (s.mono e1).good.set i (R := dcT X.K l []) ⟨rfl, [], upd_same, rfl, DRl.nil⟩⟩
/-- a value that is a key -/
def keyD : Key → D
  | .inl i => .i i
  | .inr x => .s x
theorem key_of_dr {K : PySem.W.Frag} {H : Hp} {k : Key} {v : V} (h : DR K H (keyD k) v) : v = kV k := by
  cases k with
  | inl i => cases h; rfl
  | inr x => cases h; rfl
/-- k in x, k not in x -/
theorem t_din {l : Addr} {kvs : List (Key × D)} {k : Key} (hu : X.A.units + 1 < cLine) (ha : EX X B ρ a (dat X.K (keyD k))) (hb : EX X B ρ b (dct X.K l kvs)) (hm : behindInMarks CmpOp.In b = false := by rfl) : TX X B ρ (.Compare a [.In] [b] pos) (is (valD kvs k).isSome) :=
  PT_wk (pt_cmp (pc_din hu ha hb) hm) fun σ H Q ⟨s, q⟩ => ⟨s, fun x H1 e1 hx => ⟨s.mono e1, fun y H2 e2 hy => by
    obtain ⟨rfl, us, h1, h2⟩ := hy
    obtain rfl := key_of_dr hx
    exact ⟨l, _, rfl, DGet.k h1, _, rfl, q _ H2 (e1.trans e2) (h2.isSome k)⟩⟩⟩
theorem t_dnotin {l : Addr} {kvs : List (Key × D)} {k : Key} (hu : X.A.units + 1 < cLine) (ha : EX X B ρ a (dat X.K (keyD k))) (hb : EX X B ρ b (dct X.K l kvs)) (hm : behindInMarks CmpOp.NotIn b = false := by rfl) : TX X B ρ (.Compare a [.NotIn] [b] pos) (is (!(valD kvs k).isSome)) :=
  PT_wk (pt_cmp (pc_dnotin hu ha hb) hm) fun σ H Q ⟨s, q⟩ => ⟨s, fun x H1 e1 hx => ⟨s.mono e1, fun y H2 e2 hy => by
    obtain ⟨rfl, us, h1, h2⟩ := hy
    obtain rfl := key_of_dr hx
    exact ⟨l, _, rfl, DGet.k h1, _, rfl, q _ H2 (e1.trans e2) (by show (!(valV us k).isSome) = _; rw [h2.isSome k])⟩⟩⟩
/-- x[k], there -/
theorem x_dget {l : Addr} {kvs : List (Key × D)} {k : Key} {w : D} (hu : X.A.units + 1 < cLine) (ha : EX X B ρ a (dct X.K l kvs)) (hb : EX X B ρ b (dat X.K (keyD k))) (hw : valD kvs k = some w) (hs : NoSl b := by exact (fun _ _ => rfl)) : EX X B ρ (.Subscript a b pos) (dat X.K w) :=
  PE_wk (pe_dget hu ha hb hs) fun σ H Q ⟨s, q⟩ => ⟨s, fun x H1 e1 hx => ⟨s.mono e1, fun y H2 e2 hy => by
    obtain ⟨rfl, us, h1, h2⟩ := (dct (d := d) X.K l kvs).st e2 hx
    obtain rfl := key_of_dr hy
    rcases h2.val k with ⟨_, z⟩ | ⟨v, w', z1, z2, z3⟩
    · rw [hw] at z; cases z
    · rw [hw] at z2; cases z2
      exact ⟨l, v, rfl, by rw [← z1]; exact DGet.k h1, q v H2 (e1.trans e2) z3⟩⟩⟩
/-! ### what does not care for dicts -/
/-- a reading that a change of the dict at l leaves -/
def Ink (l : Addr) (R : Rp d) : Prop := ∀ v H o o', H l = some o → ((∃ us, o = .dK us) ∨ ∃ us, o = .dT us) → R.p v H → R.p v (upd H l o')
theorem tk_dk {H : Hp} {l : Addr} {o o' : HO} (h : H l = some o) (ho : (∃ us, o = .dK us) ∨ ∃ us, o = .dT us) : Tk H (upd H l o') := by
  refine ⟨fun a zs e => ?_, fun a o u e => ?_⟩
  · have : a ≠ l := fun q => by rw [q, h] at e; cases e; rcases ho with ⟨_, h⟩ | ⟨_, h⟩ <;> cases h
    rw [upd_ne this]; exact e
  · have : a ≠ l := fun q => by rw [q, h] at e; cases e; rcases ho with ⟨_, h⟩ | ⟨_, h⟩ <;> cases h
    rw [upd_ne this]; exact e
theorem ne_dk {H : Hp} {l a : Addr} {o o2 : HO} (h : H l = some o) (ho : (∃ us, o = .dK us) ∨ ∃ us, o = .dT us) (h2 : H a = some o2) (h3 : ∀ us, o2 ≠ .dK us) (h4 : ∀ us, o2 ≠ .dT us) : a ≠ l := fun q => by
  rw [q, h] at h2; cases h2
  rcases ho with ⟨us, h⟩ | ⟨us, h⟩
  · exact h3 us h
  · exact h4 us h
theorem ink_I {l : Addr} {n : Int} : Ink l (rI (d := d) n) := fun _ _ _ _ _ _ h => h
theorem ink_B {l : Addr} {n : Bool} : Ink l (rB (d := d) n) := fun _ _ _ _ _ _ h => h
theorem ink_any {l : Addr} : Ink l (rAny (d := d)) := fun _ _ _ _ _ _ h => h
theorem ink_drw {l : Addr} : Ink l (drw (d := d)) := fun _ _ _ _ _ _ h => h
theorem ink_dat {l : Addr} {K : PySem.W.Frag} {w : D} : Ink l (dat (d := d) K w) := fun _ _ _ _ hl ho h => h.tk (tk_dk hl ho)
theorem ink_ex {l : Addr} {α : Type} {P : α → Prop} {Rz : α → Rp d} (h : ∀ z, Ink l (Rz z)) : Ink l (exR P Rz) := fun v H o o' hl ho ⟨z, hz, q⟩ => ⟨z, hz, h z v H o o' hl ho q⟩
theorem ink_own {l l' : Addr} {K : PySem.W.Frag} {ds : List D} : Ink l (own (d := d) K l' ds) := fun v H o o' hl ho ⟨h1, h2, us, h3, h4⟩ => ⟨h1, h2, us, by rw [upd_ne (ne_dk hl ho h3 (fun _ q => nomatch q) (fun _ q => nomatch q))]; exact h3, h4.tk (tk_dk hl ho)⟩
theorem ink_sqx {l la : Addr} {K : PySem.W.Frag} {H : Hp} {us : List V} {o o' : HO} (hl : H l = some o) (ho : (∃ us, o = .dK us) ∨ ∃ us, o = .dT us) (h : SqX d K H la us) : SqX d K (upd H l o') la us := by
  rcases h with ⟨h1, h⟩ | ⟨q, h⟩ | h
  · exact .inl ⟨h1, by rw [upd_ne (ne_dk hl ho h (fun _ q => nomatch q) (fun _ q => nomatch q))]; exact h⟩
  · exact .inr (.inl ⟨q, (tk_dk hl ho).frz _ _ _ h⟩)
  · exact .inr (.inr h)
theorem ink_lstA {l la : Addr} {K : PySem.W.Frag} {ds : List D} : Ink l (lstA (d := d) K la ds) := fun v H o o' hl ho ⟨h1, h2, us, h3, h4⟩ => ⟨h1, h2, us, ink_sqx hl ho h3, h4.tk (tk_dk hl ho)⟩
theorem ink_lstB {B' : Hp} {l la : Addr} {K : PySem.W.Frag} {ds : List D} : Ink l (lstB (d := d) B' K la ds) := fun v H o o' hl ho ⟨h1, us, h2, h3⟩ => ⟨h1, us, by
    rcases h2 with ⟨h2, h⟩ | h
    · exact .inl ⟨h2, ink_sqx hl ho h⟩
    · exact .inr h, h3.tk (tk_dk hl ho)⟩
theorem ink_insA {l C y : Addr} {F : List (Str × Rp d)} (h : ∀ p ∈ F, Ink l p.2) : Ink l (insA C y F) := fun v H o o' hl ho ⟨h0, dy, gs, h1, h2, h3⟩ => ⟨h0, dy, gs, by rw [upd_ne (ne_dk hl ho h1 (fun _ q => nomatch q) (fun _ q => nomatch q))]; exact h1, h2, fun i f R k => let ⟨u, p, q⟩ := h3 i f R k; ⟨u, p, h _ (List.mem_of_getElem? k) u H o o' hl ho q⟩⟩
theorem ink_dct {l l' : Addr} {K : PySem.W.Frag} {kvs : List (Key × D)} (hne : l' ≠ l) : Ink l (dct (d := d) K l' kvs) := fun v H o o' hl ho ⟨h1, us, h2, h3⟩ => ⟨h1, us, by rw [upd_ne hne]; exact h2, h3.tk (tk_dk hl ho)⟩
theorem ind_dct {l l' : Addr} {K : PySem.W.Frag} {kvs : List (Key × D)} : Ind l (dct (d := d) K l' kvs) := fun v H xs ys hl ⟨h1, us, h2, h3⟩ => ⟨h1, us, by rw [upd_ne (show l' ≠ l from fun z => by rw [z, hl] at h2; cases h2)]; exact h2, h3.tk (Tk.lst hl)⟩
theorem ind_dcT {l l' : Addr} {K : PySem.W.Frag} {kvs : List (List Key × D)} : Ind l (dcT (d := d) K l' kvs) := fun v H xs ys hl ⟨h1, us, h2, h3⟩ => ⟨h1, us, by rw [upd_ne (show l' ≠ l from fun z => by rw [z, hl] at h2; cases h2)]; exact h2, h3.tk (Tk.lst hl)⟩
def InkBut (l : Addr) (i : Nat) (r : Ro d) : Prop := ∀ (j : Nat) (R : Rp d), j ≠ i → r[j]? = some (some R) → Ink l R
def InkA (l : Addr) (r : Ro d) : Prop := ∀ (j : Nat) (R : Rp d), r[j]? = some (some R) → Ink l R
theorem ka_nil {l : Addr} : InkA l ([] : Ro d) := fun j R h => by cases h
theorem ka_none {l : Addr} {r : Ro d} (h : InkA l r) : InkA l (none :: r) := fun j R e => by
  cases j with
  | zero => cases e
  | succ j => exact h j R e
theorem ka_some {l : Addr} {r : Ro d} {R : Rp d} (w : Ink l R) (h : InkA l r) : InkA l (some R :: r) := fun j R' e => by
  cases j with
  | zero => cases e; exact w
  | succ j => exact h j R' e
theorem kb_here {l : Addr} {o : Option (Rp d)} {r : Ro d} (h : InkA l r) : InkBut l 0 (o :: r) := fun j R hj e => by
  cases j with
  | zero => exact absurd rfl hj
  | succ j => exact h j R e
theorem kb_none {l : Addr} {i : Nat} {r : Ro d} (h : InkBut l i r) : InkBut l (i + 1) (none :: r) := fun j R hj e => by
  cases j with
  | zero => cases e
  | succ j => exact h j R (fun z => hj (by rw [z])) e
theorem kb_some {l : Addr} {i : Nat} {r : Ro d} {R : Rp d} (w : Ink l R) (h : InkBut l i r) : InkBut l (i + 1) (some R :: r) := fun j R' hj e => by
  cases j with
  | zero => cases e; exact w
  | succ j => exact h j R' (fun z => hj (by rw [z])) e
theorem st_dk {l : Addr} {o o' : HO} {R' : Rp d} {i : Nat} {σ : L2.St} {H : Hp} {v : V} (s : St B ρ σ H) (hl : H l = some o) (ho : (∃ us, o = .dK us) ∨ ∃ us, o = .dT us) (hi : i < ρ.length) (hv : σ[i]? = some (some v)) (hB : B l = none) (hb : InkBut l i ρ) (hR : R'.p v (upd H l o')) : St B (ρ.set i (some R')) σ (upd H l o') := by
  refine ⟨s.ext.mut hB (fun z => ?_), fun a ha => ?_, by simp [s.good.1], fun j R e => ?_⟩
  · obtain ⟨ns, _, q⟩ := s.dr l z.symm
    rw [hl] at q; cases q
    rcases ho with ⟨us, h⟩ | ⟨us, h⟩ <;> cases h
  · obtain ⟨ns, h1, q⟩ := s.dr a ha
    exact ⟨ns, h1, by rw [upd_ne (ne_dk hl ho q (fun _ q => nomatch q) (fun _ q => nomatch q))]; exact q⟩
  · by_cases hj : i = j
    · subst hj
      rw [List.getElem?_set_self hi] at e
      cases e
      exact ⟨v, hv, hR⟩
    · rw [List.getElem?_set_ne hj] at e
      obtain ⟨u, h1, h2⟩ := s.good.get e
      exact ⟨u, h1, hb j R (fun z => hj z.symm) e u H o o' hl ho h2⟩
/-- x[k] = e, k a new key, x in slot i -/
theorem bx_dput (i : Nat) {x : Str} {p1 p2 : Pos} {K : PySem.W.Frag} {l : Addr} {kvs : List (Key × D)} {k : Key} {w : D} (hi : ρ[i]? = some (some (dct K l kvs))) (hK : X.K = K) (hu : X.A.units + 1 < cLine) (he : EX X B ρ e (dat K w)) (hk : EX X B ρ b (dat K (keyD k))) (hnew : valD kvs k = none) (hz : kvs.length ≤ 1000) (hB : B l = none) (hb : InkBut l i ρ) (h : BX X rest (St B (ρ.set i (some (dct K l (kvs ++ [(k, w)]))))) Po)
    (hN : X.N[i]? = some x := by rfl) (hv : Vis X.env.scope x := by first | exact Or.inl rfl | exact Or.inr (Or.inl rfl) | exact Or.inr (Or.inr rfl)) (hd : (x == ("__debug__" : Str)) = false := by decide) (hcd : (x == ("__classdict__" : Str)) = false := by decide)
    (hs : swapsWith e (some (.Subscript (.Name x p1) b p2)) pos.line X.env = pure false := by rfl) :
    BX X (.Assign [.Subscript (.Name x p1) b p2] e pos :: rest) (St B ρ) Po := by
  subst hK
  refine bx_cons (Mid := St B (ρ.set i (some (dct X.K l (kvs ++ [(k, w)]))))) ?_ h
  refine PS_wk (ps_dput hu (pe_var hN hv hd hcd) hk he hs) fun E σ H ⟨s, q⟩ => ⟨s, fun v H1 e1 hw => ?_⟩
  have s1 := s.mono e1
  obtain ⟨u, h1, rfl, _⟩ := s1.good.get hi
  refine ⟨_, h1, s1, fun y H2 e2 hy => ?_⟩
  have s2 := s1.mono e2
  obtain ⟨u, h1', hu2, us, h2, h3⟩ := s2.good.get hi
  obtain rfl := key_of_dr hy
  have hn : valV us k = none := by
    rcases h3.val k with ⟨z, _⟩ | ⟨_, _, _, z, _⟩
    · exact z
    · rw [hnew] at z; cases z
  refine ⟨l, _, rfl, DPut.k h2 (by rw [h3.len]; exact small1000 hz), ?_⟩
  rw [putK_new v hn]
  have kk : Tk H2 (upd H2 l (.dK (us ++ [(k, v)]))) := tk_dk h2 (.inl ⟨us, rfl⟩)
  refine q.nx σ _ ((e1.tk.trans e2.tk).trans kk) (st_dk s2 h2 (.inl ⟨us, rfl⟩) (List.getElem?_eq_some_iff.mp hi).1 h1' hB hb ⟨hu2, _, upd_same, ?_⟩)
  exact (h3.tk kk).snoc ((hw.tk e2.tk).tk kk)
end
end Cv

namespace Cv
open PySem PySem.Spec PyProof.Rows L2 RZ
theorem valD_none {κ : Type} [DecidableEq κ] {kvs : List (κ × D)} {k : κ} (h : ∀ q ∈ kvs, ¬ q.1 = k) : valD kvs k = none := by
  unfold valD
  rw [List.find?_eq_none.mpr fun q hq => by simpa using h q hq]
  rfl
section
variable {d : Option Addr} {X : Cx} {B : Hp} {ρ ρ' : Ro d} {a b c e iter elt : Expr} {es : List Expr} {R R' Ra Rb : Rp d} {Rs : List (Rp d)} {pos : Pos} {m n : Int} {st : Stmt} {rest body orelse : List Stmt} {Pre Mid : L2.St → Hp → Prop} {Po : Ends}
/-- y = [elt for x in xs], y a plain local -/
theorem as_lcL {src : List D} {l : Addr} (i0 j : Nat) {x y : Str} {py spos : Pos} {scope : Scope} {tpos : Pos} (P : Nat → D → Prop) (hi : EX X B ρ iter (lstA X.K l src)) (hn : src.length < 2000) (hN : X.N.Nodup) (hok : BlkOk X.N X.env.scope scope [(x, j)])
    (hgn : ∀ (s : Shared) (H : Hp) (C : Addr) (cl : List (Str × Addr)) (fp : List Addr), PG (X.blk s H scope (compEnvC scope cl C X.env) fp) (.Name x tpos) (gName j))
    (hb : ∀ (s : Shared) (H : Hp) (C : Addr) (cl : List (Str × Addr)) (fp : List Addr) (i : Nat) (w : D), src[i]? = some w → EX (X.blk s H scope (compEnvC scope cl C X.env) fp) B (ρ.set j (some (dat X.K w))) elt (dE X.K (P i)))
    (hc : X.calm = true := by rfl) (hs : ∀ x, foldedSetIterable iter X.env x = pure x := by intro _; rfl)
    (hy : X.N[i0]? = some y := by rfl) (hyl : X.env.scope.names.lookup y = some .local := by rfl) (hsw : swapsWith (.ListComp elt [⟨.Name x tpos, iter, [], 0⟩] scope pos) (some (.Name y py)) spos.line X.env = pure true := by rfl) :
    AsgX X B ρ i0 (.Assign [.Name y py] (.ListComp elt [⟨.Name x tpos, iter, [], 0⟩] scope pos) spos) (newE B X.K fun ds => ds.length = src.length ∧ ∀ k w, ds[k]? = some w → P k w) := by
  refine PS_wk (ps_setLc (own := [(x, j)]) (g := gName j) (tt := tYes) (te := tElt (Z := Nat × D) B X.K (fun z => ρ.set j (some (dat X.K z.2))) (fun z => src[z.1]? = some z.2) (fun z => P z.1)) hc hN hy hyl hsw (pi_list hi) hok hgn (fun _ _ _ _ _ => pts_nil) (fun s H C cl fp => elt_of fun z hz => hb s H C cl fp z.1 z.2 hz) hs) fun E σ H ⟨s, q⟩ => ⟨s, fun v H1 e1 hv => ?_⟩
  obtain ⟨rfl, hld, us, g1, g2⟩ := hv
  have s1 := s.mono e1
  refine ⟨l, rfl, ⟨us, g1.sq⟩, fun Dl hD => ?_⟩
  obtain ⟨hB, hDd⟩ := s1.fresh hD
  refine lc_list (K := X.K) (a := l) (xs := us) (Lc H1 X.K Dl d P) ⟨Ext.new hD, [], [], upd_same, DRl.nil, rfl, fun k w h => by cases h⟩ (fun i H' _ L => (g1.ext L.1).sq) (fun i y H' hy L => ?_) (fun H' L => ?_)
  · obtain ⟨w, hw, hr⟩ := g2.getV hy
    refine ⟨wipe1 _ _ _, ?_⟩
    exact ⟨(i, w), hw, st_wipe (s1.mono L.1) (R := dat X.K w) (hr.tk L.1.tk), fun y H2 e2 hy => lc_step hD hDd L e2 hy (Nat.lt_trans (List.getElem?_eq_some_iff.mp hw).1 hn)⟩
  · obtain ⟨h0, vs, ds, h1, h2, h3, h4⟩ := L
    exact q _ H' (e1.trans h0) ⟨ds, ⟨by rw [h3, g2.1], h4⟩, Dl, hB, rfl, hDd, vs, h1, h2⟩
/-- (a, b, ..), each told by its own P -/
def All2 : List (D → Prop) → List D → Prop
  | [], [] => True
  | P :: Ps, w :: ws => P w ∧ All2 Ps ws
  | _, _ => False
theorem all2_of {K : PySem.W.Frag} : ∀ {Ps : List (D → Prop)} {vs : List V} {H : Hp}, RsH (Ps.map fun P => dE (d := d) K P) vs H → ∃ ds, All2 Ps ds ∧ DRl K H ds vs
  | [], [], _, _ => ⟨[], trivial, DRl.nil⟩
  | [], _ :: _, _, h => h.elim
  | _ :: _, [], _, h => h.elim
  | P :: Ps, v :: vs, H, h => by
    obtain ⟨⟨w, hw, hv⟩, h2⟩ := h
    obtain ⟨ds, h3, h4⟩ := all2_of (Ps := Ps) h2
    refine ⟨w :: ds, ⟨hw, h3⟩, by simp [h4.1], fun i e' v' a b => ?_⟩
    cases i with
    | zero => cases a; cases b; exact hv
    | succ i => exact h4.2 i e' v' a b
theorem all2_len : ∀ {Ps : List (D → Prop)} {ds : List D}, All2 Ps ds → ds.length = Ps.length
  | [], [], _ => rfl
  | [], _ :: _, h => h.elim
  | _ :: _, [], h => h.elim
  | _ :: Ps, _ :: ds, h => by simp [all2_len (Ps := Ps) h.2]
theorem x_tupE {Ps : List (D → Prop)} {x1} (h : AX X B ρ es (Ps.map fun P => dE X.K P)) (hl : Ps.length ≤ 1000 := by first | decide | simp) : EX X B ρ (.Tuple es x1 pos) (dE X.K fun w => ∃ ds, All2 Ps ds ∧ w = .t ds) :=
  PE_wk (pe_tup h) fun σ H Q ⟨s, q⟩ => ⟨s, fun vs H1 e1 hv => by
    obtain ⟨ds, h1, h2⟩ := all2_of hv
    refine ⟨by rw [← h2.1, all2_len h1]; exact Nat.le_of_lt (small1000 hl), fun p hp => q _ _ (e1.trans (Ext.new hp)) ⟨_, ⟨ds, h1, rfl⟩, ?_⟩⟩
    exact DR.of_tup (SqT.of upd_same) (h2.tk (Ext.new (d := d) hp).tk)⟩
/-- xs[i] of a new list of tuples .. told by P -/
theorem x_ixtE {ds : List D} {P : Int → Prop} (ha : EX X B ρ a (dat X.K (.t ds))) (hb : EX X B ρ b (iE P)) (hw : ∀ j, P j → 0 ≤ j ∧ j < ds.length) (hs : PlainIx b := by exact (fun _ _ => rfl)) : EX X B ρ (.Subscript a b pos) (dE X.K fun w => ∃ k : Nat, P k ∧ ds[k]? = some w) :=
  PE_wk (pe_ix ix_tup ha hb hs) fun σ H Q ⟨s, q⟩ => ⟨s, fun x H1 e1 hx => ⟨s.mono e1, fun y H2 e2 hy => by
    obtain ⟨p, us, rfl, h1, h2⟩ := DR.tup hx
    obtain ⟨j, hj, hy⟩ := hy
    obtain ⟨h0, hl⟩ := hw j hj
    obtain ⟨k, rfl⟩ : ∃ k : Nat, j = (k : Int) := ⟨j.toNat, by omega⟩
    have hk : k < ds.length := by omega
    obtain ⟨v, hv, hr⟩ := h2.get (List.getElem?_eq_getElem hk)
    exact ⟨p, us, _, v, rfl, hy, e2.tk.sqT h1, atI_nat hv, q v H2 (e1.trans e2) ⟨_, ⟨k, hj, List.getElem?_eq_getElem hk⟩, hr.tk e2.tk⟩⟩⟩⟩
/-- a or .., where a is surely true -/
theorem t_w_or_true {P : Bool → Prop} (h : TX X B ρ a P) (hp : ∀ q, P q → q = true) : WX X B ρ (.BoolOp .Or (a :: b :: es) pos) (fun k => k = true) := by
  refine ⟨fun wh pins s σ H Q I ⟨st, q⟩ => ?_⟩
  refine isTrue_or (thn (h.run pins s σ H (fun k H' => k = true ∧ Q k H') I ⟨st, fun k H' e1 hk => ?_⟩) fun k s1 ⟨H1, I1, q1⟩ => ?_)
  · obtain rfl := hp k hk
    exact ⟨rfl, q true H' e1 rfl⟩
  · obtain ⟨rfl, q1⟩ := q1
    exact ⟨H1, I1, q1⟩
/-- an own object that stood at the start -/
def insB (B' : Hp) (C : Addr) (F : List (Str × Rp d)) : Rp d := exR (fun y => B' y ≠ none) fun y => insA C y F
theorem x_insB {B' : Hp} {C : Addr} {F : List (Str × Rp d)} (h : EX X B ρ e (insB B' C F)) : EX X B ρ e (insR C F) := x_sub h fun v H ⟨y, _, hv⟩ => ⟨y, trivial, hv⟩
theorem io_insB {B' : Hp} {x C : Addr} {F : List (Str × Rp d)} (hx : B' x = none) (h : ∀ p ∈ F, IndO x p.2) : IndO x (insB B' C F) := fun v H C' dx fs fs' hH ⟨y, hy, q⟩ => ⟨y, hy, io_insA (fun z => hy (by rw [z]; exact hx)) h v H C' dx fs fs' hH q⟩
theorem insB_of {C : Addr} {F : List (Str × Rp d)} {v : V} {H : Hp} (h : (insR C F).p v H) : (insB H C F).p v H := by
  obtain ⟨y, _, h0, dx, fs, h1, h2⟩ := h
  have hn : H y ≠ none := fun z => by rw [h1] at z; cases z
  exact ⟨y, hn, h0, dx, fs, h1, h2⟩
theorem insR_of {C B' : _} {F : List (Str × Rp d)} {v : V} {H : Hp} (h : (insB B' C F).p v H) : (insR C F).p v H := by
  obtain ⟨y, _, h0⟩ := h
  exact ⟨y, trivial, h0⟩
def lstY (B : Hp) (K : PySem.W.Frag) (ds : List D) : Rp d := exR (fun _ => True) fun a => lstB B K a ds
theorem st_toY {K : PySem.W.Frag} {ds : List D} {σ : L2.St} {H : Hp} (i : Nat) (hi : ρ[i]? = some (some (lst K ds))) (s : St H ρ σ H) : St H (ρ.set i (some (lstY H K ds))) σ H := by
  refine ⟨s.ext, s.dr, by simp [s.good.1], fun j R e => ?_⟩
  by_cases hj : i = j
  · subst hj
    have hlt : i < ρ.length := (List.getElem?_eq_some_iff.mp hi).1
    rw [List.getElem?_set_self hlt] at e
    cases e
    obtain ⟨v, h1, l, _, rfl, _, us, h3, h4⟩ := s.good.get hi
    refine ⟨_, h1, l, trivial, rfl, us, ?_, h4⟩
    rcases h3 with ⟨k, h⟩ | ⟨o, h⟩ | h
    · exact .inl ⟨by rw [h]; exact fun z => (by cases z), .inl ⟨k, h⟩⟩
    · exact .inl ⟨by rw [h]; exact fun z => (by cases z), .inr (.inl ⟨o, h⟩)⟩
    · exact .inr h
  · rw [List.getElem?_set_ne hj] at e
    exact s.good.get e
end
end Cv

namespace Cv
open PySem PySem.Spec PyProof.Rows L2 RZ
section
variable {d : Option Addr} {X : Cx} {B : Hp} {ρ ρ' : Ro d} {a b c e iter elt : Expr} {es : List Expr} {R R' Ra Rb : Rp d} {Rs : List (Rp d)} {pos : Pos} {m n : Int} {st : Stmt} {rest body orelse : List Stmt} {Pre Mid : L2.St → Hp → Prop} {Po : Ends}
/-- while c: body, by an invariant and a measure -/
theorem bx_while {α : Type} (P : α → Prop) (μ : α → Nat) (r : α → Ro d) {T : α → Bool → Prop} (h0 : ∀ σ H, St B ρ σ H → IS B P r σ H) (hc : ∀ z, P z → TX X B (r z) c (T z))
    (hb : ∀ z, P z → T z true → BX X body (St B (r z)) (Lp Po (IS B (fun z' => P z' ∧ μ z' < μ z) r) (IS B (fun z' => P z' ∧ T z' false) r))) (h : BX X rest (IS B (fun z' => P z' ∧ T z' false) r) Po)
    (hp : PassesOwn (model X.prog X.w) X.A X.env X.xe) : BX X (.While c body [] pos :: rest) (St B ρ) Po := by
  refine bx_cons (Mid := IS B (fun z' => P z' ∧ T z' false) r) ?_ h
  have hc' : PT X c (fun σ H Q => ∃ z, P z ∧ St B (r z) σ H ∧ ∀ k H', Ext d H H' → T z k → Q k H') := ⟨fun pins s σ H Q I ⟨z, hz, st, q⟩ => (hc z hz).run pins s σ H Q I ⟨st, q⟩⟩
  have hb' : PSs X body (tBody (Z := α) B r (fun z => P z ∧ T z true) (fun z => Lp Po (IS B (fun z' => P z' ∧ μ z' < μ z) r) (IS B (fun z' => P z' ∧ T z' false) r))) := ⟨fun pins s σ H E I ⟨z, ⟨hz, hT⟩, q, l⟩ => (hb z hz hT).run pins s σ H E I ⟨q, l⟩⟩
  refine PS_wk (ps_while hp hc' hb') fun E σ H ⟨s, l⟩ => ?_
  refine ⟨fun m σ' H' => Tk H H' ∧ ∃ z, m = μ z ∧ P z ∧ St B (r z) σ' H', ?_, ?_⟩
  · obtain ⟨z, hz, q⟩ := h0 σ H s
    exact ⟨μ z, Tk.refl _, z, rfl, hz, q⟩
  · rintro m σ' H' ⟨k, z, rfl, hz, q⟩
    refine ⟨z, hz, q, fun b H2 e2 hT => ?_⟩
    cases b with
    | true =>
      rw [if_pos rfl]
      refine ⟨fun σ3 H3 => Tk H H3 ∧ IS B (fun z' => P z' ∧ μ z' < μ z) r σ3 H3, fun σ3 H3 ⟨k3, z3, ⟨p3, m3⟩, q3⟩ => ⟨μ z3, m3, k3, z3, rfl, p3, q3⟩, z, ⟨hz, hT⟩, q.mono e2, ?_⟩
      have k2 := k.trans e2.tk
      exact ⟨fun σ3 H3 k3 q3 => ⟨k2.trans k3, q3⟩, fun v H3 k3 q3 => l.rt v H3 (k2.trans k3) q3, fun σ3 H3 k3 q3 => l.nx σ3 H3 (k2.trans k3) q3, fun σ3 H3 k3 q3 => ⟨k2.trans k3, q3⟩⟩
    | false =>
      rw [if_neg Bool.false_ne_true]
      exact l.nx σ' H2 (k.trans e2.tk) ⟨z, ⟨hz, hT⟩, q.mono e2⟩
/-- x += e, ints -/
theorem bx_augI (i : Nat) {x : Str} {pos' : Pos} (hi' : ρ[i]? = some (some (rI m))) (he : EX X B ρ e (rI n)) (h : BX X rest (St B (ρ.set i (some (rI (m + n))))) Po) (hN : X.N.Nodup) (hi : X.N[i]? = some x := by rfl) (hx : Loc X.env.scope x := by first | exact Or.inl rfl | exact Or.inr rfl)
    (hf : X.fn x = true ∨ X.env.scope.names.lookup x = some .local := by first | exact .inl rfl | exact .inr rfl | assumption) : BX X (.AugAssign (.Name x pos') .Add e pos :: rest) (St B ρ) Po := by
  refine bx_cons (Mid := St B (ρ.set i (some (rI (m + n))))) ?_ h
  refine PS_wk (ps_aug hN hi hx he ip_add hf) fun E σ H ⟨s, l⟩ => ?_
  obtain ⟨v, h1, hv⟩ := s.good.get hi'
  obtain rfl : v = .int m := hv
  refine ⟨_, h1, s, fun y H1 e1 hy => ?_⟩
  obtain rfl : y = .int n := hy
  exact ⟨m, n, rfl, rfl, l.nx _ H1 e1.tk ⟨(s.mono e1).ext, (s.mono e1).dr, (s.mono e1).good.set i rfl⟩⟩
/-- x = {k: v} -/
theorem bx_disp1 (i : Nat) {x : Str} {pos' pos2 : Pos} {K : PySem.W.Frag} {k : Key} {w : D} (hK : X.K = K) (ha : EX X B ρ a (dat K (keyD k))) (hb : EX X B ρ b (dat K w)) (h : ∀ l, B l = none → BX X rest (St B (ρ.set i (some (dct K l [(k, w)])))) Po) (hN : X.N.Nodup) (hi : X.N[i]? = some x := by rfl) (hx : Loc X.env.scope x := by first | exact Or.inl rfl | exact Or.inr rfl) (hs : swapsWith (.Dict [some a] [b] pos2) (some (.Name x pos')) pos.line X.env = pure false := by rfl)
    (hf : X.fn x = true ∨ X.env.scope.names.lookup x = some .local := by first | exact .inl rfl | exact .inr rfl | assumption) : BX X (.Assign [.Name x pos'] (.Dict [some a] [b] pos2) pos :: rest) (St B ρ) Po := by
  subst hK
  refine bx_cons (Mid := fun σ H => ∃ l, B l = none ∧ St B (ρ.set i (some (dct X.K l [(k, w)]))) σ H) ?_ (bx_ex fun l hl => h l hl)
  refine PS_wk (ps_set hN hi hx (pe_disp (pps_cons ha hb pps_nil) rfl rfl (by simp) (by simp)) hs hf) fun E σ H ⟨s, q⟩ => fun l hl => ?_
  obtain ⟨hB, hd⟩ := s.fresh hl
  have e0 : Ext d H (upd H l (.dK [])) := Ext.new hl
  refine ⟨s.mono e0, fun u H1 e1 hu => ⟨(s.mono e0).mono e1, fun v H2 e2 hv => ?_⟩⟩
  have hl2 : H2 l = some (.dK []) := e2.keep _ _ (e1.keep _ _ upd_same fun _ _ q => by cases q) fun _ _ q => by cases q
  obtain rfl := key_of_dr hu
  refine ⟨hl2, [(k, v)], rfl, by simp, ?_⟩
  have kk : Tk H2 (upd H2 l (.dK (mergeK [] [(k, v)]))) := tk_dk hl2 (.inl ⟨[], rfl⟩)
  have s2 := ((s.mono e0).mono e1).mono e2
  have s3 : St B (ρ.set i (some (dct X.K l [(k, w)]))) (σ.set i (some (.ref l))) (upd H2 l (.dK (mergeK [] [(k, v)]))) := by
    refine ⟨?_, fun a ha => ?_, by simp [s2.good.1], fun j R e => ?_⟩
    · exact s2.ext.mut hB hd
    · obtain ⟨ns, h1, q⟩ := s2.dr a ha
      exact ⟨ns, h1, by rw [upd_ne (ne_dk hl2 (.inl ⟨[], rfl⟩) q (fun _ q => nomatch q) (fun _ q => nomatch q))]; exact q⟩
    · by_cases hj : i = j
      · subst hj
        have hlt : i < ρ.length := by have := (List.getElem?_eq_some_iff.mp e).1; simpa using this
        rw [List.getElem?_set_self hlt] at e
        cases e
        refine ⟨_, List.getElem?_set_self (by rw [s2.good.1]; exact hlt), rfl, [(k, v)], ?_, rfl, ?_⟩
        · rw [upd_same]
          rfl
        · exact DRl.snoc DRl.nil (hv.tk kk)
      · rw [List.getElem?_set_ne hj] at e
        obtain ⟨u, h1, h2⟩ := s.good.get e
        refine ⟨u, by rw [List.getElem?_set_ne hj]; exact h1, ?_⟩
        -- told over H: nothing that stood in H has changed
        have x1 : Ext d H (upd H2 l (.dK (mergeK [] [(k, v)]))) := (e0.trans (e1.trans e2)).mut hl hd
        exact R.st x1 h2
  exact q.nx _ _ ((e0.tk.trans (e1.tk.trans e2.tk)).trans kk) ⟨l, hB, s3⟩
/-- xs[::-1] -/
theorem x_revL {l : Addr} {ds : List D} {k : Nat} {p1 p2 p3 : Pos} (h : EX X B ρ e (lstA X.K l ds)) : EX X B ρ (.Subscript e (.Slice none none (some (.UnaryOp .USub (.Constant (.int 1) k p1) p2)) p3) pos) (newL B X.K ds.reverse) :=
  PE_wk (pe_revL h) fun σ H Q ⟨s, q⟩ => ⟨s, fun v H1 e1 hv => by
    obtain ⟨rfl, _, us, h1, h2⟩ := hv
    refine ⟨l, us, rfl, h1.sq, fun p hp => q _ _ (e1.trans (Ext.new hp)) ?_⟩
    obtain ⟨hB, hpd⟩ := (s.mono e1).fresh hp
    refine ⟨p, hB, rfl, hpd, us.reverse, upd_same, ?_⟩
    refine ⟨by simp [h2.1], fun i e' v' a b => ?_⟩
    have hi : i < ds.length := by have := (List.getElem?_eq_some_iff.mp a).1; simpa using this
    rw [List.getElem?_reverse hi] at a
    rw [List.getElem?_reverse (by rw [← h2.1]; exact hi)] at b
    rw [← h2.1] at b
    exact (h2.2 _ e' v' a b).tk (Ext.new (d := d) hp).tk⟩
/-- isinstance(a list, list) -/
theorem x_isiL {l : Addr} {ds : List D} {p p2 : Pos} (hg : Gl X "isinstance") (hm : X.mg "isinstance" = none) (hgT : Gl X "list") (hmT : X.mg "list" = none) (h : EX X B ρ e (own X.K l ds))
    (he : starEach [e, .Name "list" p2] X.env = (false, eval e X.env) :: starEach [.Name "list" p2] X.env := by rfl) (he2 : starEach [.Name "list" p2] X.env = (false, eval (.Name "list" p2) X.env) :: starEach [] X.env := by rfl) (hpl : (backTo pos (starEach [.Name "list" p2] X.env)).any (·.1) = false := by rfl) : EX X B ρ (.Call (.Name "isinstance" p) [e, .Name "list" p2] [] pos) (rB true) :=
  x_callB (Rs := [own X.K l ds, ⟨fun v _ => v = .ty "list", fun _ h => h⟩]) call_isi hg hm (by decide +kernel) (a_cons h (a_cons (PE_wk (pe_bltn (v := .ty "list") hgT hmT (by decide +kernel) rfl (by decide) (by decide)) fun σ H Q ⟨s, q⟩ => q _ H (Ext.refl H) rfl) a_nil he2) he) (fun vs H σ Q s hv q => by
    obtain ⟨u, w, rfl, h1, h2⟩ := hv.two
    obtain ⟨rfl, _, us, h3, _⟩ := h1
    exact ⟨_, w, .type "list", .type "list", true, rfl, by rw [show w = .ty "list" from h2]; exact .ty "list", .base (.lst h3), kit_ty (by decide +kernel), q _ H (Ext.refl H) rfl⟩) (he := he) (hpl := hpl)
theorem eqV_int (a b : Int) : eqV (.int a) (.int b) = decide (a = b) := by
  show (a == b) = _
  exact Bool.beq_eq_decide_eq _ _
theorem inV_ints {ns : List Int} {z : Int} : inV (.int z) (ns.map V.int) = decide (z ∈ ns) := by
  unfold inV
  induction ns with
  | nil => rfl
  | cons n r ih =>
    rw [List.map_cons, List.any_cons, ih, eqV_int]
    by_cases h : n = z
    · simp [h]
    · have h' : ¬ z = n := fun q => h q.symm
      simp [h, h']
/-- x not in xs, ints -/
theorem t_notInI {l : Addr} {ns : List Int} {z : Int} (ha : EX X B ρ a (rI z)) (hb : EX X B ρ b (lstA X.K l (ns.map D.i))) (hm : behindInMarks CmpOp.NotIn b = false := by rfl) : TX X B ρ (.Compare a [.NotIn] [b] pos) (is (!decide (z ∈ ns))) :=
  t_cmp op_notIn_seq hm ha hb fun x y H σ Q _ hx hy q => by
    obtain rfl : x = .int z := hx
    obtain ⟨rfl, _, us, h1, h2⟩ := hy
    obtain rfl := h2.ints
    refine ⟨l, _, rfl, .inl h1.sq, rfl, ?_, q _ H (Ext.refl H) ?_⟩
    · rw [List.all_eq_true]
      intro v hv
      obtain ⟨n, _, rfl⟩ := List.mem_map.mp hv
      rfl
    · show (if true = true then !inV (.int z) (ns.map V.int) else inV (.int z) (ns.map V.int)) = _
      rw [if_pos rfl, inV_ints]
end
end Cv

namespace Cv
open PySem PySem.Spec PyProof.Rows L2 RZ
section
variable {d : Option Addr} {X : Cx} {B : Hp} {ρ ρ' : Ro d} {a b c e iter elt : Expr} {es : List Expr} {R R' Ra Rb : Rp d} {Rs : List (Rp d)} {pos : Pos} {m n : Int} {st : Stmt} {rest body orelse : List Stmt} {Pre Mid : L2.St → Hp → Prop} {Po : Ends}
/-- xs + ys, xs any list, ys new -/
theorem x_catA {l : Addr} {ds es' : List D} (ha : EX X B ρ a (own X.K l ds)) (hb : EX X B ρ b (newL B X.K es')) (hl : ds.length + es'.length ≤ 1000) : EX X B ρ (.BinOp a .Add b pos) (newL B X.K (ds ++ es')) :=
  x_op2 op_cat ha hb fun x y H σ Q s hx hy q => by
    obtain ⟨rfl, _, us, h1, h2⟩ := hx
    obtain ⟨l2, hl2, rfl, _, us2, h3, h4⟩ := hy
    refine ⟨_, _, us, us2, rfl, rfl, h1, h3, by rw [← h2.1, ← h4.1]; exact Nat.le_of_lt (small1000 hl), fun p hp => q _ _ (Ext.new hp) ?_⟩
    obtain ⟨hB, hpd⟩ := s.fresh hp
    exact ⟨p, hB, rfl, hpd, us ++ us2, upd_same, (h2.app h4).tk (Ext.new (d := d) hp).tk⟩
/-- a list is not None -/
theorem t_isNown {K : PySem.W.Frag} {l : Addr} {ds : List D} {j : Nat} {p2 : Pos} (ha : EX X B ρ a (own K l ds)) : TX X B ρ (.Compare a [.Is] [.Constant .none j p2] pos) (is false) :=
  PT_wk (pt_cmpR op_isN ha pe_non (nomark _)) fun σ H Q ⟨s, q⟩ => ⟨s, fun x H1 e1 hx => by
    obtain ⟨rfl, _⟩ := hx
    exact ⟨rfl, _, rfl, q _ H1 e1 rfl⟩⟩
theorem x_isNown {K : PySem.W.Frag} {l : Addr} {ds : List D} {j : Nat} {p2 : Pos} (ha : EX X B ρ a (own K l ds)) : EX X B ρ (.Compare a [.Is] [.Constant .none j p2] pos) (rB false) :=
  PE_wk (pe_cmpR op_isN ha pe_non (nomark _)) fun σ H Q ⟨s, q⟩ => ⟨s, fun x H1 e1 hx => by
    obtain ⟨rfl, _⟩ := hx
    exact ⟨rfl, q _ H1 e1 rfl⟩⟩
/-! ### lists of (int, list of ints) -/
abbrev LyT := List (Nat × Addr × List Nat)
abbrev natD (run : List Nat) : List D := run.map fun (i : Nat) => D.i (i : Int)
def lyP (K : PySem.W.Frag) (d : Option Addr) (H : Hp) (t : Nat × Addr × List Nat) (u : V) : Prop := ∃ b, u = .ref b ∧ SqT K H b [.int (t.1 : Int), .ref t.2.1] ∧ some t.2.1 ≠ d ∧ ∃ ws, H t.2.1 = some (.lst ws) ∧ DRl K H (natD t.2.2) ws
theorem lyP.ext {K : PySem.W.Frag} {H H' : Hp} {t : Nat × Addr × List Nat} {u : V} (e : Ext d H H') (h : lyP K d H t u) : lyP K d H' t u := by
  obtain ⟨b, h1, h2, h3, ws, h4, h5⟩ := h
  exact ⟨b, h1, e.tk.sqT h2, h3, ws, e.at h4 h3, h5.tk e.tk⟩
theorem lyP.upd {K : PySem.W.Frag} {H : Hp} {t : Nat × Addr × List Nat} {u : V} {l : Addr} {xs ys : List V} (hl : H l = some (.lst xs)) (hne : t.2.1 ≠ l) (h : lyP K d H t u) : lyP K d (upd H l (.lst ys)) t u := by
  obtain ⟨b, h1, h2, h3, ws, h4, h5⟩ := h
  exact ⟨b, h1, (Tk.lst hl).sqT h2, h3, ws, by rw [upd_ne hne]; exact h4, h5.tk (Tk.lst hl)⟩
def lyrR (K : PySem.W.Frag) (a : Addr) (T : LyT) : Rp d := ⟨fun v H => v = .ref a ∧ some a ≠ d ∧ ∃ vs, H a = some (.lst vs) ∧ vs.length = T.length ∧ ∀ (j : Nat) t u, T[j]? = some t → vs[j]? = some u → lyP K d H t u,
  fun e ⟨h1, h2, vs, h3, h4, h5⟩ => ⟨h1, h2, vs, e.at h3 h2, h4, fun j t u ht hu => (h5 j t u ht hu).ext e⟩⟩
theorem ind_lyr {K : PySem.W.Frag} {l a : Addr} {T : LyT} (hne : a ≠ l) (hT : ∀ t ∈ T, t.2.1 ≠ l) : Ind l (lyrR (d := d) K a T) := fun v H xs ys hl ⟨h1, h2, vs, h3, h4, h5⟩ => ⟨h1, h2, vs, by rw [upd_ne hne]; exact h3, h4, fun j t u ht hu => (h5 j t u ht hu).upd hl (hT t (List.mem_of_getElem? ht))⟩
theorem ind_natown {K : PySem.W.Frag} {l a : Addr} {ds : List D} (hne : a ≠ l) : Ind l (own (d := d) K a ds) := ind_own hne
theorem known_lyr {K : PySem.W.Frag} {a : Addr} {T : LyT} (k : Nat) (h : ρ[k]? = some (some (lyrR K a T))) : Known a ρ := ⟨k, _, h, fun v H ⟨_, _, vs, q, _⟩ => by rw [q]; exact fun z => by cases z⟩
theorem known_lyrT {K : PySem.W.Frag} {a : Addr} {T : LyT} {t : Nat × Addr × List Nat} (k : Nat) (h : ρ[k]? = some (some (lyrR K a T))) (ht : t ∈ T) : Known t.2.1 ρ := ⟨k, _, h, fun v H ⟨_, _, vs, q, hl, h5⟩ => by
  obtain ⟨j, hj⟩ := List.getElem?_of_mem ht
  have hjl : j < vs.length := by rw [hl]; exact (List.getElem?_eq_some_iff.mp hj).1
  obtain ⟨b, _, _, _, ws, h4, _⟩ := h5 j t _ hj (List.getElem?_eq_getElem hjl)
  rw [h4]; exact fun z => by cases z⟩
theorem known_dct {K : PySem.W.Frag} {a : Addr} {kvs : List (Key × D)} (k : Nat) (h : ρ[k]? = some (some (dct K a kvs))) : Known a ρ := ⟨k, _, h, fun v H ⟨_, us, q, _⟩ => by rw [q]; exact fun z => by cases z⟩
/-- x = [(e1, [])] -/
theorem bx_ly1 (i : Nat) {x : Str} {pos' p1 p2 p3 : Pos} {kk : Nat} {K : PySem.W.Frag} {n : Nat} (ls : List Addr) (hK : X.K = K) (hls : ∀ l ∈ ls, Known l ρ) (he : EX X B ρ e (rI (n : Int))) (h : ∀ a r, B a = none → B r = none → a ≠ r → (∀ l' ∈ ls, a ≠ l' ∧ r ≠ l') → BX X rest (St B (ρ.set i (some (lyrR K a [(n, r, [])])))) Po) (hN : X.N.Nodup) (hi : X.N[i]? = some x := by rfl) (hx : Loc X.env.scope x := by first | exact Or.inl rfl | exact Or.inr rfl) (hs : swapsWith (.List [.Tuple [e, .List [] p1] kk p2] p3) (some (.Name x pos')) pos.line X.env = pure false := by rfl)
    (hf : X.fn x = true ∨ X.env.scope.names.lookup x = some .local := by first | exact .inl rfl | exact .inr rfl | assumption) (h1 : starEach [e, .List [] p1] X.env = (false, eval e X.env) :: starEach [.List [] p1] X.env := by rfl) (h2 : starEach [.List [] p1] X.env = (false, eval (.List [] p1) X.env) :: starEach [] X.env := by rfl) (h3 : starEach [.Tuple [e, .List [] p1] kk p2] X.env = (false, eval (.Tuple [e, .List [] p1] kk p2) X.env) :: starEach [] X.env := by rfl) :
    BX X (.Assign [.Name x pos'] (.List [.Tuple [e, .List [] p1] kk p2] p3) pos :: rest) (St B ρ) Po := by
  subst hK
  refine bx_cons (Mid := fun σ H => ∃ z : Addr × Addr, (B z.1 = none ∧ B z.2 = none ∧ z.1 ≠ z.2 ∧ ∀ l' ∈ ls, z.1 ≠ l' ∧ z.2 ≠ l') ∧ St B (ρ.set i (some (lyrR X.K z.1 [(n, z.2, [])]))) σ H) ?_ (bx_ex fun z hz => h z.1 z.2 hz.1 hz.2.1 hz.2.2.1 hz.2.2.2)
  refine PS_wk (ps_set hN hi hx (pe_lst (pa_cons (pe_tup (pa_cons he (pa_cons (pe_lst pa_nil) pa_nil h2) h1)) pa_nil h3)) hs hf) fun E σ H ⟨s, q⟩ => ⟨s, fun v H1 e1 hv => ?_⟩
  have s1 := s.mono e1
  obtain rfl : v = .int (n : Int) := hv
  refine ⟨by simp, fun r hr => ⟨Nat.le_of_lt (small1000 (by simp)), fun b hb => ⟨Nat.le_of_lt (small1000 (by simp)), fun a ha => ?_⟩⟩⟩
  obtain ⟨rB, rd⟩ := s1.fresh hr
  have e2 : Ext d H1 (upd H1 r (.lst [])) := Ext.new hr
  have s2 := s1.mono e2
  have e3 : Ext d (upd H1 r (.lst [])) (upd (upd H1 r (.lst [])) b (.tup [.int (n : Int), .ref r])) := Ext.new hb
  have s3 := s2.mono e3
  obtain ⟨aB, ad⟩ := s3.fresh ha
  have e4 : Ext d (upd (upd H1 r (.lst [])) b (.tup [.int (n : Int), .ref r])) (upd (upd (upd H1 r (.lst [])) b (.tup [.int (n : Int), .ref r])) a (.lst [.ref b])) := Ext.new ha
  have s4 := s3.mono e4
  have hbr : b ≠ r := fun z => by rw [z, upd_same] at hb; cases hb
  have har : a ≠ r := fun z => by rw [z, upd_ne (Ne.symm hbr), upd_same] at ha; cases ha
  refine q.nx _ _ (e1.tk.trans (e2.tk.trans (e3.tk.trans e4.tk))) ⟨(a, r), ⟨aB, rB, har, fun l' hl' => ?_⟩, s4.ext, s4.dr, s4.good.set i (R := lyrR X.K a [(n, r, [])]) ⟨rfl, ad, [.ref b], upd_same, rfl, fun j t u ht hu => ?_⟩⟩
  · obtain ⟨k, R, g1, g2⟩ := hls l' hl'
    obtain ⟨w, _, g3⟩ := s1.good.get g1
    have hl1 := g2 w H1 g3
    refine ⟨fun z => ?_, fun z => hl1 (by rw [← z]; exact hr)⟩
    subst z
    rw [upd_ne (fun z => ?_), upd_ne har] at ha
    · exact hl1 ha
    · subst z
      rw [upd_same] at ha
      cases ha
  · match j, ht, hu with
    | 0, ht, hu =>
      cases ht; cases hu
      refine ⟨b, rfl, e4.tk.sqT (SqT.of upd_same), rd, [], ?_, DRl.nil⟩
      exact e4.at (e3.at upd_same rd) rd
/-- x.append((e1, e2)), e2 a new list, x in slot i -/
theorem bx_appLy (i : Nat) {x : Str} {p1 p2 p3 p4 p5 : Pos} {kk : Nat} {K : PySem.W.Frag} {la : Addr} {T : LyT} {n : Nat} {run : List Nat} (ls : List Addr) (hls : ∀ l ∈ ls, Known l ρ) (hi : ρ[i]? = some (some (lyrR K la T))) (hK : X.K = K) (he : ∀ B' : Hp, EX X B' ρ a (rI (n : Int))) (he2 : ∀ B' : Hp, EX X B' ρ b (newL B' K (natD run))) (hB : B la = none) (hb : IndBut la i ρ) (hz : T.length ≤ 1000)
    (h : ∀ r, B r = none → r ≠ la → (∀ l' ∈ ls, r ≠ l') → BX X rest (St B (ρ.set i (some (lyrR K la (T ++ [(n, r, run)]))))) Po)
    (hN : X.N[i]? = some x := by rfl) (hv : Vis X.env.scope x := by first | exact Or.inl rfl | exact Or.inr (Or.inl rfl) | exact Or.inr (Or.inr rfl)) (hd : (x == ("__debug__" : Str)) = false := by decide) (hcd : (x == ("__classdict__" : Str)) = false := by decide)
    (hbase : attributeBase (.Name x p1) "append" X.env (eval (.Name x p1) X.env) = eval (.Name x p1) X.env := by rfl)
    (hfew : ((backTo p3 (starEach (.Tuple [a, b] kk p5 :: []) X.env)).all (fun x => !x.1) && (backToKw p3 (keywordEach [] X.env)).all (fun x => x.1.isSome)
      && decide ((Expr.Tuple [a, b] kk p5 :: []).length + ([] : List Keyword).length + (if ([] : List Keyword).isEmpty then 0 else 1) < 30)) = true := by rfl)
    (hline : (p2.endLine == p3.line) = true := by rfl) (hs : starEach (.Tuple [a, b] kk p5 :: []) X.env = (false, eval (.Tuple [a, b] kk p5) X.env) :: starEach [] X.env := by rfl) (hplain : (backTo p3 (starEach [] X.env)).any (·.1) = false := by rfl)
    (h1 : starEach [a, b] X.env = (false, eval a X.env) :: starEach [b] X.env := by rfl) (h2 : starEach [b] X.env = (false, eval b X.env) :: starEach [] X.env := by rfl)
    (hsw : swapsWith (.Call (.Attribute (.Name x p1) "append" p2) [.Tuple [a, b] kk p5] [] p3) none p4.line X.env = pure false := by rfl) :
    BX X (.Expr (.Call (.Attribute (.Name x p1) "append" p2) [.Tuple [a, b] kk p5] [] p3) p4 :: rest) (St B ρ) Po := by
  subst hK
  refine bx_cons (Mid := fun σ H => ∃ r, (B r = none ∧ r ≠ la ∧ ∀ l' ∈ ls, r ≠ l') ∧ St B (ρ.set i (some (lyrR X.K la (T ++ [(n, r, run)])))) σ H) ?_ (bx_ex fun r hr => h r hr.1 hr.2.1 hr.2.2)
  refine ⟨fun pins s σ H E I ⟨st, q⟩ => ?_⟩
  refine (ps_expr (pe_bm PySem.F.plainAttrs_list PySem.F.slot_list_append PySem.F.type_list_append mt_append (pe_var hN hv hd hcd) (pa_cons (pe_tup (pa_cons (he H) (pa_cons (he2 H) pa_nil h2) h1)) pa_nil hs) hbase hfew hline hs hplain) hsw).run pins s σ H E I ?_
  obtain ⟨v, g1, rfl, hld, vs, g2, g3, g4⟩ := st.good.get hi
  have stH : St H ρ σ H := ⟨Ext.refl H, st.dr, st.good⟩
  refine ⟨_, g1, Or.inl ⟨rfl, _, SqL.of g2⟩, stH, fun u H1 e1 hu => ⟨stH.mono e1, fun w H2 e2 hw => ?_⟩⟩
  obtain rfl : u = .int (n : Int) := hu
  obtain ⟨r, hrH, rfl, hrd, ws, hr2, hws⟩ := hw
  refine ⟨Nat.le_of_lt (small1000 (by simp)), fun t ht => ?_⟩
  have e3 : Ext d H2 (upd H2 t (.tup [.int (n : Int), .ref r])) := Ext.new ht
  have ee := e1.trans (e2.trans e3)
  have s3 := st.mono ee
  have g2' := ee.at g2 hld
  have hrla : r ≠ la := fun z => by rw [z, g2] at hrH; cases hrH
  have hBr : B r = none := (st.fresh hrH).1
  refine ⟨la, vs, _, rfl, rfl, g2', by rw [g3]; exact small1000 hz, ?_⟩
  have kk := Tk.lst (ys := vs ++ [V.ref t]) g2'
  have hnew : ∀ (j : Nat) t' u', (T ++ [(n, r, run)])[j]? = some t' → (vs ++ [V.ref t])[j]? = some u' → lyP X.K d (upd (upd H2 t (.tup [.int (n : Int), .ref r])) la (.lst (vs ++ [V.ref t]))) t' u' := fun j t' u' h1 h2 => by
    by_cases hj : j < T.length
    · rw [List.getElem?_append_left hj] at h1
      rw [List.getElem?_append_left (by rw [g3]; exact hj)] at h2
      have hp := g4 j t' u' h1 h2
      have hne : t'.2.1 ≠ la ∨ t'.2.1 = la := by
        by_cases z : t'.2.1 = la
        · exact .inr z
        · exact .inl z
      rcases hne with hne | hne
      · exact (hp.ext ee).upd g2' hne
      · exfalso
        obtain ⟨b', z1, z2, z3, ws', z4, z5⟩ := hp
        rw [hne, g2] at z4
        cases z4
        -- the list itself holds references, not ints
        have hjl : j < (natD t'.2.2).length := by rw [z5.1, g3]; exact hj
        have := z5.2 j _ u' (List.getElem?_eq_getElem hjl) h2
        rw [z1] at this
        rw [List.getElem_map] at this
        cases this
    · rw [List.getElem?_append_right (by omega)] at h1
      rw [List.getElem?_append_right (by rw [g3]; omega)] at h2
      rw [g3] at h2
      have h0 : j - T.length = 0 := by
        cases q' : j - T.length with
        | zero => rfl
        | succ m => rw [q'] at h1; simp at h1
      rw [h0] at h1 h2
      cases h1; cases h2
      refine ⟨t, rfl, kk.sqT (SqT.of upd_same), hrd, ws, ?_, (hws.tk e3.tk).tk kk⟩
      rw [upd_ne hrla]
      exact e3.at hr2 hrd
  refine q.nx σ _ (ee.tk.trans kk) ⟨r, ⟨hBr, hrla, fun l' hl' z => ?_⟩, ?_⟩
  · obtain ⟨k, R, a1, a2⟩ := hls l' hl'
    obtain ⟨w', _, a3⟩ := st.good.get a1
    exact a2 w' H a3 (by rw [← z]; exact hrH)
  · refine ⟨s3.ext.mut hB hld, fun a' ha' => ?_, by simp [s3.good.1], fun j R e => ?_⟩
    · obtain ⟨ns, b1, b2⟩ := s3.dr a' ha'
      have : a' ≠ la := fun z => hld (by rw [← z]; exact ha'.symm)
      exact ⟨ns, b1, by rw [upd_ne this]; exact b2⟩
    · by_cases hj : i = j
      · subst hj
        have hlt : i < ρ.length := (List.getElem?_eq_some_iff.mp hi).1
        rw [List.getElem?_set_self hlt] at e
        cases e
        exact ⟨_, g1, rfl, hld, _, upd_same, by simp [g3], hnew⟩
      · rw [List.getElem?_set_ne hj] at e
        obtain ⟨u', b1, b2⟩ := s3.good.get e
        exact ⟨u', b1, hb j R (fun z => hj z.symm) e u' _ vs _ g2' b2⟩
/-- for x, y in such a list -/
theorem bx_forLy {α : Type} {T : LyT} {la : Addr} (j k : Nat) {x y : Str} {kk : Nat} {tpos p1 p2 : Pos} (P : Nat → α → Prop) (r : Nat → α → Ro d) (hi : EX X B ρ iter (lyrR X.K la T)) (h0 : ∀ σ H, St B ρ σ H → IS B (P 0) (r 0) σ H)
    (hl : ∀ i z, P i z → ∃ (k : Nat) (R : Rp d), (r i z)[k]? = some (some R) ∧ ∀ v H, R.p v H → (lyrR (d := d) X.K la T).p v H)
    (hb : ∀ (i : Nat) t z, T[i]? = some t → P i z → BX X body (St B (((r i z).set j (some (rI (t.1 : Int)))).set k (some (own X.K t.2.1 (natD t.2.2))))) (Lp Po (IS B (P (i + 1)) (r (i + 1))) (IS B (P T.length) (r T.length)))) (h : BX X rest (IS B (P T.length) (r T.length)) Po)
    (hN : X.N.Nodup) (hp : PassesOwn (model X.prog X.w) X.A X.env X.xe) (hj : X.N[j]? = some x := by rfl) (hk : X.N[k]? = some y := by rfl) (hc : X.calm = true := by rfl) (hx : Loc X.env.scope x := by first | exact Or.inl rfl | exact Or.inr rfl) (hy : Loc X.env.scope y := by first | exact Or.inl rfl | exact Or.inr rfl)
    (hf : X.fn x = true ∨ X.env.scope.names.lookup x = some .local := by first | exact .inl rfl | exact .inr rfl | assumption) (hfy : X.fn y = true ∨ X.env.scope.names.lookup y = some .local := by first | exact .inl rfl | exact .inr rfl | assumption) (hs : ∀ x, foldedSetIterable iter X.env x = pure x := by intro _; rfl) :
    BX X (.For (.Tuple [.Name x p1, .Name y p2] kk tpos) iter body [] pos :: rest) (St B ρ) Po := by
  refine bx_cons (Mid := IS B (P T.length) (r T.length)) ?_ h
  refine PS_wk (t := tFor (iList X.K fun σ H Q => St B ρ σ H ∧ ∀ v H', Ext d H H' → (lyrR X.K la T).p v H' → Q v H') (gTup X.K 2 (gCons (gName j) (gCons (gName k) gNil))) (tBody (Z := Nat × (Nat × Addr × List Nat) × α) B (fun z => ((r z.1 z.2.2).set j (some (rI (z.2.1.1 : Int)))).set k (some (own X.K z.2.1.2.1 (natD z.2.1.2.2)))) (fun z => T[z.1]? = some z.2.1 ∧ P z.1 z.2.2) (fun z => Lp Po (IS B (P (z.1 + 1)) (r (z.1 + 1))) (IS B (P T.length) (r T.length)))))
    (ps_for hp hc (pi_list hi) (pg_tup hc (pgs_cons (pg_name hN hj hx hf) (pgs_cons (pg_name hN hk hy hfy) pgs_nil))) ⟨fun pins s σ H E I ⟨⟨i, t, z⟩, ⟨hw, hz⟩, q, l⟩ => (hb i t z hw hz).run pins s σ H E I ⟨q, l⟩⟩ hs) fun E σ H ⟨s, l⟩ => ⟨s, fun v H1 e1 hv => ?_⟩
  obtain ⟨rfl, hld, us, h1, _⟩ := hv
  refine ⟨la, rfl, ⟨us, SqL.of h1⟩, ?_⟩
  have key : ∀ i σ H, IS B (P i) (r i) σ H → ∃ vs, SqL X.K H la vs ∧ vs.length = T.length ∧ ∀ (j : Nat) t u, T[j]? = some t → vs[j]? = some u → lyP X.K d H t u := fun i σ H ⟨z, hz, q⟩ => by
    obtain ⟨k, R, hk, hR⟩ := hl i z hz
    obtain ⟨v, _, g⟩ := q.good.get hk
    obtain ⟨_, _, vs, a1, a2, a3⟩ := hR v H g
    exact ⟨vs, SqL.of a1, a2, a3⟩
  refine ⟨fun i m σ H => m = T.length - i ∧ i ≤ T.length ∧ Tk H1 H ∧ IS B (P i) (r i) σ H, ⟨T.length, rfl, Nat.zero_le _, Tk.refl _, h0 _ _ (s.mono e1)⟩, ?_⟩
  rintro i m σ H ⟨rfl, hi', k', q⟩
  obtain ⟨vs, a1, a2, a3⟩ := key i σ H q
  by_cases hlt : i < T.length
  · have hv : i < vs.length := by rw [a2]; exact hlt
    refine .inr ⟨⟨vs, vs[i], a1, List.getElem?_eq_getElem hv⟩, fun σ' H' => Tk H1 H' ∧ IS B (P (i + 1)) (r (i + 1)) σ' H', fun σ' H' p' => ⟨T.length - (i + 1), by omega, rfl, hlt, p'.1, p'.2⟩, fun x H' y => ?_⟩
    obtain ⟨rfl, y⟩ := y
    obtain ⟨t, ht⟩ : ∃ t, T[i]? = some t := ⟨T[i], List.getElem?_eq_getElem hlt⟩
    obtain ⟨b, rfl, g1, g2, ws, g3, g4⟩ := a3 i t x ht (y vs a1)
    obtain ⟨z, hz, q⟩ := q
    refine ⟨b, _, rfl, g1, rfl, _, [_], rfl, _, [], rfl, rfl, (i, t, z), ⟨ht, hz⟩, ⟨q.ext, q.dr, (q.good.set j (R := rI (t.1 : Int)) rfl).set k (R := own X.K t.2.1 (natD t.2.2)) ⟨rfl, g2, ws, g3, g4⟩⟩, ?_⟩
    exact ⟨fun σ' H' k2 q' => ⟨k'.trans k2, q'⟩, fun v H' k2 q' => l.rt v H' ((e1.tk.trans k').trans k2) q', fun σ' H' k2 q' => l.nx σ' H' ((e1.tk.trans k').trans k2) q', fun σ' H' k2 q' => ⟨k'.trans k2, q'⟩⟩
  · have e : i = T.length := by omega
    subst e
    exact .inl ⟨⟨vs, a1, by rw [a2]; exact Nat.le_refl _⟩, l.nx σ H (e1.tk.trans k') q⟩
end
end Cv

set_option maxHeartbeats 8000000
namespace Cv
open PySem PySem.Spec PyProof.Rows L2 RZ
def topS (i : Nat) : Stmt := PySem.Challenge.pw_covernets_k34_routes.main.body.getD i (.Pass ⟨0, 0, 0, 0⟩)
abbrev s_Graph_init : Stmt := inClass (topS 1) 0
theorem sc_Graph_init : FnScope ["self", "markings", "moves", "marking", "row"] ["self", "markings", "moves"] (defScope s_Graph_init) := ⟨rfl, rfl, rfl, by decide +kernel, rfl, by decide +kernel, by decide +kernel⟩
abbrev s_route : Stmt := topS 2
theorem sc_route : FnScope ["graph", "first", "second", "runs", "waiting", "at", "number", "index", "target", "run"] ["graph", "first", "second"] (defScope s_route) := ⟨rfl, rfl, rfl, by decide +kernel, rfl, by decide +kernel, by decide +kernel⟩
abbrev s_law_draws : Stmt := topS 4
theorem sc_law_draws : FnScope ["script", "count", "cells", "found", "mixed", "k", "j", "cell", "again"] ["script", "count"] (defScope s_law_draws) := ⟨rfl, rfl, rfl, by decide +kernel, rfl, by decide +kernel, by decide +kernel⟩
abbrev s_law_take : Stmt := topS 5
theorem sc_law_take : FnScope ["draws", "limit"] ["draws", "limit"] (defScope s_law_take) := ⟨rfl, rfl, rfl, by decide +kernel, rfl, by decide +kernel, by decide +kernel⟩
abbrev s_law : Stmt := topS 6
theorem sc_law : FnScope ["script", "draws", "count", "size", "share", "rows", "k", "row", "j", "target", "first", "second", "expected", "seen", "layer", "turn", "after", "number", "run", "index", "found"] ["script"] (defScope s_law) := ⟨rfl, rfl, rfl, by decide +kernel, rfl, by decide +kernel, by decide +kernel⟩

theorem getI {ns : List Int} {i : Nat} {w : D} (h : (ns.map D.i)[i]? = some w) : ∃ n, ns[i]? = some n ∧ w = .i n := by
  rw [List.getElem?_map] at h
  cases q : ns[i]? with
  | none => rw [q] at h; cases h
  | some n => rw [q] at h; cases h; exact ⟨n, rfl, rfl⟩
section
variable {d : Option Addr} {P : Program} {w : World} {K : PySem.W.Frag} {mg : Str → Option Value} {base : Heap}
theorem ok_take {f : Addr} {fd : FuncData} (F : Fun K "_law_take" "_law_take" s_law_take f fd) (ml : mg "len" = none) (mi : mg "int" = none) : FnOk P w K mg base CX0 1 f fd ["draws", "limit"] spTake := by
  refine F.ok sc_law_take (fun vs H Q E h => ?_) (fun cdv A outer s H vs Q E hr h => ?_)
  · obtain ⟨a, ns, n, rfl, _⟩ := h
    rfl
  · obtain ⟨a, ns, n, rfl, ha, hl, h0, k⟩ := h
    refine ⟨_, pss_cons (ps_if (pt_cmpR op_eq (pe_callB call_len_seq (by rfl) ml PySem.boot_len (pa_cons (pv 0) pa_nil)) pe_int (nomark _)) (pss_one (ps_ret pe_int)) pss_nil)
      (pss_one (ps_ret (pe_op op_mod (pe_callTy call_int1 (by rfl) mi (by decide +kernel) (pa_cons (pe_bm0 PySem.F.plainAttrs_list PySem.F.slot_list_pop PySem.F.type_list_pop mt_pop (pv 0)) pa_nil)) (pv 1)))), ?_⟩
    refine ⟨.ref a, rfl, a, ns.map V.int, rfl, .inl (SqL.of ha), rfl, _, rfl, ite2 (fun e => ?_) (fun e => ?_)⟩
    · exact k 0 ns H (Int.le_refl _) h0 ha hl fun b o _ hb => hb
    · have hne : ns ≠ [] := fun z => by subst z; exact e (decide_eq_true rfl)
      obtain ⟨ms, z, rfl⟩ : ∃ ms z, ns = ms ++ [z] := ⟨ns.dropLast, ns.getLast hne, (List.dropLast_concat_getLast hne).symm⟩
      rw [List.map_append] at ha
      refine ⟨_, rfl, .inl ⟨rfl, _, SqL.of ha⟩, a, _, .int z, rfl, rfl, ha, by simp, .inl ⟨z, rfl, ?_⟩⟩
      refine ⟨_, rfl, z, n, rfl, rfl, h0, k (z % n) ms _ (Int.emod_nonneg _ (by omega)) (Int.emod_lt_of_pos _ h0) ?_ (by simp at hl; omega) fun b o hb hbo => by rw [upd_ne hb]; exact hbo⟩
      rw [upd_same]
      congr 2
      exact List.dropLast_concat
end
section
variable {d : Option Addr} {P : Program} {w : World} {K : PySem.W.Frag} {mg : Str → Option Value} {base : Heap}
theorem ok_draws {f : Addr} {fd : FuncData} (F : Fun K "_law_draws" "_law_draws" s_law_draws f fd) (ml : mg "len" = none) (mL : mg "list" = none) (mr : mg "range" = none) (mi : mg "int" = none) :
    FnOk P w K mg base CX0 1 f fd ["script", "count"] (spP (none : Option Addr) (fun (z : {z : Addr × List Int × Int // 0 ≤ z.2.2 ∧ z.2.2 ≤ 1000 ∧ z.2.1.length ≤ 900}) => [lstA K z.1.1 (z.1.2.1.map D.i), rI z.1.2.2]) (fun _ H => newE H K fun ds => ∃ ns : List Int, ds = ns.map D.i ∧ ns.length ≤ 1000)) := by
  refine fn_okB F sc_law_draws (fun _ => rfl) (by decide) (fun z H => [some (lstB H K z.1.1 (z.1.2.1.map D.i)), some (rI z.1.2.2), none, none, none, none, none, none, none]) (fun z H σ s => (st_toB 0 rfl s).sub (by (repeat (first | exact Sub.nil | refine Sub.same ?_ | refine Sub.drop ?_)))) fun z H cdv A outer s E hr => ?_
  obtain ⟨⟨a, ns, c⟩, hc0, hc1, hns⟩ := z
  dsimp only at hc0 hc1 hns ⊢
  -- cells = list(script)
  refine bx_new 2 [] (by simp) (fun B' => x_list_l rfl mL (x_lstB (x_var 0 rfl))) (fun l hl _ => ?_) sc_law_draws.nd
  -- if len(cells) == 0: cells = [7]
  refine bx_if (fun σ H' => ∃ z : Addr × List Int, (H z.1 = none ∧ z.2 ≠ [] ∧ z.2.length ≤ 900) ∧ St (d := none) H [some (lstB H K a (ns.map D.i)), some (rI c), some (own K z.1 (z.2.map D.i)), none, none, none, none, none, none] σ H')
    (t_eq (x_len_l rfl ml (x_lstA (x_var 2 rfl))) x_int) (fun h => ?_) (fun h => ?_) ?_
  · refine bx_new 2 [] (by simp) (fun B' => x_lst (ds := [.i 7]) (a_cons (x_Id x_int) a_nil)) (fun l2 hl2 _ => bx_nil fun σ H' s => ⟨(l2, [7]), ⟨hl2, by simp, by simp⟩, s.sub (by (repeat (first | exact Sub.nil | refine Sub.same ?_ | refine Sub.drop ?_)))⟩) sc_law_draws.nd
  · refine bx_nil fun σ H' s => ⟨(l, ns), ⟨hl, ?_, hns⟩, s.sub (by (repeat (first | exact Sub.nil | refine Sub.same ?_ | refine Sub.drop ?_)))⟩
    intro e
    subst e
    simp [is] at h
  refine bx_ex fun z hz => ?_
  obtain ⟨l, cs⟩ := z
  obtain ⟨hl, hcs, hcl⟩ := hz
  dsimp only at hl hcs hcl ⊢
  -- found = []; mixed = 12345
  refine bx_new 3 [l] (by intro l' h'; rw [List.mem_singleton.mp h']; exact known_own 2 rfl) (fun B' => x_lst (ds := []) a_nil) (fun g hg hgl => ?_) sc_law_draws.nd
  have hgl : g ≠ l := hgl l (by simp)
  refine bx_set 4 x_int ?_ sc_law_draws.nd
  -- for k in range(count)
  refine bx_forR 5 (fun i (z : List Int × List Int × Int) => z.1 ≠ [] ∧ z.1.length ≤ 900 ∧ z.2.1.length = i ∧ 0 ≤ z.2.2 ∧ z.2.2 < 2147483647) (fun i z => [some (lstB H K a (ns.map D.i)), some (rI c), some (own K l (z.1.map D.i)), some (own K g (z.2.1.map D.i)), some (rI z.2.2), none, none, none, none]) rfl mr (x_var 1 rfl) (by omega)
    (fun σ H' s => ⟨(cs, [], 12345), ⟨hcs, hcl, rfl, by simp, by simp⟩, s.sub (by (repeat (first | exact Sub.nil | refine Sub.same ?_ | refine Sub.drop ?_)))⟩) (fun i z hi hz => ?_) ?_ sc_law_draws.nd PassesOwn.never
  · obtain ⟨cs, fs, m⟩ := z
    obtain ⟨hcs, hcl, hfs, hm0, hm1⟩ := hz
    dsimp only at hcs hcl hfs hm0 hm1 ⊢
    have hL : 0 < cs.length := List.length_pos_iff.mpr hcs
    -- j = k % len(cells)
    refine bx_set 6 (x_mod (x_var 5 rfl) (x_len_l rfl ml (x_lstA (x_var 2 rfl))) (by simp; omega)) ?_ sc_law_draws.nd
    have hj : ((i : Int) % ((cs.map D.i).length : Int)) = ((i % cs.length : Nat) : Int) := by rw [List.length_map]; omega
    have hjl : i % cs.length < cs.length := Nat.mod_lt _ hL
    -- cell = cells[j]
    refine bx_set 7 (x_dI (x_ixl (w := .i cs[i % cs.length]) (x_lstA (x_var 2 rfl)) (x_var 6 rfl) (by rw [hj]; exact atI_nat (by rw [List.getElem?_map, List.getElem?_eq_getElem hjl]; rfl)))) ?_ sc_law_draws.nd
    generalize cs[i % cs.length] = cell
    -- mixed = ..
    refine bx_set 4 (x_mod (x_int_ rfl mi (x_add (x_add (x_add (x_mul (x_var 4 rfl) x_int (.inl (by omega))) (x_mul (x_mod (x_int_ rfl mi (x_var 7 rfl)) x_int (by decide)) x_int (.inr (by decide)))) (x_mul (x_var 5 rfl) x_int (.inr (by decide)))) x_int)) x_int (by decide)) ?_ sc_law_draws.nd
    generalize hm' : (m * 48271 + cell % 1000003 * 69621 + (i : Int) * 7919 + 11) % 2147483647 = m'
    have hb0 : 0 ≤ m' := by omega
    have hb1 : m' < 2147483647 := by omega
    refine bx_set 8 (x_mod (x_int_ rfl mi (x_add (x_add (x_mul (x_var 4 rfl) (x_var 4 rfl) (.inl (by omega))) (x_mul x_int (x_var 4 rfl) (.inl (by decide)))) (x_var 5 rfl))) x_int (by decide)) ?_ sc_law_draws.nd
    generalize (m' * m' + 31 * m' + (i : Int)) % 1000003 = ag
    refine bx_if (IS H (fun (z : List Int × List Int × Int) => z.1 ≠ [] ∧ z.1.length ≤ 900 ∧ z.2.1.length = i + 1 ∧ 0 ≤ z.2.2 ∧ z.2.2 < 2147483647) (fun z => [some (lstB H K a (ns.map D.i)), some (rI c), some (own K l (z.1.map D.i)), some (own K g (z.2.1.map D.i)), some (rI z.2.2), none, none, none, none]))
      (t_ge (x_var 7 rfl) (x_pow x_int x_int ⟨by decide, by decide, by decide⟩)) (fun h => ?_) (fun h => ?_) (bx_nil fun σ H' s => s)
    · refine bx_append 3 (w := .i (cell % 1000)) rfl rfl (x_Id (x_mod (x_int_ rfl mi (x_var 7 rfl)) x_int (by decide))) hg (by (repeat' (first | exact ia_nil | refine ia_none ?_ | refine ia_some ?_ ?_ | refine ib_here ?_ | refine ib_none ?_ | refine ib_some ?_ ?_ | exact ind_I | exact ind_B | exact ind_dat | exact ind_any | exact ind_drw | exact ind_net | exact ind_dct | exact ind_dcT | exact ind_mail | exact ind_xB | exact ind_lstB (by assumption) | exact ind_own (by assumption) | exact ind_lstA (by assumption) | exact ind_own (Ne.symm (by assumption)) | exact ind_lstA (Ne.symm (by assumption)) | exact ind_tpl | exact ind_ownT (by assumption) | exact ind_ownT (Ne.symm (by assumption)) | exact ind_ll (by assumption) (by assumption) | exact ind_ll (Ne.symm (by assumption)) (by assumption)))) (by rw [List.length_map]; omega) ?_
      refine bx_setitem 2 (w := .i (cell / 1000)) (k := i % cs.length) rfl rfl (x_Id (x_fdiv (x_var 7 rfl) x_int ⟨by decide, by decide⟩)) (x_sub (x_var 6 rfl) fun v H hv => by rw [← hj]; exact hv) (by rw [List.length_map]; exact hjl) hl (by (repeat' (first | exact ia_nil | refine ia_none ?_ | refine ia_some ?_ ?_ | refine ib_here ?_ | refine ib_none ?_ | refine ib_some ?_ ?_ | exact ind_I | exact ind_B | exact ind_dat | exact ind_any | exact ind_drw | exact ind_net | exact ind_dct | exact ind_dcT | exact ind_mail | exact ind_xB | exact ind_lstB (by assumption) | exact ind_own (by assumption) | exact ind_lstA (by assumption) | exact ind_own (Ne.symm (by assumption)) | exact ind_lstA (Ne.symm (by assumption)) | exact ind_tpl | exact ind_ownT (by assumption) | exact ind_ownT (Ne.symm (by assumption)) | exact ind_ll (by assumption) (by assumption) | exact ind_ll (Ne.symm (by assumption)) (by assumption)))) ?_
      refine bx_nil fun σ H' s => ⟨(cs.set (i % cs.length) (cell / 1000), fs ++ [cell % 1000], m'), ⟨?_, ?_, ?_, hb0, hb1⟩, s.sub ?_⟩
      · intro z; apply hcs; exact List.eq_nil_of_length_eq_zero (by have := congrArg List.length z; simpa using this)
      · simpa using hcl
      · simp [hfs]
      · show Sub _ [_, _, _, _, _, _, _, _, _]
        rw [List.map_set, List.map_append]
        (repeat (first | exact Sub.nil | refine Sub.same ?_ | refine Sub.drop ?_))
    · refine bx_append 3 (w := .i (ag % 1000)) rfl rfl (x_Id (x_mod (x_int_ rfl mi (x_var 8 rfl)) x_int (by decide))) hg (by (repeat' (first | exact ia_nil | refine ia_none ?_ | refine ia_some ?_ ?_ | refine ib_here ?_ | refine ib_none ?_ | refine ib_some ?_ ?_ | exact ind_I | exact ind_B | exact ind_dat | exact ind_any | exact ind_drw | exact ind_net | exact ind_dct | exact ind_dcT | exact ind_mail | exact ind_xB | exact ind_lstB (by assumption) | exact ind_own (by assumption) | exact ind_lstA (by assumption) | exact ind_own (Ne.symm (by assumption)) | exact ind_lstA (Ne.symm (by assumption)) | exact ind_tpl | exact ind_ownT (by assumption) | exact ind_ownT (Ne.symm (by assumption)) | exact ind_ll (by assumption) (by assumption) | exact ind_ll (Ne.symm (by assumption)) (by assumption)))) (by rw [List.length_map]; omega) ?_
      refine bx_nil fun σ H' s => ⟨(cs, fs ++ [ag % 1000], m'), ⟨hcs, hcl, by simp [hfs], hb0, hb1⟩, s.sub ?_⟩
      show Sub _ [_, _, _, _, _, _, _, _, _]
      rw [List.map_append]
      (repeat (first | exact Sub.nil | refine Sub.same ?_ | refine Sub.drop ?_))
  · refine bx_ex fun z hz => ?_
    obtain ⟨cs, fs, m⟩ := z
    obtain ⟨_, _, hfs, _, _⟩ := hz
    dsimp only at hfs ⊢
    refine bx_reverse 3 rfl rfl hg (by (repeat' (first | exact ia_nil | refine ia_none ?_ | refine ia_some ?_ ?_ | refine ib_here ?_ | refine ib_none ?_ | refine ib_some ?_ ?_ | exact ind_I | exact ind_B | exact ind_dat | exact ind_any | exact ind_drw | exact ind_net | exact ind_dct | exact ind_dcT | exact ind_mail | exact ind_xB | exact ind_lstB (by assumption) | exact ind_own (by assumption) | exact ind_lstA (by assumption) | exact ind_own (Ne.symm (by assumption)) | exact ind_lstA (Ne.symm (by assumption)) | exact ind_tpl | exact ind_ownT (by assumption) | exact ind_ownT (Ne.symm (by assumption)) | exact ind_ll (by assumption) (by assumption) | exact ind_ll (Ne.symm (by assumption)) (by assumption)))) ?_
    refine bx_retR (x_sub (x_var 3 rfl) fun v H' hv => ?_) rfl
    rw [← List.map_reverse] at hv
    exact ⟨_, ⟨fs.reverse, rfl, by simp [hfs]; omega⟩, g, hg, hv⟩
end
end Cv

namespace Cv
open PySem PySem.Spec PyProof.Rows L2 RZ
/-! ### breadth first -/
structure Ent where
  n : Nat
  par : Option (Nat × Nat)
  run : List Nat
abbrev Ord := List Ent
def tgt (rows : List (List Int)) (p i : Nat) : Int := (rows.getD p []).getD i (-1)
abbrev nodesI (o : Ord) : List Int := o.map fun e => (e.n : Int)
def stp (rows : List (List Int)) (e : Ent) (o : Ord) (i : Nat) : Ord := if tgt rows e.n i = -1 ∨ tgt rows e.n i ∈ nodesI o then o else o ++ [⟨(tgt rows e.n i).toNat, some (e.n, i), e.run ++ [i]⟩]
def expd (rows : List (List Int)) (e : Ent) (o : Ord) (j : Nat) : Ord := (List.range j).foldl (stp rows e) o
theorem expd_succ {rows : List (List Int)} {e : Ent} {o : Ord} {j : Nat} : expd rows e o (j + 1) = stp rows e (expd rows e o j) j := by
  unfold expd
  rw [List.range_succ, List.foldl_append]
  rfl
def Gq (rows : List (List Int)) (sz : Nat) (o0 : Ord) : Nat → Ord
  | 0 => o0
  | k + 1 => match (Gq rows sz o0 k)[k]? with
    | none => Gq rows sz o0 k
    | some e => expd rows e (Gq rows sz o0 k) sz
section
variable {rows : List (List Int)} {sz : Nat} {o0 : Ord}
theorem Gq_step {k : Nat} {e : Ent} (h : (Gq rows sz o0 k)[k]? = some e) : Gq rows sz o0 (k + 1) = expd rows e (Gq rows sz o0 k) sz := by
  simp only [Gq, h]
theorem Gq_stop {k : Nat} (h : (Gq rows sz o0 k).length ≤ k) : ∀ j, k ≤ j → Gq rows sz o0 j = Gq rows sz o0 k
  | 0, hj => by
    have : k = 0 := by omega
    rw [this]
  | j + 1, hj => by
    by_cases e : k = j + 1
    · rw [e]
    · have ih := Gq_stop h j (by omega)
      have : (Gq rows sz o0 j)[j]? = none := List.getElem?_eq_none (by rw [ih]; omega)
      simp only [Gq, this]
      exact ih
theorem stp_pre {e : Ent} {o : Ord} {i : Nat} : o <+: stp rows e o i := by
  unfold stp
  split
  · exact List.prefix_refl _
  · exact List.prefix_append _ _
theorem expd_pre {e : Ent} {o : Ord} : ∀ j, o <+: expd rows e o j
  | 0 => List.prefix_refl _
  | j + 1 => by rw [expd_succ]; exact (expd_pre j).trans stp_pre
theorem Gq_pre1 {k : Nat} : Gq rows sz o0 k <+: Gq rows sz o0 (k + 1) := by
  cases h : (Gq rows sz o0 k)[k]? with
  | none =>
    have : Gq rows sz o0 (k + 1) = Gq rows sz o0 k := by simp only [Gq, h]
    rw [this]; exact List.prefix_refl _
  | some e => rw [Gq_step h]; exact expd_pre _
theorem Gq_pre {k : Nat} : ∀ j, k ≤ j → Gq rows sz o0 k <+: Gq rows sz o0 j
  | 0, hj => by
    have : k = 0 := by omega
    rw [this]; exact List.prefix_refl _
  | j + 1, hj => by
    by_cases e : k = j + 1
    · rw [e]; exact List.prefix_refl _
    · exact (Gq_pre j (by omega)).trans Gq_pre1
/-- what an order keeps -/
structure OrdOk (n : Nat) (o : Ord) : Prop where
  nd : (o.map (·.n)).Nodup
  lt : ∀ e ∈ o, e.n < n
  par : ∀ e ∈ o, match e.par with
    | none => e.run = []
    | some (p, i) => ∃ e' ∈ o, e'.n = p ∧ e.run = e'.run ++ [i]
  rl : ∀ e ∈ o, e.run.length < o.length
theorem OrdOk.len {n : Nat} {o : Ord} (h : OrdOk n o) : o.length ≤ n := by
  have h1 : (o.map (·.n)).length ≤ (List.range n).length := h.nd.length_le_of_subset fun x hx => by
    obtain ⟨e, he, rfl⟩ := List.mem_map.mp hx
    exact List.mem_range.mpr (h.lt e he)
  simpa using h1
structure RowsOk (n sz : Nat) (rows : List (List Int)) : Prop where
  ln : rows.length = n
  sz : ∀ r ∈ rows, r.length = sz
  bd : ∀ r ∈ rows, ∀ t ∈ r, -1 ≤ t ∧ t < n
theorem RowsOk.tg {n : Nat} (h : RowsOk n sz rows) {p i : Nat} (hp : p < n) (hi : i < sz) : ∃ r t, rows[p]? = some r ∧ r[i]? = some t ∧ tgt rows p i = t ∧ -1 ≤ t ∧ t < n := by
  have hl := h.ln
  have h1 : rows[p]? = some (rows[p]'(by omega)) := List.getElem?_eq_getElem _
  generalize rows[p]'(by omega) = r at h1
  have hr := List.mem_of_getElem? h1
  have hs := h.sz r hr
  have h2 : r[i]? = some (r[i]'(by omega)) := List.getElem?_eq_getElem _
  generalize r[i]'(by omega) = t at h2
  have ht := h.bd r hr t (List.mem_of_getElem? h2)
  refine ⟨r, t, h1, h2, ?_, ht⟩
  unfold tgt
  rw [List.getD_eq_getElem?_getD, List.getD_eq_getElem?_getD, h1]
  show ((some r).getD [])[i]?.getD (-1) = t
  rw [Option.getD_some, h2]
  rfl
theorem stp_ok {n : Nat} {e : Ent} {o : Ord} {i : Nat} (R : RowsOk n sz rows) (O : OrdOk n o) (he : e ∈ o) (hi : i < sz) : OrdOk n (stp rows e o i) := by
  obtain ⟨r, t, h1, h2, h3, h4, h5⟩ := R.tg (O.lt e he) hi
  unfold stp
  rw [h3]
  split
  · exact O
  · rename_i hn
    have hn1 : t ≠ -1 := fun z => hn (.inl z)
    have hn2 : t ∉ nodesI o := fun z => hn (.inr z)
    refine ⟨?_, fun q hq => ?_, fun q hq => ?_, fun q hq => ?_⟩
    · rw [List.map_append, List.nodup_append]
      refine ⟨O.nd, by simp, fun a ha b hb e' => ?_⟩
      obtain ⟨q, hq, rfl⟩ := List.mem_map.mp ha
      obtain rfl : b = t.toNat := by simpa using hb
      apply hn2
      refine List.mem_map.mpr ⟨q, hq, ?_⟩
      omega
    · rcases List.mem_append.mp hq with hq | hq
      · exact O.lt q hq
      · rw [List.mem_singleton.mp hq]
        show t.toNat < n
        omega
    · rcases List.mem_append.mp hq with hq | hq
      · have := O.par q hq
        cases hp : q.par with
        | none => rw [hp] at this; exact this
        | some pi =>
          obtain ⟨p, i'⟩ := pi
          rw [hp] at this
          obtain ⟨e', h6, h7⟩ := this
          exact ⟨e', List.mem_append_left _ h6, h7⟩
      · rw [List.mem_singleton.mp hq]
        exact ⟨e, List.mem_append_left _ he, rfl, rfl⟩
    · rw [List.length_append]
      rcases List.mem_append.mp hq with hq | hq
      · have := O.rl q hq; simp; omega
      · rw [List.mem_singleton.mp hq]
        have := O.rl e he
        show (e.run ++ [i]).length < _
        rw [List.length_append]
        simp; omega
theorem expd_ok {n : Nat} {e : Ent} {o : Ord} (R : RowsOk n sz rows) (O : OrdOk n o) (he : e ∈ o) : ∀ j, j ≤ sz → OrdOk n (expd rows e o j)
  | 0, _ => O
  | j + 1, hj => by
    rw [expd_succ]
    exact stp_ok R (expd_ok R O he j (by omega)) ((expd_pre j).subset he) (by omega)
theorem Gq_ok {n : Nat} (R : RowsOk n sz rows) (O : OrdOk n o0) : ∀ k, OrdOk n (Gq rows sz o0 k)
  | 0 => O
  | k + 1 => by
    cases h : (Gq rows sz o0 k)[k]? with
    | none =>
      have : Gq rows sz o0 (k + 1) = Gq rows sz o0 k := by simp only [Gq, h]
      rw [this]; exact Gq_ok R O k
    | some e => rw [Gq_step h]; exact expd_ok R (Gq_ok R O k) (List.mem_of_getElem? h) sz (Nat.le_refl _)
def look (o : Ord) (s : Nat) : Option (List Nat) := (o.find? fun e => decide (e.n = s)).map (·.run)
theorem look_pre {o o' : Ord} {s : Nat} {r : List Nat} (h : o <+: o') (hl : look o s = some r) : look o' s = some r := by
  obtain ⟨t, rfl⟩ := h
  unfold look at *
  rw [List.find?_append]
  cases q : o.find? (fun e => decide (e.n = s)) with
  | none => rw [q] at hl; cases hl
  | some e => rw [q] at hl; exact hl
theorem look_none {o : Ord} {s : Nat} : look o s = none ↔ (s : Int) ∉ nodesI o := by
  unfold look
  rw [Option.map_eq_none_iff, List.find?_eq_none]
  constructor
  · intro h hm
    obtain ⟨e, he, he'⟩ := List.mem_map.mp hm
    have := h e he
    simp only [decide_eq_true_eq] at this
    exact this (by omega)
  · intro h e he hd
    simp only [decide_eq_true_eq] at hd
    exact h (List.mem_map.mpr ⟨e, he, by rw [hd]⟩)
theorem look_snoc {o : Ord} {e : Ent} {s : Nat} (h : look o s = none) : look (o ++ [e]) s = if e.n = s then some e.run else none := by
  unfold look at *
  rw [Option.map_eq_none_iff] at h
  rw [List.find?_append, h]
  by_cases q : e.n = s
  · simp [q]
  · simp [q]
/-- the entry of a node -/
theorem ent_at {o : Ord} {n : Nat} (O : OrdOk n o) {e : Ent} (he : e ∈ o) : o.find? (fun q => decide (q.n = e.n)) = some e := by
  cases q : o.find? (fun q => decide (q.n = e.n)) with
  | none => exact absurd (List.find?_eq_none.mp q e he) (by simp)
  | some e' =>
    have h1 := List.mem_of_find?_eq_some q
    have h2 : e'.n = e.n := by have := List.find?_some q; simpa using this
    obtain ⟨i, hi⟩ := List.getElem?_of_mem h1
    obtain ⟨j, hj⟩ := List.getElem?_of_mem he
    have hil := (List.getElem?_eq_some_iff.mp hi).1
    have hjl := (List.getElem?_eq_some_iff.mp hj).1
    have hij : i = j := by
      refine Classical.byContradiction fun hne => ?_
      rcases Nat.lt_or_gt_of_ne hne with hlt | hlt
      · have := List.pairwise_iff_getElem.mp O.nd i j (by simpa using hil) (by simpa using hjl) hlt
        apply this
        rw [List.getElem_map, List.getElem_map, (List.getElem?_eq_some_iff.mp hi).2, (List.getElem?_eq_some_iff.mp hj).2, h2]
      · have := List.pairwise_iff_getElem.mp O.nd j i (by simpa using hjl) (by simpa using hil) hlt
        apply this
        rw [List.getElem_map, List.getElem_map, (List.getElem?_eq_some_iff.mp hi).2, (List.getElem?_eq_some_iff.mp hj).2, h2]
    subst hij
    rw [hi] at hj
    rw [Option.some.inj hj]
theorem look_ent {o : Ord} {n : Nat} (O : OrdOk n o) {e : Ent} (he : e ∈ o) : look o e.n = some e.run := by
  unfold look
  rw [ent_at O he]
  rfl
end
def parD : Option (Nat × Nat) → D
  | none => .n
  | some (p, i) => .t [.i (p : Int), .i (i : Int)]
def runsD (o : Ord) : List (Key × D) := o.map fun e => (Sum.inl (e.n : Int), parD e.par)
theorem runs_find {o : Ord} {s : Nat} : valD (runsD o) (Sum.inl (s : Int)) = (o.find? fun e => decide (e.n = s)).map fun e => parD e.par := by
  unfold valD runsD
  rw [List.find?_map, Option.map_map]
  have e : (fun kv : Key × D => decide (kv.1 = Sum.inl (s : Int))) ∘ (fun e : Ent => ((Sum.inl (e.n : Int), parD e.par) : Key × D)) = fun e : Ent => decide (e.n = s) := by
    funext q
    show decide ((Sum.inl (q.n : Int) : Key) = Sum.inl (s : Int)) = decide (q.n = s)
    by_cases h : q.n = s
    · rw [h]; simp
    · have : ¬ ((Sum.inl (q.n : Int) : Key) = Sum.inl (s : Int)) := fun z => h (by have := Sum.inl.inj z; omega)
      rw [decide_eq_false h, decide_eq_false this]
  rw [e]
  rfl
theorem runs_at {o : Ord} {n : Nat} (O : OrdOk n o) {e : Ent} (he : e ∈ o) : valD (runsD o) (Sum.inl (e.n : Int)) = some (parD e.par) := by
  rw [runs_find, ent_at O he]
  rfl
theorem runs_is {o : Ord} {t : Int} : (valD (runsD o) (Sum.inl t)).isSome = decide (t ∈ nodesI o) := by
  by_cases h : t ∈ nodesI o
  · rw [decide_eq_true h]
    obtain ⟨e, he, rfl⟩ := List.mem_map.mp h
    rw [runs_find]
    cases q : o.find? (fun x => decide (x.n = e.n)) with
    | none => exact absurd (List.find?_eq_none.mp q e he) (by simp)
    | some e' => rfl
  · rw [decide_eq_false h]
    have : valD (runsD o) (Sum.inl t) = none := valD_none fun q hq z => by
      obtain ⟨e, he, rfl⟩ := List.mem_map.mp hq
      exact h (List.mem_map.mpr ⟨e, he, Sum.inl.inj z⟩)
    rw [this]; rfl
section
variable {d : Option Addr} {P : Program} {w : World} {K : PySem.W.Frag} {mg : Str → Option Value} {base : Heap}
abbrev graphF (K : PySem.W.Frag) (rows : List (List Int)) : List (Str × Rp d) := [("moves", dat K (.t (rows.map tI))), ("markings", rAny)]
structure GrTxt (K : PySem.W.Frag) (mg : Str → Option Value) (C : Addr) : Prop where
  cl : Cls K C
  nM : NoAttr K C "markings"
  nV : NoAttr K C "moves"
  gC : mg "Graph" = some (.ref C)
theorem tups_eq {src ds : List D} (h1 : ds.length = src.length) (h2 : ∀ (k : Nat) w, ds[k]? = some w → src[k]? = some w) : ds = src := by
  apply List.ext_getElem?
  intro i
  by_cases hi : i < ds.length
  · rw [List.getElem?_eq_getElem hi]; exact (h2 i _ (List.getElem?_eq_getElem hi)).symm
  · rw [List.getElem?_eq_none (by omega), List.getElem?_eq_none (by omega)]
theorem ok_graph {f C : Addr} {fd : FuncData} (F : Fun K "__init__" "Graph.__init__" s_Graph_init f fd) (T : GrTxt K mg C) (mt : mg "tuple" = none) :
    FnOk P w K mg base CX0 1 f fd ["self", "markings", "moves"] (spI d C (fun (z : {z : List (List Int) × List (List Int) // z.1.length ≤ 900 ∧ z.2.length ≤ 900}) => [lst K (z.1.1.map tI), lst K (z.1.2.map tI)]) (fun z => graphF K z.1.2)) := by
  refine fn_okG F sc_Graph_init (fun vs H Q E ⟨z, x, dx, us, h1, h2, h3, _⟩ => by rw [h1, List.length_cons, h3.len]; rfl) fun vs H Q E hsp cdv A outer s hr => ?_
  obtain ⟨⟨⟨ms, rows⟩, hm, hv⟩, x, dx, us, rfl, hx, hus, hdr, q⟩ := hsp
  dsimp only at hm hv hus q
  have hxd : some x ≠ d := fun e => by
    obtain ⟨ns, _, h⟩ := hdr x e.symm
    rw [hx] at h; cases h
  obtain ⟨u1, u2, rfl, hu1, hu2⟩ := hus.two
  have xE := del_ext (H := H) (x := x) hxd
  refine ⟨St (d := d) (del H x) [some (insA C x []), some (lst K (ms.map tI)), some (lst K (rows.map tI)), none, none], { nx := fun _ H' => Ext d (del H x) H' ∧ (insA (d := d) C x (graphF K rows)).p (.ref x) H', rt := fun _ _ => False }, ?_, ?_, ?_⟩
  · refine ⟨xE, hdr, rfl, fun i R e => ?_⟩
    match i, e with
    | 0, e => cases e; exact ⟨_, rfl, rfl, dx, [], hx, Nat.le_refl _, fun i f R k => by cases k⟩
    | 1, e => cases e; exact ⟨_, rfl, (lst K (ms.map tI)).st xE hu1⟩
    | 2, e => cases e; exact ⟨_, rfl, (lst K (rows.map tI)).st xE hu2⟩
    | 3, e => cases e
    | 4, e => cases e
    | i + 5, e => cases e
  · refine bx_open 1 rfl fun l1 _ => ?_
    refine bx_open 2 rfl fun l2 _ => ?_
    refine bx_setfld 0 (R := rAny) rfl (by simp) T.cl T.nM (x_sub (x_tuple_lE rfl mt (x_lcL 3 (fun i w => (ms.map tI)[i]? = some w) (x_var 1 rfl) (by rw [List.length_map]; omega) sc_Graph_init.nd (blkOk_by (N := ["self", "markings", "moves", "marking", "row"]) (sc := defScope s_Graph_init) (by decide +kernel)) (fun _ _ _ _ _ => pg_name (i := 3) sc_Graph_init.nd rfl (Or.inl rfl))
      (fun s H C cl fp i w hw => ?_))) fun v H' hv => trivial) del_same (io_here (io_some io_lstA (io_some io_lstA (io_none (io_none io_nil))))) io_any (by simp) ?_
    · obtain ⟨ns, rfl⟩ : ∃ ns, w = tI ns := by
        rw [List.getElem?_map] at hw
        cases q : ms[i]? with
        | none => rw [q] at hw; cases hw
        | some z => rw [q] at hw; cases hw; exact ⟨z, rfl⟩
      exact x_sub (x_tuple_t rfl mt (x_var 3 rfl)) fun v H hv => ⟨_, hw, hv⟩
    refine bx_setfld 0 (R := dat K (.t (rows.map tI))) rfl (by simp) T.cl T.nV (x_sub (x_tuple_lE rfl mt (x_lcL 4 (fun i w => (rows.map tI)[i]? = some w) (x_var 2 rfl) (by rw [List.length_map]; omega) sc_Graph_init.nd (blkOk_by (N := ["self", "markings", "moves", "marking", "row"]) (sc := defScope s_Graph_init) (by decide +kernel)) (fun _ _ _ _ _ => pg_name (i := 4) sc_Graph_init.nd rfl (Or.inl rfl))
      (fun s H C cl fp i w hw => ?_))) fun v H' hv => ?_) del_same (io_here (io_some io_lstA (io_some io_lstA (io_none (io_none io_nil))))) io_dat (fun p hp => ?_) ?_
    · obtain ⟨ns, rfl⟩ : ∃ ns, w = tI ns := by
        rw [List.getElem?_map] at hw
        cases q : rows[i]? with
        | none => rw [q] at hw; cases hw
        | some z => rw [q] at hw; cases hw; exact ⟨z, rfl⟩
      exact x_sub (x_tuple_t rfl mt (x_var 4 rfl)) fun v H hv => ⟨_, hw, hv⟩
    · obtain ⟨w, ⟨ds, ⟨h1, h2⟩, rfl⟩, hv⟩ := hv
      rw [tups_eq h1 h2] at hv
      exact hv
    · rw [List.mem_singleton.mp hp]
      exact ⟨io_any, show ¬ (("markings" : Str) = "moves") by decide +kernel⟩
    · refine bx_nil fun σ H' s => ⟨s.ext, ?_⟩
      obtain ⟨v, _, hv⟩ := s.good.get (i := 0) rfl
      obtain rfl : v = .ref x := hv.1
      exact hv
  · exact ⟨fun σ' H' _ ⟨e1, h1⟩ => q H' e1 h1, fun v H' _ h => h.elim, fun _ _ _ h => h.elim, fun _ _ _ h => h.elim⟩
/-- what route gives back -/
def rtR (B : Hp) (K : PySem.W.Frag) (o : Option (List Nat)) : Rp d := match o with
  | none => dat K .n
  | some r => newL B K (natD r)
theorem rowAt {rows : List (List Int)} {p : Nat} {r : List Int} (h : rows[p]? = some r) : (rows.map tI)[p]? = some (tI r) := by rw [List.getElem?_map, h]; rfl
theorem ok_route {f C : Addr} {fd : FuncData} (F : Fun K "route" "route" s_route f fd) (T : GrTxt K mg C) (ml : mg "len" = none) (me : mg "enumerate" = none) : FnOk P w K mg base CX0 1 f fd ["graph", "first", "second"]
    (spP d (fun (z : {z : List (List Int) × Nat × Nat × Nat × Nat // RowsOk z.2.1 z.2.2.1 z.1 ∧ z.2.2.2.1 < z.2.1 ∧ z.2.1 ≤ 100 ∧ z.2.2.1 ≤ 100}) => [insR C (graphF K z.1.1), rI (z.1.2.2.2.1 : Int), rI (z.1.2.2.2.2 : Int)]) (fun z H => rtR H K (look (Gq z.1.1 z.1.2.2.1 [⟨z.1.2.2.2.1, none, []⟩] z.1.2.1) z.1.2.2.2.2))) := by
  refine fn_ok F sc_route (fun _ => rfl) (by decide) fun z H cdv A outer s E hr => ?_
  obtain ⟨⟨rows, n, sz, fi, se⟩, R, hfi, hn, hsz⟩ := z
  dsimp only at R hfi hn hsz ⊢
  have O0 : OrdOk n [⟨fi, none, []⟩] := ⟨by simp, fun e he => (by rw [List.mem_singleton.mp he]; exact hfi), fun e he => (by rw [List.mem_singleton.mp he]), fun e he => (by rw [List.mem_singleton.mp he]; simp)⟩
  have GO := Gq_ok (o0 := [⟨fi, none, []⟩]) R O0
  refine bx_disp1 3 (k := Sum.inl (fi : Int)) (w := .n) rfl (x_Id (x_var 1 rfl)) x_non (fun l3 hl3 => ?_) sc_route.nd
  refine bx_new 4 [] (by simp) (fun B' => x_lst (ds := [.i (fi : Int)]) (a_cons (x_Id (x_var 1 rfl)) a_nil)) (fun l4 hl4 _ => ?_) sc_route.nd
  refine bx_set 5 x_int ?_ sc_route.nd
  refine bx_while (d := d) (fun (k : Nat) => k ≤ (Gq rows sz [⟨fi, none, []⟩] k).length) (fun k => n - k) (fun k => [some (insR C (graphF K rows)), none, some (rI (se : Int)), some (dct K l3 (runsD (Gq rows sz [⟨fi, none, []⟩] k))), some (own K l4 ((nodesI (Gq rows sz [⟨fi, none, []⟩] k)).map D.i)), some (rI (k : Int)), none, none, none, none])
    (T := fun k q => (q = true ↔ k < (Gq rows sz [⟨fi, none, []⟩] k).length ∧ (se : Int) ∉ nodesI (Gq rows sz [⟨fi, none, []⟩] k)))
    (fun σ H s => ⟨0, Nat.zero_le _, s.sub (by (repeat (first | exact Sub.nil | refine Sub.same ?_ | refine Sub.drop ?_)))⟩) (fun k hk => ?_) (fun k hk hT => ?_) (bx_ex fun k hk => ?_) PassesOwn.never
  · refine t_sub (t_w (w_and (t_lt (x_var 5 rfl) (x_len_l rfl ml (x_lstA (x_var 4 rfl)))) fun _ => w_and1 (t_dnotin (k := Sum.inl (se : Int)) (hu_of hr) (x_Id (x_var 2 rfl)) (x_var 3 rfl)))) fun q hq => ?_
    rw [List.length_map, List.length_map] at hq
    simp only [is, runs_is] at hq
    rcases hq with ⟨h1, h2⟩ | ⟨h1, h2⟩
    · have h1' := of_decide_eq_true h1.symm
      rw [h2]
      simp
      omega
    · have h1' := of_decide_eq_false h1.symm
      rw [h2]
      simp
      omega
  · obtain ⟨hk1, hk2⟩ := hT.mp rfl
    obtain ⟨e, he⟩ : ∃ e, (Gq rows sz [⟨fi, none, []⟩] k)[k]? = some e := ⟨_, List.getElem?_eq_getElem hk1⟩
    have hem := List.mem_of_getElem? he
    have hen := (GO k).lt e hem
    have hln := (GO k).len
    have hG := Gq_step he
    refine bx_set 6 (x_ixlI (x_lstA (x_var 4 rfl)) (x_var 5 rfl) (z := (e.n : Int)) (by rw [List.getElem?_map, he]; rfl)) ?_ sc_route.nd
    obtain ⟨rw_, hrw⟩ : ∃ r, rows[e.n]? = some r := ⟨rows[e.n]'(by rw [R.ln]; exact hen), List.getElem?_eq_getElem _⟩
    have hrl := R.sz rw_ (List.mem_of_getElem? hrw)
    refine bx_forE 7 8 (fun i (_ : Unit) => i ≤ sz) (fun i _ => [some (insR C (graphF K rows)), none, some (rI (se : Int)), some (dct K l3 (runsD (expd rows e (Gq rows sz [⟨fi, none, []⟩] k) i))), some (own K l4 ((nodesI (expd rows e (Gq rows sz [⟨fi, none, []⟩] k) i)).map D.i)), some (rI (k : Int)), some (rI (e.n : Int)), none, none, none]) rfl me (x_ixt (w := tI rw_) (x_fld 0 T.cl T.nV (x_var 0 rfl)) (x_var 6 rfl) (atI_nat (rowAt hrw))) (fun σ H s => ⟨(), Nat.zero_le _, s.sub (by (repeat (first | exact Sub.nil | refine Sub.same ?_ | refine Sub.drop ?_)))⟩) (fun i wd _ hw _ => ?_) (bx_ex fun _ _ => ?_) sc_route.nd PassesOwn.never
    · obtain ⟨t, ht, rfl⟩ := getI hw
      have hil : i < sz := by have := (List.getElem?_eq_some_iff.mp ht).1; omega
      obtain ⟨r', t', g1, g2, g3, g4, g5⟩ := R.tg hen hil
      rw [hrw] at g1; cases g1
      rw [ht] at g2; cases g2
      have hOi := expd_ok R (GO k) hem i (by omega)
      have hlen := hOi.len
      have hstp : expd rows e (Gq rows sz [⟨fi, none, []⟩] k) (i + 1) = stp rows e (expd rows e (Gq rows sz [⟨fi, none, []⟩] k) i) i := expd_succ
      generalize hO : expd rows e (Gq rows sz [⟨fi, none, []⟩] k) i = o at hOi hlen hstp ⊢
      refine bx_if (IS (d := d) H (fun (_ : Unit) => i + 1 ≤ sz) (fun _ => [some (insR C (graphF K rows)), none, some (rI (se : Int)), some (dct K l3 (runsD (stp rows e o i))), some (own K l4 ((nodesI (stp rows e o i)).map D.i)), some (rI (k : Int)), some (rI (e.n : Int)), none, none, none]))
        (t_w (w_and (t_ne (x_dI (x_var 8 rfl)) (x_neg x_int)) fun _ => w_and1 (t_dnotin (k := Sum.inl t) (hu_of hr) (x_var 8 rfl) (x_var 3 rfl)))) (fun h => ?_) (fun h => ?_) (bx_nil fun σ H s => by rw [hstp]; exact s)
      · have hcond : ¬ (t = -1 ∨ t ∈ nodesI o) := by
          rcases h with ⟨h1, h2⟩ | ⟨_, h⟩
          · rw [runs_is] at h2
            rintro (z | z)
            · rw [decide_eq_true z] at h1; cases h1
            · rw [decide_eq_true z] at h2; cases h2
          · cases h
        have hst : stp rows e o i = o ++ [⟨t.toNat, some (e.n, i), e.run ++ [i]⟩] := by
          unfold stp
          rw [g3, if_neg hcond]
        have ht0 : ((t.toNat : Nat) : Int) = t := by
          have : t ≠ -1 := fun z => hcond (.inl z)
          omega
        have hnone : valD (runsD o) (Sum.inl t) = none := by
          have := runs_is (o := o) (t := t)
          rw [decide_eq_false fun z => hcond (.inr z)] at this
          cases q : valD (runsD o) (Sum.inl t) with
          | none => rfl
          | some x => rw [q] at this; cases this
        refine bx_dput 3 (k := Sum.inl t) (w := .t [.i (e.n : Int), .i (i : Int)]) rfl rfl (hu_of hr) (x_tup (ds := [.i (e.n : Int), .i (i : Int)]) (a_cons (x_Id (x_var 6 rfl)) (a_cons (x_Id (x_var 7 rfl)) a_nil))) (x_var 8 rfl) hnone (by unfold runsD; rw [List.length_map]; omega) hl3 (by (repeat' (first | exact ka_nil | refine ka_none ?_ | refine ka_some ?_ ?_ | refine kb_here ?_ | refine kb_none ?_ | refine kb_some ?_ ?_ | exact ink_I | exact ink_dat | exact ink_own | exact ink_ex fun _ => ink_insA (by intro p hp; rcases List.mem_cons.mp hp with rfl | hp; exact ink_dat; rw [List.mem_singleton.mp hp]; exact ink_any)))) ?_
        refine bx_append 4 (w := .i t) rfl rfl (x_var 8 rfl) hl4 (by (repeat' (first | exact ia_nil | refine ia_none ?_ | refine ia_some ?_ ?_ | refine ib_here ?_ | refine ib_none ?_ | refine ib_some ?_ ?_ | exact ind_I | exact ind_dat | exact ind_dct | exact ind_ex fun _ => ind_insA (by intro p hp; rcases List.mem_cons.mp hp with rfl | hp; exact ind_dat; rw [List.mem_singleton.mp hp]; exact ind_any)))) (by rw [List.length_map, List.length_map]; omega) ?_
        refine bx_nil fun σ H s => ⟨(), hil, s.sub ?_⟩
        show Sub _ [_, _, _, _, _, _, _, _, _, _]
        have e1 : runsD (stp rows e o i) = runsD o ++ [(Sum.inl t, .t [.i (e.n : Int), .i (i : Int)])] := by
          rw [hst]; unfold runsD; rw [List.map_append]; simp only [List.map_cons, List.map_nil, ht0]; rfl
        have e2 : (nodesI (stp rows e o i)).map D.i = (nodesI o).map D.i ++ [.i t] := by
          rw [hst, nodesI, List.map_append, List.map_append]; simp only [List.map_cons, List.map_nil, ht0]
        rw [e1, e2]
        (repeat (first | exact Sub.nil | refine Sub.same ?_ | refine Sub.drop ?_))
      · have hcond : t = -1 ∨ t ∈ nodesI o := by
          rcases h with ⟨_, h2⟩ | ⟨h1, _⟩
          · rw [runs_is] at h2
            refine .inr ?_
            cases q : decide (t ∈ nodesI o) with
            | true => exact of_decide_eq_true q
            | false => rw [q] at h2; cases h2
          · refine .inl ?_
            cases q : decide (t = -1) with
            | true => exact of_decide_eq_true q
            | false => rw [q] at h1; cases h1
        have hst : stp rows e o i = o := by
          unfold stp
          rw [g3, if_pos hcond]
        rw [hst]
        exact bx_nil fun σ H s => ⟨(), hil, s.sub (by (repeat (first | exact Sub.nil | refine Sub.same ?_ | refine Sub.drop ?_)))⟩
    · rw [List.length_map, hrl, ← hG]
      refine bx_augI 5 rfl x_int ?_ sc_route.nd
      refine bx_nil fun σ H s => ⟨k + 1, ⟨?_, by omega⟩, s.sub ?_⟩
      · have := (Gq_pre1 (rows := rows) (sz := sz) (o0 := [⟨fi, none, []⟩]) (k := k)).length_le
        omega
      · show Sub _ [_, _, _, _, _, _, _, _, _, _]
        (repeat (first | exact Sub.nil | refine Sub.same ?_ | refine Sub.drop ?_))
  · obtain ⟨hk1, hk2⟩ := hk
    have hln := (GO k).len
    have hkn : k ≤ n := by omega
    have hk2' : ¬ (k < (Gq rows sz [⟨fi, none, []⟩] k).length ∧ (se : Int) ∉ nodesI (Gq rows sz [⟨fi, none, []⟩] k)) := fun z => by have := hk2.mpr z; cases this
    refine bx_ifret (t_dnotin (k := Sum.inl (se : Int)) (hu_of hr) (x_Id (x_var 2 rfl)) (x_var 3 rfl)) (fun h => ?_) (fun h => ?_)
    · simp only [is, runs_is] at h
      have hno : (se : Int) ∉ nodesI (Gq rows sz [⟨fi, none, []⟩] k) := fun z => by rw [decide_eq_true z] at h; cases h
      have hst := Gq_stop (rows := rows) (sz := sz) (o0 := [⟨fi, none, []⟩]) (k := k) (by
        refine Classical.byContradiction fun q => hk2' ⟨by omega, hno⟩) n hkn
      rw [hst, look_none.mpr hno]
      exact bx_retR x_non rfl
    · simp only [is, runs_is] at h
      have hyes : (se : Int) ∈ nodesI (Gq rows sz [⟨fi, none, []⟩] k) := by
        refine Classical.byContradiction fun z => ?_
        rw [decide_eq_false z] at h
        cases h
      obtain ⟨e0, he0, hs0⟩ := List.mem_map.mp hyes
      have hs0' : e0.n = se := by omega
      have hlk : look (Gq rows sz [⟨fi, none, []⟩] n) se = some e0.run := look_pre (Gq_pre n hkn) (by rw [← hs0']; exact look_ent (GO k) he0)
      rw [hlk]
      have hO := GO k
      dsimp only
      generalize hGo : Gq rows sz [⟨fi, none, []⟩] k = o at he0 hO ⊢
      refine bx_new 9 [l4] (by intro l' h'; rw [List.mem_singleton.mp h']; exact known_own 4 rfl) (fun B' => x_lst (ds := []) a_nil) (fun l9 hl9 hne => ?_) sc_route.nd
      have hne' : l9 ≠ l4 := hne l4 (List.mem_singleton.mpr rfl)
      refine bx_set 6 (R := rI (e0.n : Int)) (x_sub (x_var 2 rfl) fun v H hv => by rw [hs0']; exact hv) ?_ sc_route.nd
      have hl0 := hO.rl e0 he0
      have hlo := hO.len
      refine bx_while (d := d) (fun (z : Ent × List Nat) => z.1 ∈ o ∧ z.1.run ++ z.2.reverse = e0.run) (fun z => z.1.run.length) (fun z => [none, none, none, some (dct K l3 (runsD o)), none, none, some (rI (z.1.n : Int)), none, none, some (own K l9 (natD z.2))])
        (T := fun z q => (q = false ↔ parD z.1.par = .n)) (fun σ H s => ⟨(e0, []), ⟨he0, by simp⟩, s.sub (by (repeat (first | exact Sub.nil | refine Sub.same ?_ | refine Sub.drop ?_)))⟩) (fun z hz => t_notN (x_dget (k := Sum.inl (z.1.n : Int)) (hu_of hr) (x_var 3 rfl) (x_Id (x_var 6 rfl)) (runs_at hO hz.1))) (fun z hz hT => ?_) (bx_ex fun z hz => ?_) PassesOwn.never
      · obtain ⟨e, r⟩ := z
        obtain ⟨he, hrun⟩ := hz
        dsimp only at he hrun hT ⊢
        have hp := hO.par e he
        have hrl : r.length ≤ e0.run.length := by
          have := congrArg List.length hrun
          rw [List.length_append, List.length_reverse] at this
          omega
        cases hpar : e.par with
        | none => rw [hpar] at hT; have := hT.mpr rfl; cases this
        | some pi =>
          obtain ⟨p, i⟩ := pi
          rw [hpar] at hp
          obtain ⟨e', he', hn', hr'⟩ := hp
          refine bx_unp2 6 7 (x_dget (k := Sum.inl (e.n : Int)) (w := .t [.i (p : Int), .i (i : Int)]) (hu_of hr) (x_var 3 rfl) (x_Id (x_var 6 rfl)) (by rw [runs_at hO he, hpar]; rfl)) ?_ sc_route.nd
          refine bx_append 9 (w := .i (i : Int)) rfl rfl (x_var 7 rfl) hl9 (by (repeat' (first | exact ia_nil | refine ia_none ?_ | refine ia_some ?_ ?_ | refine ib_here ?_ | refine ib_none ?_ | refine ib_some ?_ ?_ | exact ind_I | exact ind_B | exact ind_dat | exact ind_any | exact ind_drw | exact ind_net | exact ind_dct | exact ind_dcT | exact ind_mail | exact ind_xB | exact ind_lstB (by assumption) | exact ind_own (by assumption) | exact ind_lstA (by assumption) | exact ind_own (Ne.symm (by assumption)) | exact ind_lstA (Ne.symm (by assumption)) | exact ind_tpl | exact ind_ownT (by assumption) | exact ind_ownT (Ne.symm (by assumption)) | exact ind_ll (by assumption) (by assumption) | exact ind_ll (Ne.symm (by assumption)) (by assumption)))) (by rw [List.length_map]; omega) ?_
          refine bx_nil fun σ H s => ⟨(e', r ++ [i]), ⟨⟨he', ?_⟩, ?_⟩, s.sub ?_⟩
          · rw [List.reverse_append, ← hrun, hr']
            simp
          · show e'.run.length < e.run.length
            rw [hr', List.length_append]
            simp
          · show Sub _ [_, _, _, _, _, _, _, _, _, _]
            have e3 : natD (r ++ [i]) = natD r ++ [.i (i : Int)] := by rw [natD, List.map_append]; rfl
            rw [e3, hn']
            (repeat (first | exact Sub.nil | refine Sub.same ?_ | refine Sub.drop ?_ | refine Sub.cons (fun v H hv => by cases hv; rfl) ?_))
      · obtain ⟨e, r⟩ := z
        obtain ⟨⟨he, hrun⟩, hT⟩ := hz
        dsimp only at he hrun hT ⊢
        have hp := hO.par e he
        cases hpar : e.par with
        | some pi => rw [hpar] at hT; have := hT.mp rfl; cases this
        | none =>
          rw [hpar] at hp
          rw [hp, List.nil_append] at hrun
          rw [← hrun]
          show BX _ _ _ (Rt H (newL H K (natD r.reverse)))
          have e4 : natD r.reverse = (natD r).reverse := by rw [natD, List.map_reverse]
          rw [e4]
          exact bx_retR (x_revL (x_lstA (x_var 9 rfl))) rfl
end
end Cv

namespace Cv
open PySem PySem.Spec PyProof.Rows L2 RZ
theorem x_makeZ {d : Option Addr} {R : Rp d} {B : Hp} {X : Cx} {ρ : Ro d} {e : Expr} {es : List Expr} {pos : Pos} {α : Type} {C : Addr} {As : α → List (Rp d)} {F : α → List (Str × Rp d)} {x : Str} {p : Pos} {f : Addr} {fd : FuncData} {ps : List Str} {k : Nat} {CX : CXT} {E : XK} (z : α) (M : Mk X.K C f) (G : FnOk X.prog X.w X.K X.mg X.base CX k f fd ps (spI d C As F)) (hr : Room (k + 1) X.A) (hg : Gl X x) (hm : X.mg x = some (.ref C)) (hb : Binds X.K fd ps []) (hx : Passes CX X E)
    (ha : AX X B ρ (e :: es) (As z)) (hR : insR C (F z) = R)
    (hdb : (x == ("__debug__" : Str)) = false := by decide) (he : starEach (e :: es) X.env = (false, eval e X.env) :: starEach es X.env := by rfl) (hpl : (backTo pos (starEach es X.env)).any (·.1) = false := by rfl) : EX X B ρ (.Call (.Name x p) (e :: es) [] pos) R := hR ▸ x_make M G hr hg hm hb hx z ha hdb he hpl
def spLaw (K : PySem.W.Frag) : Sp := fun vs H Q _ => ∃ (a : Addr) (ns : List Int), vs = [.ref a] ∧ SqL K H a (ns.map V.int) ∧ ns.length ≤ 63 ∧ ∀ H', Q (.bl true) H'
def expR {d : Option Addr} (K : PySem.W.Frag) (o : Option (Addr × List Nat)) : Rp d := match o with
  | none => dat K .n
  | some p => own K p.1 (natD p.2)
def expA (o : Option (Addr × List Nat)) : List Addr := match o with
  | none => []
  | some p => [p.1]
theorem known_exp {d : Option Addr} {ρ : Ro d} {K : PySem.W.Frag} {o : Option (Addr × List Nat)} {a : Addr} (k : Nat) (h : ρ[k]? = some (some (expR K o))) (ha : a ∈ expA o) : Known a ρ := by
  cases o with
  | none => cases ha
  | some p =>
    obtain rfl := List.mem_singleton.mp ha
    exact known_own (K := K) (ds := natD p.2) k h
theorem ind_exp {d : Option Addr} {K : PySem.W.Frag} {l : Addr} {o : Option (Addr × List Nat)} (h : ∀ a ∈ expA o, a ≠ l) : Ind l (expR (d := d) K o) := by
  cases o with
  | none => exact ind_dat
  | some p => exact ind_own (h p.1 (List.mem_singleton.mpr rfl))
theorem own_lyr {d : Option Addr} {K : PySem.W.Frag} {a : Addr} {v : V} {H : Hp} (h : (own (d := d) K a []).p v H) : (lyrR (d := d) K a []).p v H := by
  obtain ⟨h1, h2, vs, h3, h4⟩ := h
  refine ⟨h1, h2, vs, h3, by rw [← h4.1]; rfl, fun j t u ht _ => (by cases ht)⟩
def pr2 (t : Nat × Addr × List Nat) : Nat × List Nat := (t.1, t.2.2)
def pre2 (e : Ent) : Nat × List Nat := (e.n, e.run)
theorem ly_at {T : LyT} {o : List Ent} (h : T.map pr2 = o.map pre2) {i : Nat} {t : Nat × Addr × List Nat} (ht : T[i]? = some t) : ∃ e, o[i]? = some e ∧ t.1 = e.n ∧ t.2.2 = e.run := by
  have h1 : (T.map pr2)[i]? = some (pr2 t) := by rw [List.getElem?_map, ht]; rfl
  rw [h, List.getElem?_map] at h1
  cases q : o[i]? with
  | none => rw [q] at h1; cases h1
  | some e =>
    rw [q] at h1
    have h2 : pre2 e = pr2 t := Option.some.inj h1
    exact ⟨e, rfl, (congrArg Prod.fst h2).symm, (congrArg Prod.snd h2).symm⟩
theorem pre_get {o o' : List Ent} (h : o <+: o') {i : Nat} {e : Ent} (he : o[i]? = some e) : o'[i]? = some e := by
  obtain ⟨t, rfl⟩ := h
  rw [List.getElem?_append_left (List.getElem?_eq_some_iff.mp he).1]
  exact he
theorem rtR_up {d : Option Addr} {B : Hp} {ρ1 : Ro d} {K : PySem.W.Frag} {o : Option (List Nat)} {σ : L2.St} {H H' : Hp} {v : V} (s : St B ρ1 σ H) (h : (rtR (d := d) H K o).p v H') : (rtR (d := d) B K o).p v H' := by
  cases o with
  | none => exact h
  | some r =>
    obtain ⟨a, ha, hv⟩ := h
    exact ⟨a, (s.fresh ha).1, hv⟩
section
variable {P : Program} {w : World} {K : PySem.W.Frag} {mg : Str → Option Value} {base : Heap}
structure LawTxt (K : PySem.W.Frag) (mg : Str → Option Value) (C : Addr) : Prop where
  gr : GrTxt K mg C
  ml : mg "len" = none
  mi : mg "int" = none
  mt : mg "tuple" = none
  mL : mg "list" = none
  mr : mg "range" = none
  me : mg "enumerate" = none
  ms : mg "isinstance" = none
theorem ok_law {f C fGI fRt fDr fTk : Addr} {fd dGI dRt dDr dTk : FuncData} (F : Fun K "law" "law" s_law f fd) (T : LawTxt K mg C)
    (FRt : Fun K "route" "route" s_route fRt dRt) (bRt : Binds K dRt ["graph", "first", "second"] []) (gRt : mg "route" = some (.ref fRt))
    (FDr : Fun K "_law_draws" "_law_draws" s_law_draws fDr dDr) (bDr : Binds K dDr ["script", "count"] []) (gDr : mg "_law_draws" = some (.ref fDr))
    (FTk : Fun K "_law_take" "_law_take" s_law_take fTk dTk) (bTk : Binds K dTk ["draws", "limit"] []) (gTk : mg "_law_take" = some (.ref fTk))
    (FGI : Fun K "__init__" "Graph.__init__" s_Graph_init fGI dGI) (bGI : Binds K dGI ["self", "markings", "moves"] []) (MGI : Mk K C fGI) : FnOk P w K mg base CX0 6 f fd ["script"] (spLaw K) := by
  refine fn_okG F sc_law (fun vs H Q E ⟨a, ns, h, _⟩ => by rw [h]; rfl) fun vs H Q E hsp cdv A outer s hr => ?_
  obtain ⟨a, ns, rfl, hS, hlen, q⟩ := hsp
  have r1 : Room 1 _ := hr.mono (by decide)
  have r2 : Room 2 _ := hr.mono (by decide)
  have r3 : Room 3 _ := hr.mono (by decide)
  have r4 : Room 4 _ := hr.mono (by decide)
  refine ⟨St (d := none) H [some (lstB H K a (ns.map D.i)), none, none, none, none, none, none, none, none, none, none, none, none, none, none, none, none, none, none, none, none], { nx := fun _ _ => False, rt := fun v _ => v = .bl true }, ?_, ?_, ⟨fun _ _ _ h => h.elim, fun v H' _ h => by rw [h]; exact q H', fun _ _ _ h => h.elim, fun _ _ _ h => h.elim⟩⟩
  · refine (st_toB (ρ := [some (lstA K a (ns.map D.i)), none, none, none, none, none, none, none, none, none, none, none, none, none, none, none, none, none, none, none, none]) 0 rfl ⟨Ext.refl H, fun _ e => (by cases e), rfl, fun i R e => ?_⟩).sub (by (repeat (first | exact Sub.nil | refine Sub.same ?_ | refine Sub.drop ?_)))
    match i, e with
    | 0, e =>
      cases e
      refine ⟨_, rfl, rfl, trivial, _, ?_, DRl.of_ints ns⟩
      rcases hS with (h | ⟨o, h⟩) | h
      · exact .inl ⟨fun z => (by cases z), h⟩
      · exact .inr (.inl ⟨o, h⟩)
      · exact .inr (.inr h)
    | i + 1, e => match i, e with
      | 0, e => cases e
      | 1, e => cases e
      | 2, e => cases e
      | 3, e => cases e
      | 4, e => cases e
      | 5, e => cases e
      | 6, e => cases e
      | 7, e => cases e
      | 8, e => cases e
      | 9, e => cases e
      | 10, e => cases e
      | 11, e => cases e
      | 12, e => cases e
      | 13, e => cases e
      | 14, e => cases e
      | 15, e => cases e
      | 16, e => cases e
      | 17, e => cases e
      | 18, e => cases e
      | 19, e => cases e
      | i + 20, e => cases e
  -- the draws
  refine bx_newE 1 [] (by simp) (fun B' => x_call (E := E0) (ok_draws (P := P) (w := w) (base := base) FDr T.ml T.mL T.mr T.mi) r1 rfl gDr FDr.kp bDr pass0 ⟨(a, ns, 80), by simp, by simp, by dsimp only; omega⟩ (a_cons (x_lstB (x_var 0 rfl)) (a_cons x_int a_nil)) fun v H H' σ s _ h => newE_up s h) (fun l ds hds hl _ => ?_) sc_law.nd
  obtain ⟨dn, rfl, hdn⟩ := hds
  refine bx_pre (Pre' := St (d := some l) H [some (lstB H K a (ns.map D.i)), some drw, none, none, none, none, none, none, none, none, none, none, none, none, none, none, none, none, none, none, none]) ?_ (fun σ H' s => ?_)
  rotate_left
  · -- from here on the draws are at l
    obtain ⟨v1, h1, rfl, _, vs1, hv1, hd1⟩ := s.good.get (i := 1) rfl
    obtain ⟨v0, h0, hv0⟩ := s.good.get (i := 0) rfl
    refine ⟨⟨fun b o hb _ => s.ext.keep b o hb fun z => (by cases z), fun b hb ⟨ms, _, hm⟩ => by cases hb; rw [hl] at hm; cases hm⟩, fun b hb => ?_, s.good.1, fun i R e => ?_⟩
    · cases hb
      obtain rfl := hd1.ints
      exact ⟨dn, hdn, hv1⟩
    · match i, e with
      | 0, e => cases e; exact ⟨v0, h0, lstB_d (fun l' e => by cases e; exact hl) hv0⟩
      | 1, e => cases e; exact ⟨_, h1, l, rfl, rfl⟩
      | 2, e => cases e
      | 3, e => cases e
      | 4, e => cases e
      | 5, e => cases e
      | 6, e => cases e
      | 7, e => cases e
      | 8, e => cases e
      | 9, e => cases e
      | 10, e => cases e
      | 11, e => cases e
      | 12, e => cases e
      | 13, e => cases e
      | 14, e => cases e
      | 15, e => cases e
      | 16, e => cases e
      | 17, e => cases e
      | 18, e => cases e
      | 19, e => cases e
      | 20, e => cases e
      | i + 21, e => cases e
  have GTk : FnOk P w K mg base CX0 1 fTk dTk ["draws", "limit"] spTake := ok_take FTk T.ml T.mi
  -- count, size, share
  refine bx_set 2 (x_addE (x_I x_int) (x_take (E := E0) GTk r1 rfl gTk FTk.kp bTk pass0 (x_var 1 rfl) x_int (by decide))) (bx_open 2 rfl fun n0 hn0 => ?_) sc_law.nd
  obtain ⟨n, rfl, hn1, hn2⟩ : ∃ n : Nat, n0 = (n : Int) ∧ 1 ≤ n ∧ n ≤ 7 := by
    obtain ⟨i, j, rfl, hj, rfl⟩ := hn0
    exact ⟨(1 + j).toNat, by omega, by omega, by omega⟩
  refine bx_set 3 (x_addE (x_I x_int) (x_take (E := E0) GTk r1 rfl gTk FTk.kp bTk pass0 (x_var 1 rfl) x_int (by decide))) (bx_open 3 rfl fun n0 hn0 => ?_) sc_law.nd
  obtain ⟨sz, rfl, hs1, hs2⟩ : ∃ n : Nat, n0 = (n : Int) ∧ 1 ≤ n ∧ n ≤ 3 := by
    obtain ⟨i, j, rfl, hj, rfl⟩ := hn0
    exact ⟨(1 + j).toNat, by omega, by omega, by omega⟩
  refine bx_set 4 (x_take (E := E0) GTk r1 rfl gTk FTk.kp bTk pass0 (x_var 1 rfl) x_int (by decide)) (bx_open 4 rfl fun s0 hs0 => ?_) sc_law.nd
  -- rows
  refine bx_new 5 [] (by simp) (fun B' => x_lst (ds := []) a_nil) (fun l5 hl5 _ => ?_) sc_law.nd
  refine bx_forR 6 (fun i (rs : List (List Int)) => rs.length = i ∧ (∀ r ∈ rs, r.length = sz) ∧ ∀ r ∈ rs, ∀ t ∈ r, -1 ≤ t ∧ t < n) (fun _ rs => [none, some drw, some (rI (n : Int)), some (rI (sz : Int)), some (rI s0), some (own K l5 (rs.map tI)), none, none, none, none, none, none, none, none, none, none, none, none, none, none, none]) rfl T.mr (x_var 2 rfl) (by omega) (fun σ H' s => ⟨[], ⟨rfl, by simp, by simp⟩, s.sub (by (repeat (first | exact Sub.nil | refine Sub.same ?_ | refine Sub.drop ?_)))⟩) (fun i rs hi hz => ?_) (bx_ex fun rows hz => ?_) sc_law.nd PassesOwn.never
  · obtain ⟨hz1, hz2, hz3⟩ := hz
    refine bx_new 7 [l5] (by intro l' h'; rw [List.mem_singleton.mp h']; exact known_own 5 rfl) (fun B' => x_lst (ds := []) a_nil) (fun l7 hl7 hne => ?_) sc_law.nd
    have h75 : l7 ≠ l5 := hne l5 (List.mem_singleton.mpr rfl)
    refine bx_forR 8 (fun j (r : List Int) => r.length = j ∧ ∀ t ∈ r, -1 ≤ t ∧ t < n) (fun _ r => [none, some drw, some (rI (n : Int)), some (rI (sz : Int)), some (rI s0), some (own K l5 (rs.map tI)), none, some (own K l7 (r.map D.i)), none, none, none, none, none, none, none, none, none, none, none, none, none]) rfl T.mr (x_var 3 rfl) (by omega) (fun σ H' s => ⟨[], ⟨rfl, by simp⟩, s.sub (by (repeat (first | exact Sub.nil | refine Sub.same ?_ | refine Sub.drop ?_)))⟩) (fun j r hj hr' => ?_) (bx_ex fun r hr' => ?_) sc_law.nd PassesOwn.never
    · obtain ⟨hr1', hr2'⟩ := hr'
      refine bx_set 9 (x_take (E := E0) GTk r1 rfl gTk FTk.kp bTk pass0 (x_var 1 rfl) (x_var 2 rfl) (by omega)) (bx_open 9 rfl fun t0 ht0 => ?_) sc_law.nd
      refine bx_if (IS (d := some l) H (fun (t : Int) => -1 ≤ t ∧ t < n) (fun t => [none, some drw, some (rI (n : Int)), some (rI (sz : Int)), some (rI s0), some (own K l5 (rs.map tI)), none, some (own K l7 (r.map D.i)), none, some (rI t), none, none, none, none, none, none, none, none, none, none, none])) (t_ltE (x_take (E := E0) GTk r1 rfl gTk FTk.kp bTk pass0 (x_var 1 rfl) x_int (by decide)) (x_I (x_var 4 rfl))) (fun _ => ?_) (fun _ => bx_nil fun σ H s => ⟨t0, ⟨by omega, ht0.2⟩, s.sub (by (repeat (first | exact Sub.nil | refine Sub.same ?_ | refine Sub.drop ?_)))⟩) (bx_ex fun t ht => ?_)
      · exact bx_set 9 (x_neg x_int) (bx_nil fun σ H s => ⟨-1, ⟨by omega, by omega⟩, s.sub (by (repeat (first | exact Sub.nil | refine Sub.same ?_ | refine Sub.drop ?_)))⟩) sc_law.nd
      · refine bx_append 7 (w := .i t) rfl rfl (x_Id (x_var 9 rfl)) hl7 (by (repeat' (first | exact ia_nil | refine ia_none ?_ | refine ia_some ?_ ?_ | refine ib_here ?_ | refine ib_none ?_ | refine ib_some ?_ ?_ | exact ind_I | exact ind_B | exact ind_dat | exact ind_any | exact ind_drw | exact ind_net | exact ind_dct | exact ind_dcT | exact ind_mail | exact ind_xB | exact ind_lstB (by assumption) | exact ind_own (by assumption) | exact ind_lstA (by assumption) | exact ind_own (Ne.symm (by assumption)) | exact ind_lstA (Ne.symm (by assumption)) | exact ind_tpl | exact ind_ownT (by assumption) | exact ind_ownT (Ne.symm (by assumption)) | exact ind_ll (by assumption) (by assumption) | exact ind_ll (Ne.symm (by assumption)) (by assumption)))) (by rw [List.length_map]; omega) (bx_nil fun σ H s => ⟨r ++ [t], ⟨by rw [List.length_append]; simp; omega, fun x hx => ?_⟩, s.sub ?_⟩)
        · rcases List.mem_append.mp hx with hx | hx
          · exact hr2' x hx
          · rw [List.mem_singleton.mp hx]; exact ht
        · show Sub _ [_, _, _, _, _, _, _, _, _, _, _, _, _, _, _, _, _, _, _, _, _]
          rw [List.map_append]
          (repeat (first | exact Sub.nil | refine Sub.same ?_ | refine Sub.drop ?_))
    · obtain ⟨hr1', hr2'⟩ := hr'
      refine bx_append 5 (w := tI r) rfl rfl (x_tuple_l rfl T.mt (x_lstA (x_var 7 rfl))) hl5 (by (repeat' (first | exact ia_nil | refine ia_none ?_ | refine ia_some ?_ ?_ | refine ib_here ?_ | refine ib_none ?_ | refine ib_some ?_ ?_ | exact ind_I | exact ind_B | exact ind_dat | exact ind_any | exact ind_drw | exact ind_net | exact ind_dct | exact ind_dcT | exact ind_mail | exact ind_xB | exact ind_lstB (by assumption) | exact ind_own (by assumption) | exact ind_lstA (by assumption) | exact ind_own (Ne.symm (by assumption)) | exact ind_lstA (Ne.symm (by assumption)) | exact ind_tpl | exact ind_ownT (by assumption) | exact ind_ownT (Ne.symm (by assumption)) | exact ind_ll (by assumption) (by assumption) | exact ind_ll (Ne.symm (by assumption)) (by assumption)))) (by rw [List.length_map]; omega) (bx_nil fun σ H s => ⟨rs ++ [r], ⟨by rw [List.length_append]; simp; omega, fun x hx => ?_, fun x hx => ?_⟩, s.sub ?_⟩)
      · rcases List.mem_append.mp hx with hx | hx
        · exact hz2 x hx
        · rw [List.mem_singleton.mp hx, hr1']; omega
      · rcases List.mem_append.mp hx with hx | hx
        · exact hz3 x hx
        · rw [List.mem_singleton.mp hx]; exact hr2'
      · show Sub _ [_, _, _, _, _, _, _, _, _, _, _, _, _, _, _, _, _, _, _, _, _]
        rw [List.map_append]
        (repeat (first | exact Sub.nil | refine Sub.same ?_ | refine Sub.drop ?_))
  obtain ⟨hz1, hz2, hz3⟩ := hz
  have R : RowsOk n sz rows := ⟨by omega, hz2, hz3⟩
  -- first, second
  refine bx_set 10 (x_take (E := E0) GTk r1 rfl gTk FTk.kp bTk pass0 (x_var 1 rfl) (x_var 2 rfl) (by omega)) (bx_open 10 rfl fun f0 hf0 => ?_) sc_law.nd
  obtain ⟨fi, rfl, hfi⟩ : ∃ k : Nat, f0 = (k : Int) ∧ k < n := ⟨f0.toNat, by omega, by omega⟩
  refine bx_set 11 (x_take (E := E0) GTk r1 rfl gTk FTk.kp bTk pass0 (x_var 1 rfl) (x_var 2 rfl) (by omega)) (bx_open 11 rfl fun f0 hf0 => ?_) sc_law.nd
  obtain ⟨se, rfl, hse⟩ : ∃ k : Nat, f0 = (k : Int) ∧ k < n := ⟨f0.toNat, by omega, by omega⟩
  have O0 : OrdOk n [⟨fi, none, []⟩] := ⟨by simp, fun e he => (by rw [List.mem_singleton.mp he]; exact hfi), fun e he => (by rw [List.mem_singleton.mp he]), fun e he => (by rw [List.mem_singleton.mp he]; simp)⟩
  have GO := Gq_ok (o0 := [⟨fi, none, []⟩]) R O0
  have hl0 : look [⟨fi, none, []⟩] se = if fi = se then some [] else none := by
    have := look_snoc (o := []) (e := ⟨fi, none, []⟩) (s := se) rfl
    exact this
  -- expected
  refine bx_set 12 (R := dat K .n) x_non ?_ sc_law.nd
  refine bx_if (IS (d := some l) H (fun (o : Option (Addr × List Nat)) => o.map (·.2) = look [⟨fi, none, []⟩] se) (fun o => [none, some drw, some (rI (n : Int)), some (rI (sz : Int)), none, some (own K l5 (rows.map tI)), none, none, none, none, some (rI (fi : Int)), some (rI (se : Int)), some (expR K o), none, none, none, none, none, none, none, none])) (t_eq (x_var 10 rfl) (x_var 11 rfl)) (fun h => ?_) (fun h => ?_) (bx_ex fun eo0 heo0 => ?_)
  · have hfs : fi = se := by have := of_decide_eq_true h.symm; omega
    refine bx_new 12 [] (by simp) (fun B' => x_lst (ds := []) a_nil) (fun l12 _ _ => bx_nil fun σ H s => ⟨some (l12, []), by rw [hl0, if_pos hfs]; rfl, s.sub ?_⟩) sc_law.nd
    show Sub _ [_, _, _, _, _, _, _, _, _, _, _, _, _, _, _, _, _, _, _, _, _]
    (repeat (first | exact Sub.nil | refine Sub.same ?_ | refine Sub.drop ?_))
  · have hfs : ¬ fi = se := fun z => by rw [z] at h; simp [is] at h
    refine bx_nil fun σ H s => ⟨none, by rw [hl0, if_neg hfs]; rfl, s.sub ?_⟩
    show Sub _ [_, _, _, _, _, _, _, _, _, _, _, _, _, _, _, _, _, _, _, _, _]
    (repeat (first | exact Sub.nil | refine Sub.same ?_ | refine Sub.drop ?_))
  -- seen, layer
  refine bx_new 13 (l5 :: expA eo0) (by intro l' h'; rcases List.mem_cons.mp h' with rfl | h'; exact known_own 5 rfl; exact known_exp 12 rfl h') (fun B' => x_lst (ds := [.i (fi : Int)]) (a_cons (x_Id (x_var 10 rfl)) a_nil)) (fun ls hls hls' => ?_) sc_law.nd
  have hls5 : ls ≠ l5 := hls' l5 List.mem_cons_self
  have hlse : ∀ a ∈ expA eo0, a ≠ ls := fun a ha z => hls' a (List.mem_cons_of_mem _ ha) z.symm
  refine bx_ly1 14 [ls] rfl (by intro l' h'; rw [List.mem_singleton.mp h']; exact known_own 13 rfl) (x_var 10 rfl) (fun ll0 rr0 hll0 hrr0 hlr hdis => ?_) sc_law.nd
  obtain ⟨hlls, hrls⟩ := hdis ls (List.mem_singleton.mpr rfl)
  -- turns
  refine bx_forR 15 (fun τ (z : Nat × Addr × LyT × Option (Addr × List Nat)) => (z.1 ≤ (Gq rows sz [⟨fi, none, []⟩] z.1).length ∧ (τ ≤ z.1 ∨ (Gq rows sz [⟨fi, none, []⟩] z.1).length ≤ z.1)) ∧ z.2.2.1.map pr2 = ((Gq rows sz [⟨fi, none, []⟩] z.1).drop z.1).map pre2 ∧ z.2.2.2.map (·.2) = look (Gq rows sz [⟨fi, none, []⟩] z.1) se ∧ z.2.1 ≠ ls ∧ (∀ t ∈ z.2.2.1, t.2.1 ≠ ls) ∧ ∀ a ∈ expA z.2.2.2, a ≠ ls) (fun _ z => [none, some drw, some (rI (n : Int)), some (rI (sz : Int)), none, some (own K l5 (rows.map tI)), none, none, none, none, some (rI (fi : Int)), some (rI (se : Int)), some (expR K z.2.2.2), some (own K ls ((nodesI (Gq rows sz [⟨fi, none, []⟩] z.1)).map D.i)), some (lyrR K z.2.1 z.2.2.1), none, none, none, none, none, none]) rfl T.mr (x_var 2 rfl) (by omega)
    (fun σ H' s => ⟨(0, ll0, [(fi, rr0, [])], eo0), ⟨⟨Nat.zero_le _, .inl (Nat.zero_le _)⟩, rfl, heo0, hlls, fun t ht => by rw [List.mem_singleton.mp ht]; exact hrls, hlse⟩, s.sub (by (repeat (first | exact Sub.nil | refine Sub.same ?_ | refine Sub.drop ?_)))⟩) (fun τ z hτ hz => ?_) (bx_ex fun z hz => ?_) sc_law.nd PassesOwn.never
  · obtain ⟨k, ll, Ly, eo⟩ := z
    obtain ⟨⟨hk1, hk2⟩, hT, heo, hll, hTr, hea⟩ := hz
    dsimp only at hk1 hk2 hT heo hll hTr hea ⊢
    have hTl : Ly.length = (Gq rows sz [⟨fi, none, []⟩] k).length - k := by have := congrArg List.length hT; simpa using this
    -- after = []
    refine bx_new 16 ([l5, ls, ll] ++ (Ly.map fun t => t.2.1) ++ expA eo) (by
      intro l' h'
      rcases List.mem_append.mp h' with h' | h'
      · rcases List.mem_append.mp h' with h' | h'
        · simp only [List.mem_cons, List.not_mem_nil, or_false] at h'
          rcases h' with rfl | rfl | rfl
          · exact known_own 5 rfl
          · exact known_own 13 rfl
          · exact known_lyr 14 rfl
        · obtain ⟨t, ht, rfl⟩ := List.mem_map.mp h'
          exact known_lyrT 14 rfl ht
      · exact known_exp 12 rfl h') (fun B' => x_lst (ds := []) a_nil) (fun la hla hla' => ?_) sc_law.nd
    have ha5 : la ≠ l5 := hla' l5 (by simp)
    have has : la ≠ ls := hla' ls (by simp)
    have hal : la ≠ ll := hla' ll (by simp)
    have haT : ∀ t ∈ Ly, t.2.1 ≠ la := fun t ht z => hla' t.2.1 (by simp only [List.mem_append, List.mem_map]; exact .inl (.inr ⟨t, ht, rfl⟩)) z.symm
    have hae : ∀ a ∈ expA eo, a ≠ la := fun a ha z => hla' a (List.mem_append_right _ ha) z.symm
    -- the layer
    refine bx_forLy 17 18 (fun i (z : LyT × Option (Addr × List Nat)) => i ≤ Ly.length ∧ z.1.map pr2 = ((Gq rows sz [⟨fi, none, []⟩] (k + i)).drop (k + Ly.length)).map pre2 ∧ z.2.map (·.2) = look (Gq rows sz [⟨fi, none, []⟩] (k + i)) se ∧ (∀ t ∈ z.1, t.2.1 ≠ ls ∧ t.2.1 ≠ la) ∧ ∀ a ∈ expA z.2, a ≠ ls ∧ a ≠ la) (fun i z => [none, some drw, some (rI (n : Int)), some (rI (sz : Int)), none, some (own K l5 (rows.map tI)), none, none, none, none, some (rI (fi : Int)), some (rI (se : Int)), some (expR K z.2), some (own K ls ((nodesI (Gq rows sz [⟨fi, none, []⟩] (k + i))).map D.i)), some (lyrR K ll Ly), none, some (lyrR K la z.1), none, none, none, none]) (x_var 14 rfl)
      (fun σ H' s => ⟨([], eo), ⟨Nat.zero_le _, ?_, heo, by simp, fun a ha => ⟨hea a ha, hae a ha⟩⟩, s.sub ?_⟩) (fun _ _ _ => ⟨14, _, rfl, fun v H h => h⟩) (fun i t z hti hz => ?_) (bx_ex fun z hz => ?_) sc_law.nd PassesOwn.never
    · rw [List.drop_eq_nil_of_le (show (Gq rows sz [⟨fi, none, []⟩] (k + 0)).length ≤ k + Ly.length by rw [Nat.add_zero]; omega)]
      rfl
    · show Sub _ [_, _, _, _, _, _, _, _, _, _, _, _, _, _, _, _, _, _, _, _, _]
      (repeat (first | exact Sub.nil | refine Sub.same ?_ | refine Sub.drop ?_ | refine Sub.cons (fun v H hv => own_lyr hv) ?_))
    · obtain ⟨T2, eo2⟩ := z
      obtain ⟨_, hT2, heo2, hT2r, hea2⟩ := hz
      dsimp only at hT2 heo2 hT2r hea2 ⊢
      obtain ⟨e, he0, hte, htr⟩ := ly_at hT hti
      have hiT := (List.getElem?_eq_some_iff.mp hti).1
      rw [List.getElem?_drop] at he0
      have hek : (Gq rows sz [⟨fi, none, []⟩] (k + i))[k + i]? = some e := pre_get (Gq_pre _ (Nat.le_add_right k i)) he0
      have hGs := Gq_step hek
      have hem := List.mem_of_getElem? hek
      have hen := (GO (k + i)).lt e hem
      have hpl := (Gq_pre (rows := rows) (sz := sz) (o0 := [⟨fi, none, []⟩]) (k + i) (Nat.le_add_right k i)).length_le
      have hkT : k + Ly.length ≤ (Gq rows sz [⟨fi, none, []⟩] (k + i)).length := by omega
      have htls := hTr t (List.mem_of_getElem? hti)
      have htla := haT t (List.mem_of_getElem? hti)
      rw [hte, htr]
      generalize hgo : (Gq rows sz [⟨fi, none, []⟩] (k + i)) = o at hek hGs hem hen hkT hT2 heo2 ⊢
      have hoO : OrdOk n o := by rw [← hgo]; exact GO (k + i)
      obtain ⟨rw_, hrw⟩ : ∃ r, rows[e.n]? = some r := ⟨rows[e.n]'(by rw [R.ln]; exact hen), List.getElem?_eq_getElem _⟩
      refine bx_forR 19 (fun j (z : LyT × Option (Addr × List Nat)) => j ≤ sz ∧ z.1.map pr2 = ((expd rows e o j).drop (k + Ly.length)).map pre2 ∧ z.2.map (·.2) = look (expd rows e o j) se ∧ (∀ t ∈ z.1, t.2.1 ≠ ls ∧ t.2.1 ≠ la) ∧ ∀ a ∈ expA z.2, a ≠ ls ∧ a ≠ la) (fun j z => [none, some drw, some (rI (n : Int)), some (rI (sz : Int)), none, some (own K l5 (rows.map tI)), none, none, none, none, some (rI (fi : Int)), some (rI (se : Int)), some (expR K z.2), some (own K ls ((nodesI (expd rows e o j)).map D.i)), some (lyrR K ll Ly), none, some (lyrR K la z.1), some (rI (e.n : Int)), some (own K t.2.1 (natD e.run)), none, none]) rfl T.mr (x_var 3 rfl) (by omega)
        (fun σ H' s => ⟨(T2, eo2), ⟨Nat.zero_le _, hT2, heo2, hT2r, hea2⟩, s.sub (by (repeat (first | exact Sub.nil | refine Sub.same ?_ | refine Sub.drop ?_)))⟩) (fun j z hj hz => ?_) (bx_ex fun z hz => ?_) sc_law.nd PassesOwn.never
      · obtain ⟨T3, eo3⟩ := z
        obtain ⟨_, hT3, heo3, hT3r, hea3⟩ := hz
        dsimp only at hT3 heo3 hT3r hea3 ⊢
        have hjs : j < sz := by omega
        obtain ⟨r', tv, g1, g2, g3, g4, g5⟩ := R.tg hen hjs
        rw [hrw] at g1; cases g1
        have hOj := expd_ok R hoO hem j (by omega)
        have hlj := hOj.len
        have hkj : k + Ly.length ≤ (expd rows e o j).length := Nat.le_trans hkT (expd_pre j).length_le
        have hT3l : T3.length ≤ 7 := by have := congrArg List.length hT3; simp only [List.length_map, List.length_drop] at this; omega
        have hrl := hoO.rl e hem
        have hol := hoO.len
        have hsu := expd_succ (rows := rows) (e := e) (o := o) (j := j)
        rw [hsu]
        generalize expd rows e o j = oj at hT3 heo3 hOj hlj hkj ⊢
        -- target
        refine bx_set 9 (x_ixtI (x_ixl (x_lstA (x_var 5 rfl)) (x_var 17 rfl) (atI_nat (rowAt hrw))) (x_var 19 rfl) g2) ?_ sc_law.nd
        refine bx_if (IS (d := some l) H (fun (z : LyT × Option (Addr × List Nat)) => j + 1 ≤ sz ∧ z.1.map pr2 = ((stp rows e oj j).drop (k + Ly.length)).map pre2 ∧ z.2.map (·.2) = look (stp rows e oj j) se ∧ (∀ t ∈ z.1, t.2.1 ≠ ls ∧ t.2.1 ≠ la) ∧ ∀ a ∈ expA z.2, a ≠ ls ∧ a ≠ la) (fun z => [none, some drw, some (rI (n : Int)), some (rI (sz : Int)), none, some (own K l5 (rows.map tI)), none, none, none, none, some (rI (fi : Int)), some (rI (se : Int)), some (expR K z.2), some (own K ls ((nodesI (stp rows e oj j)).map D.i)), some (lyrR K ll Ly), none, some (lyrR K la z.1), some (rI (e.n : Int)), some (own K t.2.1 (natD e.run)), none, none])) (t_w (w_and (t_ge (x_var 9 rfl) x_int) fun _ => w_and1 (t_notInI (x_var 9 rfl) (x_lstA (x_var 13 rfl))))) (fun h => ?_) (fun h => ?_) (bx_nil fun σ H s => s)
        · have hc : 0 ≤ tv ∧ tv ∉ nodesI oj := by
            rcases h with ⟨h1, h2⟩ | ⟨_, h⟩
            · refine ⟨of_decide_eq_true h1.symm, fun z => ?_⟩
              rw [decide_eq_true z] at h2
              cases h2
            · cases h
          obtain ⟨q, rfl⟩ : ∃ q : Nat, tv = (q : Int) := ⟨tv.toNat, by omega⟩
          have hst : stp rows e oj j = oj ++ [Ent.mk q (some (e.n, j)) (e.run ++ [j])] := by
            unfold stp
            rw [g3, if_neg (by rintro (z | z); omega; exact hc.2 z), Int.toNat_natCast]
          rw [hst]
          refine bx_append 13 (w := .i (q : Int)) rfl rfl (x_Id (x_var 9 rfl)) hls (by (repeat' (first | exact ia_nil | refine ia_none ?_ | refine ia_some ?_ ?_ | refine ib_here ?_ | refine ib_none ?_ | refine ib_some ?_ ?_ | exact ind_I | exact ind_B | exact ind_dat | exact ind_any | exact ind_drw | exact ind_own (by first | assumption | exact Ne.symm (by assumption)) | exact ind_lyr (by first | assumption | exact Ne.symm (by assumption)) (by first | assumption | exact fun t ht => (hT3r t ht).1 | exact fun t ht => (hT3r t ht).2) | exact ind_exp (by first | exact fun a ha => (hea3 a ha).1 | exact fun a ha => (hea3 a ha).2)))) (by rw [List.length_map, List.length_map]; omega) ?_
          refine bx_appLy 16 (n := q) (run := e.run ++ [j]) [ls] (by intro l' h'; rw [List.mem_singleton.mp h']; exact known_own 13 rfl) rfl rfl (fun B' => x_var 9 rfl) (fun B' => x_sub (x_catA (x_var 18 rfl) (x_lst (ds := [.i (j : Int)]) (a_cons (x_Id (x_var 19 rfl)) a_nil)) (by simp only [List.length_map, List.length_cons, List.length_nil]; omega)) fun v H hv => by rw [natD, List.map_append]; exact hv) hla (by (repeat' (first | exact ia_nil | refine ia_none ?_ | refine ia_some ?_ ?_ | refine ib_here ?_ | refine ib_none ?_ | refine ib_some ?_ ?_ | exact ind_I | exact ind_B | exact ind_dat | exact ind_any | exact ind_drw | exact ind_own (by first | assumption | exact Ne.symm (by assumption)) | exact ind_lyr (by first | assumption | exact Ne.symm (by assumption)) (by first | assumption | exact fun t ht => (hT3r t ht).1 | exact fun t ht => (hT3r t ht).2) | exact ind_exp (by first | exact fun a ha => (hea3 a ha).1 | exact fun a ha => (hea3 a ha).2)))) (by omega) (fun rr hrr hrla hrls => ?_)
          have hrls' : rr ≠ ls := hrls ls (List.mem_singleton.mpr rfl)
          have hdrop : (oj ++ [Ent.mk q (some (e.n, j)) (e.run ++ [j])]).drop (k + Ly.length) = oj.drop (k + Ly.length) ++ [Ent.mk q (some (e.n, j)) (e.run ++ [j])] := List.drop_append_of_le_length hkj
          have hT4 : (T3 ++ [(q, rr, e.run ++ [j])]).map pr2 = ((oj ++ [Ent.mk q (some (e.n, j)) (e.run ++ [j])]).drop (k + Ly.length)).map pre2 := by
            rw [hdrop, List.map_append, List.map_append, hT3]
            rfl
          have hT4r : ∀ t ∈ T3 ++ [(q, rr, e.run ++ [j])], t.2.1 ≠ ls ∧ t.2.1 ≠ la := fun t ht => by
            rcases List.mem_append.mp ht with ht | ht
            · exact hT3r t ht
            · rw [List.mem_singleton.mp ht]; exact ⟨hrls', hrla⟩
          have hnod : (nodesI (oj ++ [Ent.mk q (some (e.n, j)) (e.run ++ [j])])).map D.i = (nodesI oj).map D.i ++ [.i (q : Int)] := by
            rw [nodesI, List.map_append, List.map_append]; rfl
          cases heq : eo3 with
          | some p =>
            rw [heq] at heo3 hea3
            have hlp : look oj se = some p.2 := heo3.symm
            refine bx_if (IS (d := some l) H (fun (z : LyT × Option (Addr × List Nat)) => j + 1 ≤ sz ∧ z.1.map pr2 = ((oj ++ [Ent.mk q (some (e.n, j)) (e.run ++ [j])]).drop (k + Ly.length)).map pre2 ∧ z.2.map (·.2) = look (oj ++ [Ent.mk q (some (e.n, j)) (e.run ++ [j])]) se ∧ (∀ t ∈ z.1, t.2.1 ≠ ls ∧ t.2.1 ≠ la) ∧ ∀ a ∈ expA z.2, a ≠ ls ∧ a ≠ la) (fun z => [none, some drw, some (rI (n : Int)), some (rI (sz : Int)), none, some (own K l5 (rows.map tI)), none, none, none, none, some (rI (fi : Int)), some (rI (se : Int)), some (expR K z.2), some (own K ls ((nodesI (oj ++ [Ent.mk q (some (e.n, j)) (e.run ++ [j])])).map D.i)), some (lyrR K ll Ly), none, some (lyrR K la z.1), some (rI (e.n : Int)), some (own K t.2.1 (natD e.run)), none, none])) (t_w (w_and (t_eq (x_var 9 rfl) (x_var 11 rfl)) fun _ => w_and1 (t_isNown (K := K) (l := p.1) (ds := natD p.2) (x_var 12 rfl)))) (fun h => ?_) (fun _ => bx_nil fun σ H s => ⟨(T3 ++ [(q, rr, e.run ++ [j])], some p), ⟨hjs, hT4, (look_pre (List.prefix_append _ _) hlp).symm, hT4r, hea3⟩, s.sub ?_⟩) (bx_nil fun σ H s => s)
            · rcases h with ⟨_, h⟩ | ⟨_, h⟩ <;> cases h
            · show Sub _ [_, _, _, _, _, _, _, _, _, _, _, _, _, _, _, _, _, _, _, _, _]
              rw [hnod]
              (repeat (first | exact Sub.nil | refine Sub.same ?_ | refine Sub.drop ?_))
          | none =>
            rw [heq] at heo3 hea3
            have hlp : look oj se = none := heo3.symm
            have hls_ := look_snoc (e := Ent.mk q (some (e.n, j)) (e.run ++ [j])) hlp
            refine bx_if (IS (d := some l) H (fun (z : LyT × Option (Addr × List Nat)) => j + 1 ≤ sz ∧ z.1.map pr2 = ((oj ++ [Ent.mk q (some (e.n, j)) (e.run ++ [j])]).drop (k + Ly.length)).map pre2 ∧ z.2.map (·.2) = look (oj ++ [Ent.mk q (some (e.n, j)) (e.run ++ [j])]) se ∧ (∀ t ∈ z.1, t.2.1 ≠ ls ∧ t.2.1 ≠ la) ∧ ∀ a ∈ expA z.2, a ≠ ls ∧ a ≠ la) (fun z => [none, some drw, some (rI (n : Int)), some (rI (sz : Int)), none, some (own K l5 (rows.map tI)), none, none, none, none, some (rI (fi : Int)), some (rI (se : Int)), some (expR K z.2), some (own K ls ((nodesI (oj ++ [Ent.mk q (some (e.n, j)) (e.run ++ [j])])).map D.i)), some (lyrR K ll Ly), none, some (lyrR K la z.1), some (rI (e.n : Int)), some (own K t.2.1 (natD e.run)), none, none])) (t_w (w_and (t_eq (x_var 9 rfl) (x_var 11 rfl)) fun _ => w_and1 (t_isN (K := K) (x := .n) (x_var 12 rfl)))) (fun h => ?_) (fun h => ?_) (bx_nil fun σ H s => s)
            · have hqs : q = se := by
                rcases h with ⟨h, _⟩ | ⟨_, h⟩
                · have := of_decide_eq_true h.symm; omega
                · cases h
              rw [if_pos (show (Ent.mk q (some (e.n, j)) (e.run ++ [j])).n = se from hqs)] at hls_
              refine bx_new 12 [ls, la] (by intro l' h'; simp only [List.mem_cons, List.not_mem_nil, or_false] at h'; rcases h' with rfl | rfl; exact known_own 13 rfl; exact known_lyr 16 rfl) (fun B' => x_sub (x_catA (x_var 18 rfl) (x_lst (ds := [.i (j : Int)]) (a_cons (x_Id (x_var 19 rfl)) a_nil)) (by simp only [List.length_map, List.length_cons, List.length_nil]; omega)) fun v H hv => hv) (fun l12 hl12 hne => bx_nil fun σ H s => ⟨(T3 ++ [(q, rr, e.run ++ [j])], some (l12, e.run ++ [j])), ⟨hjs, hT4, hls_.symm, hT4r, fun a ha => ?_⟩, s.sub ?_⟩) sc_law.nd
              · rw [List.mem_singleton.mp ha]
                exact ⟨hne ls (by simp), hne la (by simp)⟩
              · show Sub _ [_, _, _, _, _, _, _, _, _, _, _, _, _, _, _, _, _, _, _, _, _]
                have e5 : expR (d := some l) K (some (l12, e.run ++ [j])) = own K l12 (natD e.run ++ [.i (j : Int)]) := by
                  show own K l12 (natD (e.run ++ [j])) = _
                  rw [natD, List.map_append]
                  rfl
                rw [hnod, e5]
                (repeat (first | exact Sub.nil | refine Sub.same ?_ | refine Sub.drop ?_))
            · have hqs : ¬ q = se := by
                rcases h with ⟨_, h⟩ | ⟨h, _⟩
                · have := h.mpr rfl; cases this
                · have := of_decide_eq_false h.symm; omega
              rw [if_neg (show ¬ (Ent.mk q (some (e.n, j)) (e.run ++ [j])).n = se from hqs)] at hls_
              refine bx_nil fun σ H s => ⟨(T3 ++ [(q, rr, e.run ++ [j])], none), ⟨hjs, hT4, hls_.symm, hT4r, hea3⟩, s.sub ?_⟩
              show Sub _ [_, _, _, _, _, _, _, _, _, _, _, _, _, _, _, _, _, _, _, _, _]
              rw [hnod]
              (repeat (first | exact Sub.nil | refine Sub.same ?_ | refine Sub.drop ?_))
        · have hc : tv = -1 ∨ tv ∈ nodesI oj := by
            rcases h with ⟨_, h2⟩ | ⟨h1, _⟩
            · refine .inr (Classical.byContradiction fun z => ?_)
              rw [decide_eq_false z] at h2
              cases h2
            · have := of_decide_eq_false h1.symm
              exact .inl (by omega)
          have hst : stp rows e oj j = oj := by
            unfold stp
            rw [g3, if_pos hc]
          rw [hst]
          exact bx_nil fun σ H s => ⟨(T3, eo3), ⟨by omega, hT3, heo3, hT3r, hea3⟩, s.sub (by (repeat (first | exact Sub.nil | refine Sub.same ?_ | refine Sub.drop ?_)))⟩
      · obtain ⟨T3, eo3⟩ := z
        obtain ⟨_, hT3, heo3, hT3r, hea3⟩ := hz
        dsimp only at hT3 heo3 hT3r hea3 ⊢
        have e1 : ((sz : Int)).toNat = sz := by omega
        rw [e1] at hT3 heo3 ⊢
        rw [← hGs] at hT3 heo3 ⊢
        refine bx_nil fun σ H s => ⟨(T3, eo3), ⟨hiT, by rw [← Nat.add_assoc]; exact hT3, by rw [← Nat.add_assoc]; exact heo3, hT3r, hea3⟩, s.sub ?_⟩
        show Sub _ [_, _, _, _, _, _, _, _, _, _, _, _, _, _, _, _, _, _, _, _, _]
        rw [← Nat.add_assoc]
        (repeat (first | exact Sub.nil | refine Sub.same ?_ | refine Sub.drop ?_))
    · -- layer = after
      obtain ⟨T2, eo2⟩ := z
      obtain ⟨_, hT2, heo2, hT2r, hea2⟩ := hz
      dsimp only at hT2 heo2 hT2r hea2 ⊢
      refine bx_set 14 (x_var 16 rfl) (bx_nil fun σ H s => ⟨(k + Ly.length, la, T2, eo2), ⟨⟨?_, ?_⟩, hT2, heo2, has, fun t ht => (hT2r t ht).1, fun a ha => (hea2 a ha).1⟩, s.sub (by (repeat (first | exact Sub.nil | refine Sub.same ?_ | refine Sub.drop ?_)))⟩) sc_law.nd
      · have := (Gq_pre (rows := rows) (sz := sz) (o0 := [⟨fi, none, []⟩]) (k + Ly.length) (Nat.le_add_right k Ly.length)).length_le
        dsimp only
        omega
      · dsimp only
        by_cases h0 : Ly.length = 0
        · refine .inr ?_
          rw [h0, Nat.add_zero]
          omega
        · rcases hk2 with h | h
          · exact .inl (by omega)
          · omega
  · obtain ⟨k, ll, Ly, eo⟩ := z
    obtain ⟨⟨hk1, hk2⟩, hT, heo, hll, hTr, hea⟩ := hz
    dsimp only at hk1 hk2 hT heo hll hTr hea ⊢
    have hfin : (Gq rows sz [⟨fi, none, []⟩] k) = (Gq rows sz [⟨fi, none, []⟩] n) := by
      have hln := (GO k).len
      by_cases hkn : k ≤ n
      · have hc : (Gq rows sz [⟨fi, none, []⟩] k).length ≤ k := by
          rcases hk2 with h | h
          · omega
          · exact h
        exact (Gq_stop hc n hkn).symm
      · have hln2 := (GO n).len
        exact Gq_stop hln2 k (by omega)
    rw [hfin] at heo
    have GGr : FnOk P w K mg base CX0 1 fGI dGI ["self", "markings", "moves"] (spI (some l) C (fun (z : {z : List (List Int) × List (List Int) // z.1.length ≤ 900 ∧ z.2.length ≤ 900}) => [lst K (z.1.1.map tI), lst K (z.1.2.map tI)]) (fun z => graphF K z.1.2)) := ok_graph FGI T.gr T.mt
    refine bx_set 20 (x_call (E := E0) (R := rtR H K (look (Gq rows sz [⟨fi, none, []⟩] n) se)) (ok_route (P := P) (w := w) (base := base) FRt T.gr T.ml T.me) r1 rfl gRt FRt.kp bRt pass0 ⟨(rows, n, sz, fi, se), R, hfi, by dsimp only; omega, by dsimp only; omega⟩
      (a_cons (x_makeZ (E := E0) (F := fun (z : {z : List (List Int) × List (List Int) // z.1.length ≤ 900 ∧ z.2.length ≤ 900}) => graphF K z.1.2) ⟨((List.range n).map fun (k : Nat) => [(k : Int)], rows), by rw [List.length_map, List.length_range]; omega, by dsimp only; omega⟩ MGI GGr r2 rfl T.gr.gC bGI pass0
        (a_cons (x_sub (x_lcR 6 (fun k w => w = tI [(k : Int)]) rfl T.mr (x_var 2 rfl) (by omega) sc_law.nd (blkOk_by (N := ["script", "draws", "count", "size", "share", "rows", "k", "row", "j", "target", "first", "second", "expected", "seen", "layer", "turn", "after", "number", "run", "index", "found"]) (sc := defScope s_law) (by decide +kernel)) (fun _ _ _ _ _ => pg_name (i := 6) sc_law.nd rfl (Or.inl rfl)) (fun s H C cl fp i hi => x_d (x_tup (ds := [.i (i : Int)]) (a_cons (x_Id (x_var 6 rfl)) a_nil)))) fun v H hv => ?_)
          (a_cons (x_sub (x_lstA (x_var 5 rfl)) fun v H hv => ⟨_, trivial, hv⟩) a_nil)) rfl) (a_cons (x_var 10 rfl) (a_cons (x_var 11 rfl) a_nil))) fun v H' H'' σ s _ h => rtR_up s h) ?_ sc_law.nd
    · obtain ⟨ds, ⟨h1, h2⟩, hv⟩ := hv
      have e6 : ds = ((List.range n).map fun (k : Nat) => [(k : Int)]).map tI := by
        rw [List.map_map]
        exact ds_of (F := fun (k : Nat) => tI [(k : Int)]) (by omega) h2
      rw [e6] at hv
      exact newL_lst hv
    cases hlk : look (Gq rows sz [⟨fi, none, []⟩] n) se with
    | none =>
      rw [hlk] at heo
      have he0 : eo = none := by
        cases eo with
        | none => rfl
        | some p => cases heo
      rw [he0]
      refine bx_ifret (t_isN (K := K) (x := .n) (x_var 12 rfl)) (fun _ => bx_ret (x_isN (K := K) (x := .n) (x_var 20 rfl)) fun v σ H s hv => ?_) (fun h => ?_)
      · obtain ⟨q, hq, hv⟩ := hv
        have hv' : v = .bl q := hv
        rw [hv', hq.mpr rfl]
      · have := h.mpr rfl
        cases this
    | some r =>
      rw [hlk] at heo
      obtain ⟨p, he0, hp2⟩ : ∃ p, eo = some p ∧ p.2 = r := by
        cases eo with
        | none => cases heo
        | some p => exact ⟨p, rfl, Option.some.inj heo⟩
      rw [he0]
      refine bx_ifret (t_isNown (K := K) (l := p.1) (ds := natD p.2) (x_var 12 rfl)) (fun h => by cases h) (fun _ => ?_)
      refine bx_open (P := fun a => H a = none) (Rz := fun a => own K a (natD r)) 20 rfl fun a20 _ => ?_
      refine bx_ret (x_and (x_B (x_isiL rfl T.ms rfl T.mL (x_var 20 rfl))) fun _ => x_one (x_eqL (k := 0) (j := 0) (Room.units r1) (x_lstA (x_var 20 rfl)) (x_lstA (K := K) (l := p.1) (ds := natD p.2) (x_var 12 rfl)) (fun e he => ?_) (fun e he => ?_))) fun v σ H s hv => ?_
      · obtain ⟨q, _, rfl⟩ := List.mem_map.mp he; exact .i _
      · obtain ⟨q, _, rfl⟩ := List.mem_map.mp he; exact .i _
      · obtain ⟨q, hq, hv⟩ := hv
        have hv' : v = .bl q := hv
        rw [hv']
        show V.bl q = V.bl true
        rcases hq with ⟨_, h⟩ | ⟨h, _⟩
        · rw [h.mpr (by rw [hp2])]
        · cases h
end
end Cv

namespace Cv
open PySem PySem.Spec PyProof.Rows L2 RZ
theorem all_mk {l : PySem.W.OpenLaw} {w : World} {K : PySem.W.Frag} {h : Heap} {mg : Str → Option Value} {fa C f_Graph_init f_route f_law_draws f_law_take f_law : Addr} (X : K.In h) (G : h.Ns mainGlobals mg) (hfa : mg "law" = some (.ref fa))
    {od0 an0 : Option Addr} {sl0 : Array (Option Value)} {oc0 kV0 dc0 pm0 cd0 ct0 : Value}
    {od1 an1 : Option Addr} {sl1 : Array (Option Value)} {oc1 kV1 dc1 pm1 cd1 ct1 : Value}
    {od2 an2 : Option Addr} {sl2 : Array (Option Value)} {oc2 kV2 dc2 pm2 cd2 ct2 : Value}
    {od3 an3 : Option Addr} {sl3 : Array (Option Value)} {oc3 kV3 dc3 pm3 cd3 ct3 : Value}
    {od4 an4 : Option Addr} {sl4 : Array (Option Value)} {oc4 kV4 dc4 pm4 cd4 ct4 : Value}
    (a_C : PySem.W.nsIn K mainGlobals "Graph" = some (some (.ref C)))
    (a0 : PySem.W.findIn K (.ref C) "__init__" = some (some (.ref f_Graph_init)))
    (i0 : PySem.W.isFn K (.ref f_Graph_init) = true)
    (l0 : K.lookup f_Graph_init = some ⟨oc0, od0, .func (PySem.W.fnOf "__init__" "Graph.__init__" (defArgs s_Graph_init) (defBody s_Graph_init) (defScope s_Graph_init) .none kV0 dc0 pm0 an0 cd0 ct0), sl0⟩)
    (c0 : PySem.W.codeIn K cd0 "Graph.__init__" = true)
    (k0 : PySem.W.keepIn K (.ref f_Graph_init) = true)
    (a1 : PySem.W.nsIn K mainGlobals "route" = some (some (.ref f_route)))
    (l1 : K.lookup f_route = some ⟨oc1, od1, .func (PySem.W.fnOf "route" "route" (defArgs s_route) (defBody s_route) (defScope s_route) .none kV1 dc1 pm1 an1 cd1 ct1), sl1⟩)
    (c1 : PySem.W.codeIn K cd1 "route" = true)
    (k1 : PySem.W.keepIn K (.ref f_route) = true)
    (a2 : PySem.W.nsIn K mainGlobals "_law_draws" = some (some (.ref f_law_draws)))
    (l2 : K.lookup f_law_draws = some ⟨oc2, od2, .func (PySem.W.fnOf "_law_draws" "_law_draws" (defArgs s_law_draws) (defBody s_law_draws) (defScope s_law_draws) .none kV2 dc2 pm2 an2 cd2 ct2), sl2⟩)
    (c2 : PySem.W.codeIn K cd2 "_law_draws" = true)
    (k2 : PySem.W.keepIn K (.ref f_law_draws) = true)
    (a3 : PySem.W.nsIn K mainGlobals "_law_take" = some (some (.ref f_law_take)))
    (l3 : K.lookup f_law_take = some ⟨oc3, od3, .func (PySem.W.fnOf "_law_take" "_law_take" (defArgs s_law_take) (defBody s_law_take) (defScope s_law_take) .none kV3 dc3 pm3 an3 cd3 ct3), sl3⟩)
    (c3 : PySem.W.codeIn K cd3 "_law_take" = true)
    (k3 : PySem.W.keepIn K (.ref f_law_take) = true)
    (a4 : PySem.W.nsIn K mainGlobals "law" = some (some (.ref f_law)))
    (l4 : K.lookup f_law = some ⟨oc4, od4, .func (PySem.W.fnOf "law" "law" (defArgs s_law) (defBody s_law) (defScope s_law) .none kV4 dc4 pm4 an4 cd4 ct4), sl4⟩)
    (c4 : PySem.W.codeIn K cd4 "law" = true)
    (k4 : PySem.W.keepIn K (.ref f_law) = true)
    (pg_C : PySem.W.plainGet K C Str.empty = true)
    (hd_C : PySem.W.hasDictIn K C = true)
    (po_C : PySem.W.plainOver K C = true)
    (sa_C : PySem.W.findIn K (.ref C) "__setattr__" = some (some (.builtin "object.__setattr__")))
    (mk_C : PySem.W.makesIn K C = true)
    (kc_C : PySem.W.keepIn K (.ref C) = true)
    (n_C_markings : PySem.W.findIn K (.ref C) "markings" = some none)
    (n_C_moves : PySem.W.findIn K (.ref C) "moves" = some none)
    (n_len : PySem.W.nsIn K mainGlobals "len" = some none)
    (n_int : PySem.W.nsIn K mainGlobals "int" = some none)
    (n_tuple : PySem.W.nsIn K mainGlobals "tuple" = some none)
    (n_list : PySem.W.nsIn K mainGlobals "list" = some none)
    (n_range : PySem.W.nsIn K mainGlobals "range" = some none)
    (n_enumerate : PySem.W.nsIn K mainGlobals "enumerate" = some none)
    (n_isinstance : PySem.W.nsIn K mainGlobals "isinstance" = some none) :
    ∃ fd : FuncData, (∀ (s : Shared) (v : Value), BindsTo s fd ⟨[v], []⟩ [("script", v)]) ∧ ∀ base : Heap, K.In base → base.Ns mainGlobals mg → FnOk l.prog w K mg base CX0 6 fa fd ["script"] (spLaw K) := by
  have e := hfa.symm.trans (PySem.W.mg_of X G a4)
  cases e
  have cl_C : Cls K C := ⟨pg_C, hd_C, po_C, sa_C⟩
  have F_Graph_init := fun_mk (st := s_Graph_init) l0 c0 k0
  have b_Graph_init := F_Graph_init.binds (ps := ["self", "markings", "moves"]) fun _ _ _ _ _ _ us hl => match us, hl with | [_, _, _], _ => rfl
  have M_Graph : Mk K C f_Graph_init := ⟨mk_C, a0, i0, kc_C⟩
  have F_route := fun_mk (st := s_route) l1 c1 k1
  have b_route := F_route.binds (ps := ["graph", "first", "second"]) fun _ _ _ _ _ _ us hl => match us, hl with | [_, _, _], _ => rfl
  have g_route := PySem.W.mg_of X G a1
  have F_law_draws := fun_mk (st := s_law_draws) l2 c2 k2
  have b_law_draws := F_law_draws.binds (ps := ["script", "count"]) fun _ _ _ _ _ _ us hl => match us, hl with | [_, _], _ => rfl
  have g_law_draws := PySem.W.mg_of X G a2
  have F_law_take := fun_mk (st := s_law_take) l3 c3 k3
  have b_law_take := F_law_take.binds (ps := ["draws", "limit"]) fun _ _ _ _ _ _ us hl => match us, hl with | [_, _], _ => rfl
  have g_law_take := PySem.W.mg_of X G a3
  have F_law := fun_mk (st := s_law) l4 c4 k4
  have g_len := PySem.W.mg_none_of X G n_len
  have g_int := PySem.W.mg_none_of X G n_int
  have g_tuple := PySem.W.mg_none_of X G n_tuple
  have g_list := PySem.W.mg_none_of X G n_list
  have g_range := PySem.W.mg_none_of X G n_range
  have g_enumerate := PySem.W.mg_none_of X G n_enumerate
  have g_isinstance := PySem.W.mg_none_of X G n_isinstance
  have T : LawTxt K mg C := ⟨⟨cl_C, n_C_markings, n_C_moves, PySem.W.mg_of X G a_C⟩, g_len, g_int, g_tuple, g_list, g_range, g_enumerate, g_isinstance⟩
  exact ⟨PySem.W.fnOf "law" "law" (defArgs s_law) (defBody s_law) (defScope s_law) .none kV4 dc4 pm4 an4 cd4 ct4, fun s v => .of_eq rfl, fun base _ _ =>
    ok_law F_law T F_route b_route g_route F_law_draws b_law_draws g_law_draws F_law_take b_law_take g_law_take F_Graph_init b_Graph_init M_Graph⟩
end Cv
open PySem PySem.W PyProof.Rows
set_option maxRecDepth 100000 in
set_option maxHeartbeats 0 in
theorem PySem.Challenge.cw_covernets_k34_routes_holds : PySem.Challenge.rw_covernets_k34_routes.Holds := by
  w_on; o_law; k_head; (case hw => w_witness2)
  k_fill
  refine L2.walk_of (n := 63) (k := 6) (x := "script") (CX := fun _ => L2.CX0) (sp := fun w => Cv.spLaw _) rfl (by decide) rfl ⟨rfl, by decide, by decide⟩ (fun w h Y => PySem.W.kIn_of Y) ?F (fun _ _ a ns hl _ hS => ⟨a, ns, rfl, hS, hl, fun _ => rfl⟩) fun _ _ _ _ _ z => z
  case F =>
    intro w mg fa h KX G hmg
    refine' Cv.all_mk (l := PySem.Challenge.rw_covernets_k34_routes) KX G hmg ?a_C ?a0 ?i0 ?l0 ?c0 ?k0 ?a1 ?l1 ?c1 ?k1 ?a2 ?l2 ?c2 ?k2 ?a3 ?l3 ?c3 ?k3 ?a4 ?l4 ?c4 ?k4 ?pg_C ?hd_C ?po_C ?sa_C ?mk_C ?kc_C ?n_C_markings ?n_C_moves ?n_len ?n_int ?n_tuple ?n_list ?n_range ?n_enumerate ?n_isinstance
    (case a_C => k_is)
    (case a0 => k_is)
    (case i0 => k_is)
    (case l0 => k_is)
    (case c0 => k_is)
    (case k0 => k_is)
    (case a1 => k_is)
    (case l1 => k_is)
    (case c1 => k_is)
    (case k1 => k_is)
    (case a2 => k_is)
    (case l2 => k_is)
    (case c2 => k_is)
    (case k2 => k_is)
    (case a3 => k_is)
    (case l3 => k_is)
    (case c3 => k_is)
    (case k3 => k_is)
    (case a4 => k_is)
    (case l4 => k_is)
    (case c4 => k_is)
    (case k4 => k_is)
    (case pg_C => k_is)
    (case hd_C => k_is)
    (case po_C => k_is)
    (case sa_C => k_is)
    (case mk_C => k_is)
    (case kc_C => k_is)
    (case n_C_markings => k_is)
    (case n_C_moves => k_is)
    (case n_len => k_is)
    (case n_int => k_is)
    (case n_tuple => k_is)
    (case n_list => k_is)
    (case n_range => k_is)
    (case n_enumerate => k_is)
    (case n_isinstance => k_is)
#print axioms PySem.Challenge.cw_covernets_k34_routes_holds

