import PyProof.Rows.All
import Wide.All
import OpenK.AllK
import Wide.FinOn
import HandS.ForMost
import HandS.IsInst
import HandS.Wide
import HandS.Sort
import HandS.TupAny
import HandS.StrMore
import HandS.Conv
import HandS.NoneIn
import HandS.SortRule
import HandS.Iter
import PySem.Challenge.RW_counterheld_k04_whole_sums_and_spellings
set_option Elab.async false
set_option linter.all false
set_option maxRecDepth 100000
set_option maxHeartbeats 2000000
/-! Values as trees: what is never changed is a tree; what is changed stands in a memory by address. -/
namespace Vt
open PySem PySem.Spec PyProof.Rows L2

inductive D where
  | val (v : V)
  | tup (ds : List D)
  | lst (ds : List D)
abbrev dI (i : Int) : D := .val (.int i)
abbrev dB (b : Bool) : D := .val (.bl b)
abbrev dS (s : Str) : D := .val (.str s)
abbrev dN : D := .val .non
abbrev dP (a : Addr) : D := .val (.ref a)

section
variable (K : PySem.W.Frag) (G : Hp)
mutual
inductive Rep : V → D → Prop where
  | val (v : V) : Rep v (.val v)
  | tup {a : Addr} {vs : List V} {ds : List D} (h : SqT K G a vs) (r : RepL vs ds) : Rep (.ref a) (.tup ds)
  | lst {a : Addr} {vs : List V} {ds : List D} (h : SqL K G a vs) (r : RepL vs ds) : Rep (.ref a) (.lst ds)
inductive RepL : List V → List D → Prop where
  | nil : RepL [] []
  | cons {v : V} {d : D} {vs : List V} {ds : List D} (h : Rep v d) (t : RepL vs ds) : RepL (v :: vs) (d :: ds)
end
end

section
variable {K : PySem.W.Frag} {G G' H H' : Hp} {v : V} {d : D} {vs : List V} {ds : List D} {a : Addr}
theorem rdUp {u : HO} (e : Same G G') (h : Rd G a u) : Rd G' a u := by
  rcases h with h | ⟨o, h⟩
  · exact .inl (e _ _ h)
  · exact .inr ⟨o, e _ _ h⟩
theorem sqtUp (e : Same G G') (h : SqT K G a vs) : SqT K G' a vs := by
  rcases h with h | h
  · exact .inl (rdUp e h)
  · exact .inr h
theorem sqlUp (e : Same G G') (h : SqL K G a vs) : SqL K G' a vs := by
  rcases h with h | h
  · exact .inl (rdUp e h)
  · exact .inr h
mutual
theorem Rep.up {v : V} {d : D} (e : Same G G') : Rep K G v d → Rep K G' v d
  | .val v => .val v
  | .tup h r => .tup (sqtUp e h) (RepL.up e r)
  | .lst h r => .lst (sqlUp e h) (RepL.up e r)
theorem RepL.up {vs : List V} {ds : List D} (e : Same G G') : RepL K G vs ds → RepL K G' vs ds
  | .nil => .nil
  | .cons h t => .cons (Rep.up e h) (RepL.up e t)
end
theorem RepL.len : ∀ {vs : List V} {ds : List D}, RepL K G vs ds → vs.length = ds.length
  | _, _, .nil => rfl
  | _, _, .cons _ t => congrArg (· + 1) (RepL.len t)
theorem RepL.get : ∀ {vs : List V} {ds : List D} {i : Nat} {d : D}, RepL K G vs ds → ds[i]? = some d → ∃ v, vs[i]? = some v ∧ Rep K G v d
  | _, _, _, _, .nil, e => by simp at e
  | _, _, 0, _, .cons h _, e => by simp at e; subst e; exact ⟨_, rfl, h⟩
  | _, _, i + 1, d, .cons _ t, e => by
    obtain ⟨v, h1, h2⟩ := RepL.get (i := i) (d := d) t (by simpa using e)
    exact ⟨v, by simpa using h1, h2⟩
theorem RepL.append : ∀ {vs ws : List V} {ds es : List D}, RepL K G vs ds → RepL K G ws es → RepL K G (vs ++ ws) (ds ++ es)
  | _, _, _, _, .nil, s => s
  | _, _, _, _, .cons h t, s => .cons h (RepL.append t s)
theorem RepL.set {v : V} {d : D} (r : Rep K G v d) : ∀ {vs : List V} {ds : List D} (i : Nat), RepL K G vs ds → RepL K G (vs.set i v) (ds.set i d)
  | _, _, _, .nil => .nil
  | _, _, 0, .cons _ t => .cons r t
  | _, _, i + 1, .cons q t => .cons q (RepL.set r i t)
theorem RepL.erase : ∀ {vs : List V} {ds : List D} (i : Nat), RepL K G vs ds → RepL K G (vs.eraseIdx i) (ds.eraseIdx i)
  | _, _, _, .nil => .nil
  | _, _, 0, .cons _ t => t
  | _, _, i + 1, .cons q t => .cons q (RepL.erase i t)
theorem RepL.vals : ∀ (xs : List V), RepL K G xs (xs.map D.val)
  | [] => .nil
  | v :: xs => .cons (.val v) (RepL.vals xs)
theorem RepL.of_vals : ∀ {vs : List V} {xs : List V}, RepL K G vs (xs.map D.val) → vs = xs
  | [], [], _ => rfl
  | v :: vs, x :: xs, h => by
    cases h with
    | cons h t =>
      cases h
      rw [RepL.of_vals t]
theorem Rep.of_val {v u : V} (h : Rep K G v (.val u)) : v = u := by cases h; rfl
end

/-! ### the memory -/
inductive MO where
  | lst (ds : List D)
abbrev Mem := Addr → Option MO
def Mem.set (M : Mem) (a : Addr) (o : MO) : Mem := fun b => if b = a then some o else M b
theorem Mem.set_same {M : Mem} {a : Addr} {o : MO} : M.set a o a = some o := if_pos rfl
theorem Mem.set_ne {M : Mem} {a b : Addr} {o : MO} (h : b ≠ a) : M.set a o b = M b := if_neg h
theorem Mem.set_set {M : Mem} {a : Addr} {o u : MO} : (M.set a o).set a u = M.set a u := by
  funext b; unfold Mem.set; split <;> rfl
def AtM (K : PySem.W.Frag) (G H : Hp) (a : Addr) : MO → Prop
  | .lst ds => ∃ vs, H a = some (.lst vs) ∧ RepL K G vs ds
structure SH (K : PySem.W.Frag) (G H : Hp) (M : Mem) : Prop where
  le : Same G H
  mem : ∀ b mo, M b = some mo → G b = none ∧ AtM K G H b mo
def Mle (M M' : Mem) : Prop := ∀ b o, M b = some o → M' b = some o
theorem Mle.refl (M : Mem) : Mle M M := fun _ _ h => h
theorem Mle.trans {M M1 M2 : Mem} (a : Mle M M1) (b : Mle M1 M2) : Mle M M2 := fun c o h => b c o (a c o h)
theorem SH.weak {K : PySem.W.Frag} {G H : Hp} {M M' : Mem} (s : SH K G H M') (h : Mle M M') : SH K G H M := ⟨s.le, fun b mo e => s.mem b mo (h b mo e)⟩
theorem AtM.some {K : PySem.W.Frag} {G H : Hp} {a : Addr} {mo : MO} (h : AtM K G H a mo) : ∃ o, H a = some o := by
  cases mo with
  | lst ds => obtain ⟨vs, e, _⟩ := h; exact ⟨_, e⟩
theorem AtM.up {K : PySem.W.Frag} {G G' H H' : Hp} {a : Addr} {mo : MO} (e : Same G G') (q : H' a = H a) (h : AtM K G H a mo) : AtM K G' H' a mo := by
  cases mo with
  | lst ds => obtain ⟨vs, e1, r⟩ := h; exact ⟨vs, by rw [q]; exact e1, r.up e⟩
/-- a new thing that is never changed -/
theorem SH.new {K : PySem.W.Frag} {G H : Hp} {M : Mem} {p : Addr} {o : HO} (s : SH K G H M) (hp : H p = none) : SH K (upd G p o) (upd H p o) M ∧ Same G (upd G p o) := by
  have gp : G p = none := by
    cases e : G p with
    | none => rfl
    | some u => rw [s.le p u e] at hp; cases hp
  have up : Same G (upd G p o) := fun b u e => by rw [upd_ne (ne_of_none e gp)]; exact e
  refine ⟨⟨fun b u e => ?_, fun b mo e => ?_⟩, up⟩
  · by_cases hb : b = p
    · subst hb; rw [upd_same] at e ⊢; exact e
    · rw [upd_ne hb] at e ⊢; exact s.le b u e
  · obtain ⟨g0, at0⟩ := s.mem b mo e
    obtain ⟨u, hu⟩ := at0.some
    have hb : b ≠ p := ne_of_none hu hp
    exact ⟨by rw [upd_ne hb]; exact g0, at0.up up (upd_ne hb)⟩
/-- a new thing that may be changed -/
theorem SH.newM {K : PySem.W.Frag} {G H : Hp} {M : Mem} {p : Addr} {vs : List V} {ds : List D} (s : SH K G H M) (hp : H p = none) (r : RepL K G vs ds) : SH K G (upd H p (.lst vs)) (M.set p (.lst ds)) ∧ M p = none ∧ G p = none := by
  have gp : G p = none := by
    cases e : G p with
    | none => rfl
    | some u => rw [s.le p u e] at hp; cases hp
  refine ⟨⟨fun b u e => ?_, fun b mo e => ?_⟩, ?_, gp⟩
  · rw [upd_ne (ne_of_none e gp)]; exact s.le b u e
  · by_cases hb : b = p
    · subst hb
      rw [Mem.set_same] at e
      cases e
      exact ⟨gp, vs, upd_same, r⟩
    · rw [Mem.set_ne hb] at e
      obtain ⟨g0, at0⟩ := s.mem b mo e
      exact ⟨g0, at0.up (Same.refl G) (upd_ne hb)⟩
  · cases e : M p with
    | none => rfl
    | some mo =>
      obtain ⟨_, at0⟩ := s.mem p mo e
      obtain ⟨u, hu⟩ := at0.some
      rw [hp] at hu; cases hu
/-- a list that stands in the memory is changed -/
theorem SH.put {K : PySem.W.Frag} {G H : Hp} {M : Mem} {p : Addr} {mo : MO} {vs : List V} {ds : List D} (s : SH K G H M) (hm : M p = some mo) (r : RepL K G vs ds) : SH K G (upd H p (.lst vs)) (M.set p (.lst ds)) := by
  obtain ⟨gp, _⟩ := s.mem p mo hm
  refine ⟨fun b u e => ?_, fun b mo e => ?_⟩
  · rw [upd_ne (ne_of_none e gp)]; exact s.le b u e
  · by_cases hb : b = p
    · subst hb
      rw [Mem.set_same] at e
      cases e
      exact ⟨gp, vs, upd_same, r⟩
    · rw [Mem.set_ne hb] at e
      obtain ⟨g0, at0⟩ := s.mem b mo e
      exact ⟨g0, at0.up (Same.refl G) (upd_ne hb)⟩

/-! ### the slots -/
abbrev Sl := List (Option D)
def RepS (K : PySem.W.Frag) (G : Hp) (σ : L2.St) (ρ : Sl) : Prop := σ.length = ρ.length ∧ ∀ (i : Nat) (d : D), ρ[i]? = some (some d) → ∃ v, σ[i]? = some (some v) ∧ Rep K G v d
theorem RepS.up {K : PySem.W.Frag} {G G' : Hp} {σ : L2.St} {ρ : Sl} (e : Same G G') (h : RepS K G σ ρ) : RepS K G' σ ρ :=
  ⟨h.1, fun i d q => let ⟨v, a, b⟩ := h.2 i d q; ⟨v, a, b.up e⟩⟩
theorem RepS.set {K : PySem.W.Frag} {G : Hp} {σ : L2.St} {ρ : Sl} {v : V} {d : D} (i : Nat) (h : RepS K G σ ρ) (r : Rep K G v d) : RepS K G (σ.set i (some v)) (ρ.set i (some d)) := by
  refine ⟨by rw [List.length_set, List.length_set]; exact h.1, fun j e q => ?_⟩
  by_cases hj : i = j
  · subst hj
    by_cases hl : i < ρ.length
    · rw [List.getElem?_set_self hl] at q
      cases q
      exact ⟨v, List.getElem?_set_self (by rw [h.1]; exact hl), r⟩
    · rw [List.getElem?_eq_none (by rw [List.length_set]; omega)] at q
      cases q
  · rw [List.getElem?_set_ne hj] at q ⊢
    exact h.2 j e q
/-- a slot is forgotten -/
theorem RepS.none {K : PySem.W.Frag} {G : Hp} {σ : L2.St} {ρ : Sl} {x : Option V} (i : Nat) (h : RepS K G σ ρ) : RepS K G (σ.set i x) (ρ.set i Option.none) := by
  refine ⟨by rw [List.length_set, List.length_set]; exact h.1, fun j e q => ?_⟩
  by_cases hj : i = j
  · subst hj
    by_cases hl : i < ρ.length
    · rw [List.getElem?_set_self hl] at q
      cases q
    · rw [List.getElem?_eq_none (by rw [List.length_set]; omega)] at q
      cases q
  · rw [List.getElem?_set_ne hj] at q ⊢
    exact h.2 j e q
/-- of fewer slots known -/
theorem RepS.weak {K : PySem.W.Frag} {G : Hp} {σ : L2.St} {ρ ρ' : Sl} (h : RepS K G σ ρ) (hl : ρ'.length = ρ.length) (hs : ∀ (i : Nat) (d : D), ρ'[i]? = some (some d) → ρ[i]? = some (some d)) : RepS K G σ ρ' :=
  ⟨by rw [h.1, hl], fun i d q => h.2 i d (hs i d q)⟩
structure SA (K : PySem.W.Frag) (G H : Hp) (σ : L2.St) (ρ : Sl) (M : Mem) : Prop where
  sh : SH K G H M
  sl : RepS K G σ ρ

/-! ### the judgements -/
def tE (K : PySem.W.Frag) (ρ : Sl) (M : Mem) (d : D) (M' : Mem) : TE := fun σ H Q => ∃ G, SA K G H σ ρ M ∧ ∀ v G' H', Same G G' → SH K G' H' M' → Rep K G' v d → Q v H'
def tT (K : PySem.W.Frag) (ρ : Sl) (M : Mem) (b : Bool) (M' : Mem) : TT := fun σ H Q => ∃ G, SA K G H σ ρ M ∧ ∀ G' H', Same G G' → SH K G' H' M' → Q b H'
def tA (K : PySem.W.Frag) (ρ : Sl) (M : Mem) (ds : List D) (M' : Mem) : TA := fun σ H Q => ∃ G, SA K G H σ ρ M ∧ ∀ vs G' H', Same G G' → SH K G' H' M' → RepL K G' vs ds → Q vs H'
def tO (K : PySem.W.Frag) (ρ : Sl) (M : Mem) (o : Option Int) (M' : Mem) : TO := fun σ H Q => ∃ G, SA K G H σ ρ M ∧ ∀ G' H', Same G G' → SH K G' H' M' → Q o H'
abbrev EV (X : Cx) (e : Expr) (ρ : Sl) (M : Mem) (d : D) (M' : Mem) : Prop := PE X e (tE X.K ρ M d M')
abbrev TV (X : Cx) (e : Expr) (ρ : Sl) (M : Mem) (b : Bool) (M' : Mem) : Prop := PT X e (tT X.K ρ M b M')
abbrev WV (X : Cx) (e : Expr) (ρ : Sl) (M : Mem) (b : Bool) (M' : Mem) : Prop := PW X e (tT X.K ρ M b M')
abbrev AV (X : Cx) (es : List Expr) (ρ : Sl) (M : Mem) (ds : List D) (M' : Mem) : Prop := PA X es (tA X.K ρ M ds M')
abbrev OV (X : Cx) (e : Option Expr) (ρ : Sl) (M : Mem) (o : Option Int) (M' : Mem) : Prop := PO X e (tO X.K ρ M o M')
inductive Out where
  | nx (ρ : Sl) (M : Mem) | ret (d : D) (M : Mem) | bk (ρ : Sl) (M : Mem) | ct (ρ : Sl) (M : Mem)
def okE (K : PySem.W.Frag) (G0 : Hp) (E : Ends) : Out → Prop
  | .nx ρ M => ∀ σ G H, Same G0 G → SA K G H σ ρ M → E.nx σ H
  | .ret d M => ∀ v G H, Same G0 G → SH K G H M → Rep K G v d → E.rt v H
  | .bk ρ M => ∀ σ G H, Same G0 G → SA K G H σ ρ M → E.bk σ H
  | .ct ρ M => ∀ σ G H, Same G0 G → SA K G H σ ρ M → E.ct σ H
theorem okE.up {K : PySem.W.Frag} {G0 G1 : Hp} {E : Ends} {o : Out} (e : Same G0 G1) (h : okE K G0 E o) : okE K G1 E o := by
  cases o with
  | nx ρ M => exact fun σ G H g => h σ G H (e.trans g)
  | ret d M => exact fun v G H g => h v G H (e.trans g)
  | bk ρ M => exact fun σ G H g => h σ G H (e.trans g)
  | ct ρ M => exact fun σ G H g => h σ G H (e.trans g)
def tS (K : PySem.W.Frag) (ρ : Sl) (M : Mem) (Ψ : Out → Prop) : TS := fun E σ H => ∃ G, SA K G H σ ρ M ∧ ∀ o, Ψ o → okE K G E o
abbrev SV (X : Cx) (st : Stmt) (ρ : Sl) (M : Mem) (Ψ : Out → Prop) : Prop := PS X st (tS X.K ρ M Ψ)
abbrev BV (X : Cx) (sts : List Stmt) (ρ : Sl) (M : Mem) (Ψ : Out → Prop) : Prop := PSs X sts (tS X.K ρ M Ψ)

section
variable {X : Cx}
theorem _root_.L2.PE.mono {e : Expr} {t t' : TE} (h : PE X e t) (i : ∀ σ H Q, t' σ H Q → t σ H Q) : PE X e t' := ⟨fun pins s σ H Q I q => h.run pins s σ H Q I (i σ H Q q)⟩
theorem _root_.L2.PT.mono {e : Expr} {t t' : TT} (h : PT X e t) (i : ∀ σ H Q, t' σ H Q → t σ H Q) : PT X e t' := ⟨fun pins s σ H Q I q => h.run pins s σ H Q I (i σ H Q q)⟩
theorem _root_.L2.PW.mono {e : Expr} {t t' : TT} (h : PW X e t) (i : ∀ σ H Q, t' σ H Q → t σ H Q) : PW X e t' := ⟨fun wh pins s σ H Q I q => h.run wh pins s σ H Q I (i σ H Q q)⟩
theorem _root_.L2.PA.mono {e : List Expr} {t t' : TA} (h : PA X e t) (i : ∀ σ H Q, t' σ H Q → t σ H Q) : PA X e t' := ⟨fun pos pins s σ H Q I q => h.run pos pins s σ H Q I (i σ H Q q)⟩
theorem _root_.L2.PO.mono {e : Option Expr} {t t' : TO} (h : PO X e t) (i : ∀ σ H Q, t' σ H Q → t σ H Q) : PO X e t' := ⟨fun pins s σ H Q I q => h.run pins s σ H Q I (i σ H Q q)⟩
theorem _root_.L2.PS.mono {e : Stmt} {t t' : TS} (h : PS X e t) (i : ∀ E σ H, t' E σ H → t E σ H) : PS X e t' := ⟨fun pins s σ H E I q => h.run pins s σ H E I (i E σ H q)⟩
theorem _root_.L2.PSs.mono {e : List Stmt} {t t' : TS} (h : PSs X e t) (i : ∀ E σ H, t' E σ H → t E σ H) : PSs X e t' := ⟨fun pins s σ H E I q => h.run pins s σ H E I (i E σ H q)⟩
end

section
variable {X : Cx} {ρ : Sl} {M M1 M2 M3 : Mem} {a b c e : Expr} {es : List Expr} {d d1 d2 : D} {ds : List D} {pos : Pos}
/-! ### leaves -/
theorem ev_var (i : Nat) {x : Str} (hρ : ρ[i]? = some (some d)) (hN : X.N[i]? = some x := by rfl) (hv : Vis X.env.scope x := by first | exact Or.inl rfl | exact Or.inr (Or.inl rfl) | exact Or.inr (Or.inr rfl))
    (hd : (x == ("__debug__" : Str)) = false := by decide) (hcd : (x == ("__classdict__" : Str)) = false := by decide) : EV X (.Name x pos) ρ M d M :=
  (pe_var hN hv hd hcd).mono fun σ H Q ⟨G, sa, k⟩ => let ⟨v, e1, r⟩ := sa.sl.2 i d hρ; ⟨v, e1, k v G H (Same.refl G) sa.sh r⟩
theorem ev_int {i : Int} {j} : EV X (.Constant (.int i) j pos) ρ M (dI i) M := pe_int.mono fun σ H Q ⟨G, sa, k⟩ => k _ G H (Same.refl G) sa.sh (.val _)
theorem ev_bl {i : Bool} {j} : EV X (.Constant (.bool i) j pos) ρ M (dB i) M := pe_bl.mono fun σ H Q ⟨G, sa, k⟩ => k _ G H (Same.refl G) sa.sh (.val _)
theorem ev_non {j} : EV X (.Constant .none j pos) ρ M dN M := pe_non.mono fun σ H Q ⟨G, sa, k⟩ => k _ G H (Same.refl G) sa.sh (.val _)
theorem ev_str {x : Str} {j} : EV X (.Constant (.str x) j pos) ρ M (dS x) M := pe_str.mono fun σ H Q ⟨G, sa, k⟩ => k _ G H (Same.refl G) sa.sh (.val _)
theorem ev_glob {x : Str} {v : V} {u : Value} (hg : Gl X x) (hm : X.mg x = some u) (r : RelV v u) (hd : (x == ("__debug__" : Str)) = false := by decide) : EV X (.Name x pos) ρ M (.val v) M :=
  (pe_glob hg hm r hd).mono fun σ H Q ⟨G, sa, k⟩ => k _ G H (Same.refl G) sa.sh (.val _)
/-- a tuple or a list of the module, written -/
theorem ev_globD {x : Str} {f : Addr} (hg : Gl X x) (hm : X.mg x = some (.ref f)) (h : ∀ G, Rep X.K G (.ref f) d) (hd : (x == ("__debug__" : Str)) = false := by decide) : EV X (.Name x pos) ρ M d M :=
  (pe_glob (v := .ref f) hg hm rfl hd).mono fun σ H Q ⟨G, sa, k⟩ => k _ G H (Same.refl G) sa.sh (h G)

/-! ### operators by values -/
def RS (r : R2) (x y z : V) : Prop := ∀ H Q, Q z H → r x y H Q
def RU (r : V → Hp → VK → Prop) (x z : V) : Prop := ∀ H Q, Q z H → r x H Q
theorem ev_op {op : Operator} {r : R2} {x y z : V} (ho : OpR X (binaryOp op) r) (ha : EV X a ρ M (.val x) M1) (hb : EV X b ρ M1 (.val y) M2) (hr : RS r x y z) : EV X (.BinOp a op b pos) ρ M (.val z) M2 :=
  (pe_op ho ha hb).mono fun σ H Q ⟨G, sa, k⟩ => ⟨G, sa, fun v1 G1 H1 g1 sh1 r1 => ⟨G1, ⟨sh1, sa.sl.up g1⟩, fun v2 G2 H2 g2 sh2 r2 => by
    rw [r1.of_val, r2.of_val]
    exact hr H2 Q (k _ G2 H2 (g1.trans g2) sh2 (.val _))⟩⟩
theorem ev_un {op : UnaryOp} {r : V → Hp → VK → Prop} {x z : V} (ho : UnR X (unaryOp op) r) (ha : EV X a ρ M (.val x) M1) (hr : RU r x z) : EV X (.UnaryOp op a pos) ρ M (.val z) M1 :=
  (pe_un ho ha).mono fun σ H Q ⟨G, sa, k⟩ => ⟨G, sa, fun v1 G1 H1 g1 sh1 r1 => by
    rw [r1.of_val]
    exact hr H1 Q (k _ G1 H1 g1 sh1 (.val _))⟩
theorem ev_cmpR {op : CmpOp} {r : R2} {x y z : V} (ho : OpR X (compareOp op) r) (ha : EV X a ρ M (.val x) M1) (hb : EV X b ρ M1 (.val y) M2) (hr : RS r x y z) (hm : behindInMarks op b = false) : EV X (.Compare a [op] [b] pos) ρ M (.val z) M2 :=
  (pe_cmpR ho ha hb hm).mono fun σ H Q ⟨G, sa, k⟩ => ⟨G, sa, fun v1 G1 H1 g1 sh1 r1 => ⟨G1, ⟨sh1, sa.sl.up g1⟩, fun v2 G2 H2 g2 sh2 r2 => by
    rw [r1.of_val, r2.of_val]
    exact hr H2 Q (k _ G2 H2 (g1.trans g2) sh2 (.val _))⟩⟩
theorem tv_cmpR {op : CmpOp} {r : R2} {x y : V} {z : Bool} (ho : OpR X (compareOp op) r) (ha : EV X a ρ M (.val x) M1) (hb : EV X b ρ M1 (.val y) M2) (hr : RS r x y (.bl z)) (hm : behindInMarks op b = false) : TV X (.Compare a [op] [b] pos) ρ M z M2 :=
  (pt_cmpR ho ha hb hm).mono fun σ H Q ⟨G, sa, k⟩ => ⟨G, sa, fun v1 G1 H1 g1 sh1 r1 => ⟨G1, ⟨sh1, sa.sl.up g1⟩, fun v2 G2 H2 g2 sh2 r2 => by
    rw [r1.of_val, r2.of_val]
    exact hr H2 _ ⟨_, rfl, k G2 H2 (g1.trans g2) sh2⟩⟩⟩
theorem rs_I0 {g : Int → Int → V} {i j : Int} : RS (rI0 g) (.int i) (.int j) (g i j) := fun H Q q => ⟨i, j, rfl, rfl, q⟩
theorem rs_I {C : Int → Int → Prop} {g : Int → Int → V} {i j : Int} (h : C i j) : RS (rI C g) (.int i) (.int j) (g i j) := fun H Q q => ⟨i, j, rfl, rfl, h, q⟩
theorem rs_eq {x y : V} (h : scal x y = true) : RS rEq x y (.bl (decide (x = y))) := fun H Q q => ⟨h, q⟩
theorem rs_ne {x y : V} (h : scal x y = true) : RS rNe x y (.bl (!decide (x = y))) := fun H Q q => ⟨h, q⟩

theorem sc_ii {i j : Int} : scal (.int i) (.int j) = true := rfl
theorem sc_ss {i j : Str} : scal (.str i) (.str j) = true := rfl
theorem sc_bb {i j : Bool} : scal (.bl i) (.bl j) = true := rfl

/-! ### tests -/
theorem tv_val {b : Bool} (h : EV X e ρ M (dB b) M1) (he : ∀ whole, isTrue e X.env whole = (do let v ← whole; standAt e.pos; holding [v] (truthy v)) := by intro _; rfl) : TV X e ρ M b M1 :=
  (pt_val h he).mono fun σ H Q ⟨G, sa, k⟩ => ⟨G, sa, fun v1 G1 H1 g1 sh1 r1 => ⟨b, r1.of_val, k G1 H1 g1 sh1⟩⟩
theorem wv_one_and {b : Bool} {pos} (h : TV X e ρ M b M1) : WV X (.BoolOp .And [e] pos) ρ M b M1 := pw_and1 h
theorem wv_one_or {b : Bool} {pos} (h : TV X e ρ M b M1) : WV X (.BoolOp .Or [e] pos) ρ M b M1 := pw_or1 h
/-- a and b and ..: what stands behind a is asked only where a is true; it changes nothing -/
theorem wv_and {p q : Bool} {rest : List Expr} (ha : TV X a ρ M p M1) (hb : p = true → WV X (.BoolOp .And (b :: rest) pos) ρ M1 q M1) : WV X (.BoolOp .And (a :: b :: rest) pos) ρ M (p && q) M1 := by
  cases p with
  | true => exact (pw_and ha (hb rfl)).mono fun σ H Q ⟨G, sa, k⟩ => ⟨G, sa, fun G1 H1 g1 sh1 => (⟨G1, ⟨sh1, sa.sl.up g1⟩, fun G2 H2 g2 sh2 => k G2 H2 (g1.trans g2) sh2⟩ : tT _ _ _ _ _ σ H1 Q)⟩
  | false => exact (pw_and (tB' := fun _ _ _ => False) ha ⟨fun _ _ _ _ _ _ _ h => h.elim⟩).mono fun σ H Q ⟨G, sa, k⟩ => ⟨G, sa, fun G1 H1 g1 sh1 => (k G1 H1 g1 sh1 : Q false H1)⟩
theorem wv_or {p q : Bool} {rest : List Expr} (ha : TV X a ρ M p M1) (hb : p = false → WV X (.BoolOp .Or (b :: rest) pos) ρ M1 q M1) : WV X (.BoolOp .Or (a :: b :: rest) pos) ρ M (p || q) M1 := by
  cases p with
  | false => exact (pw_or ha (hb rfl)).mono fun σ H Q ⟨G, sa, k⟩ => ⟨G, sa, fun G1 H1 g1 sh1 => (⟨G1, ⟨sh1, sa.sl.up g1⟩, fun G2 H2 g2 sh2 => k G2 H2 (g1.trans g2) sh2⟩ : tT _ _ _ _ _ σ H1 Q)⟩
  | true => exact (pw_or (tB' := fun _ _ _ => False) ha ⟨fun _ _ _ _ _ _ _ h => h.elim⟩).mono fun σ H Q ⟨G, sa, k⟩ => ⟨G, sa, fun G1 H1 g1 sh1 => (k G1 H1 g1 sh1 : Q true H1)⟩
/-- what stands behind may change the memory: the way is known -/
theorem wv_andT {q : Bool} {rest : List Expr} (ha : TV X a ρ M true M1) (hb : WV X (.BoolOp .And (b :: rest) pos) ρ M1 q M2) : WV X (.BoolOp .And (a :: b :: rest) pos) ρ M q M2 :=
  (pw_and ha hb).mono fun σ H Q ⟨G, sa, k⟩ => ⟨G, sa, fun G1 H1 g1 sh1 => (⟨G1, ⟨sh1, sa.sl.up g1⟩, fun G2 H2 g2 sh2 => k G2 H2 (g1.trans g2) sh2⟩ : tT _ _ _ _ _ σ H1 Q)⟩
theorem wv_andF {rest : List Expr} (ha : TV X a ρ M false M1) : WV X (.BoolOp .And (a :: b :: rest) pos) ρ M false M1 :=
  (pw_and (tB' := fun _ _ _ => False) ha ⟨fun _ _ _ _ _ _ _ h => h.elim⟩).mono fun σ H Q ⟨G, sa, k⟩ => ⟨G, sa, fun G1 H1 g1 sh1 => (k G1 H1 g1 sh1 : Q false H1)⟩
theorem wv_orT {rest : List Expr} (ha : TV X a ρ M true M1) : WV X (.BoolOp .Or (a :: b :: rest) pos) ρ M true M1 :=
  (pw_or (tB' := fun _ _ _ => False) ha ⟨fun _ _ _ _ _ _ _ h => h.elim⟩).mono fun σ H Q ⟨G, sa, k⟩ => ⟨G, sa, fun G1 H1 g1 sh1 => (k G1 H1 g1 sh1 : Q true H1)⟩
theorem wv_orF {q : Bool} {rest : List Expr} (ha : TV X a ρ M false M1) (hb : WV X (.BoolOp .Or (b :: rest) pos) ρ M1 q M2) : WV X (.BoolOp .Or (a :: b :: rest) pos) ρ M q M2 :=
  (pw_or ha hb).mono fun σ H Q ⟨G, sa, k⟩ => ⟨G, sa, fun G1 H1 g1 sh1 => (⟨G1, ⟨sh1, sa.sl.up g1⟩, fun G2 H2 g2 sh2 => k G2 H2 (g1.trans g2) sh2⟩ : tT _ _ _ _ _ σ H1 Q)⟩
theorem tv_not {b : Bool} (h : TV X e ρ M b M1) : TV X (.UnaryOp .Not e pos) ρ M (!b) M1 :=
  (pt_not h).mono fun σ H Q ⟨G, sa, k⟩ => ⟨G, sa, fun G1 H1 g1 sh1 => k G1 H1 g1 sh1⟩
theorem tv_to {b b' : Bool} (h : TV X e ρ M b M1) (q : b = b') : TV X e ρ M b' M1 := q ▸ h
theorem ev_to {d d' : D} (h : EV X e ρ M d M1) (q : d = d') : EV X e ρ M d' M1 := q ▸ h
theorem ev_toM {d : D} (h : EV X e ρ M d M1) (q : M1 = M2) : EV X e ρ M d M2 := q ▸ h
theorem wv_to {b b' : Bool} (h : WV X e ρ M b M1) (q : b = b') : WV X e ρ M b' M1 := q ▸ h

/-! ### and, or, not as values -/
theorem ev_one {op} {b : Bool} (h : EV X e ρ M d M1) : EV X (.BoolOp op [e] pos) ρ M d M1 := pe_one h
theorem ev_and {p : Bool} {d : D} {rest : List Expr} (ha : EV X a ρ M (dB p) M1) (hb : p = true → EV X (.BoolOp .And (b :: rest) pos) ρ M1 d M1) (hf : p = false → d = dB false) : EV X (.BoolOp .And (a :: b :: rest) pos) ρ M d M1 := by
  cases p with
  | true => exact (pe_and ha (hb rfl)).mono fun σ H Q ⟨G, sa, k⟩ => ⟨G, sa, fun v1 G1 H1 g1 sh1 r1 => ⟨true, r1.of_val, (⟨G1, ⟨sh1, sa.sl.up g1⟩, fun v G2 H2 g2 sh2 => k v G2 H2 (g1.trans g2) sh2⟩ : tE _ _ _ _ _ σ H1 Q)⟩⟩
  | false =>
    cases hf rfl
    exact (pe_and (tb := fun _ _ _ => False) ha ⟨fun _ _ _ _ _ _ h => h.elim⟩).mono fun σ H Q ⟨G, sa, k⟩ => ⟨G, sa, fun v1 G1 H1 g1 sh1 r1 => ⟨false, r1.of_val, (k _ G1 H1 g1 sh1 (.val _) : Q (.bl false) H1)⟩⟩
theorem ev_andB {p q : Bool} {rest : List Expr} (ha : EV X a ρ M (dB p) M1) (hb : p = true → EV X (.BoolOp .And (b :: rest) pos) ρ M1 (dB q) M1) : EV X (.BoolOp .And (a :: b :: rest) pos) ρ M (dB (p && q)) M1 := by
  refine ev_and ha (fun h => ?_) fun h => by rw [h]; rfl
  rw [h]
  exact hb h
theorem ev_orB {p q : Bool} {rest : List Expr} (ha : EV X a ρ M (dB p) M1) (hb : p = false → EV X (.BoolOp .Or (b :: rest) pos) ρ M1 (dB q) M1) : EV X (.BoolOp .Or (a :: b :: rest) pos) ρ M (dB (p || q)) M1 := by
  cases p with
  | false => exact (pe_or ha (hb rfl)).mono fun σ H Q ⟨G, sa, k⟩ => ⟨G, sa, fun v1 G1 H1 g1 sh1 r1 => ⟨false, r1.of_val, (⟨G1, ⟨sh1, sa.sl.up g1⟩, fun v G2 H2 g2 sh2 => k v G2 H2 (g1.trans g2) sh2⟩ : tE _ _ _ _ _ σ H1 Q)⟩⟩
  | true => exact (pe_or (tb := fun _ _ _ => False) ha ⟨fun _ _ _ _ _ _ h => h.elim⟩).mono fun σ H Q ⟨G, sa, k⟩ => ⟨G, sa, fun v1 G1 H1 g1 sh1 r1 => ⟨true, r1.of_val, (k _ G1 H1 g1 sh1 (.val _) : Q (.bl true) H1)⟩⟩
theorem ev_notB {p : Bool} (h : EV X e ρ M (dB p) M1) : EV X (.UnaryOp .Not e pos) ρ M (dB (!p)) M1 :=
  (pe_not h).mono fun σ H Q ⟨G, sa, k⟩ => ⟨G, sa, fun v1 G1 H1 g1 sh1 r1 => ⟨p, r1.of_val, k _ G1 H1 g1 sh1 (.val _)⟩⟩
/-- a if c else b -/
theorem ev_if {p : Bool} (hc : TV X c ρ M p M1) (ha : p = true → EV X a ρ M1 d M2) (hb : p = false → EV X b ρ M1 d M2) : EV X (.IfExp c a b pos) ρ M d M2 := by
  cases p with
  | true => exact (pe_ifExp (tb := fun _ _ _ => False) hc (ha rfl) ⟨fun _ _ _ _ _ _ h => h.elim⟩).mono fun σ H Q ⟨G, sa, k⟩ => ⟨G, sa, fun G1 H1 g1 sh1 => (⟨G1, ⟨sh1, sa.sl.up g1⟩, fun v G2 H2 g2 sh2 => k v G2 H2 (g1.trans g2) sh2⟩ : tE _ _ _ _ _ σ H1 Q)⟩
  | false => exact (pe_ifExp (ta := fun _ _ _ => False) hc ⟨fun _ _ _ _ _ _ h => h.elim⟩ (hb rfl)).mono fun σ H Q ⟨G, sa, k⟩ => ⟨G, sa, fun G1 H1 g1 sh1 => (⟨G1, ⟨sh1, sa.sl.up g1⟩, fun v G2 H2 g2 sh2 => k v G2 H2 (g1.trans g2) sh2⟩ : tE _ _ _ _ _ σ H1 Q)⟩
theorem ev_ifB {p : Bool} (hc : TV X c ρ M p M1) (ha : EV X a ρ M1 d1 M2) (hb : EV X b ρ M1 d2 M2) : EV X (.IfExp c a b pos) ρ M (if p = true then d1 else d2) M2 :=
  ev_if hc (fun h => by rw [if_pos h]; exact ha) (fun h => by rw [h, if_neg Bool.false_ne_true]; exact hb)

/-! ### arguments, displays -/
theorem av_nil : AV X [] ρ M [] M := pa_nil.mono fun σ H Q ⟨G, sa, k⟩ => k [] G H (Same.refl G) sa.sh .nil
theorem av_cons (ha : EV X e ρ M d M1) (hr : AV X es ρ M1 ds M2) (hs : starEach (e :: es) X.env = (false, eval e X.env) :: starEach es X.env := by rfl) : AV X (e :: es) ρ M (d :: ds) M2 :=
  (pa_cons ha hr hs).mono fun σ H Q ⟨G, sa, k⟩ => ⟨G, sa, fun v1 G1 H1 g1 sh1 r1 => ⟨G1, ⟨sh1, sa.sl.up g1⟩, fun vs G2 H2 g2 sh2 r2 => k _ G2 H2 (g1.trans g2) sh2 (.cons (r1.up g2) r2)⟩⟩
theorem ev_tup {x1} (h : AV X es ρ M ds M1) (hl : ds.length ≤ sizeLine := by first | (simp only [List.length_cons, List.length_nil]; decide) | decide) : EV X (.Tuple es x1 pos) ρ M (.tup ds) M1 :=
  (pe_tup h).mono fun σ H Q ⟨G, sa, k⟩ => ⟨G, sa, fun vs G1 H1 g1 sh1 r1 => ⟨by rw [r1.len]; exact hl, fun p hp => by
    obtain ⟨sh2, g2⟩ := sh1.new (o := .tup vs) hp
    exact k _ _ _ (g1.trans g2) sh2 (.tup (.inl (.inl upd_same)) (r1.up g2))⟩⟩
theorem ev_lst (h : AV X es ρ M ds M1) (hl : ds.length ≤ sizeLine := by first | (simp only [List.length_cons, List.length_nil]; decide) | decide) : EV X (.List es pos) ρ M (.lst ds) M1 :=
  (pe_lst h).mono fun σ H Q ⟨G, sa, k⟩ => ⟨G, sa, fun vs G1 H1 g1 sh1 r1 => ⟨by rw [r1.len]; exact hl, fun p hp => by
    obtain ⟨sh2, g2⟩ := sh1.new (o := .lst vs) hp
    exact k _ _ _ (g1.trans g2) sh2 (.lst (.inl (.inl upd_same)) (r1.up g2))⟩⟩

/-! ### items -/
theorem atI_up {K : PySem.W.Frag} {G : Hp} {vs : List V} {i : Int} (r : RepL K G vs ds) (h : atI ds i = some d) : ∃ v, atI vs i = some v ∧ Rep K G v d := by
  unfold atI at h ⊢
  rw [r.len]
  cases q : ixN ds.length i with
  | none => rw [q] at h; cases h
  | some j =>
    rw [q] at h
    exact r.get h
theorem ev_ixT {i : Int} (ha : EV X a ρ M (.tup ds) M1) (hb : EV X b ρ M1 (dI i) M2) (h : atI ds i = some d) (hs : PlainIx b := by (intro _ _; rfl)) : EV X (.Subscript a b pos) ρ M d M2 :=
  (pe_ix ix_tup ha hb hs).mono fun σ H Q ⟨G, sa, k⟩ => ⟨G, sa, fun v1 G1 H1 g1 sh1 r1 => ⟨G1, ⟨sh1, sa.sl.up g1⟩, fun v2 G2 H2 g2 sh2 r2 => by
    cases r1 with
    | tup q r =>
      obtain ⟨v, e, rv⟩ := atI_up (r.up g2) h
      exact ⟨_, _, i, v, rfl, r2.of_val, sqtUp sh2.le (sqtUp g2 q), e, k _ G2 H2 (g1.trans g2) sh2 rv⟩⟩⟩
theorem ev_ixL {i : Int} (ha : EV X a ρ M (.lst ds) M1) (hb : EV X b ρ M1 (dI i) M2) (h : atI ds i = some d) (hs : PlainIx b := by (intro _ _; rfl)) : EV X (.Subscript a b pos) ρ M d M2 :=
  (pe_ix ix_list ha hb hs).mono fun σ H Q ⟨G, sa, k⟩ => ⟨G, sa, fun v1 G1 H1 g1 sh1 r1 => ⟨G1, ⟨sh1, sa.sl.up g1⟩, fun v2 G2 H2 g2 sh2 r2 => by
    cases r1 with
    | lst q r =>
      obtain ⟨v, e, rv⟩ := atI_up (r.up g2) h
      exact ⟨_, _, i, v, rfl, r2.of_val, sqlUp sh2.le (sqlUp g2 q), e, k _ G2 H2 (g1.trans g2) sh2 rv⟩⟩⟩
/-- an item of a list of the memory -/
theorem ev_ixM {p : Addr} {i : Int} (ha : EV X a ρ M (dP p) M1) (hb : EV X b ρ M1 (dI i) M2) (hm : M2 p = some (.lst ds)) (h : atI ds i = some d) (hs : PlainIx b := by (intro _ _; rfl)) : EV X (.Subscript a b pos) ρ M d M2 :=
  (pe_ix ix_list ha hb hs).mono fun σ H Q ⟨G, sa, k⟩ => ⟨G, sa, fun v1 G1 H1 g1 sh1 r1 => ⟨G1, ⟨sh1, sa.sl.up g1⟩, fun v2 G2 H2 g2 sh2 r2 => by
    obtain ⟨_, vs, hv, r⟩ := sh2.mem p _ hm
    obtain ⟨v, e, rv⟩ := atI_up r h
    exact ⟨p, vs, i, v, r1.of_val, r2.of_val, .inl (.inl hv), e, k _ G2 H2 (g1.trans g2) sh2 rv⟩⟩⟩
theorem ev_ixS {z : Str} {i : Int} {ch : Nat} (ha : EV X a ρ M (dS z) M1) (hb : EV X b ρ M1 (dI i) M2) (hz : z.length ≤ sizeLine) (h : atI z.cps.toList i = some ch) (hs : PlainIx b := by (intro _ _; rfl)) : EV X (.Subscript a b pos) ρ M (dS ⟨#[ch]⟩) M2 :=
  (pe_ix ix_str ha hb hs).mono fun σ H Q ⟨G, sa, k⟩ => ⟨G, sa, fun v1 G1 H1 g1 sh1 r1 => ⟨G1, ⟨sh1, sa.sl.up g1⟩, fun v2 G2 H2 g2 sh2 r2 =>
    ⟨z, i, ch, r1.of_val, r2.of_val, hz, h, k _ G2 H2 (g1.trans g2) sh2 (.val _)⟩⟩⟩

/-! ### calls -/
/-- what a def of trees promises -/
def spD (K : PySem.W.Frag) (Pr : List D → Mem → D → Mem → Prop) : Sp := fun vs H Q _ => ∃ G ds M d M', SH K G H M ∧ RepL K G vs ds ∧ Pr ds M d M' ∧ ∀ v G' H', Same G G' → SH K G' H' M' → Rep K G' v d → Q v H'
structure Cal (P : Program) (w : World) (K : PySem.W.Frag) (mg : Str → Option Value) (base : Heap) (k : Nat) (x : Str) (sp : Sp) : Prop where
  ex : ∃ f fd ps, mg x = some (.ref f) ∧ PySem.W.keepIn K (.ref f) = true ∧ Binds K fd ps [] ∧ FnOk P w K mg base CX0 k f fd ps sp
theorem Cal.mono {P : Program} {w : World} {K : PySem.W.Frag} {mg : Str → Option Value} {base : Heap} {j k : Nat} {x : Str} {sp : Sp} (C : Cal P w K mg base j x sp) (h : j ≤ k) : Cal P w K mg base k x sp :=
  let ⟨f, fd, ps, a, b, c, F⟩ := C.ex
  ⟨f, fd, ps, a, b, c, F.mono h⟩
theorem Cal.imp {P : Program} {w : World} {K : PySem.W.Frag} {mg : Str → Option Value} {base : Heap} {k : Nat} {x : Str} {sp sp' : Sp} (C : Cal P w K mg base k x sp) (h : ∀ vs H Q E, sp' vs H Q E → sp vs H Q E) : Cal P w K mg base k x sp' :=
  let ⟨f, fd, ps, a, b, c, F⟩ := C.ex
  ⟨f, fd, ps, a, b, c, F.imp h⟩
theorem ev_call {k : Nat} {x : Str} {Pr : List D → Mem → D → Mem → Prop} {p : Pos} (C : Cal X.prog X.w X.K X.mg X.base k x (spD X.K Pr)) (hr : Room k X.A) (ha : AV X (e :: es) ρ M ds M1) (hp : Pr ds M1 d M2) (hg : Gl X x := by rfl)
    (hd : (x == ("__debug__" : Str)) = false := by decide) (hst : starEach (e :: es) X.env = (false, eval e X.env) :: starEach es X.env := by rfl) (hpl : (backTo pos (starEach es X.env)).any (·.1) = false := by rfl) : EV X (.Call (.Name x p) (e :: es) [] pos) ρ M d M2 := by
  obtain ⟨f, fd, ps, hm, hk, hb, F⟩ := C.ex
  refine (pe_call F hr hg hm hk hb .nil pass0 ha (hdb := hd) (he := hst) (hpl := hpl)).mono fun σ H Q ⟨G, sa, k⟩ => ⟨G, sa, fun vs G1 H1 g1 sh1 r1 => ?_⟩
  show spD X.K Pr (vs ++ []) H1 Q E0
  rw [List.append_nil]
  exact ⟨G1, ds, M1, d, M2, sh1, r1, hp, fun v G' H' g sh r => k v G' H' (g1.trans g) sh r⟩
/-- a built-in of scalars -/
def RC (r : List V → Hp → VK → Prop) (vs : List V) (z : V) : Prop := ∀ H Q, Q z H → r vs H Q
theorem ev_cb {x : Str} {p : Pos} {id : String} {r : List V → Hp → VK → Prop} {vs : List V} {z : V} (hc : CallR X (.builtin id) r) (hm : X.mg x = none) (hv : bootBuiltins x = some (.builtin id)) (ha : AV X (e :: es) ρ M (vs.map D.val) M1) (hr : RC r vs z) (hg : Gl X x := by rfl)
    (hn : x ≠ "__name__" := by decide) (hd : (x == ("__debug__" : Str)) = false := by decide) (hst : starEach (e :: es) X.env = (false, eval e X.env) :: starEach es X.env := by rfl) (hpl : (backTo pos (starEach es X.env)).any (·.1) = false := by rfl) : EV X (.Call (.Name x p) (e :: es) [] pos) ρ M (.val z) M1 :=
  (pe_callB hc hg hm hv ha hn hd hst hpl).mono fun σ H Q ⟨G, sa, k⟩ => ⟨G, sa, fun vs' G1 H1 g1 sh1 r1 => by
    rw [RepL.of_vals r1]
    exact hr H1 Q (k _ G1 H1 g1 sh1 (.val _))⟩
theorem ev_ct {x : Str} {p : Pos} {id : String} {r : List V → Hp → VK → Prop} {vs : List V} {z : V} (hc : CallR X (.type id) r) (hm : X.mg x = none) (hv : bootBuiltins x = some (.type id)) (ha : AV X (e :: es) ρ M (vs.map D.val) M1) (hr : RC r vs z) (hg : Gl X x := by rfl)
    (hn : x ≠ "__name__" := by decide) (hd : (x == ("__debug__" : Str)) = false := by decide) (hst : starEach (e :: es) X.env = (false, eval e X.env) :: starEach es X.env := by rfl) (hpl : (backTo pos (starEach es X.env)).any (·.1) = false := by rfl) : EV X (.Call (.Name x p) (e :: es) [] pos) ρ M (.val z) M1 :=
  (pe_callTy hc hg hm hv ha hn hd hst hpl).mono fun σ H Q ⟨G, sa, k⟩ => ⟨G, sa, fun vs' G1 H1 g1 sh1 r1 => by
    rw [RepL.of_vals r1]
    exact hr H1 Q (k _ G1 H1 g1 sh1 (.val _))⟩
/-- int(i) -/
theorem ev_intI {i : Int} {p : Pos} (hm : X.mg "int" = none) (ha : EV X e ρ M (dI i) M1) (hg : Gl X "int" := by rfl) (hst : starEach [e] X.env = [(false, eval e X.env)] := by rfl) : EV X (.Call (.Name "int" p) [e] [] pos) ρ M (dI i) M1 :=
  (pe_callTy call_int1 hg hm (by decide +kernel) (av_cons ha av_nil hst) (he := hst)).mono fun σ H Q ⟨G, sa, k⟩ => ⟨G, sa, fun vs' G1 H1 g1 sh1 r1 => by
    rw [RepL.of_vals (xs := [.int i]) r1]
    exact .inl ⟨i, rfl, k _ G1 H1 g1 sh1 (.val _)⟩⟩
/-- len of a tree, of a list of the memory, of a text -/
theorem ev_lenT {p : Pos} (hm : X.mg "len" = none) (ha : EV X e ρ M (.tup ds) M1) (hg : Gl X "len" := by rfl) (hst : starEach [e] X.env = [(false, eval e X.env)] := by rfl) : EV X (.Call (.Name "len" p) [e] [] pos) ρ M (dI ds.length) M1 :=
  (pe_callB call_len_seq hg hm PySem.boot_len (av_cons ha av_nil hst) (he := hst)).mono fun σ H Q ⟨G, sa, k⟩ => ⟨G, sa, fun vs' G1 H1 g1 sh1 r1 => by
    cases r1 with
    | cons h t =>
      cases t
      cases h with
      | tup q r => exact ⟨_, _, rfl, .inr (sqtUp sh1.le q), by rw [r.len]; exact k _ G1 H1 g1 sh1 (.val _)⟩⟩
theorem ev_lenL {p : Pos} (hm : X.mg "len" = none) (ha : EV X e ρ M (.lst ds) M1) (hg : Gl X "len" := by rfl) (hst : starEach [e] X.env = [(false, eval e X.env)] := by rfl) : EV X (.Call (.Name "len" p) [e] [] pos) ρ M (dI ds.length) M1 :=
  (pe_callB call_len_seq hg hm PySem.boot_len (av_cons ha av_nil hst) (he := hst)).mono fun σ H Q ⟨G, sa, k⟩ => ⟨G, sa, fun vs' G1 H1 g1 sh1 r1 => by
    cases r1 with
    | cons h t =>
      cases t
      cases h with
      | lst q r => exact ⟨_, _, rfl, .inl (sqlUp sh1.le q), by rw [r.len]; exact k _ G1 H1 g1 sh1 (.val _)⟩⟩
theorem ev_lenM {a : Addr} {p : Pos} (hm : X.mg "len" = none) (ha : EV X e ρ M (dP a) M1) (h : M1 a = some (.lst ds)) (hg : Gl X "len" := by rfl) (hst : starEach [e] X.env = [(false, eval e X.env)] := by rfl) : EV X (.Call (.Name "len" p) [e] [] pos) ρ M (dI ds.length) M1 :=
  (pe_callB call_len_seq hg hm PySem.boot_len (av_cons ha av_nil hst) (he := hst)).mono fun σ H Q ⟨G, sa, k⟩ => ⟨G, sa, fun vs' G1 H1 g1 sh1 r1 => by
    obtain ⟨_, vs, hv, r⟩ := sh1.mem a _ h
    rw [RepL.of_vals (xs := [.ref a]) r1]
    exact ⟨a, vs, rfl, .inl (.inl (.inl hv)), by rw [r.len]; exact k _ G1 H1 g1 sh1 (.val _)⟩⟩
theorem ev_lenS {z : Str} {p : Pos} (hm : X.mg "len" = none) (ha : EV X e ρ M (dS z) M1) (hz : z.length ≤ sizeLine) (hg : Gl X "len" := by rfl) (hst : starEach [e] X.env = [(false, eval e X.env)] := by rfl) : EV X (.Call (.Name "len" p) [e] [] pos) ρ M (dI z.length) M1 :=
  (pe_callB call_len_str hg hm PySem.boot_len (av_cons ha av_nil hst) (he := hst)).mono fun σ H Q ⟨G, sa, k⟩ => ⟨G, sa, fun vs' G1 H1 g1 sh1 r1 => by
    rw [RepL.of_vals (xs := [.str z]) r1]
    exact ⟨z, rfl, hz, k _ G1 H1 g1 sh1 (.val _)⟩⟩

/-! ### statements -/
variable {Ψ : Out → Prop} {st : Stmt} {rest : List Stmt}
/-- what follows -/
def thenR (X : Cx) (rest : List Stmt) (Ψ : Out → Prop) : Out → Prop
  | .nx ρ M => BV X rest ρ M Ψ
  | o => Ψ o
theorem bv_nil (h : Ψ (.nx ρ M)) : BV X [] ρ M Ψ := pss_nil.mono fun E σ H ⟨G, sa, k⟩ => k _ h σ G H (Same.refl G) sa
theorem bv_cons (h : SV X st ρ M (thenR X rest Ψ)) : BV X (st :: rest) ρ M Ψ := by
  refine (pss_cons (u := fun E σ H => ∃ ρ' M', BV X rest ρ' M' Ψ ∧ tS X.K ρ' M' Ψ E σ H) h ⟨fun pins s σ H E I ⟨ρ', M', hb, q⟩ => hb.run pins s σ H E I q⟩).mono fun E σ H ⟨G, sa, k⟩ => ⟨G, sa, fun o ho => ?_⟩
  cases o with
  | nx ρ' M' => exact fun σ' G' H' g sa' => ⟨ρ', M', ho, G', sa', fun o' ho' => (k o' ho').up g⟩
  | ret d M' => exact k _ ho
  | bk ρ' M' => exact k _ ho
  | ct ρ' M' => exact k _ ho
theorem bv_one (h : SV X st ρ M Ψ) : BV X [st] ρ M Ψ := pss_one h
theorem sv_to {Ψ' : Out → Prop} (h : SV X st ρ M Ψ) (i : ∀ o, Ψ o → Ψ' o) : SV X st ρ M Ψ' := h.mono fun E σ H ⟨G, sa, k⟩ => ⟨G, sa, fun o ho => k o (i o ho)⟩
theorem bv_to {Ψ' : Out → Prop} (h : BV X rest ρ M Ψ) (i : ∀ o, Ψ o → Ψ' o) : BV X rest ρ M Ψ' := h.mono fun E σ H ⟨G, sa, k⟩ => ⟨G, sa, fun o ho => k o (i o ho)⟩
/-- fewer slots known, the same memory -/
theorem bv_weak {ρ' : Sl} (h : BV X rest ρ' M Ψ) (hl : ρ'.length = ρ.length) (hs : ∀ (i : Nat) (d : D), ρ'[i]? = some (some d) → ρ[i]? = some (some d)) : BV X rest ρ M Ψ := h.mono fun E σ H ⟨G, sa, k⟩ => ⟨G, ⟨sa.sh, sa.sl.weak hl hs⟩, k⟩
theorem sv_ret (h : EV X e ρ M d M1) (hΨ : Ψ (.ret d M1)) : SV X (.Return (some e) pos) ρ M Ψ :=
  (ps_ret h).mono fun E σ H ⟨G, sa, k⟩ => ⟨G, sa, fun v G1 H1 g1 sh1 r1 => k _ hΨ v G1 H1 g1 sh1 r1⟩
theorem sv_retN (hΨ : Ψ (.ret dN M)) : SV X (.Return none pos) ρ M Ψ :=
  ps_retN.mono fun E σ H ⟨G, sa, k⟩ => k _ hΨ _ G H (Same.refl G) sa.sh (.val _)
theorem sv_pass (hΨ : Ψ (.nx ρ M)) : SV X (.Pass pos) ρ M Ψ := ps_pass.mono fun E σ H ⟨G, sa, k⟩ => k _ hΨ σ G H (Same.refl G) sa
theorem sv_break (hΨ : Ψ (.bk ρ M)) : SV X (.Break pos) ρ M Ψ := ps_break.mono fun E σ H ⟨G, sa, k⟩ => k _ hΨ σ G H (Same.refl G) sa
theorem sv_cont (hΨ : Ψ (.ct ρ M)) : SV X (.Continue pos) ρ M Ψ := ps_continue.mono fun E σ H ⟨G, sa, k⟩ => k _ hΨ σ G H (Same.refl G) sa
theorem sv_expr (h : EV X e ρ M d M1) (hΨ : Ψ (.nx ρ M1)) (hs : swapsWith e none pos.line X.env = pure false := by rfl) : SV X (.Expr e pos) ρ M Ψ :=
  (ps_expr h hs).mono fun E σ H ⟨G, sa, k⟩ => ⟨G, sa, fun v G1 H1 g1 sh1 r1 => k _ hΨ σ G1 H1 g1 ⟨sh1, sa.sl.up g1⟩⟩
/-- x = e -/
theorem sv_set (i : Nat) {x : Str} {pos' : Pos} (hN : X.N.Nodup) (he : EV X e ρ M d M1) (hΨ : Ψ (.nx (ρ.set i (some d)) M1)) (hi : X.N[i]? = some x := by rfl) (hx : L2.Loc X.env.scope x := by first | exact Or.inl rfl | exact Or.inr rfl) (hs : swapsWith e (some (.Name x pos')) pos.line X.env = pure false := by rfl)
    (hf : X.fn x = true ∨ X.env.scope.names.lookup x = some .local := by first | exact .inl rfl | exact .inr rfl) : SV X (.Assign [.Name x pos'] e pos) ρ M Ψ :=
  (ps_set hN hi hx he hs hf).mono fun E σ H ⟨G, sa, k⟩ => ⟨G, sa, fun v G1 H1 g1 sh1 r1 => k _ hΨ _ G1 H1 g1 ⟨sh1, (sa.sl.up g1).set i r1⟩⟩
/-- x = a new list that is going to be changed: its address p is new -/
theorem sv_setNew (i : Nat) {x : Str} {pos' pl : Pos} (hN : X.N.Nodup) (ha : AV X es ρ M ds M1) (hΨ : ∀ p, M1 p = none → Ψ (.nx (ρ.set i (some (dP p))) (M1.set p (.lst ds)))) (hl : ds.length ≤ sizeLine := by first | (simp only [List.length_cons, List.length_nil]; decide) | decide) (hi : X.N[i]? = some x := by rfl) (hx : L2.Loc X.env.scope x := by first | exact Or.inl rfl | exact Or.inr rfl)
    (hs : swapsWith (.List es pl) (some (.Name x pos')) pos.line X.env = pure false := by rfl) (hf : X.fn x = true ∨ X.env.scope.names.lookup x = some .local := by first | exact .inl rfl | exact .inr rfl) : SV X (.Assign [.Name x pos'] (.List es pl) pos) ρ M Ψ :=
  (ps_set hN hi hx (pe_lst ha) hs hf).mono fun E σ H ⟨G, sa, k⟩ => ⟨G, sa, fun vs G1 H1 g1 sh1 r1 => ⟨by rw [r1.len]; exact hl, fun p hp => by
    obtain ⟨sh2, mp, gp⟩ := sh1.newM hp r1
    exact k _ (hΨ p mp) _ G1 _ g1 ⟨sh2, (sa.sl.up g1).set i (.val _)⟩⟩⟩
theorem sv_if {p : Bool} {as bs : List Stmt} (hc : TV X c ρ M p M1) (ha : p = true → BV X as ρ M1 Ψ) (hb : p = false → BV X bs ρ M1 Ψ) : SV X (.If c as bs pos) ρ M Ψ := by
  cases p with
  | true => exact (ps_if (u := fun _ _ _ => False) hc (ha rfl) ⟨fun _ _ _ _ _ _ h => h.elim⟩).mono fun E σ H ⟨G, sa, k⟩ => ⟨G, sa, fun G1 H1 g1 sh1 => (⟨G1, ⟨sh1, sa.sl.up g1⟩, fun o ho => (k o ho).up g1⟩ : tS _ _ _ _ E σ H1)⟩
  | false => exact (ps_if (t := fun _ _ _ => False) hc ⟨fun _ _ _ _ _ _ h => h.elim⟩ (hb rfl)).mono fun E σ H ⟨G, sa, k⟩ => ⟨G, sa, fun G1 H1 g1 sh1 => (⟨G1, ⟨sh1, sa.sl.up g1⟩, fun o ho => (k o ho).up g1⟩ : tS _ _ _ _ E σ H1)⟩
/-- the list at p, which slot i names, is changed no more -/
theorem SH.freeze {K : PySem.W.Frag} {G H : Hp} {M : Mem} {p : Addr} {ds : List D} (s : SH K G H (M.set p (.lst ds))) (hm : M p = none) : ∃ vs, SH K (upd G p (.lst vs)) H M ∧ Same G (upd G p (.lst vs)) ∧ RepL K G vs ds := by
  obtain ⟨gp, vs, hv, r⟩ := s.mem p _ Mem.set_same
  have up : Same G (upd G p (.lst vs)) := fun b u e => by rw [upd_ne (ne_of_none e gp)]; exact e
  refine ⟨vs, ⟨fun b u e => ?_, fun b mo e => ?_⟩, up, r⟩
  · by_cases hb : b = p
    · subst hb; rw [upd_same] at e; rw [← e]; exact hv
    · rw [upd_ne hb] at e; exact s.le b u e
  · have hb : b ≠ p := fun q => by rw [q, hm] at e; cases e
    obtain ⟨g0, at0⟩ := s.mem b mo (by rw [Mem.set_ne hb]; exact e)
    exact ⟨by rw [upd_ne hb]; exact g0, at0.up up rfl⟩
theorem bv_freeze (i : Nat) {p : Addr} (hρ : ρ[i]? = some (some (dP p))) (hm : M p = none) (h : BV X rest (ρ.set i (some (.lst ds))) M Ψ) : BV X rest ρ (M.set p (.lst ds)) Ψ := h.mono fun E σ H ⟨G, sa, k⟩ => by
  obtain ⟨vs, sh, g, r⟩ := sa.sh.freeze hm
  obtain ⟨v, e1, r1⟩ := sa.sl.2 i _ hρ
  refine ⟨_, ⟨sh, ?_⟩, fun o ho => (k o ho).up g⟩
  have q := (sa.sl.up g).set i (v := .ref p) (d := .lst ds) (.lst (.inl (.inl upd_same)) (r.up g))
  have e2 : σ.set i (some (V.ref p)) = σ := by
    have ev : v = V.ref p := r1.of_val
    rw [ev] at e1
    obtain ⟨hi, e3⟩ := List.getElem?_eq_some_iff.mp e1
    rw [← e3]
    exact List.set_getElem_self hi
  rw [e2] at q
  exact q

/-- a def's promise by its body -/
def Fin (d : D) (M' : Mem) : Out → Prop
  | .ret d' M'' => d' = d ∧ Mle M' M''
  | .nx _ M'' => d = dN ∧ Mle M' M''
  | _ => False
def startD (N : List Str) (ds : List D) : Sl := ds.map some ++ List.replicate (N.length - ds.length) none
theorem start_rep {K : PySem.W.Frag} {G : Hp} {N : List Str} : ∀ {vs : List V} {ds : List D}, RepL K G vs ds → RepS K G (L2.start N vs) (startD N ds) := fun {vs ds} r => by
  have hl := r.len
  unfold L2.start startD
  refine ⟨by simp [hl], fun i d e => ?_⟩
  by_cases hi : i < ds.length
  · rw [List.getElem?_append_left (by simpa using hi), List.getElem?_map] at e
    rw [List.getElem?_append_left (by simpa [hl] using hi), List.getElem?_map]
    cases q : ds[i]? with
    | none => rw [q] at e; cases e
    | some d' =>
      rw [q] at e
      cases e
      obtain ⟨v, h1, h2⟩ := r.get q
      exact ⟨v, by rw [h1]; rfl, h2⟩
  · rw [List.getElem?_append_right (by simpa using hi), List.getElem?_replicate] at e
    split at e <;> cases e
theorem fn_ok {P : Program} {w : World} {K : PySem.W.Frag} {mg : Str → Option Value} {base : Heap} {x qual : Str} {sd : Stmt} {f : Addr} {fd : FuncData} {N ps : List Str} {k : Nat} {Pr : List D → Mem → D → Mem → Prop} (F : Fun K x qual sd f fd) (S : FnScope N ps (defScope sd))
    (len : ∀ ds M d M', Pr ds M d M' → ds.length = ps.length)
    (hb : ∀ (cdv : Value) (A : Around) (outer : List Env) (s : Shared) (H : Hp) (E : XK) (ds : List D) (M : Mem) (d : D) (M' : Mem), Room k (A.deeper (envOfC qual (defScope sd) s.heap.objs.size f cdv)) → Pr ds M d M' →
      BV (cxOf CX0 P w K mg base N qual (defScope sd) f cdv A outer s H E).nox (defBody sd) (startD N ds) M (Fin d M')) : FnOk P w K mg base CX0 (k + 1) f fd ps (spD K Pr) := by
  refine F.ok S (fun vs H Q E ⟨G, ds, M, d, M', sh, r, p, q⟩ => by rw [r.len]; exact len _ _ _ _ p) fun cdv A outer s H vs Q E hr ⟨G, ds, M, d, M', sh, r, p, q⟩ => ?_
  refine ⟨_, hb cdv A outer s H E ds M d M' hr p, G, ⟨sh, start_rep r⟩, fun o ho => ?_⟩
  cases o with
  | ret d' M'' =>
    obtain ⟨rfl, hm⟩ := ho
    exact fun v G' H' g sh' r' => q v G' H' g (sh'.weak hm) r'
  | nx ρ M'' =>
    obtain ⟨rfl, hm⟩ := ho
    exact fun σ' G' H' g sa' => q .non G' H' g (sa'.sh.weak hm) (.val _)
  | bk _ _ => exact ho.elim
  | ct _ _ => exact ho.elim
theorem cal_of {P : Program} {w : World} {K : PySem.W.Frag} {mg : Str → Option Value} {base : Heap} {x qual : Str} {sd : Stmt} {f : Addr} {fd : FuncData} {N ps : List Str} {k : Nat} {Pr : List D → Mem → D → Mem → Prop} (F : Fun K x qual sd f fd) (S : FnScope N ps (defScope sd)) (hm : mg x = some (.ref f))
    (hbind : ∀ (kV doc pm : Value) (an : Option Addr) (cdv ct : Value) (us : List Value), us.length = ps.length → bindArgs (PySem.W.fnOf x qual (defArgs sd) (defBody sd) (defScope sd) .none kV doc pm an cdv ct) ⟨us, []⟩ = pure (ps.zip us))
    (len : ∀ ds M d M', Pr ds M d M' → ds.length = ps.length)
    (hb : ∀ (cdv : Value) (A : Around) (outer : List Env) (s : Shared) (H : Hp) (E : XK) (ds : List D) (M : Mem) (d : D) (M' : Mem), Room k (A.deeper (envOfC qual (defScope sd) s.heap.objs.size f cdv)) → Pr ds M d M' →
      BV (cxOf CX0 P w K mg base N qual (defScope sd) f cdv A outer s H E).nox (defBody sd) (startD N ds) M (Fin d M')) : Cal P w K mg base (k + 1) x (spD K Pr) :=
  ⟨f, fd, ps, hm, F.kp, F.binds hbind, fn_ok F S len hb⟩

/-! ### a list or a tuple -/
def sq (b : Bool) (ds : List D) : D := if b = true then .lst ds else .tup ds

/-! ### isinstance, is None, abs, texts of ints -/
theorem rs_eqI {i j : Int} : RS rEq (.int i) (.int j) (.bl (decide (i = j))) := fun H Q q => ⟨rfl, by
  have e : decide (V.int i = V.int j) = decide (i = j) := decide_eq_decide.mpr ⟨fun h => by cases h; rfl, fun h => by rw [h]⟩
  rw [e]; exact q⟩
theorem rs_neI {i j : Int} : RS rNe (.int i) (.int j) (.bl (!decide (i = j))) := fun H Q q => ⟨rfl, by
  have e : decide (V.int i = V.int j) = decide (i = j) := decide_eq_decide.mpr ⟨fun h => by cases h; rfl, fun h => by rw [h]⟩
  rw [e]; exact q⟩
theorem rs_eqS {i j : Str} : RS rEq (.str i) (.str j) (.bl (decide (i = j))) := fun H Q q => ⟨rfl, by
  have e : decide (V.str i = V.str j) = decide (i = j) := decide_eq_decide.mpr ⟨fun h => by cases h; rfl, fun h => by rw [h]⟩
  rw [e]; exact q⟩
theorem rs_neS {i j : Str} : RS rNe (.str i) (.str j) (.bl (!decide (i = j))) := fun H Q q => ⟨rfl, by
  have e : decide (V.str i = V.str j) = decide (i = j) := decide_eq_decide.mpr ⟨fun h => by cases h; rfl, fun h => by rw [h]⟩
  rw [e]; exact q⟩
theorem rs_eqB {i j : Bool} : RS rEq (.bl i) (.bl j) (.bl (decide (i = j))) := fun H Q q => ⟨rfl, by
  have e : decide (V.bl i = V.bl j) = decide (i = j) := decide_eq_decide.mpr ⟨fun h => by cases h; rfl, fun h => by rw [h]⟩
  rw [e]; exact q⟩
theorem ru_neg {i : Int} : RU (rU fun i => .int (-i)) (.int i) (.int (-i)) := fun H Q q => ⟨i, rfl, q⟩
theorem cm_l {i j : Int} (h1 : -(2 ^ 64) < i) (h2 : i < 2 ^ 64) : CMul i j := .inl ⟨h1, h2⟩
theorem cm_r {i j : Int} (h1 : -(2 ^ 64) < j) (h2 : j < 2 ^ 64) : CMul i j := .inr ⟨h1, h2⟩
/-- the kind of a tree: isinstance's left side -/
def tyD : D → Option String
  | .val .non => some "NoneType"
  | .val (.bl _) => some "bool"
  | .val (.int _) => some "int"
  | .val (.str _) => some "str"
  | .val _ => none
  | .tup _ => some "tuple"
  | .lst _ => some "list"
theorem tyx_of {K : PySem.W.Frag} {G H : Hp} {v : V} {d : D} {t : String} (e : Same G H) (r : Rep K G v d) (h : tyD d = some t) : TyX K H v (.type t) := by
  cases r with
  | val v =>
    cases v with
    | non => cases h; exact .base .non
    | bl b => cases h; exact .base (.bl b)
    | int i => cases h; exact .base (.int i)
    | str z => cases h; exact .base (.str z)
    | _ => cases h
  | tup q _ =>
    cases h
    rcases sqtUp e q with (q | ⟨o, q⟩) | ⟨o, its, n, q, c, _⟩
    · exact .base (.tup q)
    · exact .fTuple q
    · exact .kTuple q c
  | lst q _ =>
    cases h
    rcases sqlUp e q with (q | ⟨o, q⟩) | ⟨o, its, n, q, c, _⟩
    · exact .base (.lst q)
    · exact .base (.frz q)
    · exact .kList q c
/-- isinstance(a, T), T a built-in type -/
theorem ev_isi {x : Str} {T t : String} {r : Bool} {p p2 : Pos} (hm : X.mg "isinstance" = none) (hT : X.mg x = none) (hv : bootBuiltins x = some (.type T)) (ha : EV X a ρ M d M1) (ht : tyD d = some t) (hk : kitB t T = some r) (hg : Gl X "isinstance" := by rfl) (hgT : Gl X x := by rfl)
    (hn : x ≠ "__name__" := by decide) (hd : (x == ("__debug__" : Str)) = false := by decide)
    (h1 : starEach [a, .Name x p2] X.env = (false, eval a X.env) :: starEach [.Name x p2] X.env := by rfl) (h2 : starEach [.Name x p2] X.env = (false, eval (.Name x p2) X.env) :: starEach [] X.env := by rfl) (hpl : (backTo pos (starEach [.Name x p2] X.env)).any (·.1) = false := by rfl) :
    EV X (.Call (.Name "isinstance" p) [a, .Name x p2] [] pos) ρ M (dB r) M1 :=
  (pe_callB call_isi hg hm boot_isinstance (pa_cons ha (pa_cons (pe_bltn (v := .ty T) hgT hT hv rfl hn hd) pa_nil h2) h1) (hpl := hpl) (he := h1)).mono fun σ H Q ⟨G, sa, k⟩ => ⟨G, sa, fun v1 G1 H1 g1 sh1 r1 => 
    ⟨v1, .ty T, .type t, .type T, r, rfl, .ty T, tyx_of sh1.le r1 ht, kit_ty hk, k _ G1 H1 g1 sh1 (.val _)⟩⟩
theorem ev_isN {j} {v : V} {p2 : Pos} (ha : EV X a ρ M (.val v) M1) : EV X (.Compare a [.Is] [.Constant .none j p2] pos) ρ M (dB (decide (v = .non))) M1 :=
  (pe_cmp (pc_isN ha)).mono fun σ H Q ⟨G, sa, k⟩ => ⟨G, sa, fun v1 G1 H1 g1 sh1 r1 => by rw [r1.of_val]; exact k _ G1 H1 g1 sh1 (.val _)⟩
theorem tv_isN {j} {v : V} {p2 : Pos} (ha : EV X a ρ M (.val v) M1) : TV X (.Compare a [.Is] [.Constant .none j p2] pos) ρ M (decide (v = .non)) M1 :=
  (pt_cmp (pc_isN ha)).mono fun σ H Q ⟨G, sa, k⟩ => ⟨G, sa, fun v1 G1 H1 g1 sh1 r1 => by rw [r1.of_val]; exact ⟨_, rfl, k G1 H1 g1 sh1⟩⟩
theorem tv_isND {j} {b : Bool} {p2 : Pos} (ha : EV X a ρ M d M1) (h : ∀ v, d ≠ .val v) : TV X (.Compare a [.Is] [.Constant .none j p2] pos) ρ M false M1 :=
  (pt_cmp (pc_isN ha)).mono fun σ H Q ⟨G, sa, k⟩ => ⟨G, sa, fun v1 G1 H1 g1 sh1 r1 => by
    cases r1 with
    | val _ => exact absurd rfl (h _)
    | tup _ _ => exact ⟨_, rfl, k G1 H1 g1 sh1⟩
    | lst _ _ => exact ⟨_, rfl, k G1 H1 g1 sh1⟩⟩

/-! ### lists -/
/-- list(x) of a tree: a new list that stands as it is -/
theorem ev_listL {b : Bool} {p : Pos} (hm : X.mg "list" = none) (ha : EV X e ρ M (sq b ds) M1) (hg : Gl X "list" := by rfl) (hst : starEach [e] X.env = [(false, eval e X.env)] := by rfl) : EV X (.Call (.Name "list" p) [e] [] pos) ρ M (.lst ds) M1 :=
  (pe_callTy call_list_of hg hm boot_list (av_cons ha av_nil hst) (he := hst)).mono fun σ H Q ⟨G, sa, k⟩ => ⟨G, sa, fun vs' G1 H1 g1 sh1 r1 => by
    cases r1 with
    | cons h t =>
      cases t
      cases b with
      | true =>
        cases (show Rep X.K G1 _ (.lst ds) from h) with
        | lst q r => exact ⟨_, _, rfl, .inl (sqlUp sh1.le q), fun l hl => by
            obtain ⟨sh2, g2⟩ := sh1.new (o := .lst _) hl
            exact k _ _ _ (g1.trans g2) sh2 (.lst (.inl (.inl upd_same)) (r.up g2))⟩
      | false =>
        cases (show Rep X.K G1 _ (.tup ds) from h) with
        | tup q r => exact ⟨_, _, rfl, .inr (sqtUp sh1.le q), fun l hl => by
            obtain ⟨sh2, g2⟩ := sh1.new (o := .lst _) hl
            exact k _ _ _ (g1.trans g2) sh2 (.lst (.inl (.inl upd_same)) (r.up g2))⟩⟩
/-- tuple(x) of a tree -/
theorem ev_tupOf {b : Bool} {p : Pos} (hm : X.mg "tuple" = none) (ha : EV X e ρ M (sq b ds) M1) (hg : Gl X "tuple" := by rfl) (hst : starEach [e] X.env = [(false, eval e X.env)] := by rfl) : EV X (.Call (.Name "tuple" p) [e] [] pos) ρ M (.tup ds) M1 :=
  (pe_callTy call_tuple_of hg hm boot_tuple (av_cons ha av_nil hst) (he := hst)).mono fun σ H Q ⟨G, sa, k⟩ => ⟨G, sa, fun vs' G1 H1 g1 sh1 r1 => by
    cases r1 with
    | cons h t =>
      cases t
      cases b with
      | true =>
        cases (show Rep X.K G1 _ (.lst ds) from h) with
        | lst q r => exact ⟨_, _, rfl, .inl ⟨sqlUp sh1.le q, fun l hl => by
            obtain ⟨sh2, g2⟩ := sh1.new (o := .tup _) hl
            exact k _ _ _ (g1.trans g2) sh2 (.tup (.inl (.inl upd_same)) (r.up g2))⟩⟩
      | false =>
        cases (show Rep X.K G1 _ (.tup ds) from h) with
        | tup q r => exact ⟨_, _, rfl, .inr ⟨sqtUp sh1.le q, k _ G1 H1 g1 sh1 (.tup q r)⟩⟩⟩
theorem ev_ixQ {b' : Bool} {i : Int} (ha : EV X a ρ M (sq b' ds) M1) (hb : EV X b ρ M1 (dI i) M2) (h : atI ds i = some d) (hs : PlainIx b := by (intro _ _; rfl)) : EV X (.Subscript a b pos) ρ M d M2 := by
  cases b' with
  | true => exact ev_ixL ha hb h hs
  | false => exact ev_ixT ha hb h hs
theorem ev_lenQ {b' : Bool} {p : Pos} (hm : X.mg "len" = none) (ha : EV X e ρ M (sq b' ds) M1) (hg : Gl X "len" := by rfl) (hst : starEach [e] X.env = [(false, eval e X.env)] := by rfl) : EV X (.Call (.Name "len" p) [e] [] pos) ρ M (dI ds.length) M1 := by
  cases b' with
  | true => exact ev_lenL hm ha hg hst
  | false => exact ev_lenT hm ha hg hst
/-- all(x) of a list of bools -/
theorem ev_all {bs : List Bool} {p : Pos} (hc : X.calm = true) (hm : X.mg "all" = none) (ha : EV X e ρ M (.lst (bs.map dB)) M1) (hg : Gl X "all" := by rfl) (hst : starEach [e] X.env = [(false, eval e X.env)] := by rfl) : EV X (.Call (.Name "all" p) [e] [] pos) ρ M (dB (bs.all id)) M1 :=
  (pe_callB (cr_all hc) hg hm boot_all (av_cons ha av_nil hst) (he := hst)).mono fun σ H Q ⟨G, sa, k⟩ => ⟨G, sa, fun vs' G1 H1 g1 sh1 r1 => by
    cases r1 with
    | cons h t =>
      cases t
      cases h with
      | lst q r =>
        have e : bs.map dB = (bs.map V.bl).map D.val := by rw [List.map_map] <;> rfl
        rw [e] at r
        rw [RepL.of_vals r] at q
        exact ⟨_, bs, rfl, sqlUp sh1.le q, k _ G1 H1 g1 sh1 (.val _)⟩⟩
/-- tuple + tuple -/
theorem ev_catT {es : List D} (ha : EV X a ρ M (.tup ds) M1) (hb : EV X b ρ M1 (.tup es) M2) (hl : ds.length + es.length ≤ sizeLine) : EV X (.BinOp a .Add b pos) ρ M (.tup (ds ++ es)) M2 :=
  (pe_op op_catA ha hb).mono fun σ H Q ⟨G, sa, k⟩ => ⟨G, sa, fun v1 G1 H1 g1 sh1 r1 => ⟨G1, ⟨sh1, sa.sl.up g1⟩, fun v2 G2 H2 g2 sh2 r2 => by
    cases r1 with
    | tup q r =>
      cases r2 with
      | tup q2 r2 =>
        have rr := r.up g2
        refine ⟨_, _, _, _, rfl, rfl, sqtUp sh2.le (sqtUp g2 q), sqtUp sh2.le q2, by rw [r.len, r2.len]; exact hl, fun e => ?_, fun _ e => ?_, fun _ _ p hp => ?_⟩
        · subst e
          cases rr
          exact k _ G2 H2 (g1.trans g2) sh2 (.tup q2 r2)
        · subst e
          cases r2
          rw [List.append_nil] at k
          exact k _ G2 H2 (g1.trans g2) sh2 (.tup (sqtUp g2 q) rr)
        · obtain ⟨sh3, g3⟩ := sh2.new (o := .tup _) hp
          exact k _ _ _ ((g1.trans g2).trans g3) sh3 (.tup (.inl (.inl upd_same)) ((rr.append r2).up g3))⟩⟩
/-- xs.append(e), xs a list of the memory -/
theorem sv_append {p : Addr} {ap cp : Pos} (ho : EV X a ρ M (dP p) M1) (ha : EV X e ρ M1 d M2) (hm1 : ∃ es, M1 p = some (.lst es)) (hm : M2 p = some (.lst ds)) (hl : ds.length < sizeLine) (hΨ : Ψ (.nx ρ (M2.set p (.lst (ds ++ [d])))))
    (h1 : attributeBase a "append" X.env (eval a X.env) = eval a X.env := by rfl) (h3 : (ap.endLine == cp.line) = true := by decide) (h4 : starEach [e] X.env = (false, eval e X.env) :: starEach [] X.env := by rfl)
    (h2 : (((((backTo cp (starEach [e] X.env)).all fun x => !x.fst) && (backToKw cp (keywordEach [] X.env)).all fun x => x.fst.isSome) && decide (([e].length + ([] : List Keyword).length + if ([] : List Keyword).isEmpty = true then 0 else 1) < 30)) = true) := by rfl)
    (h5 : (((backTo cp (starEach [] X.env)).any fun x => x.fst) = false) := by rfl)
    (hs : swapsWith (.Call (.Attribute a "append" ap) [e] [] cp) none pos.line X.env = pure false := by rfl) : SV X (.Expr (.Call (.Attribute a "append" ap) [e] [] cp) pos) ρ M Ψ :=
  (ps_expr (pe_bm PySem.F.plainAttrs_list PySem.F.slot_list_append PySem.F.type_list_append mt_append ho (av_cons ha av_nil h4) h1 h2 h3 h4 h5) hs).mono fun E σ H ⟨G, sa, k⟩ => ⟨G, sa, fun v1 G1 H1 g1 sh1 r1 => by
    obtain ⟨es, hes⟩ := hm1
    obtain ⟨_, vs1, hv1, _⟩ := sh1.mem p _ hes
    rw [r1.of_val]
    refine ⟨.inl ⟨rfl, _, .inl (.inl hv1)⟩, G1, ⟨sh1, sa.sl.up g1⟩, fun vs G2 H2 g2 sh2 r2 => ?_⟩
    cases r2 with
    | cons r2 t =>
      cases t
      obtain ⟨_, vs2, hv2, rl⟩ := sh2.mem p _ hm
      exact ⟨p, vs2, _, rfl, rfl, hv2, by rw [rl.len]; exact hl, k _ hΨ σ G2 _ (g1.trans g2) ⟨sh2.put hm (rl.append (.cons r2 .nil)), (sa.sl.up g1).up g2⟩⟩⟩
/-- xs.pop(i) -/
theorem ev_pop {p : Addr} {i : Nat} {ap : Pos} (ho : EV X a ρ M (dP p) M1) (ha : EV X e ρ M1 (dI i) M2) (hm1 : ∃ es, M1 p = some (.lst es)) (hm : M2 p = some (.lst ds)) (hi : ds[i]? = some d)
    (h1 : attributeBase a "pop" X.env (eval a X.env) = eval a X.env := by rfl) (h3 : (ap.endLine == pos.line) = true := by decide) (h4 : starEach [e] X.env = (false, eval e X.env) :: starEach [] X.env := by rfl)
    (h2 : (((((backTo pos (starEach [e] X.env)).all fun x => !x.fst) && (backToKw pos (keywordEach [] X.env)).all fun x => x.fst.isSome) && decide (([e].length + ([] : List Keyword).length + if ([] : List Keyword).isEmpty = true then 0 else 1) < 30)) = true) := by rfl)
    (h5 : (((backTo pos (starEach [] X.env)).any fun x => x.fst) = false) := by rfl) (hz : ds.length < 2 ^ 62) : EV X (.Call (.Attribute a "pop" ap) [e] [] pos) ρ M d (M2.set p (.lst (ds.eraseIdx i))) :=
  (pe_bm PySem.F.plainAttrs_list PySem.F.slot_list_pop PySem.F.type_list_pop mt_popAt ho (av_cons ha av_nil h4) h1 h2 h3 h4 h5).mono fun σ H Q ⟨G, sa, k⟩ => ⟨G, sa, fun v1 G1 H1 g1 sh1 r1 => by
    obtain ⟨es, hes⟩ := hm1
    obtain ⟨_, vs1, hv1, _⟩ := sh1.mem p _ hes
    rw [r1.of_val]
    refine ⟨.inl ⟨rfl, _, .inl (.inl hv1)⟩, G1, ⟨sh1, sa.sl.up g1⟩, fun vs G2 H2 g2 sh2 r2 => ?_⟩
    rw [RepL.of_vals (xs := [.int i]) r2]
    obtain ⟨_, vs2, hv2, rl⟩ := sh2.mem p _ hm
    obtain ⟨v, hv, rv⟩ := rl.get hi
    have hlt : i < vs2.length := (List.getElem?_eq_some_iff.mp hv).1
    have hll := rl.len
    refine ⟨p, vs2, i, i, v, rfl, rfl, hv2, by omega, by omega, ?_, hv, k _ G2 _ (g1.trans g2) (sh2.put hm (rl.erase i)) rv⟩
    unfold seqIndex?
    have e1 : ¬ ((i : Int) < 0) := by omega
    simp only [e1, if_false]
    rw [if_pos (by simp only [Bool.and_eq_true, decide_eq_true_eq]; omega)]
    rfl⟩
/-- xs[i] = e -/
theorem sv_setItem {p : Addr} {i : Nat} {tp : Pos} (he : EV X e ρ M d M1) (ho : EV X a ρ M1 (dP p) M2) (hi : EV X b ρ M2 (dI i) M3) (hm : M3 p = some (.lst ds)) (hlt : i < ds.length) (hΨ : Ψ (.nx ρ (M3.set p (.lst (ds.set i d)))))
    (ha : ∀ v, assign (.Subscript a b tp) X.env v = (do
      let ov ← holding [v] (eval a X.env)
      let iv ← holding [v, ov] (eval b X.env)
      standAt tp
      holding [v, ov, iv] (setItem ov iv v)
      release [v, ov, iv] []) := by intro _; rfl)
    (hs : swapsWithSole [.Subscript a b tp] e pos.line X.env = pure false := by rfl) (hw : swappedStores [.Subscript a b tp] e X.env = pure none := by rfl)
    (h1 : (assignEach [.Subscript a b tp] X.env).map (·.2) = [assign (.Subscript a b tp) X.env] := by rfl) : SV X (.Assign [.Subscript a b tp] e pos) ρ M Ψ :=
  (ps_asg he (pg_sub ho hi set_list ha) hs hw h1).mono fun E σ H ⟨G, sa, k⟩ => ⟨G, sa, fun v G1 H1 g1 sh1 r1 => ⟨G1, ⟨sh1, sa.sl.up g1⟩, fun v2 G2 H2 g2 sh2 r2 => ⟨G2, ⟨sh2, (sa.sl.up g1).up g2⟩, fun v3 G3 H3 g3 sh3 r3 => by
    obtain ⟨_, vs, hv, rl⟩ := sh3.mem p _ hm
    refine ⟨p, vs, i, i, r2.of_val, r3.of_val, hv, ?_, k _ hΨ σ G3 _ ((g1.trans g2).trans g3) ⟨sh3.put hm (rl.set ((r1.up g2).up g3) i), ((sa.sl.up g1).up g2).up g3⟩⟩
    have hl := rl.len
    unfold ixN
    rw [if_pos (by omega), if_pos (by omega)]
    simp⟩⟩⟩

/-! ### targets -/
/-- g stores d: the slots are ρ' then -/
def TG1 (K : PySem.W.Frag) (g : TG) (ρ : Sl) (d : D) (ρ' : Sl) : Prop := ∀ v σ G H Q, Same G H → RepS K G σ ρ → Rep K G v d → (∀ σ', RepS K G σ' ρ' → Q σ' H) → g v σ H Q
def TG2 (K : PySem.W.Frag) (g : TGs) (ρ : Sl) (ds : List D) (ρ' : Sl) : Prop := ∀ vs σ G H Q, Same G H → RepS K G σ ρ → RepL K G vs ds → (∀ σ', RepS K G σ' ρ' → Q σ' H) → g vs σ H Q
variable {K : PySem.W.Frag} {ρ' ρ'' : Sl} {g : TG} {gs : TGs}
theorem tg_name {i : Nat} : TG1 K (gName i) ρ d (ρ.set i (some d)) := fun v σ G H Q e h r k => k _ (h.set i r)
theorem tg_nil : TG2 K gNil ρ [] ρ := fun vs σ G H Q e h r k => by
  cases r
  exact ⟨rfl, k σ h⟩
theorem tg_cons (h1 : TG1 K g ρ d ρ') (h2 : TG2 K gs ρ' ds ρ'') : TG2 K (gCons g gs) ρ (d :: ds) ρ'' := fun vs σ G H Q e h r k => by
  cases r with
  | cons r t => exact ⟨_, _, rfl, h1 _ σ G H _ e h r fun σ' h' => h2 _ σ' G H _ e h' t k⟩
theorem tg_tup {n : Nat} (h : TG2 K gs ρ ds ρ') (hl : ds.length = n := by rfl) : TG1 K (gTup K n gs) ρ (.tup ds) ρ' := fun v σ G H Q e h0 r k => by
  cases r with
  | tup q r => exact ⟨_, _, rfl, sqtUp e q, r.len.trans hl, h _ σ G H _ e h0 r k⟩
theorem tg_lst {n : Nat} (h : TG2 K gs ρ ds ρ') (hl : ds.length = n := by rfl) : TG1 K (gUnl K n gs) ρ (.lst ds) ρ' := fun v σ G H Q e h0 r k => by
  cases r with
  | lst q r => exact ⟨_, _, rfl, sqlUp e q, r.len.trans hl, h _ σ G H _ e h0 r k⟩
/-- target = e -/
theorem sv_asg {tg : Expr} (he : EV X e ρ M d M1) (hg : PG X tg g) (ht : TG1 X.K g ρ d ρ') (hΨ : Ψ (.nx ρ' M1)) (hs : swapsWithSole [tg] e pos.line X.env = pure false := by rfl) (hw : swappedStores [tg] e X.env = pure none := by rfl)
    (h1 : (assignEach [tg] X.env).map (·.2) = [assign tg X.env] := by rfl) : SV X (.Assign [tg] e pos) ρ M Ψ :=
  (ps_asg he hg hs hw h1).mono fun E σ H ⟨G, sa, k⟩ => ⟨G, sa, fun v G1 H1 g1 sh1 r1 => ht v σ G1 H1 _ sh1.le (sa.sl.up g1) r1 fun σ' h' => k _ hΨ σ' G1 H1 g1 ⟨sh1, h'⟩⟩

/-! ### what is walked -/
def JW (K : PySem.W.Frag) (J : It) (G : Hp) (ds : List D) : Prop := ∀ (i : Nat) H, Same G H → (∀ d, ds[i]? = some d → J.go i H ∧ ∀ x H', J.yld i H x H' → H' = H ∧ Rep K G x d) ∧ (ds.length ≤ i → J.stop i H)
def tI (K : PySem.W.Frag) (ρ : Sl) (M : Mem) (ds : List D) (M1 : Mem) : TI := fun σ H R => ∃ G, SA K G H σ ρ M ∧ ∀ J G' H', Same G G' → SH K G' H' M1 → JW K J G' ds → R J H'
abbrev IV (X : Cx) (tg iter : Expr) (ρ : Sl) (M : Mem) (ds : List D) (M1 : Mem) : Prop := PI X tg iter (tI X.K ρ M ds M1)
theorem _root_.L2.PI.mono {tg iter : Expr} {t t' : TI} (h : PI X tg iter t) (i : ∀ σ H R, t' σ H R → t σ H R) : PI X tg iter t' := ⟨fun pins s σ H R I q => h.run pins s σ H R I (i σ H R q)⟩
theorem JW.range {lo : Int} {n : Nat} {G : Hp} : JW K (Itr lo n) G ((List.range n).map fun i => dI (lo + (i : Nat))) := fun i H e => ⟨fun d h => by
    rw [List.getElem?_map] at h
    have hi : i < n := by
      rcases Nat.lt_or_ge i n with q | q
      · exact q
      · rw [List.getElem?_eq_none (by simpa using q)] at h; cases h
    rw [List.getElem?_range hi] at h
    cases h
    exact ⟨hi, fun x H' ⟨e1, e2⟩ => ⟨e1, by rw [e2]; exact .val _⟩⟩, fun h => by
    rw [List.length_map, List.length_range] at h
    exact h⟩
theorem JW.list {p : Addr} {vs : List V} {G : Hp} (q : SqL K G p vs) (r : RepL K G vs ds) : JW K (Itl K p) G ds := fun i H e => ⟨fun d h => by
    obtain ⟨v, hv, rv⟩ := r.get h
    exact ⟨⟨vs, v, sqlUp e q, hv⟩, fun x H' ⟨e1, e2⟩ => ⟨e1, by
      have := e2 vs (sqlUp e q)
      rw [hv] at this
      cases this
      exact rv⟩⟩, fun h => ⟨vs, sqlUp e q, by rw [r.len]; exact h⟩⟩
theorem JW.tup {p : Addr} {vs : List V} {G : Hp} (q : SqT K G p vs) (r : RepL K G vs ds) : JW K (Itt K p) G ds := fun i H e => ⟨fun d h => by
    obtain ⟨v, hv, rv⟩ := r.get h
    exact ⟨⟨vs, v, sqtUp e q, hv⟩, fun x H' ⟨e1, e2⟩ => ⟨e1, by
      have := e2 vs (sqtUp e q)
      rw [hv] at this
      cases this
      exact rv⟩⟩, fun h => ⟨vs, sqtUp e q, by rw [r.len]; exact h⟩⟩
theorem iv_list {tg : Expr} (h : EV X e ρ M (.lst ds) M1) : IV X tg e ρ M ds M1 :=
  (pi_list h).mono fun σ H R ⟨G, sa, k⟩ => ⟨G, sa, fun v G1 H1 g1 sh1 r1 => by
    cases r1 with
    | lst q r => exact ⟨_, rfl, ⟨_, sqlUp sh1.le q⟩, k _ G1 H1 g1 sh1 (JW.list q r)⟩⟩
theorem iv_tup {tg : Expr} (h : EV X e ρ M (.tup ds) M1) : IV X tg e ρ M ds M1 :=
  (pi_tup h).mono fun σ H R ⟨G, sa, k⟩ => ⟨G, sa, fun v G1 H1 g1 sh1 r1 => by
    cases r1 with
    | tup q r => exact ⟨_, rfl, ⟨_, sqtUp sh1.le q⟩, k _ G1 H1 g1 sh1 (JW.tup q r)⟩⟩
def rgD (lo : Int) (n : Nat) : List D := (List.range n).map fun i => dI (lo + (i : Nat))
theorem rgD_len {lo : Int} {n : Nat} : (rgD lo n).length = n := by unfold rgD; rw [List.length_map, List.length_range]
theorem rgD_get {lo : Int} {n i : Nat} {d : D} (h : (rgD lo n)[i]? = some d) : i < n ∧ d = dI (lo + (i : Nat)) := by
  have hi : i < n := by
    rcases Nat.lt_or_ge i n with q | q
    · exact q
    · rw [List.getElem?_eq_none (by rw [rgD_len]; exact q)] at h; cases h
  unfold rgD at h
  rw [List.getElem?_map, List.getElem?_range hi] at h
  cases h
  exact ⟨hi, rfl⟩
theorem iv_range1 {tg : Expr} {j : Int} {p : Pos} (hm : X.mg "range" = none) (h : EV X e ρ M (dI j) M1) (hj : -(2 ^ 62) ≤ j ∧ j < 2 ^ 62) (hg : Gl X "range" := by rfl) (hst : starEach [e] X.env = [(false, eval e X.env)] := by rfl) : IV X tg (.Call (.Name "range" p) [e] [] pos) ρ M (rgD 0 j.toNat) M1 :=
  (pi_range1 hg hm (av_cons h av_nil hst) hst).mono fun σ H R ⟨G, sa, k⟩ => ⟨G, sa, fun vs G1 H1 g1 sh1 r1 => by
    rw [RepL.of_vals (xs := [.int j]) r1]
    exact ⟨j, rfl, hj.1, hj.2, k _ G1 H1 g1 sh1 JW.range⟩⟩
theorem iv_range2 {tg : Expr} {i j : Int} {p : Pos} (hm : X.mg "range" = none) (ha : EV X a ρ M (dI i) M1) (hb : EV X b ρ M1 (dI j) M2) (hj : -(2 ^ 62) ≤ i ∧ i < 2 ^ 62 ∧ -(2 ^ 62) ≤ j ∧ j < 2 ^ 62) (hg : Gl X "range" := by rfl)
    (hst : starEach [a, b] X.env = [(false, eval a X.env), (false, eval b X.env)] := by rfl) (hs2 : starEach [b] X.env = [(false, eval b X.env)] := by rfl) : IV X tg (.Call (.Name "range" p) [a, b] [] pos) ρ M (rgD i (j - i).toNat) M2 :=
  (pi_range2 hg hm (av_cons ha (av_cons hb av_nil hs2) (by rw [hst, hs2])) hst hs2).mono fun σ H R ⟨G, sa, k⟩ => ⟨G, sa, fun vs G1 H1 g1 sh1 r1 => by
    rw [RepL.of_vals (xs := [.int i, .int j]) r1]
    exact ⟨i, j, rfl, hj, k _ G1 H1 g1 sh1 JW.range⟩⟩

/-! ### for -/
def loopR (Inv : Nat → Sl → Mem → Prop) (Ψ : Out → Prop) (i : Nat) : Out → Prop
  | .nx ρ M => Inv (i + 1) ρ M
  | .ct ρ M => Inv (i + 1) ρ M
  | .bk ρ M => Ψ (.nx ρ M)
  | .ret d M => Ψ (.ret d M)
theorem sv_for {tg iter : Expr} {body : List Stmt} (hc : X.calm = true) (hi : IV X tg iter ρ M ds M1) (hg : PG X tg g) (Iv : Nat → Sl → Mem → Prop) (start : Iv 0 ρ M1)
    (step : ∀ i d ρ' M', ds[i]? = some d → Iv i ρ' M' → ∃ ρ'', TG1 X.K g ρ' d ρ'' ∧ BV X body ρ'' M' (loopR Iv Ψ i)) (done : ∀ ρ' M', Iv ds.length ρ' M' → Ψ (.nx ρ' M'))
    (hp : PassesOwn (model X.prog X.w) X.A X.env X.xe := by exact PassesOwn.never) (hs : ∀ x, foldedSetIterable iter X.env x = pure x := by intro _; rfl) : SV X (.For tg iter body [] pos) ρ M Ψ := by
  refine (ps_for (tb := fun E σ H => ∃ ρ M Ψ', BV X body ρ M Ψ' ∧ tS X.K ρ M Ψ' E σ H) hp hc hi hg ⟨fun pins s σ H E I ⟨ρ', M', Ψ', hb, q⟩ => hb.run pins s σ H E I q⟩ hs).mono fun E σ H ⟨G, sa, k⟩ => ⟨G, sa, fun J G1 H1 g1 sh1 jw => ?_⟩
  refine ⟨fun i m σ H => m = ds.length - i ∧ i ≤ ds.length ∧ ∃ G ρ M, Same G1 G ∧ SA X.K G H σ ρ M ∧ Iv i ρ M, ⟨ds.length, by simp, Nat.zero_le _, G1, ρ, M1, Same.refl _, ⟨sh1, sa.sl.up g1⟩, start⟩, ?_⟩
  rintro i m σ2 H2 ⟨rfl, hi, G2, ρ2, M2, g2, sa2, iv⟩
  obtain ⟨j1, j2⟩ := jw i H2 (g2.trans sa2.sh.le)
  by_cases hlt : i < ds.length
  · have hd : ds[i]? = some ds[i] := List.getElem?_eq_getElem hlt
    obtain ⟨go, yl⟩ := j1 _ hd
    refine .inr ⟨go, fun σ3 H3 => ∃ G ρ M, Same G1 G ∧ SA X.K G H3 σ3 ρ M ∧ Iv (i + 1) ρ M, fun σ' H' p' => ⟨ds.length - (i + 1), by omega, rfl, hlt, p'⟩, fun x H' y => ?_⟩
    obtain ⟨e, rx⟩ := yl x H' y
    subst e
    obtain ⟨ρ3, tg3, bv⟩ := step i _ ρ2 M2 hd iv
    refine tg3 x σ2 G2 H' _ sa2.sh.le sa2.sl (rx.up g2) fun σ3 rs3 => ⟨ρ3, M2, _, bv, G2, ⟨sa2.sh, rs3⟩, fun o ho => ?_⟩
    cases o with
    | nx ρ4 M4 => exact fun σ4 G4 H4 g4 sa4 => ⟨G4, ρ4, M4, g2.trans g4, sa4, ho⟩
    | ct ρ4 M4 => exact fun σ4 G4 H4 g4 sa4 => ⟨G4, ρ4, M4, g2.trans g4, sa4, ho⟩
    | bk ρ4 M4 => exact fun σ4 G4 H4 g4 sa4 => k _ ho σ4 G4 H4 ((g1.trans g2).trans g4) sa4
    | ret d4 M4 => exact fun v G4 H4 g4 sh4 r4 => k _ ho v G4 H4 ((g1.trans g2).trans g4) sh4 r4
  · have e : i = ds.length := by omega
    subst e
    exact .inl ⟨j2 (Nat.le_refl _), k _ (done ρ2 M2 iv) σ2 G2 H2 (g1.trans g2) sa2⟩

/-! ### a list comprehension (one clause, no test) -/
def wipeD (ρ : Sl) : List Nat → Sl
  | [] => ρ
  | v :: vs => (wipeD ρ vs).set v none
theorem wipe_rep {G : Hp} {σ : L2.St} (h : RepS K G σ ρ) : ∀ vs, RepS K G (wipe σ vs) (wipeD ρ vs)
  | [] => h
  | v :: vs => (wipe_rep h vs).none v
/-- g stores d in slots that are the block's own -/
def TGb (K : PySem.W.Frag) (g : TG) (vs : List Nat) (ρ : Sl) (d : D) (ρ' : Sl) : Prop := ∀ v σ G H Q, Same G H → RepS K G (wipe σ vs) ρ → Rep K G v d → (∀ σ', RepS K G σ' ρ' → wipe σ' vs = wipe σ vs → Q σ' H) → g v (wipe σ vs) H Q
theorem tgb_name {i : Nat} : TGb K (gName i) [i] ρ d (ρ.set i (some d)) := fun v σ G H Q e h r k => k _ (h.set i r) (by
  show ((wipe σ [i]).set i (some v)).set i none = (wipe σ [i])
  show ((σ.set i none).set i (some v)).set i none = σ.set i none
  rw [List.set_set, List.set_set])
/-- the reading of a list comprehension -/
theorem lc_read {elt tg iter : Expr} {scope : Scope} {own : List (Str × Nat)}
    (f : Nat → D) (m : Nat → Mem) (h0 : m 0 = M1) (hm : ∀ i p, M1 p = none → m i p = none) (hlen : ds.length ≤ sizeLine)
    (step : ∀ i d, ds[i]? = some d → ∃ ρ', TGb X.K g (own.map (·.2)) (wipeD ρ (own.map (·.2))) d ρ' ∧ ∀ (p : Addr) (acc : List D), M1 p = none → ∀ (s : Shared) (H : Hp) (C : Addr) (cl : List (Str × Addr)) (fp : List Addr),
      EV (X.blk s H scope (compEnvC scope cl C X.env) fp) elt ρ' ((m i).set p (.lst acc)) (f i) ((m (i + 1)).set p (.lst acc))) (σ : L2.St) (H : Hp) (Q : VK) (h : tE X.K ρ M (.lst ((List.range ds.length).map f)) (m ds.length) σ H Q) :
    tLc (tI X.K ρ M ds M1) g tYes (fun σ H Q => ∃ ρ' M' d' M'', (∀ (s : Shared) (H : Hp) (C : Addr) (cl : List (Str × Addr)) (fp : List Addr), EV (X.blk s H scope (compEnvC scope cl C X.env) fp) elt ρ' M' d' M'') ∧ tE X.K ρ' M' d' M'' σ H Q) (own.map (·.2)) σ H Q := by
  obtain ⟨G, sa, k⟩ := h
  refine ⟨G, sa, fun J G1 H1 g1 sh1 jw => fun p hp => ?_⟩
  obtain ⟨shp, mp, gp⟩ := sh1.newM hp (RepL.nil (K := X.K) (G := G1))
  refine ⟨fun i mm H => mm = ds.length - i ∧ i ≤ ds.length ∧ ∃ G, Same G1 G ∧ SH X.K G H ((m i).set p (.lst ((List.range i).map f))), ⟨ds.length, by simp, Nat.zero_le _, G1, Same.refl _, by rw [h0]; exact shp⟩, ?_⟩
  rintro i mm H2 ⟨rfl, hi, G2, g2, sh2⟩
  obtain ⟨j1, j2⟩ := jw i H2 (g2.trans sh2.le)
  by_cases hlt : i < ds.length
  · have hd : ds[i]? = some ds[i] := List.getElem?_eq_getElem hlt
    obtain ⟨go, yl⟩ := j1 _ hd
    refine .inr ⟨go, fun H3 => ∃ G, Same G1 G ∧ SH X.K G H3 ((m (i + 1)).set p (.lst ((List.range (i + 1)).map f))), fun H' p' => ⟨ds.length - (i + 1), by omega, rfl, hlt, p'⟩, fun x H' y => ?_⟩
    obtain ⟨e, rx⟩ := yl x H' y
    subst e
    obtain ⟨ρ3, tg3, ev⟩ := step i _ hd
    refine tg3 x σ G2 H' _ sh2.le (wipe_rep ((sa.sl.up g1).up g2) _) (rx.up g2) fun σ3 rs3 hw => ⟨hw, ?_⟩
    show ∃ ρ' M' d' M'', _ ∧ tE X.K ρ' M' d' M'' σ3 H' _
    refine ⟨ρ3, _, _, _, ev p _ mp, G2, ⟨sh2, rs3⟩, fun v G4 H4 g4 sh4 r4 => ?_⟩
    obtain ⟨_, vs, hv, rl⟩ := sh4.mem p _ Mem.set_same
    refine ⟨vs, hv, ?_, G4, g2.trans g4, ?_⟩
    · rw [rl.len, List.length_map, List.length_range]
      exact Nat.lt_of_lt_of_le hlt hlen
    · have q := sh4.put (ds := (List.range i).map f ++ [f i]) Mem.set_same (rl.append (.cons r4 .nil))
      rw [Mem.set_set] at q
      rw [List.range_succ, List.map_append]
      exact q
  · have e : i = ds.length := by omega
    subst e
    obtain ⟨vs, sh3, g3, rl⟩ := sh2.freeze (hm _ p mp)
    exact .inl ⟨j2 (Nat.le_refl _), k _ _ H2 ((g1.trans g2).trans g3) sh3 (.lst (.inl (.inl upd_same)) (rl.up g3))⟩
theorem ev_lc {elt tg iter : Expr} {scope : Scope} {own : List (Str × Nat)} (hc : X.calm = true) (hN : X.N.Nodup) (hi : IV X tg iter ρ M ds M1) (ok : BlkOk X.N X.env.scope scope own)
    (hg : ∀ (s : Shared) (H : Hp) (C : Addr) (cl : List (Str × Addr)) (fp : List Addr), PG (X.blk s H scope (compEnvC scope cl C X.env) fp) tg g)
    (f : Nat → D) (m : Nat → Mem) (h0 : m 0 = M1) (hm : ∀ i p, M1 p = none → m i p = none) (hlen : ds.length ≤ sizeLine)
    (step : ∀ i d, ds[i]? = some d → ∃ ρ', TGb X.K g (own.map (·.2)) (wipeD ρ (own.map (·.2))) d ρ' ∧ ∀ (p : Addr) (acc : List D), M1 p = none → ∀ (s : Shared) (H : Hp) (C : Addr) (cl : List (Str × Addr)) (fp : List Addr),
      EV (X.blk s H scope (compEnvC scope cl C X.env) fp) elt ρ' ((m i).set p (.lst acc)) (f i) ((m (i + 1)).set p (.lst acc)))
    (hs : ∀ x, foldedSetIterable iter X.env x = pure x := by intro _; rfl) : EV X (.ListComp elt [⟨tg, iter, [], 0⟩] scope pos) ρ M (.lst ((List.range ds.length).map f)) (m ds.length) :=
  (pe_lc hc hN hi ok hg (fun _ _ _ _ _ => pts_nil) (fun s H C cl fp => ⟨fun pins s' σ H' Q I ⟨ρ', M', d', M'', hb, q⟩ => (hb s H C cl fp).run pins s' σ H' Q I q⟩) hs).mono (lc_read (tg := tg) (iter := iter) f m h0 hm hlen step)
/-- y = [e for x in ..] -/
theorem sv_setLc (i : Nat) {y : Str} {py : Pos} {elt tg iter : Expr} {scope : Scope} {own : List (Str × Nat)} {spos : Pos} (hc : X.calm = true) (hN : X.N.Nodup) (hy : X.N[i]? = some y) (hl : X.env.scope.names.lookup y = some .local)
    (hw : swapsWith (.ListComp elt [⟨tg, iter, [], 0⟩] scope pos) (some (.Name y py)) spos.line X.env = pure true) (hi : IV X tg iter ρ M ds M1) (ok : BlkOk X.N X.env.scope scope own)
    (hg : ∀ (s : Shared) (H : Hp) (C : Addr) (cl : List (Str × Addr)) (fp : List Addr), PG (X.blk s H scope (compEnvC scope cl C X.env) fp) tg g)
    (f : Nat → D) (m : Nat → Mem) (h0 : m 0 = M1) (hm : ∀ i p, M1 p = none → m i p = none) (hlen : ds.length ≤ sizeLine)
    (step : ∀ i d, ds[i]? = some d → ∃ ρ', TGb X.K g (own.map (·.2)) (wipeD ρ (own.map (·.2))) d ρ' ∧ ∀ (p : Addr) (acc : List D), M1 p = none → ∀ (s : Shared) (H : Hp) (C : Addr) (cl : List (Str × Addr)) (fp : List Addr),
      EV (X.blk s H scope (compEnvC scope cl C X.env) fp) elt ρ' ((m i).set p (.lst acc)) (f i) ((m (i + 1)).set p (.lst acc)))
    (hΨ : Ψ (.nx (ρ.set i (some (.lst ((List.range ds.length).map f)))) (m ds.length))) (hs : ∀ x, foldedSetIterable iter X.env x = pure x := by intro _; rfl) : SV X (.Assign [.Name y py] (.ListComp elt [⟨tg, iter, [], 0⟩] scope pos) spos) ρ M Ψ :=
  (ps_setLc hc hN hy hl hw hi ok hg (fun _ _ _ _ _ => pts_nil) (fun s H C cl fp => ⟨fun pins s' σ H' Q I ⟨ρ', M', d', M'', hb, q⟩ => (hb s H C cl fp).run pins s' σ H' Q I q⟩) hs).mono fun E σ H ⟨G, sa, k⟩ =>
    lc_read (tg := tg) (iter := iter) f m h0 hm hlen step σ H _ ⟨G, sa, fun v G1 H1 g1 sh1 r1 => k _ hΨ _ G1 H1 g1 ⟨sh1, (sa.sl.up g1).set i r1⟩⟩
end
end Vt
namespace Vt
open PySem PySem.Spec PyProof.Rows L2
/-! ### new lists that may be changed -/
def tN (K : PySem.W.Frag) (ρ : Sl) (M : Mem) (ds : List D) (M' : Mem) : TE := fun σ H Q => ∃ G, SA K G H σ ρ M ∧ ∀ p G' H', Same G G' → M' p = none → SH K G' H' (M'.set p (.lst ds)) → Q (.ref p) H'
abbrev EN (X : Cx) (e : Expr) (ρ : Sl) (M : Mem) (ds : List D) (M' : Mem) : Prop := PE X e (tN X.K ρ M ds M')
def spN (K : PySem.W.Frag) (Pr : List D → Mem → List D → Mem → Prop) : Sp := fun vs H Q _ => ∃ G ds M es M', SH K G H M ∧ RepL K G vs ds ∧ Pr ds M es M' ∧ ∀ p G' H', Same G G' → M' p = none → SH K G' H' (M'.set p (.lst es)) → Q (.ref p) H'
theorem Mem.set_comm {M : Mem} {a b : Addr} {o u : MO} (h : a ≠ b) : (M.set a o).set b u = (M.set b u).set a o := by
  funext c
  unfold Mem.set
  by_cases h1 : c = a
  · by_cases h2 : c = b
    · exact absurd (h1.symm.trans h2) h
    · rw [if_neg h2, if_pos h1, if_pos h1]
  · by_cases h2 : c = b
    · rw [if_pos h2, if_neg h1, if_pos h2]
    · rw [if_neg h2, if_neg h1, if_neg h1, if_neg h2]
theorem mle_new {M M' : Mem} {p : Addr} {o : MO} (h : Mle M M') (hp : M p = none) : Mle M (M'.set p o) := fun b u e => by
  rw [Mem.set_ne (fun q => by rw [q, hp] at e; cases e)]
  exact h b u e
/-- what a def that makes a list promises, by its body -/
def FinN (es : List D) (M' : Mem) : Out → Prop
  | .ret d M'' => ∃ p, d = dP p ∧ M' p = none ∧ Mle (M'.set p (.lst es)) M''
  | _ => False
section
variable {X : Cx} {ρ : Sl} {M M1 M2 M3 : Mem} {a b c e : Expr} {es : List Expr} {d d1 d2 : D} {ds : List D} {pos : Pos} {Ψ : Out → Prop}
theorem en_lst (h : AV X es ρ M ds M1) (hl : ds.length ≤ sizeLine := by first | (simp only [List.length_cons, List.length_nil]; decide) | decide) : EN X (.List es pos) ρ M ds M1 :=
  (pe_lst h).mono fun σ H Q ⟨G, sa, k⟩ => ⟨G, sa, fun vs G1 H1 g1 sh1 r1 => ⟨by rw [r1.len]; exact hl, fun p hp => by
    obtain ⟨sh2, mp, gp⟩ := sh1.newM hp r1
    exact k p _ _ g1 mp sh2⟩⟩
theorem en_listRg {n : Int} {p p2 pos2 : Pos} (hc : X.calm = true) (hm : X.mg "list" = none) (hm2 : X.mg "range" = none) (h : EV X e ρ M (dI n) M1) (hn : 0 ≤ n ∧ n ≤ 16777216) (hg : Gl X "list" := by rfl) (hg2 : Gl X "range" := by rfl)
    (n1 : starEach [e] X.env = (false, eval e X.env) :: starEach [] X.env := by rfl)
    (n2 : starEach [.Call (.Name "range" p2) [e] [] pos2] X.env = (false, eval (.Call (.Name "range" p2) [e] [] pos2) X.env) :: starEach [] X.env := by rfl) : EN X (.Call (.Name "list" p) [.Call (.Name "range" p2) [e] [] pos2] [] pos) ρ M (rgD 0 n.toNat) M1 :=
  (pe_listRg hc hg hm (prg_1 hg2 hm2 h n1) n2).mono fun σ H Q ⟨G, sa, k⟩ => ⟨G, sa, fun v G1 H1 g1 sh1 r1 => ⟨n, r1.of_val, RgOk.of_le (by omega) hn.2 (by omega) hn.1, fun p hp => by
    have r : RepL X.K G1 (rgV 0 n) (rgD 0 n.toNat) := by
      have q := RepL.vals (K := X.K) (G := G1) (rgV 0 n)
      have e : (rgV 0 n).map D.val = rgD 0 n.toNat := by
        unfold rgV rgD
        rw [List.map_map, Int.sub_zero]
        rfl
      rw [e] at q
      exact q
    obtain ⟨sh2, mp, gp⟩ := sh1.newM hp r
    exact k p _ _ g1 mp sh2⟩⟩
theorem sv_setN (i : Nat) {x : Str} {pos' : Pos} (hN : X.N.Nodup) (he : EN X e ρ M ds M1) (hΨ : ∀ p, M1 p = none → Ψ (.nx (ρ.set i (some (dP p))) (M1.set p (.lst ds)))) (hi : X.N[i]? = some x := by rfl) (hx : L2.Loc X.env.scope x := by first | exact Or.inl rfl | exact Or.inr rfl)
    (hs : swapsWith e (some (.Name x pos')) pos.line X.env = pure false := by rfl) (hf : X.fn x = true ∨ X.env.scope.names.lookup x = some .local := by first | exact .inl rfl | exact .inr rfl) : SV X (.Assign [.Name x pos'] e pos) ρ M Ψ :=
  (ps_set hN hi hx he hs hf).mono fun E σ H ⟨G, sa, k⟩ => ⟨G, sa, fun p G1 H1 g1 mp sh1 => k _ (hΨ p mp) _ G1 H1 g1 ⟨sh1, (sa.sl.up g1).set i (.val _)⟩⟩
theorem sv_retNew (he : EN X e ρ M ds M1) (hΨ : ∀ p, M1 p = none → Ψ (.ret (dP p) (M1.set p (.lst ds)))) : SV X (.Return (some e) pos) ρ M Ψ :=
  (ps_ret he).mono fun E σ H ⟨G, sa, k⟩ => ⟨G, sa, fun p G1 H1 g1 mp sh1 => k _ (hΨ p mp) _ G1 H1 g1 sh1 (.val _)⟩
theorem en_call {k : Nat} {x : Str} {Pr : List D → Mem → List D → Mem → Prop} {es' : List D} {p : Pos} (C : Cal X.prog X.w X.K X.mg X.base k x (spN X.K Pr)) (hr : Room k X.A) (ha : AV X (e :: es) ρ M ds M1) (hp : Pr ds M1 es' M2) (hg : Gl X x := by rfl)
    (hd : (x == ("__debug__" : Str)) = false := by decide) (hst : starEach (e :: es) X.env = (false, eval e X.env) :: starEach es X.env := by rfl) (hpl : (backTo pos (starEach es X.env)).any (·.1) = false := by rfl) : EN X (.Call (.Name x p) (e :: es) [] pos) ρ M es' M2 := by
  obtain ⟨f, fd, ps, hm, hk, hb, F⟩ := C.ex
  refine (pe_call F hr hg hm hk hb .nil pass0 ha (hdb := hd) (he := hst) (hpl := hpl)).mono fun σ H Q ⟨G, sa, k⟩ => ⟨G, sa, fun vs G1 H1 g1 sh1 r1 => ?_⟩
  show spN X.K Pr (vs ++ []) H1 Q E0
  rw [List.append_nil]
  exact ⟨G1, ds, M1, es', M2, sh1, r1, hp, fun q G' H' g mq sh => k q G' H' (g1.trans g) mq sh⟩
theorem calN_of {P : Program} {w : World} {K : PySem.W.Frag} {mg : Str → Option Value} {base : Heap} {x qual : Str} {sd : Stmt} {f : Addr} {fd : FuncData} {N ps : List Str} {k : Nat} {Pr : List D → Mem → List D → Mem → Prop} (F : Fun K x qual sd f fd) (S : FnScope N ps (defScope sd)) (hm : mg x = some (.ref f))
    (hbind : ∀ (kV doc pm : Value) (an : Option Addr) (cdv ct : Value) (us : List Value), us.length = ps.length → bindArgs (PySem.W.fnOf x qual (defArgs sd) (defBody sd) (defScope sd) .none kV doc pm an cdv ct) ⟨us, []⟩ = pure (ps.zip us))
    (len : ∀ ds M es M', Pr ds M es M' → ds.length = ps.length)
    (hb : ∀ (cdv : Value) (A : Around) (outer : List Env) (s : Shared) (H : Hp) (E : XK) (ds : List D) (M : Mem) (es : List D) (M' : Mem), Room k (A.deeper (envOfC qual (defScope sd) s.heap.objs.size f cdv)) → Pr ds M es M' →
      BV (cxOf CX0 P w K mg base N qual (defScope sd) f cdv A outer s H E).nox (defBody sd) (startD N ds) M (FinN es M')) : Cal P w K mg base (k + 1) x (spN K Pr) := by
  refine ⟨f, fd, ps, hm, F.kp, F.binds hbind, F.ok S (fun vs H Q E ⟨G, ds, M, es, M', sh, r, p, q⟩ => by rw [r.len]; exact len _ _ _ _ p) fun cdv A outer s H vs Q E hr ⟨G, ds, M, es, M', sh, r, p, q⟩ => ?_⟩
  refine ⟨_, hb cdv A outer s H E ds M es M' hr p, G, ⟨sh, start_rep r⟩, fun o ho => ?_⟩
  cases o with
  | ret d' M'' =>
    obtain ⟨p, rfl, mp, hm⟩ := ho
    exact fun v G' H' g sh' r' => by
      rw [r'.of_val]
      exact q p G' H' g mp (sh'.weak hm)
  | nx ρ M'' => exact ho.elim
  | bk _ _ => exact ho.elim
  | ct _ _ => exact ho.elim
/-- [F(x) for x in ..] that changes nothing -/
theorem range_getD {α β : Type} (x0 : α) (g : α → β) : ∀ (xs : List α), (List.range xs.length).map (fun i => g (xs.getD i x0)) = xs.map g := fun xs => by
  apply List.ext_getElem?
  intro i
  rw [List.getElem?_map, List.getElem?_map]
  rcases Nat.lt_or_ge i xs.length with h | h
  · rw [List.getElem?_range h, List.getElem?_eq_getElem h]
    show some (g (xs.getD i x0)) = some (g xs[i])
    rw [List.getD_eq_getElem?_getD, List.getElem?_eq_getElem h]
    rfl
  · rw [List.getElem?_eq_none (by simpa using h), List.getElem?_eq_none h]
    rfl
theorem getD_of {α : Type} {xs : List α} {i : Nat} {x x0 : α} (h : xs[i]? = some x) : xs.getD i x0 = x := by
  rw [List.getD_eq_getElem?_getD, h]
  rfl
theorem ev_lcM {elt tg iter : Expr} {scope : Scope} {own : List (Str × Nat)} {g : TG} (hc : X.calm = true) (hN : X.N.Nodup) (hi : IV X tg iter ρ M ds M1) (ok : BlkOk X.N X.env.scope scope own)
    (hg : ∀ (s : Shared) (H : Hp) (C : Addr) (cl : List (Str × Addr)) (fp : List Addr), PG (X.blk s H scope (compEnvC scope cl C X.env) fp) tg g) (F : D → D) (hlen : ds.length ≤ sizeLine)
    (step : ∀ (i : Nat) d, ds[i]? = some d → ∃ ρ', TGb X.K g (own.map (·.2)) (wipeD ρ (own.map (·.2))) d ρ' ∧ ∀ (M2 : Mem), ∀ (s : Shared) (H : Hp) (C : Addr) (cl : List (Str × Addr)) (fp : List Addr), EV (X.blk s H scope (compEnvC scope cl C X.env) fp) elt ρ' M2 (F d) M2)
    (hs : ∀ x, foldedSetIterable iter X.env x = pure x := by intro _; rfl) : EV X (.ListComp elt [⟨tg, iter, [], 0⟩] scope pos) ρ M (.lst (ds.map F)) M1 := by
  have q := ev_lc (f := fun i => F (ds.getD i dN)) (m := fun _ => M1) (pos := pos) hc hN hi ok hg rfl (fun _ _ h => h) hlen (fun i d h => by
    obtain ⟨ρ', h1, h2⟩ := step i d h
    refine ⟨ρ', h1, fun p acc _ s H C cl fp => ?_⟩
    show EV _ elt ρ' _ (F (ds.getD i dN)) _
    rw [getD_of h]
    exact h2 _ s H C cl fp) hs
  rw [range_getD dN F ds] at q
  exact q
end
end Vt
namespace Vt
open PySem PySem.Spec PyProof.Rows L2
/-! ### == and != of equal trees -/
mutual
def D.py : D → PyData
  | .val .non => .none
  | .val (.bl b) => .bool b
  | .val (.int i) => .int i
  | .val (.str x) => .str x
  | .val _ => .none
  | .tup ds => .tuple (D.pyL ds)
  | .lst ds => .list (D.pyL ds)
def D.pyL : List D → List PyData
  | [] => []
  | d :: ds => D.py d :: D.pyL ds
end

mutual
def D.plain : D → Bool
  | .val .non => true
  | .val (.bl _) => true
  | .val (.int _) => true
  | .val (.str _) => true
  | .val _ => false
  | .tup ds => D.plainL ds
  | .lst ds => D.plainL ds
def D.plainL : List D → Bool
  | [] => true
  | d :: ds => D.plain d && D.plainL ds
end
section
variable {K : PySem.W.Frag} {G H : Hp}
mutual
theorem dp_of (e : Same G H) : ∀ (v : V) (d : D), D.plain d = true → Rep K G v d → Dp K H v (D.py d)
  | v, .val u, hp, r => by
    have q := r.of_val
    subst q
    cases v with
    | non => exact .non
    | bl b => exact .bl b
    | int i => exact .int i
    | str x => exact .str x
    | _ => cases hp
  | _, .tup ds, hp, .tup q r => .tup (sqtUp e q) (dpL_of e _ ds hp r)
  | _, .lst ds, hp, .lst q r => .lst (sqlUp e q) (dpL_of e _ ds hp r)
theorem dpL_of (e : Same G H) : ∀ (vs : List V) (ds : List D), D.plainL ds = true → RepL K G vs ds → DpAll K H vs (D.pyL ds)
  | _, [], _, .nil => .nil
  | _, d :: ds, hp, .cons h t => by
    have q := (Bool.and_eq_true_iff.mp hp)
    exact .cons (dp_of e _ d q.1 h) (dpL_of e _ ds q.2 t)
end
end
section
variable {X : Cx} {ρ : Sl} {M M1 M2 M3 : Mem} {a b c e : Expr} {es : List Expr} {d d1 d2 : D} {ds : List D} {pos : Pos} {Ψ : Out → Prop}
theorem shaped_eqv {p : PyData} (h : SeqAt.shaped p = true) : PyData.eqv p p = true := SeqAt.eqv_refl p (SeqAt.canLay_of_shaped h)
theorem ev_eqD (hu : X.A.units + 64 < cLine) (ha : EV X a ρ M d1 M1) (hb : EV X b ρ M1 d2 M2) (p1 : D.plain d1 = true) (p2 : D.plain d2 = true) (s1 : SeqAt.shaped d1.py = true) (s2 : SeqAt.shaped d2.py = true) (hm : behindInMarks .Eq b = false) :
    EV X (.Compare a [.Eq] [b] pos) ρ M (dB (PyData.eqv d1.py d2.py)) M2 :=
  (pe_cmpR (op_eqD hu) ha hb hm).mono fun σ H Q ⟨G, sa, k⟩ => ⟨G, sa, fun v1 G1 H1 g1 sh1 r1 => ⟨G1, ⟨sh1, sa.sl.up g1⟩, fun v2 G2 H2 g2 sh2 r2 =>
    ⟨_, _, dp_of sh2.le _ _ p1 (r1.up g2), dp_of sh2.le _ _ p2 r2, s1, s2, k _ G2 H2 (g1.trans g2) sh2 (.val _)⟩⟩⟩
theorem tv_eqD (hu : X.A.units + 64 < cLine) (ha : EV X a ρ M d1 M1) (hb : EV X b ρ M1 d2 M2) (p1 : D.plain d1 = true) (p2 : D.plain d2 = true) (s1 : SeqAt.shaped d1.py = true) (s2 : SeqAt.shaped d2.py = true) (hm : behindInMarks .Eq b = false) :
    TV X (.Compare a [.Eq] [b] pos) ρ M (PyData.eqv d1.py d2.py) M2 :=
  (pt_cmpR (op_eqD hu) ha hb hm).mono fun σ H Q ⟨G, sa, k⟩ => ⟨G, sa, fun v1 G1 H1 g1 sh1 r1 => ⟨G1, ⟨sh1, sa.sl.up g1⟩, fun v2 G2 H2 g2 sh2 r2 =>
    ⟨_, _, dp_of sh2.le _ _ p1 (r1.up g2), dp_of sh2.le _ _ p2 r2, s1, s2, _, rfl, k G2 H2 (g1.trans g2) sh2⟩⟩⟩
theorem ev_neD (hu : X.A.units + 64 < cLine) (ha : EV X a ρ M d1 M1) (hb : EV X b ρ M1 d2 M2) (p1 : D.plain d1 = true) (p2 : D.plain d2 = true) (s1 : SeqAt.shaped d1.py = true) (s2 : SeqAt.shaped d2.py = true) (hm : behindInMarks .NotEq b = false) :
    EV X (.Compare a [.NotEq] [b] pos) ρ M (dB (!PyData.eqv d1.py d2.py)) M2 :=
  (pe_cmpR (op_neD hu) ha hb hm).mono fun σ H Q ⟨G, sa, k⟩ => ⟨G, sa, fun v1 G1 H1 g1 sh1 r1 => ⟨G1, ⟨sh1, sa.sl.up g1⟩, fun v2 G2 H2 g2 sh2 r2 =>
    ⟨_, _, dp_of sh2.le _ _ p1 (r1.up g2), dp_of sh2.le _ _ p2 r2, s1, s2, k _ G2 H2 (g1.trans g2) sh2 (.val _)⟩⟩⟩
theorem tv_neD (hu : X.A.units + 64 < cLine) (ha : EV X a ρ M d1 M1) (hb : EV X b ρ M1 d2 M2) (p1 : D.plain d1 = true) (p2 : D.plain d2 = true) (s1 : SeqAt.shaped d1.py = true) (s2 : SeqAt.shaped d2.py = true) (hm : behindInMarks .NotEq b = false) :
    TV X (.Compare a [.NotEq] [b] pos) ρ M (!PyData.eqv d1.py d2.py) M2 :=
  (pt_cmpR (op_neD hu) ha hb hm).mono fun σ H Q ⟨G, sa, k⟩ => ⟨G, sa, fun v1 G1 H1 g1 sh1 r1 => ⟨G1, ⟨sh1, sa.sl.up g1⟩, fun v2 G2 H2 g2 sh2 r2 =>
    ⟨_, _, dp_of sh2.le _ _ p1 (r1.up g2), dp_of sh2.le _ _ p2 r2, s1, s2, _, rfl, k G2 H2 (g1.trans g2) sh2⟩⟩⟩
/-- of one tree: != is false -/
theorem tv_neSame (hu : X.A.units + 64 < cLine) (ha : EV X a ρ M d M1) (hb : EV X b ρ M1 d M2) (p1 : D.plain d = true) (s1 : SeqAt.shaped d.py = true) (hm : behindInMarks .NotEq b = false) : TV X (.Compare a [.NotEq] [b] pos) ρ M false M2 := by
  have q := tv_neD (pos := pos) hu ha hb p1 p1 s1 s1 hm
  rw [shaped_eqv s1] at q
  exact q
theorem tv_eqSame (hu : X.A.units + 64 < cLine) (ha : EV X a ρ M d M1) (hb : EV X b ρ M1 d M2) (p1 : D.plain d = true) (s1 : SeqAt.shaped d.py = true) (hm : behindInMarks .Eq b = false) : TV X (.Compare a [.Eq] [b] pos) ρ M true M2 := by
  have q := tv_eqD (pos := pos) hu ha hb p1 p1 s1 s1 hm
  rw [shaped_eqv s1] at q
  exact q

/-! ### values that are known by what they meet alone -/
def tW (K : PySem.W.Frag) (ρ : Sl) (M : Mem) (Φ : D → Mem → Prop) : TE := fun σ H Q => ∃ G, SA K G H σ ρ M ∧ ∀ v G' H' d M', Φ d M' → Same G G' → SH K G' H' M' → Rep K G' v d → Q v H'
abbrev EW (X : Cx) (e : Expr) (ρ : Sl) (M : Mem) (Φ : D → Mem → Prop) : Prop := PE X e (tW X.K ρ M Φ)
def spW (K : PySem.W.Frag) (R : List D → Mem → (D → Mem → Prop) → Prop) : Sp := fun vs H Q _ => ∃ G ds M Φ, SH K G H M ∧ RepL K G vs ds ∧ R ds M Φ ∧ ∀ v G' H' d M', Φ d M' → Same G G' → SH K G' H' M' → Rep K G' v d → Q v H'
variable {Φ Φ' : D → Mem → Prop}
theorem ew_ev (h : EV X e ρ M d M1) (q : Φ d M1) : EW X e ρ M Φ := h.mono fun σ H Q ⟨G, sa, k⟩ => ⟨G, sa, fun v G1 H1 g1 sh1 r1 => k v G1 H1 d M1 q g1 sh1 r1⟩
theorem ew_to (h : EW X e ρ M Φ) (q : ∀ d M, Φ d M → Φ' d M) : EW X e ρ M Φ' := h.mono fun σ H Q ⟨G, sa, k⟩ => ⟨G, sa, fun v G1 H1 d M1 p => k v G1 H1 d M1 (q _ _ p)⟩
theorem ew_call {k : Nat} {x : Str} {R : List D → Mem → (D → Mem → Prop) → Prop} {p : Pos} (C : Cal X.prog X.w X.K X.mg X.base k x (spW X.K R)) (hr : Room k X.A) (ha : AV X (e :: es) ρ M ds M1) (hp : R ds M1 Φ) (hg : Gl X x := by rfl)
    (hd : (x == ("__debug__" : Str)) = false := by decide) (hst : starEach (e :: es) X.env = (false, eval e X.env) :: starEach es X.env := by rfl) (hpl : (backTo pos (starEach es X.env)).any (·.1) = false := by rfl) : EW X (.Call (.Name x p) (e :: es) [] pos) ρ M Φ := by
  obtain ⟨f, fd, ps, hm, hk, hb, F⟩ := C.ex
  refine (pe_call F hr hg hm hk hb .nil pass0 ha (hdb := hd) (he := hst) (hpl := hpl)).mono fun σ H Q ⟨G, sa, k⟩ => ⟨G, sa, fun vs G1 H1 g1 sh1 r1 => ?_⟩
  show spW X.K R (vs ++ []) H1 Q E0
  rw [List.append_nil]
  exact ⟨G1, ds, M1, Φ, sh1, r1, hp, fun v G' H' d M' q g sh r => k v G' H' d M' q (g1.trans g) sh r⟩
/-- x = e -/
theorem sv_setW (i : Nat) {x : Str} {pos' : Pos} (hN : X.N.Nodup) (he : EW X e ρ M Φ) (hΨ : ∀ d M1, Φ d M1 → Ψ (.nx (ρ.set i (some d)) M1)) (hi : X.N[i]? = some x := by rfl) (hx : L2.Loc X.env.scope x := by first | exact Or.inl rfl | exact Or.inr rfl) (hs : swapsWith e (some (.Name x pos')) pos.line X.env = pure false := by rfl)
    (hf : X.fn x = true ∨ X.env.scope.names.lookup x = some .local := by first | exact .inl rfl | exact .inr rfl) : SV X (.Assign [.Name x pos'] e pos) ρ M Ψ :=
  (ps_set hN hi hx he hs hf).mono fun E σ H ⟨G, sa, k⟩ => ⟨G, sa, fun v G1 H1 d M1 p g1 sh1 r1 => k _ (hΨ d M1 p) _ G1 H1 g1 ⟨sh1, (sa.sl.up g1).set i r1⟩⟩
theorem sv_retW (he : EW X e ρ M Φ) (hΨ : ∀ d M1, Φ d M1 → Ψ (.ret d M1)) : SV X (.Return (some e) pos) ρ M Ψ :=
  (ps_ret he).mono fun E σ H ⟨G, sa, k⟩ => ⟨G, sa, fun v G1 H1 d M1 p g1 sh1 r1 => k _ (hΨ d M1 p) v G1 H1 g1 sh1 r1⟩
/-- target = e -/
theorem sv_asgW {tg : Expr} {g : TG} (he : EW X e ρ M Φ) (hg : PG X tg g) (ht : ∀ d M1, Φ d M1 → ∃ ρ', TG1 X.K g ρ d ρ' ∧ Ψ (.nx ρ' M1)) (hs : swapsWithSole [tg] e pos.line X.env = pure false := by rfl) (hw : swappedStores [tg] e X.env = pure none := by rfl)
    (h1 : (assignEach [tg] X.env).map (·.2) = [assign tg X.env] := by rfl) : SV X (.Assign [tg] e pos) ρ M Ψ :=
  (ps_asg he hg hs hw h1).mono fun E σ H ⟨G, sa, k⟩ => ⟨G, sa, fun v G1 H1 d M1 p g1 sh1 r1 => by
    obtain ⟨ρ', t, q⟩ := ht d M1 p
    exact t v σ G1 H1 _ sh1.le (sa.sl.up g1) r1 fun σ' h' => k _ q σ' G1 H1 g1 ⟨sh1, h'⟩⟩
/-- a and b, a true -/
theorem ew_and {rest : List Expr} {Φ1 : Mem → Prop} (ha : EW X a ρ M (fun d M1 => d = dB true ∧ Φ1 M1)) (hb : ∀ M1, Φ1 M1 → EW X (.BoolOp .And (b :: rest) pos) ρ M1 Φ) : EW X (.BoolOp .And (a :: b :: rest) pos) ρ M Φ :=
  (pe_and (tb := fun σ H Q => ∃ M1, EW X (.BoolOp .And (b :: rest) pos) ρ M1 Φ ∧ tW X.K ρ M1 Φ σ H Q) ha ⟨fun pins s σ H Q I ⟨M1, hb, q⟩ => hb.run pins s σ H Q I q⟩).mono fun σ H Q ⟨G, sa, k⟩ => ⟨G, sa, fun v1 G1 H1 d M1 ⟨e, p⟩ g1 sh1 r1 => by
    subst e
    refine ⟨true, r1.of_val, ?_⟩
    show ∃ M1, EW X (.BoolOp .And (b :: rest) pos) ρ M1 Φ ∧ tW X.K ρ M1 Φ σ H1 Q
    exact ⟨M1, hb M1 p, G1, ⟨sh1, sa.sl.up g1⟩, fun v G2 H2 d2 M2 p2 g2 sh2 r2 => k v G2 H2 d2 M2 p2 (g1.trans g2) sh2 r2⟩⟩
theorem ew_one {op} (h : EW X e ρ M Φ) : EW X (.BoolOp op [e] pos) ρ M Φ := pe_one h
/-- a test of such a value: if e: as else: bs -/
theorem sv_ifW {as bs : List Stmt} (hc : EW X c ρ M Φ) (h : ∀ d M1, Φ d M1 → ∃ p, d = dB p ∧ (p = true → BV X as ρ M1 Ψ) ∧ (p = false → BV X bs ρ M1 Ψ)) (he : ∀ whole, isTrue c X.env whole = (do let v ← whole; standAt c.pos; holding [v] (truthy v)) := by intro _; rfl) : SV X (.If c as bs pos) ρ M Ψ :=
  (ps_if (t := fun E σ H => ∃ M1, BV X as ρ M1 Ψ ∧ tS X.K ρ M1 Ψ E σ H) (u := fun E σ H => ∃ M1, BV X bs ρ M1 Ψ ∧ tS X.K ρ M1 Ψ E σ H) (pt_val hc he) ⟨fun pins s σ H E I ⟨M1, hb, q⟩ => hb.run pins s σ H E I q⟩ ⟨fun pins s σ H E I ⟨M1, hb, q⟩ => hb.run pins s σ H E I q⟩).mono
    fun E σ H ⟨G, sa, k⟩ => ⟨G, sa, fun v G1 H1 d M1 p g1 sh1 r1 => by
      obtain ⟨b, rfl, h1, h2⟩ := h d M1 p
      refine ⟨b, r1.of_val, ?_⟩
      cases b with
      | true => exact ⟨M1, h1 rfl, G1, ⟨sh1, sa.sl.up g1⟩, fun o ho => (k o ho).up g1⟩
      | false => exact ⟨M1, h2 rfl, G1, ⟨sh1, sa.sl.up g1⟩, fun o ho => (k o ho).up g1⟩⟩
def FinW (Φ : D → Mem → Prop) : Out → Prop
  | .ret d M'' => ∃ M', Φ d M' ∧ Mle M' M''
  | .nx _ M'' => ∃ M', Φ dN M' ∧ Mle M' M''
  | _ => False
theorem calW_of {P : Program} {w : World} {K : PySem.W.Frag} {mg : Str → Option Value} {base : Heap} {x qual : Str} {sd : Stmt} {f : Addr} {fd : FuncData} {N ps : List Str} {k : Nat} {R : List D → Mem → (D → Mem → Prop) → Prop} (F : Fun K x qual sd f fd) (S : FnScope N ps (defScope sd)) (hm : mg x = some (.ref f))
    (hbind : ∀ (kV doc pm : Value) (an : Option Addr) (cdv ct : Value) (us : List Value), us.length = ps.length → bindArgs (PySem.W.fnOf x qual (defArgs sd) (defBody sd) (defScope sd) .none kV doc pm an cdv ct) ⟨us, []⟩ = pure (ps.zip us))
    (len : ∀ ds M Φ, R ds M Φ → ds.length = ps.length)
    (hb : ∀ (cdv : Value) (A : Around) (outer : List Env) (s : Shared) (H : Hp) (E : XK) (ds : List D) (M : Mem) (Φ : D → Mem → Prop), Room k (A.deeper (envOfC qual (defScope sd) s.heap.objs.size f cdv)) → R ds M Φ →
      BV (cxOf CX0 P w K mg base N qual (defScope sd) f cdv A outer s H E).nox (defBody sd) (startD N ds) M (FinW Φ)) : Cal P w K mg base (k + 1) x (spW K R) := by
  refine ⟨f, fd, ps, hm, F.kp, F.binds hbind, F.ok S (fun vs H Q E ⟨G, ds, M, Φ, sh, r, p, q⟩ => by rw [r.len]; exact len _ _ _ p) fun cdv A outer s H vs Q E hr ⟨G, ds, M, Φ, sh, r, p, q⟩ => ?_⟩
  refine ⟨_, hb cdv A outer s H E ds M Φ hr p, G, ⟨sh, start_rep r⟩, fun o ho => ?_⟩
  cases o with
  | ret d' M'' =>
    obtain ⟨M', hp, hm⟩ := ho
    exact fun v G' H' g sh' r' => q v G' H' d' M' hp g (sh'.weak hm) r'
  | nx ρ M'' =>
    obtain ⟨M', hp, hm⟩ := ho
    exact fun σ' G' H' g sa' => q .non G' H' dN M' hp g (sa'.sh.weak hm) (.val _)
  | bk _ _ => exact ho.elim
  | ct _ _ => exact ho.elim
/-- the law's own promise: of a list of at most 63 ints it hands back True -/
def spLaw (K : PySem.W.Frag) : Sp := fun vs H Q _ => ∃ (a : Addr) (ns : List Int), vs = [.ref a] ∧ SqL K H a (ns.map V.int) ∧ ns.length ≤ 63 ∧ ∀ H', Q (.bl true) H'
def FinL : Out → Prop
  | .ret d _ => d = dB true
  | _ => False
theorem law_of {P : Program} {w : World} {K : PySem.W.Frag} {mg : Str → Option Value} {base : Heap} {sd : Stmt} {f : Addr} {fd : FuncData} {N : List Str} {k : Nat} (F : Fun K "law" "law" sd f fd) (S : FnScope N ["script"] (defScope sd))
    (hb : ∀ (cdv : Value) (A : Around) (outer : List Env) (s : Shared) (H : Hp) (E : XK) (ns : List Int), Room k (A.deeper (envOfC "law" (defScope sd) s.heap.objs.size f cdv)) → ns.length ≤ 63 →
      BV (cxOf CX0 P w K mg base N "law" (defScope sd) f cdv A outer s H E).nox (defBody sd) (startD N [.lst (ns.map dI)]) (fun _ => none) FinL) : FnOk P w K mg base CX0 (k + 1) f fd ["script"] (spLaw K) := by
  refine F.ok S (fun vs H Q E ⟨a, ns, e, _⟩ => by rw [e]; rfl) fun cdv A outer s H vs Q E hr ⟨a, ns, e, hs, hl, q⟩ => ?_
  subst e
  have r : RepL K H [V.ref a] [.lst (ns.map dI)] := by
    refine .cons (.lst hs ?_) .nil
    have e := RepL.vals (K := K) (G := H) (ns.map V.int)
    rw [List.map_map] at e
    exact e
  refine ⟨_, hb cdv A outer s H E ns hr hl, H, ⟨⟨Same.refl _, fun b mo e => by cases e⟩, start_rep r⟩, fun o ho => ?_⟩
  cases o with
  | ret d M'' =>
    have e : d = dB true := ho
    subst e
    exact fun v G' H' g sh' r' => by
      rw [r'.of_val]
      exact q H'
  | nx ρ M'' => exact ho.elim
  | bk _ _ => exact ho.elim
  | ct _ _ => exact ho.elim
theorem walk {l : PySem.W.OpenLaw} {q : Program} {loose : List Str} {XP : (Str → Option Value) → Heap → Prop} {YP : World → Heap → Prop} {d : DefRec} {K : Params → PySem.W.Frag} {k : Nat} (hk : Room k callerA) (hn : l.most = some 63) (hdf : d.params.defaults = [])
    (hY : ∀ (w : World) (h : Heap), YP w h → (K w.params).In h)
    (F : ∀ (w : World) (mg : Str → Option Value) (fa : Addr) (h : Heap), (K w.params).In h → h.Ns mainGlobals mg → mg d.name = some (.ref fa) →
      ∃ fd : FuncData, (∀ (s : Shared) (u : Value), BindsTo s fd ⟨[u], []⟩ [("script", u)]) ∧ ∀ base : Heap, (K w.params).In base → base.Ns mainGlobals mg → FnOk l.prog w (K w.params) mg base CX0 k fa fd ["script"] (spLaw (K w.params))) :
    PySem.W.WalkO q loose XP YP l.row.toRowW d [] (fun f vs => PySem.call f vs) :=
  L2.walk_of (n := 63) (k := k) (x := "script") (CX := fun _ => CX0) (sp := fun w => spLaw (K w.params)) hn (by decide) hdf hk hY F (fun _ _ a ns hl _ hS => ⟨a, ns, rfl, hS, hl, fun _ => rfl⟩) fun _ _ _ _ _ z => z
end
end Vt
namespace Vt
open PySem PySem.Spec PyProof.Rows L2
/-! ### sorted of pairs of ints -/
def kOf (h : Heap) : Value → Int × Int
  | .ref t => match h.get? t with
    | some o => match o.data with
      | .seq arr _ => match arr.toList with
        | [.int i _, .int j _] => (i, j)
        | _ => (0, 0)
      | _ => (0, 0)
    | none => (0, 0)
  | _ => (0, 0)
def IsPr (K : PySem.W.Frag) (H : Hp) (x : V) (pr : Int × Int) : Prop := ∃ t, x = V.ref t ∧ SqT K H t [.int pr.1, .int pr.2]
def rSq (K : PySem.W.Frag) : List V → Hp → VK → Prop := fun vs H Q => ∃ (a : Addr) (xs : List V) (prs : List (Int × Int)) (G : Hp), vs = [V.ref a] ∧ SqL K H a xs ∧ Same G H ∧ Paired (IsPr K G) xs prs ∧
  ∀ ys qs p, Paired (IsPr K G) ys qs → qs.Perm prs → qs.Pairwise (fun a b => SrtO.lexB b a = false) → H p = none → Q (.ref p) (upd H p (.lst ys))
section
variable {X : Cx} {pins : List (Addr × Obj)} {s : Shared} {σ : L2.St} {G H : Hp}
theorem pr_val (I : Inv X pins σ H s) (g : Same G H) {x : V} {pr : Int × Int} {u : Value} (h : IsPr X.K G x pr) (r : RelV x u) : kOf s.heap u = pr ∧ Srt.IsPair s.heap u pr.1 pr.2 ∧ ∃ t, u = Value.ref t ∧ x = V.ref t := by
  obtain ⟨t, rfl, q⟩ := h
  obtain rfl : u = Value.ref t := r
  obtain ⟨its, rv, ⟨o, ho, hc, n, hd⟩, _⟩ := I.tuple (sqtUp g q)
  obtain ⟨u1, u2, rfl, ri, rj⟩ := vals2 rv
  obtain ⟨t1, rfl⟩ := ri
  obtain ⟨t2, rfl⟩ := rj
  refine ⟨?_, ⟨t, o, t1, t2, n, rfl, ho, hc, hd⟩, t, rfl, rfl⟩
  unfold kOf
  simp only [ho, hd]
theorem prs_val (I : Inv X pins σ H s) (g : Same G H) : ∀ {xs : List V} {prs : List (Int × Int)} {us : List Value}, Paired (IsPr X.K G) xs prs → Vals xs us →
    us.map (kOf s.heap) = prs ∧ ∀ u ∈ us, Srt.IsPair s.heap u (kOf s.heap u).1 (kOf s.heap u).2 ∧ ∃ t, u = Value.ref t ∧ IsPr X.K G (.ref t) (kOf s.heap u)
  | _, _, _, .nil, .nil => ⟨rfl, fun u hu => absurd hu (by simp)⟩
  | _, _, _, .cons h t, .cons r rr => by
    obtain ⟨e1, e2⟩ := prs_val I g t rr
    obtain ⟨k1, k2, t', k3, k4⟩ := pr_val I g h r
    refine ⟨by rw [List.map_cons, k1, e1], fun u hu => ?_⟩
    rcases List.mem_cons.mp hu with e | hu
    · subst e
      rw [k1]
      refine ⟨k2, t', k3, ?_⟩
      rw [← k4]
      exact h
    · exact e2 u hu
theorem paired_map {α β γ : Type} {F : β → γ → Prop} {f : α → β} {g : α → γ} : ∀ (l : List α), (∀ x ∈ l, F (f x) (g x)) → Paired F (l.map f) (l.map g)
  | [], _ => .nil
  | x :: l, h => .cons (h x List.mem_cons_self) (paired_map l fun y hy => h y (List.mem_cons_of_mem _ hy))
theorem cr_sq : CallR X (.builtin "sorted") (rSq X.K) := by
  intro pins s σ H vs us Q I r h
  obtain ⟨a, xs, prs, G, rfl, hs, g, hp, q⟩ := h
  obtain ⟨its, rv, hl, hz⟩ := I.list hs
  obtain ⟨u, rfl, ru⟩ := vals1 r
  obtain rfl : u = Value.ref a := ru
  obtain ⟨e1, e2⟩ := prs_val I g hp rv
  have hzz : its.length ≤ sizeLine := by
    have := rv.length
    omega
  refine SrtO.sorted_pairsO (k := kOf s.heap) hl.isList hzz (fun v hv => (e2 v hv).1) fun h' d out h1 h2 kp hd hn => ?_
  obtain ⟨n, hn⟩ := hn
  have hmem : ∀ u ∈ out, u ∈ its := fun u hu => h2.perm.mem_iff.mp hu
  have hv : Vals (out.map backV) out := by
    have : ∀ l : List Value, (∀ u ∈ l, u ∈ its) → Vals (l.map backV) l := fun l => by
      induction l with
      | nil => exact fun _ => .nil
      | cons u l ih =>
        intro hl
        obtain ⟨t, e, _⟩ := (e2 u (hl u List.mem_cons_self)).2
        refine .cons ?_ (ih fun v hv => hl v (List.mem_cons_of_mem _ hv))
        subst e
        rfl
    exact this out hmem
  refine ⟨.ref d, upd H d (.lst (out.map backV)), I.laid (t' := s.toks) kp hd (show ObjOk X.prog X.w _ _ _ (.lst (out.map backV)) from ⟨?_, out, n, hv, hn⟩), rfl, q _ (out.map (kOf s.heap)) d (paired_map out fun u hu => ?_) ?_ ?_ (I.hok.fresh hd)⟩
  · rw [List.length_map, h2.perm.length_eq]
    exact hzz
  · obtain ⟨t, e, h3⟩ := (e2 u (hmem u hu)).2
    subst e
    exact h3
  · rw [← e1]
    exact h2.perm.map _
  · exact List.pairwise_map.mpr h1
end
abbrev pD (pr : Int × Int) : D := .tup [dI pr.1, dI pr.2]
theorem pr_rep {K : PySem.W.Frag} {G : Hp} : ∀ {vs : List V} {prs : List (Int × Int)}, RepL K G vs (prs.map pD) → Paired (IsPr K G) vs prs
  | [], [], .nil => .nil
  | _ :: _, pr :: prs, .cons h t => by
    refine .cons ?_ (pr_rep t)
    cases h with
    | tup q r =>
      refine ⟨_, rfl, ?_⟩
      have e2 := RepL.of_vals (xs := [.int pr.1, .int pr.2]) r
      rw [e2] at q
      exact q
theorem rep_pr {K : PySem.W.Frag} {G : Hp} : ∀ {vs : List V} {prs : List (Int × Int)}, Paired (IsPr K G) vs prs → RepL K G vs (prs.map pD)
  | _, _, .nil => .nil
  | _, _, .cons h t => by
    obtain ⟨a, rfl, q⟩ := h
    exact .cons (.tup q (RepL.vals (K := K) (G := G) [.int _, .int _])) (rep_pr t)
/-- what is sorted and has the same items is the same -/
theorem lex_uniq : ∀ {l m : List (Int × Int)}, l.Pairwise (fun a b => SrtO.lexB b a = false) → m.Pairwise (fun a b => SrtO.lexB b a = false) → l.Perm m → l = m
  | [], m, _, _, h => (List.Perm.eq_nil h.symm).symm
  | x :: l, [], _, _, h => absurd h.length_eq (by simp)
  | x :: l, y :: m, hl, hm, h => by
    have hx : x ∈ y :: m := h.mem_iff.mp List.mem_cons_self
    have hy : y ∈ x :: l := h.mem_iff.mpr List.mem_cons_self
    have e : x = y := by
      rcases List.mem_cons.mp hx with e | hx
      · exact e
      · rcases List.mem_cons.mp hy with e | hy
        · exact e.symm
        · have h1 := (List.pairwise_cons.mp hm).1 x hx
          have h2 := (List.pairwise_cons.mp hl).1 y hy
          have q1 := SrtO.lexB_no.mp h1
          have q2 := SrtO.lexB_no.mp h2
          apply Prod.ext <;> omega
    subst e
    rw [lex_uniq (List.pairwise_cons.mp hl).2 (List.pairwise_cons.mp hm).2 h.cons_inv]
section
variable {X : Cx} {ρ : Sl} {M M1 M2 M3 : Mem} {a b c e : Expr} {es : List Expr} {d d1 d2 : D} {ds : List D} {pos : Pos} {Ψ : Out → Prop}
theorem ev_sortedM {q : Addr} {prs qs : List (Int × Int)} {p : Pos} (hm : X.mg "sorted" = none) (ha : EV X e ρ M (dP q) M1) (h : M1 q = some (.lst (prs.map pD))) (hq : qs.Pairwise (fun a b => SrtO.lexB b a = false)) (hp : qs.Perm prs) (hg : Gl X "sorted" := by rfl)
    (hst : starEach [e] X.env = [(false, eval e X.env)] := by rfl) : EV X (.Call (.Name "sorted" p) [e] [] pos) ρ M (.lst (qs.map pD)) M1 :=
  (pe_callB cr_sq hg hm boot_sorted (av_cons ha av_nil hst) (he := hst)).mono fun σ H Q ⟨G, sa, k⟩ => ⟨G, sa, fun vs' G1 H1 g1 sh1 r1 => by
    obtain ⟨gq, vs, hv, r⟩ := sh1.mem q _ h
    rw [RepL.of_vals (xs := [.ref q]) r1]
    refine ⟨q, vs, prs, G1, rfl, .inl (.inl hv), sh1.le, pr_rep r, fun ys qs' l hys hperm hsort hl => ?_⟩
    have e : qs' = qs := lex_uniq hsort hq (hperm.trans hp.symm)
    subst e
    obtain ⟨sh2, g2⟩ := sh1.new (o := .lst ys) hl
    exact k _ _ _ (g1.trans g2) sh2 (.lst (.inl (.inl upd_same)) ((rep_pr hys).up g2))⟩
theorem ev_abs {i : Int} {p : Pos} (hm : X.mg "abs" = none) (ha : EV X e ρ M (dI i) M1) (hg : Gl X "abs" := by rfl) (hst : starEach [e] X.env = [(false, eval e X.env)] := by rfl) : EV X (.Call (.Name "abs" p) [e] [] pos) ρ M (dI (if i < 0 then -i else i)) M1 :=
  (pe_callB call_abs hg hm boot_abs (av_cons ha av_nil hst) (he := hst)).mono fun σ H Q ⟨G, sa, k⟩ => ⟨G, sa, fun vs' G1 H1 g1 sh1 r1 => by
    rw [RepL.of_vals (xs := [.int i]) r1]
    exact ⟨i, rfl, k _ G1 H1 g1 sh1 (.val _)⟩⟩
theorem JW.rangeC {K : PySem.W.Frag} {lo c : Int} {n : Nat} {G : Hp} : JW K (Itc lo c n) G ((List.range n).map fun i => dI (lo + (i : Nat) * c)) := fun i H e => ⟨fun d h => by
    rw [List.getElem?_map] at h
    have hi : i < n := by
      rcases Nat.lt_or_ge i n with q | q
      · exact q
      · rw [List.getElem?_eq_none (by simpa using q)] at h; cases h
    rw [List.getElem?_range hi] at h
    cases h
    exact ⟨hi, fun x H' ⟨e1, e2⟩ => ⟨e1, by rw [e2]; exact .val _⟩⟩, fun h => by
    rw [List.length_map, List.length_range] at h
    exact h⟩
theorem iv_range3 {tg : Expr} {i j k : Int} {n : Nat} {p : Pos} (hm : X.mg "range" = none) (ha : EV X a ρ M (dI i) M1) (hb : EV X b ρ M1 (dI j) M2) (hc : EV X c ρ M2 (dI k) M3) (hr : RgC i j k n) (hg : Gl X "range" := by rfl)
    (h1 : starEach [a, b, c] X.env = (false, eval a X.env) :: starEach [b, c] X.env := by rfl) (h2 : starEach [b, c] X.env = (false, eval b X.env) :: starEach [c] X.env := by rfl) (h3 : starEach [c] X.env = (false, eval c X.env) :: starEach [] X.env := by rfl)
    (hpl : (backTo pos (starEach [b, c] X.env)).any (·.1) = false := by rfl) : IV X tg (.Call (.Name "range" p) [a, b, c] [] pos) ρ M ((List.range n).map fun m => dI (i + (m : Nat) * k)) M3 :=
  (pi_range3 hg hm (av_cons ha (av_cons hb (av_cons hc av_nil h3) h2) h1) h1 hpl).mono fun σ H R ⟨G, sa, kk⟩ => ⟨G, sa, fun vs G1 H1 g1 sh1 r1 => by
    rw [RepL.of_vals (xs := [.int i, .int j, .int k]) r1]
    exact ⟨i, j, k, n, rfl, hr, kk _ G1 H1 g1 sh1 JW.rangeC⟩⟩
theorem rgC_up {i j k : Int} {n : Nat} (h1 : -1000000000 < i ∧ i < 1000000000) (h2 : -1000000000 < j ∧ j < 1000000000) (h3 : 0 < k ∧ k < 1000000000) (hn : Builtin.Range.rangeSize i j k = n) (hs : Builtin.Range.small i j k = true) : RgC i j k n :=
  ⟨by omega, by omega, hs, hn⟩
end
end Vt
set_option Elab.async false
set_option linter.all false
set_option maxRecDepth 100000
set_option maxHeartbeats 2000000
namespace Vt
open PySem PySem.Spec PyProof.Rows L2
def top (i : Nat) : Stmt := PySem.Challenge.pw_counterheld_k04_whole_sums_and_spellings.main.body.getD i (.Pass ⟨0, 0, 0, 0⟩)
abbrev s_p_steps : Stmt := top 1
theorem sc_p_steps : FnScope ["interval", "f", "o"] ["interval"] (defScope s_p_steps) := ⟨rfl, rfl, rfl, by decide +kernel, rfl, by decide +kernel, by decide +kernel⟩
abbrev s_p_height : Stmt := top 2
theorem sc_p_height : FnScope ["interval", "f", "o"] ["interval"] (defScope s_p_height) := ⟨rfl, rfl, rfl, by decide +kernel, rfl, by decide +kernel, by decide +kernel⟩
abbrev s_p_added : Stmt := top 3
theorem sc_p_added : FnScope ["one", "other"] ["one", "other"] (defScope s_p_added) := ⟨rfl, rfl, rfl, by decide +kernel, rfl, by decide +kernel, by decide +kernel⟩
abbrev s_p_opposite : Stmt := top 4
theorem sc_p_opposite : FnScope ["interval"] ["interval"] (defScope s_p_opposite) := ⟨rfl, rfl, rfl, by decide +kernel, rfl, by decide +kernel, by decide +kernel⟩
abbrev s_p_between : Stmt := top 5
theorem sc_p_between : FnScope ["one", "other"] ["one", "other"] (defScope s_p_between) := ⟨rfl, rfl, rfl, by decide +kernel, rfl, by decide +kernel, by decide +kernel⟩
abbrev s_p_inverted : Stmt := top 6
theorem sc_p_inverted : FnScope ["interval"] ["interval"] (defScope s_p_inverted) := ⟨rfl, rfl, rfl, by decide +kernel, rfl, by decide +kernel, by decide +kernel⟩
abbrev s_p_simple : Stmt := top 7
theorem sc_p_simple : FnScope ["interval"] ["interval"] (defScope s_p_simple) := ⟨rfl, rfl, rfl, by decide +kernel, rfl, by decide +kernel, by decide +kernel⟩
abbrev s_p_with_steps : Stmt := top 8
theorem sc_p_with_steps : FnScope ["f", "many"] ["f", "many"] (defScope s_p_with_steps) := ⟨rfl, rfl, rfl, by decide +kernel, rfl, by decide +kernel, by decide +kernel⟩
abbrev s_p_spellings : Stmt := top 9
theorem sc_p_spellings : FnScope ["number", "most", "low", "first", "f"] ["number", "most"] (defScope s_p_spellings) := ⟨rfl, rfl, rfl, by decide +kernel, rfl, by decide +kernel, by decide +kernel⟩
abbrev s_pool : Stmt := top 11
theorem sc_pool : FnScope ["script", "cell"] ["script"] (defScope s_pool) := ⟨rfl, rfl, rfl, by decide +kernel, rfl, by decide +kernel, by decide +kernel⟩
abbrev s_take : Stmt := top 12
theorem sc_take : FnScope ["pool", "many", "digit", "cell", "mixed"] ["pool", "many"] (defScope s_take) := ⟨rfl, rfl, rfl, by decide +kernel, rfl, by decide +kernel, by decide +kernel⟩
abbrev s_pick : Stmt := top 13
theorem sc_pick : FnScope ["pool", "rows"] ["pool", "rows"] (defScope s_pick) := ⟨rfl, rfl, rfl, by decide +kernel, rfl, by decide +kernel, by decide +kernel⟩
abbrev s_is_integer : Stmt := top 14
theorem sc_is_integer : FnScope ["actual"] ["actual"] (defScope s_is_integer) := ⟨rfl, rfl, rfl, by decide +kernel, rfl, by decide +kernel, by decide +kernel⟩
abbrev s_same : Stmt := top 15
theorem sc_same : FnScope ["actual", "due", "k"] ["actual", "due"] (defScope s_same) := ⟨rfl, rfl, rfl, by decide +kernel, rfl, by decide +kernel, by decide +kernel⟩
abbrev s_tone : Stmt := top 16
theorem sc_tone : FnScope ["pool", "fifths"] ["pool"] (defScope s_tone) := ⟨rfl, rfl, rfl, by decide +kernel, rfl, by decide +kernel, by decide +kernel⟩
abbrev s_order : Stmt := top 17
theorem sc_order : FnScope ["pool", "many", "left", "found", "k"] ["pool", "many"] (defScope s_order) := ⟨rfl, rfl, rfl, by decide +kernel, rfl, by decide +kernel, by decide +kernel⟩
abbrev s_far_pair : Stmt := top 18
theorem sc_far_pair : FnScope ["pool", "kind", "edges"] ["pool"] (defScope s_far_pair) := ⟨rfl, rfl, rfl, by decide +kernel, rfl, by decide +kernel, by decide +kernel⟩
abbrev s_asked : Stmt := top 19
theorem sc_asked : FnScope ["kind", "one", "other"] ["kind", "one", "other"] (defScope s_asked) := ⟨rfl, rfl, rfl, by decide +kernel, rfl, by decide +kernel, by decide +kernel⟩
abbrev s_simple : Stmt := top 20
theorem sc_simple : FnScope ["one", "octaves", "up"] ["one"] (defScope s_simple) := ⟨rfl, rfl, rfl, by decide +kernel, rfl, by decide +kernel, by decide +kernel⟩
abbrev s_due : Stmt := top 21
theorem sc_due : FnScope ["kind", "one", "other"] ["kind", "one", "other"] (defScope s_due) := ⟨rfl, rfl, rfl, by decide +kernel, rfl, by decide +kernel, by decide +kernel⟩
abbrev s_sums_so : Stmt := top 22
theorem sc_sums_so : FnScope ["pool", "turn", "one", "other", "kind", "handed", "pair", "found"] ["pool"] (defScope s_sums_so) := ⟨rfl, rfl, rfl, by decide +kernel, rfl, by decide +kernel, by decide +kernel⟩
abbrev s_spelled : Stmt := top 23
theorem sc_spelled : FnScope ["number", "most", "found", "many", "place", "fifths"] ["number", "most"] (defScope s_spelled) := ⟨rfl, rfl, rfl, by decide +kernel, rfl, by decide +kernel, by decide +kernel⟩
abbrev s_wanted : Stmt := top 24
theorem sc_wanted : FnScope ["pool", "kind", "tone", "number"] ["pool"] (defScope s_wanted) := ⟨rfl, rfl, rfl, by decide +kernel, rfl, by decide +kernel, by decide +kernel⟩
abbrev s_spellings_so : Stmt := top 25
theorem sc_spellings_so : FnScope ["pool", "rows", "turn", "number", "k", "most"] ["pool"] (defScope s_spellings_so) := ⟨rfl, rfl, rfl, by decide +kernel, rfl, by decide +kernel, by decide +kernel⟩
abbrev s_law : Stmt := top 26
theorem sc_law : FnScope ["script", "pool"] ["script"] (defScope s_law) := ⟨rfl, rfl, rfl, by decide +kernel, rfl, by decide +kernel, by decide +kernel⟩
/-! ### the draws -/
structure Pool where
  cells : List Int
  at_ : Int
  rest : Int
  seed : Int
def Pool.mo (p : Pool) : MO := .lst [.lst (p.cells.map dI), dI p.at_, dI p.rest, dI p.seed]
structure Pool.Ok (p : Pool) : Prop where
  a0 : 0 ≤ p.at_
  s0 : 0 ≤ p.seed
  s1 : p.seed < 2147483648
def Pool.cell (p : Pool) : Int := if p.at_ < p.cells.length then p.cells.getD p.at_.toNat 0 else 0
def Pool.seed2 (p : Pool) : Int := (p.seed * 48271 + p.cell * 69621 + (p.at_ + 1) * 613) % 2147483647
def Pool.take (p : Pool) (many : Int) : Int × Pool :=
  if 0 < p.rest then (p.rest % many, { p with rest := p.rest / many })
  else if 1000000000000000000 ≤ p.cell then (p.cell / 2 % many, { p with at_ := p.at_ + 1, rest := p.cell / 2 / many })
  else ((p.seed2 * p.seed2 + p.seed2 * 7919 + 104729) % 1000000007 / 3 % many, { p with at_ := p.at_ + 1, seed := p.seed2 })
theorem Pool.take_lo (p : Pool) {many : Int} (h : 0 < many) : 0 ≤ (p.take many).1 := by
  unfold Pool.take
  split
  · exact Int.emod_nonneg _ (by omega)
  · split <;> exact Int.emod_nonneg _ (by omega)
theorem Pool.take_hi (p : Pool) {many : Int} (h : 0 < many) : (p.take many).1 < many := by
  unfold Pool.take
  split
  · exact Int.emod_lt_of_pos _ h
  · split <;> exact Int.emod_lt_of_pos _ h
theorem Pool.Ok.take {p : Pool} (ok : p.Ok) (many : Int) : (p.take many).2.Ok := by
  obtain ⟨a0, s0, s1⟩ := ok
  unfold Pool.take
  split
  · exact ⟨a0, s0, s1⟩
  · split
    · exact ⟨by show 0 ≤ p.at_ + 1; omega, s0, s1⟩
    · refine ⟨by show 0 ≤ p.at_ + 1; omega, ?_, ?_⟩
      · exact Int.emod_nonneg _ (by decide)
      · have := Int.emod_lt_of_pos (p.seed * 48271 + p.cell * 69621 + (p.at_ + 1) * 613) (show (0 : Int) < 2147483647 by decide)
        show p.seed2 < 2147483648
        unfold Pool.seed2
        omega
/-- what stands behind the top of built-ins -/
structure Bt (mg : Str → Option Value) : Prop where
  len : mg "len" = none
  int : mg "int" = none
  isinstance : mg "isinstance" = none
  range : mg "range" = none
  list : mg "list" = none
  tuple : mg "tuple" = none
  all : mg "all" = none
  bool : mg "bool" = none
  str : mg "str" = none
def PrTake (ds : List D) (M : Mem) (d : D) (M' : Mem) : Prop := ∃ a M0 p many, ds = [dP a, dI many] ∧ M = Mem.set M0 a (Pool.mo p) ∧ p.Ok ∧ 0 < many ∧ many < 1073741824 ∧ d = dI (p.take many).1 ∧ M' = M0.set a (p.take many).2.mo
/-- where digits are left -/
def PrTake0 (ds : List D) (M : Mem) (d : D) (M' : Mem) : Prop := ∃ a M0 p many, ds = [dP a, dI many] ∧ M = Mem.set M0 a (Pool.mo p) ∧ 0 < p.rest ∧ 0 < many ∧ many < 1073741824 ∧ d = dI (p.rest % many) ∧ M' = M0.set a ({ p with rest := p.rest / many } : Pool).mo
section
variable {X : Cx} {ρ : Sl} {M M0 M1 M2 M3 : Mem} {a b c e : Expr} {es : List Expr} {d d1 d2 : D} {ds : List D} {pos : Pos} {Ψ : Out → Prop}
/-- xs[i] = e, the list on top of the memory -/
theorem sv_setTop {p : Addr} {i : Nat} {tp : Pos} (he : EV X e ρ M d M1) (ho : EV X a ρ M1 (dP p) M2) (hi : EV X b ρ M2 (dI i) (M0.set p (.lst ds))) (hlt : i < ds.length) (hΨ : Ψ (.nx ρ (M0.set p (.lst (ds.set i d)))))
    (ha : ∀ v, assign (.Subscript a b tp) X.env v = (do
      let ov ← holding [v] (eval a X.env)
      let iv ← holding [v, ov] (eval b X.env)
      standAt tp
      holding [v, ov, iv] (setItem ov iv v)
      release [v, ov, iv] []) := by intro _; rfl)
    (hs : swapsWithSole [.Subscript a b tp] e pos.line X.env = pure false := by rfl) (hw : swappedStores [.Subscript a b tp] e X.env = pure none := by rfl)
    (h1 : (assignEach [.Subscript a b tp] X.env).map (·.2) = [assign (.Subscript a b tp) X.env] := by rfl) : SV X (.Assign [.Subscript a b tp] e pos) ρ M Ψ :=
  sv_setItem he ho hi Mem.set_same hlt (by rw [Mem.set_set]; exact hΨ) ha hs hw h1
end
section
variable {P : Program} {w : World} {K : PySem.W.Frag} {mg : Str → Option Value} {base : Heap} {f : Addr} {fd : FuncData}
theorem c_take0 (F : Fun K "_law_take" "_law_take" s_take f fd) (hm : mg "_law_take" = some (.ref f)) (T : Bt mg) : Cal P w K mg base 1 "_law_take" (spD K PrTake0) := by
  refine cal_of F sc_take hm (fun _ _ _ _ _ _ us hl => match us, hl with | [_, _], _ => rfl) (fun ds M d M' h => ?_) fun cdv A outer s H E ds M d M' hr h => ?_
  · obtain ⟨a, M0, p, many, rfl, _⟩ := h
    rfl
  · obtain ⟨a, M0, p, many, rfl, rfl, h0, h1, h2, rfl, rfl⟩ := h
    show BV _ _ [some (dP a), some (dI many), none, none, none] _ _
    refine bv_cons (sv_if (tv_cmpR op_gt (ev_ixM (ev_var 0 rfl) ev_int Mem.set_same rfl) ev_int rs_I0 (nomark _)) (fun h => ?_) (fun h => ?_))
    · refine bv_cons (sv_set 2 sc_take.nd (ev_op op_mod (ev_intI T.int (ev_ixM (ev_var 0 rfl) ev_int Mem.set_same rfl)) (ev_var 1 rfl) (rs_I h1)) ?_)
      refine bv_cons (sv_setTop (i := 2) (ev_op op_fdiv (ev_ixM (ev_var 0 rfl) ev_int Mem.set_same rfl) (ev_var 1 rfl) (rs_I ⟨h1, h2⟩)) (ev_var 0 rfl) ev_int (by simp) ?_)
      exact bv_one (sv_ret (ev_var 2 rfl) ⟨rfl, Mle.refl _⟩)
    · exact absurd h0 (of_decide_eq_false h)
theorem c_take (F : Fun K "_law_take" "_law_take" s_take f fd) (hm : mg "_law_take" = some (.ref f)) (T : Bt mg) : Cal P w K mg base 2 "_law_take" (spD K PrTake) := by
  have c_take := c_take0 (P := P) (w := w) (base := base) F hm T
  refine cal_of F sc_take hm (fun _ _ _ _ _ _ us hl => match us, hl with | [_, _], _ => rfl) (fun ds M d M' h => ?_) fun cdv A outer s H E ds M d M' hr h => ?_
  · obtain ⟨a, M0, p, many, rfl, _⟩ := h
    rfl
  · obtain ⟨a, M0, p, many, rfl, rfl, ok, h1, h2, rfl, rfl⟩ := h
    show BV _ _ [some (dP a), some (dI many), none, none, none] _ _
    refine bv_cons (sv_if (tv_cmpR op_gt (ev_ixM (ev_var 0 rfl) ev_int Mem.set_same rfl) ev_int rs_I0 (nomark _)) (fun h => ?_) (fun h => ?_))
    · refine bv_cons (sv_set 2 sc_take.nd (ev_op op_mod (ev_intI T.int (ev_ixM (ev_var 0 rfl) ev_int Mem.set_same rfl)) (ev_var 1 rfl) (rs_I h1)) ?_)
      refine bv_cons (sv_setTop (i := 2) (ev_op op_fdiv (ev_ixM (ev_var 0 rfl) ev_int Mem.set_same rfl) (ev_var 1 rfl) (rs_I ⟨h1, h2⟩)) (ev_var 0 rfl) ev_int (by simp) ?_)
      have e : p.take many = (p.rest % many, { p with rest := p.rest / many }) := if_pos (of_decide_eq_true h)
      rw [e]
      exact bv_one (sv_ret (ev_var 2 rfl) ⟨rfl, Mle.refl _⟩)
    · have hr0 : ¬ 0 < p.rest := of_decide_eq_false h
      refine bv_nil ?_
      refine bv_cons (sv_set 3 sc_take.nd ev_int ?_)
      have rest : BV (cxOf CX0 P w K mg base ["pool", "many", "digit", "cell", "mixed"] "_law_take" (defScope s_take) f cdv A outer s H E).nox ((defBody s_take).drop 3) [some (dP a), some (dI many), none, some (dI p.cell), none] (M0.set a p.mo) (Fin (dI (p.take many).1) (M0.set a (p.take many).2.mo)) := by
        refine bv_cons (sv_setTop (i := 1) (ev_op op_add (ev_ixM (ev_var 0 rfl) ev_int Mem.set_same rfl) ev_int rs_I0) (ev_var 0 rfl) ev_int (by simp) ?_)
        refine bv_cons (sv_if (tv_cmpR op_ge (ev_var 3 rfl) (ev_op op_pow ev_int ev_int (rs_I ⟨by decide, by decide, by decide⟩)) rs_I0 (nomark _)) (fun h => ?_) (fun h => ?_))
        · have hc : 1000000000000000000 ≤ p.cell := of_decide_eq_true h
          refine bv_cons (sv_setTop (i := 2) (ev_op op_fdiv (ev_var 3 rfl) ev_int (rs_I ⟨by decide, by decide⟩)) (ev_var 0 rfl) ev_int (by simp) ?_)
          have e : p.take many = (p.cell / 2 % many, { p with at_ := p.at_ + 1, rest := p.cell / 2 / many }) := (if_neg hr0).trans (if_pos hc)
          rw [e]
          refine bv_one (sv_ret (ev_call c_take (hr.mono (by decide)) (av_cons (ev_var 0 rfl) (av_cons (ev_var 1 rfl) av_nil)) ⟨a, M0, { p with at_ := p.at_ + 1, rest := p.cell / 2 }, many, rfl, rfl, ?_, h1, h2, rfl, rfl⟩) ⟨rfl, Mle.refl _⟩)
          show 0 < p.cell / 2
          omega
        · have hc : ¬ 1000000000000000000 ≤ p.cell := of_decide_eq_false h
          refine bv_nil ?_
          refine bv_cons (sv_setTop (i := 3) (ev_op op_mod (ev_intI T.int (ev_op op_add (ev_op op_add (ev_op op_mul (ev_ixM (ev_var 0 rfl) ev_int Mem.set_same rfl) ev_int (rs_I (cm_r (by decide) (by decide)))) (ev_op op_mul (ev_var 3 rfl) ev_int (rs_I (cm_r (by decide) (by decide)))) rs_I0) (ev_op op_mul (ev_ixM (ev_var 0 rfl) ev_int Mem.set_same rfl) ev_int (rs_I (cm_r (by decide) (by decide)))) rs_I0)) ev_int (rs_I (by decide))) (ev_var 0 rfl) ev_int (by simp) ?_)
          have ok2 : 0 ≤ p.seed2 ∧ p.seed2 < 2147483647 := ⟨Int.emod_nonneg _ (by decide), Int.emod_lt_of_pos _ (by decide)⟩
          have e : p.take many = ((p.seed2 * p.seed2 + p.seed2 * 7919 + 104729) % 1000000007 / 3 % many, { p with at_ := p.at_ + 1, seed := p.seed2 }) := (if_neg hr0).trans (if_neg hc)
          rw [e]
          refine bv_cons (sv_set 4 sc_take.nd (ev_op op_mod (ev_intI T.int (ev_op op_add (ev_op op_add (ev_op op_mul (ev_ixM (ev_var 0 rfl) ev_int Mem.set_same rfl) (ev_ixM (ev_var 0 rfl) ev_int Mem.set_same rfl) (rs_I ?_)) (ev_op op_mul (ev_ixM (ev_var 0 rfl) ev_int Mem.set_same rfl) ev_int (rs_I (cm_r (by decide) (by decide)))) rs_I0) ev_int rs_I0)) ev_int (rs_I (by decide))) ?_)
          · refine cm_l (i := p.seed2) ?_ ?_ <;> omega
          exact bv_one (sv_ret (ev_op op_mod (ev_intI T.int (ev_op op_fdiv (ev_var 4 rfl) ev_int (rs_I ⟨by decide, by decide⟩))) (ev_var 1 rfl) (rs_I h1)) ⟨rfl, Mle.refl _⟩)
      refine bv_cons (sv_if (tv_cmpR op_lt (ev_ixM (ev_var 0 rfl) ev_int Mem.set_same rfl) (ev_lenL T.len (ev_ixM (ev_var 0 rfl) ev_int Mem.set_same rfl)) rs_I0 (nomark _)) (fun h => ?_) (fun h => ?_))
      · have hlt : p.at_ < p.cells.length := by
          have q := of_decide_eq_true h
          rw [List.length_map] at q
          exact q
        have hc : atI (p.cells.map dI) p.at_ = some (dI p.cell) := by
          have a0 := ok.a0
          unfold atI ixN Pool.cell
          rw [if_pos a0, List.length_map, if_pos hlt, if_pos hlt]
          show (p.cells.map dI)[p.at_.toNat]? = _
          rw [List.getElem?_map, List.getD_eq_getElem?_getD]
          have hn : p.at_.toNat < p.cells.length := by omega
          rw [List.getElem?_eq_getElem hn]
          rfl
        exact bv_one (sv_set 3 sc_take.nd (ev_ixL (ev_ixM (ev_var 0 rfl) ev_int Mem.set_same rfl) (ev_ixM (ev_var 0 rfl) ev_int Mem.set_same rfl) hc) rest)
      · have hlt : ¬ p.at_ < p.cells.length := by
          have q := of_decide_eq_false h
          rw [List.length_map] at q
          exact q
        have e : p.cell = 0 := if_neg hlt
        rw [e] at rest
        exact bv_nil rest
end
def conv (n : Int) : Int := if 0 ≤ n then 2 * n else -2 * n - 1
def convD : D → D
  | .val (.int n) => dI (conv n)
  | d => d
def Pool.new (ns : List Int) : Pool := ⟨ns.map conv, 0, 0, 17⟩
theorem Pool.new_ok (ns : List Int) : (Pool.new ns).Ok := ⟨by show (0 : Int) ≤ 0; decide, by show (0 : Int) ≤ 17; decide, by show (17 : Int) < 2147483648; decide⟩
def PrPool (ds : List D) (M : Mem) (es : List D) (M' : Mem) : Prop := ∃ ns : List Int, ds = [.lst (ns.map dI)] ∧ ns.length ≤ 1000 ∧ M' = M ∧ Pool.mo (Pool.new ns) = .lst es
section
variable {P : Program} {w : World} {K : PySem.W.Frag} {mg : Str → Option Value} {base : Heap} {f : Addr} {fd : FuncData}
theorem c_pool (F : Fun K "_law_pool" "_law_pool" s_pool f fd) (hm : mg "_law_pool" = some (.ref f)) : Cal P w K mg base 1 "_law_pool" (spN K PrPool) := by
  refine calN_of F sc_pool hm (fun _ _ _ _ _ _ us hl => match us, hl with | [_], _ => rfl) (fun ds M d M' h => ?_) fun cdv A outer s H E ds M es M' hr h => ?_
  · obtain ⟨ns, rfl, _⟩ := h
    rfl
  · obtain ⟨ns, rfl, hl, rfl, he⟩ := h
    show BV _ _ [some (.lst (ns.map dI)), none] _ _
    have e2 : (ns.map dI).map convD = (ns.map conv).map dI := by
      rw [List.map_map, List.map_map]
      rfl
    have e : es = [.lst ((ns.map dI).map convD), dI 0, dI 0, dI 17] := by
      rw [e2]
      injection he with he
      rw [← he]
      rfl
    subst e
    refine bv_one (sv_retNew (en_lst (av_cons (ev_lcM (own := [("cell", 1)]) (g := gName 1) rfl sc_pool.nd (iv_list (ev_var 0 rfl)) (blkOk_by (N := ["script", "cell"]) (sc := defScope s_pool) (by decide +kernel)) (fun _ _ _ _ _ => pg_name (i := 1) sc_pool.nd rfl (Or.inl rfl)) convD ?_ (fun i d h => ?_)) (av_cons ev_int (av_cons ev_int (av_cons ev_int av_nil))))) (fun p hp => ⟨p, rfl, hp, Mle.refl _⟩))
    · rw [List.length_map]
      exact Nat.le_trans hl (by decide)
    · refine ⟨_, tgb_name, fun M2 s H C cl fp => ?_⟩
      rw [List.getElem?_map] at h
      cases q : ns[i]? with
      | none => rw [q] at h; cases h
      | some n =>
        rw [q] at h
        cases h
        refine ev_to (ev_ifB (tv_cmpR op_ge (ev_var 1 rfl) ev_int rs_I0 (nomark _)) (ev_op op_mul ev_int (ev_var 1 rfl) (rs_I (cm_l (by decide) (by decide)))) (ev_op op_sub (ev_op op_mul (ev_un un_neg ev_int ru_neg) (ev_var 1 rfl) (rs_I (cm_l (by decide) (by decide)))) ev_int rs_I0)) ?_
        show (if decide (0 ≤ n) = true then dI (2 * n) else dI (-2 * n - 1)) = dI (if 0 ≤ n then 2 * n else -2 * n - 1)
        by_cases c : 0 ≤ n
        · rw [if_pos (decide_eq_true c), if_pos c]
        · rw [if_neg (by rw [decide_eq_false c]; decide), if_neg c]
end
def PrPick (ds : List D) (M : Mem) (d : D) (M' : Mem) : Prop := ∃ a M0 p b es, ds = [dP a, sq b es] ∧ M = Mem.set M0 a (Pool.mo p) ∧ p.Ok ∧ 0 < es.length ∧ es.length < 1073741824 ∧ es[(p.take es.length).1.toNat]? = some d ∧ M' = M0.set a (p.take es.length).2.mo
def PrIsInt (ds : List D) (M : Mem) (d : D) (M' : Mem) : Prop := ∃ i : Int, ds = [dI i] ∧ d = dB true ∧ M' = M
/-- trees that _law_same goes through -/
def okD : Nat → D → Prop
  | _, .val v => v = .non ∨ (∃ b, v = .bl b) ∨ (∃ i, v = .int i) ∨ ∃ z, v = .str z
  | n + 1, .tup ds => ds.length ≤ 1000000 ∧ ∀ d ∈ ds, okD n d
  | n + 1, .lst ds => ds.length ≤ 1000000 ∧ ∀ d ∈ ds, okD n d
  | 0, _ => False
def PrSame (n : Nat) (ds : List D) (M : Mem) (d : D) (M' : Mem) : Prop := ∃ t, ds = [t, t] ∧ okD n t ∧ d = dB true ∧ M' = M
theorem atI_nat {ds : List D} {i : Int} {d : D} {k : Nat} (h : ds[k]? = some d) (e : i = (k : Int)) : atI ds i = some d := by
  subst e
  have hk : k < ds.length := (List.getElem?_eq_some_iff.mp h).1
  unfold atI ixN
  rw [if_pos (by omega), if_pos (by omega)]
  exact h
section
variable {P : Program} {w : World} {K : PySem.W.Frag} {mg : Str → Option Value} {base : Heap} {f : Addr} {fd : FuncData}
theorem c_pick (F : Fun K "_law_pick" "_law_pick" s_pick f fd) (hm : mg "_law_pick" = some (.ref f)) (T : Bt mg) (c_take : Cal P w K mg base 2 "_law_take" (spD K PrTake)) : Cal P w K mg base 3 "_law_pick" (spD K PrPick) := by
  refine cal_of F sc_pick hm (fun _ _ _ _ _ _ us hl => match us, hl with | [_, _], _ => rfl) (fun ds M d M' h => ?_) fun cdv A outer s H E ds M d M' hr h => ?_
  · obtain ⟨a, M0, p, b, es, rfl, _⟩ := h
    rfl
  · obtain ⟨a, M0, p, b, es, rfl, rfl, ok, h1, h2, h3, rfl⟩ := h
    show BV _ _ [some (dP a), some (sq b es)] _ _
    have h1' : (0 : Int) < es.length := by omega
    refine bv_one (sv_ret (ev_ixQ (ev_var 1 rfl) (ev_call c_take (hr.mono (by decide)) (av_cons (ev_var 0 rfl) (av_cons (ev_lenQ T.len (ev_var 1 rfl)) av_nil)) ⟨a, M0, p, es.length, rfl, rfl, ok, h1', by omega, rfl, rfl⟩) (atI_nat h3 ?_)) ⟨rfl, Mle.refl _⟩)
    have := p.take_lo h1'
    omega
theorem c_is_integer (F : Fun K "_law_is_integer" "_law_is_integer" s_is_integer f fd) (hm : mg "_law_is_integer" = some (.ref f)) (T : Bt mg) : Cal P w K mg base 1 "_law_is_integer" (spD K PrIsInt) := by
  refine cal_of F sc_is_integer hm (fun _ _ _ _ _ _ us hl => match us, hl with | [_], _ => rfl) (fun ds M d M' h => ?_) fun cdv A outer s H E ds M d M' hr h => ?_
  · obtain ⟨i, rfl, _⟩ := h
    rfl
  · obtain ⟨i, rfl, rfl, rfl⟩ := h
    show BV _ _ [some (dI i)] _ _
    exact bv_one (sv_ret (ev_andB (ev_isi (r := true) T.isinstance T.int boot_int (ev_var 0 rfl) rfl (by decide +kernel)) (fun h => (ev_one (b := true) (ev_notB (ev_isi (r := false) T.isinstance T.bool boot_bool (ev_var 0 rfl) rfl (by decide +kernel)))))) ⟨rfl, Mle.refl _⟩)
theorem all_true (n : Nat) : ((List.range n).map fun _ => true).all id = true := by
  rw [List.all_map]
  exact List.all_eq_true.mpr fun _ _ => rfl
theorem same_val (T : Bt mg) (c_is_integer : Cal P w K mg base 1 "_law_is_integer" (spD K PrIsInt)) {cdv : Value} {A : Around} {outer : List Env} {s : Shared} {H : Hp} {E : XK} {M' : Mem} {v : V} {n : Nat}
    (hr : Room 1 (A.deeper (envOfC "_law_same" (defScope s_same) s.heap.objs.size f cdv))) (ok : okD n (.val v)) :
    BV (cxOf CX0 P w K mg base ["actual", "due", "k"] "_law_same" (defScope s_same) f cdv A outer s H E).nox (defBody s_same) [some (.val v), some (.val v), none] M' (Fin (dB true) M') := by
  have ok : v = .non ∨ (∃ b, v = .bl b) ∨ (∃ i, v = .int i) ∨ ∃ z, v = .str z := by
    cases n <;> exact ok
  rcases ok with rfl | ⟨b, rfl⟩ | ⟨i, rfl⟩ | ⟨z, rfl⟩
  · refine bv_cons (sv_if (tv_val (ev_isi (r := false) T.isinstance T.tuple boot_tuple (ev_var 1 rfl) rfl (by decide +kernel))) (fun h => nomatch h) (fun _ => bv_nil ?_))
    refine bv_cons (sv_if (tv_val (ev_isi (r := false) T.isinstance T.list boot_list (ev_var 1 rfl) rfl (by decide +kernel))) (fun h => nomatch h) (fun _ => bv_nil ?_))
    refine bv_cons (sv_if (tv_isN (ev_var 1 rfl)) (fun h => ?_) (fun h => nomatch h))
    exact bv_one (sv_ret (ev_isN (ev_var 0 rfl)) ⟨rfl, Mle.refl _⟩)
  · refine bv_cons (sv_if (tv_val (ev_isi (r := false) T.isinstance T.tuple boot_tuple (ev_var 1 rfl) rfl (by decide +kernel))) (fun h => nomatch h) (fun _ => bv_nil ?_))
    refine bv_cons (sv_if (tv_val (ev_isi (r := false) T.isinstance T.list boot_list (ev_var 1 rfl) rfl (by decide +kernel))) (fun h => nomatch h) (fun _ => bv_nil ?_))
    refine bv_cons (sv_if (tv_isN (ev_var 1 rfl)) (fun h => nomatch h) (fun _ => bv_nil ?_))
    refine bv_cons (sv_if (tv_val (ev_isi (r := true) T.isinstance T.bool boot_bool (ev_var 1 rfl) rfl (by decide +kernel))) (fun h => ?_) (fun h => nomatch h))
    refine bv_one (sv_ret (ev_andB (ev_isi (r := true) T.isinstance T.bool boot_bool (ev_var 0 rfl) rfl (by decide +kernel)) (fun h => (ev_one (b := true) (ev_cmpR op_eq (ev_var 0 rfl) (ev_var 1 rfl) rs_eqB (nomark _))))) ⟨?_, Mle.refl _⟩)
    rw [decide_eq_true rfl]
    rfl
  · refine bv_cons (sv_if (tv_val (ev_isi (r := false) T.isinstance T.tuple boot_tuple (ev_var 1 rfl) rfl (by decide +kernel))) (fun h => nomatch h) (fun _ => bv_nil ?_))
    refine bv_cons (sv_if (tv_val (ev_isi (r := false) T.isinstance T.list boot_list (ev_var 1 rfl) rfl (by decide +kernel))) (fun h => nomatch h) (fun _ => bv_nil ?_))
    refine bv_cons (sv_if (tv_isN (ev_var 1 rfl)) (fun h => nomatch h) (fun _ => bv_nil ?_))
    refine bv_cons (sv_if (tv_val (ev_isi (r := false) T.isinstance T.bool boot_bool (ev_var 1 rfl) rfl (by decide +kernel))) (fun h => nomatch h) (fun _ => bv_nil ?_))
    refine bv_cons (sv_if (tv_val (ev_isi (r := false) T.isinstance T.str boot_str (ev_var 1 rfl) rfl (by decide +kernel))) (fun h => nomatch h) (fun _ => bv_nil ?_))
    refine bv_one (sv_ret (ev_andB (p := true) (ev_call c_is_integer (hr.mono (by decide)) (av_cons (ev_var 0 rfl) av_nil) ⟨i, rfl, rfl, rfl⟩) (fun h => (ev_one (b := true) (ev_cmpR op_eq (ev_var 0 rfl) (ev_var 1 rfl) rs_eqI (nomark _))))) ⟨?_, Mle.refl _⟩)
    rw [decide_eq_true rfl]
    rfl
  · refine bv_cons (sv_if (tv_val (ev_isi (r := false) T.isinstance T.tuple boot_tuple (ev_var 1 rfl) rfl (by decide +kernel))) (fun h => nomatch h) (fun _ => bv_nil ?_))
    refine bv_cons (sv_if (tv_val (ev_isi (r := false) T.isinstance T.list boot_list (ev_var 1 rfl) rfl (by decide +kernel))) (fun h => nomatch h) (fun _ => bv_nil ?_))
    refine bv_cons (sv_if (tv_isN (ev_var 1 rfl)) (fun h => nomatch h) (fun _ => bv_nil ?_))
    refine bv_cons (sv_if (tv_val (ev_isi (r := false) T.isinstance T.bool boot_bool (ev_var 1 rfl) rfl (by decide +kernel))) (fun h => nomatch h) (fun _ => bv_nil ?_))
    refine bv_cons (sv_if (tv_val (ev_isi (r := true) T.isinstance T.str boot_str (ev_var 1 rfl) rfl (by decide +kernel))) (fun h => ?_) (fun h => nomatch h))
    refine bv_one (sv_ret (ev_andB (ev_isi (r := true) T.isinstance T.str boot_str (ev_var 0 rfl) rfl (by decide +kernel)) (fun h => (ev_one (b := true) (ev_cmpR op_eq (ev_var 0 rfl) (ev_var 1 rfl) rs_eqS (nomark _))))) ⟨?_, Mle.refl _⟩)
    rw [decide_eq_true rfl]
    rfl
theorem c_same (F : Fun K "_law_same" "_law_same" s_same f fd) (hm : mg "_law_same" = some (.ref f)) (T : Bt mg) (c_is_integer : Cal P w K mg base 1 "_law_is_integer" (spD K PrIsInt)) : ∀ n, Cal P w K mg base (n + 2) "_law_same" (spD K (PrSame n)) := by
  intro n
  induction n with
  | zero =>
    refine cal_of F sc_same hm (fun _ _ _ _ _ _ us hl => match us, hl with | [_, _], _ => rfl) (fun ds M d M' h => ?_) fun cdv A outer s H E ds M d M' hr h => ?_
    · obtain ⟨t, rfl, _⟩ := h
      rfl
    · obtain ⟨t, rfl, ok, rfl, rfl⟩ := h
      show BV _ _ [some t, some t, none] _ _
      cases t with
      | tup ds => exact ok.elim
      | lst ds => exact ok.elim
      | val v => exact same_val T c_is_integer (hr.mono (by decide)) ok
  | succ n ih =>
    refine cal_of F sc_same hm (fun _ _ _ _ _ _ us hl => match us, hl with | [_, _], _ => rfl) (fun ds M d M' h => ?_) fun cdv A outer s H E ds M d M' hr h => ?_
    · obtain ⟨t, rfl, _⟩ := h
      rfl
    · obtain ⟨t, rfl, ok, rfl, rfl⟩ := h
      show BV _ _ [some t, some t, none] _ _
      have hr0 : Room (n + 2) (A.deeper (envOfC "_law_same" (defScope s_same) s.heap.objs.size f cdv)) := hr
      cases t with
      | tup ds =>
        obtain ⟨hl, hd⟩ := ok
        refine bv_cons (sv_if (tv_val (ev_isi (r := true) T.isinstance T.tuple boot_tuple (ev_var 1 rfl) rfl (by decide +kernel))) (fun _ => ?_) (fun h => nomatch h))
        refine bv_cons (sv_if (PW.pt (wv_or (tv_not (tv_val (ev_isi (r := true) T.isinstance T.tuple boot_tuple (ev_var 0 rfl) rfl (by decide +kernel)))) (fun h => (wv_one_or (tv_cmpR op_ne (ev_lenT T.len (ev_var 0 rfl)) (ev_lenT T.len (ev_var 1 rfl)) rs_neI (nomark _)))))) (fun h => ?_) (fun h => bv_nil ?_))
        · rw [decide_eq_true rfl] at h
          cases h
        · refine bv_one (sv_ret (ev_all (bs := (List.range (rgD 0 ((ds.length : Int)).toNat).length).map fun _ => true) rfl T.all (ev_to (ev_lc (own := [("k", 2)]) (g := gName 2) rfl sc_same.nd (iv_range1 T.range (ev_lenT T.len (ev_var 1 rfl)) (by omega)) (blkOk_by (N := ["actual", "due", "k"]) (sc := defScope s_same) (by decide +kernel)) (fun _ _ _ _ _ => pg_name (i := 2) sc_same.nd rfl (Or.inl rfl)) (fun _ => dB true) (fun _ => M') rfl (fun _ _ h => h) (by rw [rgD_len]; exact Nat.le_trans (by omega : _ ≤ 1000000) (by decide)) (fun i d h => ?_)) (by rw [List.map_map] <;> rfl))) ⟨by rw [all_true], Mle.refl _⟩)
          obtain ⟨hi, rfl⟩ := rgD_get h
          refine ⟨_, tgb_name, fun p acc hp s H C cl fp => ?_⟩
          have hi2 : i < ds.length := by omega
          have hg : ds[i]? = some ds[i] := List.getElem?_eq_getElem hi2
          exact ev_call ih hr0 (av_cons (ev_ixT (ev_var 0 rfl) (ev_var 2 rfl) (atI_nat hg (by omega))) (av_cons (ev_ixT (ev_var 1 rfl) (ev_var 2 rfl) (atI_nat hg (by omega))) av_nil)) ⟨ds[i], rfl, hd _ (List.getElem_mem hi2), rfl, rfl⟩
      | lst ds =>
        obtain ⟨hl, hd⟩ := ok
        refine bv_cons (sv_if (tv_val (ev_isi (r := false) T.isinstance T.tuple boot_tuple (ev_var 1 rfl) rfl (by decide +kernel))) (fun h => nomatch h) (fun _ => bv_nil ?_))
        refine bv_cons (sv_if (tv_val (ev_isi (r := true) T.isinstance T.list boot_list (ev_var 1 rfl) rfl (by decide +kernel))) (fun _ => ?_) (fun h => nomatch h))
        refine bv_cons (sv_if (PW.pt (wv_or (tv_not (tv_val (ev_isi (r := true) T.isinstance T.list boot_list (ev_var 0 rfl) rfl (by decide +kernel)))) (fun h => (wv_one_or (tv_cmpR op_ne (ev_lenL T.len (ev_var 0 rfl)) (ev_lenL T.len (ev_var 1 rfl)) rs_neI (nomark _)))))) (fun h => ?_) (fun h => bv_nil ?_))
        · rw [decide_eq_true rfl] at h
          cases h
        · refine bv_one (sv_ret (ev_all (bs := (List.range (rgD 0 ((ds.length : Int)).toNat).length).map fun _ => true) rfl T.all (ev_to (ev_lc (own := [("k", 2)]) (g := gName 2) rfl sc_same.nd (iv_range1 T.range (ev_lenL T.len (ev_var 1 rfl)) (by omega)) (blkOk_by (N := ["actual", "due", "k"]) (sc := defScope s_same) (by decide +kernel)) (fun _ _ _ _ _ => pg_name (i := 2) sc_same.nd rfl (Or.inl rfl)) (fun _ => dB true) (fun _ => M') rfl (fun _ _ h => h) (by rw [rgD_len]; exact Nat.le_trans (by omega : _ ≤ 1000000) (by decide)) (fun i d h => ?_)) (by rw [List.map_map] <;> rfl))) ⟨by rw [all_true], Mle.refl _⟩)
          obtain ⟨hi, rfl⟩ := rgD_get h
          refine ⟨_, tgb_name, fun p acc hp s H C cl fp => ?_⟩
          have hi2 : i < ds.length := by omega
          have hg : ds[i]? = some ds[i] := List.getElem?_eq_getElem hi2
          exact ev_call ih hr0 (av_cons (ev_ixL (ev_var 0 rfl) (ev_var 2 rfl) (atI_nat hg (by omega))) (av_cons (ev_ixL (ev_var 1 rfl) (ev_var 2 rfl) (atI_nat hg (by omega))) av_nil)) ⟨ds[i], rfl, hd _ (List.getElem_mem hi2), rfl, rfl⟩
      | val v => exact same_val T c_is_integer (hr.mono (by omega)) ok
end
def Pool.tone1 (p : Pool) : Int × Pool := if ((p.take 15).2.take 12).1 = 0 then ((((p.take 15).2.take 12).2.take 101).1 - 50, (((p.take 15).2.take 12).2.take 101).2) else ((p.take 15).1 - 7, ((p.take 15).2.take 12).2)
def Pool.tone (p : Pool) : Int × Int × Pool := (p.tone1.1, (p.tone1.2.take 7).1 - 4 * p.tone1.1 / 7, (p.tone1.2.take 7).2)
theorem Pool.Ok.tone1 {p : Pool} (ok : p.Ok) : p.tone1.2.Ok := by
  unfold Pool.tone1
  split
  · exact ((ok.take _).take _).take _
  · exact (ok.take _).take _
theorem Pool.Ok.tone {p : Pool} (ok : p.Ok) : p.tone.2.2.Ok := ok.tone1.take _
theorem Pool.tone_bd (p : Pool) : (-50 ≤ p.tone.1 ∧ p.tone.1 ≤ 50) ∧ -100 ≤ p.tone.2.1 ∧ p.tone.2.1 ≤ 100 := by
  have h1 : -50 ≤ p.tone1.1 ∧ p.tone1.1 ≤ 50 := by
    unfold Pool.tone1
    have a1 := p.take_lo (many := 15) (by decide)
    have a2 := p.take_hi (many := 15) (by decide)
    have b1 := ((p.take 15).2.take 12).2.take_lo (many := 101) (by decide)
    have b2 := ((p.take 15).2.take 12).2.take_hi (many := 101) (by decide)
    split
    · exact ⟨by show -50 ≤ _ - 50; omega, by show _ - 50 ≤ (50 : Int); omega⟩
    · exact ⟨by show -50 ≤ _ - 7; omega, by show _ - 7 ≤ (50 : Int); omega⟩
  have c1 := p.tone1.2.take_lo (many := 7) (by decide)
  have c2 := p.tone1.2.take_hi (many := 7) (by decide)
  refine ⟨h1, ?_, ?_⟩
  · show -100 ≤ (p.tone1.2.take 7).1 - 4 * p.tone1.1 / 7
    omega
  · show (p.tone1.2.take 7).1 - 4 * p.tone1.1 / 7 ≤ 100
    omega
def PrTone (ds : List D) (M : Mem) (d : D) (M' : Mem) : Prop := ∃ a M0 p, ds = [dP a] ∧ M = Mem.set M0 a (Pool.mo p) ∧ p.Ok ∧ d = .tup [dI p.tone.1, dI p.tone.2.1] ∧ M' = M0.set a p.tone.2.2.mo
section
variable {P : Program} {w : World} {K : PySem.W.Frag} {mg : Str → Option Value} {base : Heap} {f : Addr} {fd : FuncData}
theorem c_tone (F : Fun K "_law_tone" "_law_tone" s_tone f fd) (hm : mg "_law_tone" = some (.ref f)) (T : Bt mg) (c_take : Cal P w K mg base 2 "_law_take" (spD K PrTake)) : Cal P w K mg base 3 "_law_tone" (spD K PrTone) := by
  refine cal_of F sc_tone hm (fun _ _ _ _ _ _ us hl => match us, hl with | [_], _ => rfl) (fun ds M d M' h => ?_) fun cdv A outer s H E ds M d M' hr h => ?_
  · obtain ⟨a, M0, p, rfl, _⟩ := h
    rfl
  · obtain ⟨a, M0, p, rfl, rfl, ok, rfl, rfl⟩ := h
    show BV _ _ [some (dP a), none] _ _
    have rest : ∀ g q, p.tone1 = (g, q) → q.Ok → BV (cxOf CX0 P w K mg base ["pool", "fifths"] "_law_tone" (defScope s_tone) f cdv A outer s H E).nox ((defBody s_tone).drop 2) [some (dP a), some (dI g)] (M0.set a q.mo) (Fin (.tup [dI p.tone.1, dI p.tone.2.1]) (M0.set a p.tone.2.2.mo)) := fun g q e okq => by
      have e1 : p.tone = (g, (q.take 7).1 - 4 * g / 7, (q.take 7).2) := by unfold Pool.tone; rw [e]
      rw [e1]
      exact bv_one (sv_ret (ev_tup (av_cons (ev_var 1 rfl) (av_cons (ev_op op_sub (ev_call c_take (hr.mono (by decide)) (av_cons (ev_var 0 rfl) (av_cons ev_int av_nil)) ⟨a, M0, q, 7, rfl, rfl, okq, by decide, by decide, rfl, rfl⟩) (ev_intI T.int (ev_op op_fdiv (ev_op op_mul ev_int (ev_var 1 rfl) (rs_I (cm_l (by decide) (by decide)))) ev_int (rs_I ⟨by decide, by decide⟩))) rs_I0) av_nil))) ⟨rfl, Mle.refl _⟩)
    refine bv_cons (sv_set 1 sc_tone.nd (ev_op op_sub (ev_call c_take (hr.mono (by decide)) (av_cons (ev_var 0 rfl) (av_cons ev_int av_nil)) ⟨a, M0, p, 15, rfl, rfl, ok, by decide, by decide, rfl, rfl⟩) ev_int rs_I0) ?_)
    refine bv_cons (sv_if (tv_cmpR op_eq (ev_call c_take (hr.mono (by decide)) (av_cons (ev_var 0 rfl) (av_cons ev_int av_nil)) ⟨a, M0, (p.take 15).2, 12, rfl, rfl, ok.take _, by decide, by decide, rfl, rfl⟩) ev_int rs_eqI (nomark _)) (fun h => ?_) (fun h => ?_))
    · exact bv_one (sv_set 1 sc_tone.nd (ev_op op_sub (ev_call c_take (hr.mono (by decide)) (av_cons (ev_var 0 rfl) (av_cons ev_int av_nil)) ⟨a, M0, ((p.take 15).2.take 12).2, 101, rfl, rfl, (ok.take _).take _, by decide, by decide, rfl, rfl⟩) ev_int rs_I0) (rest _ _ (if_pos (of_decide_eq_true h)) (((ok.take _).take _).take _)))
    · exact bv_nil (rest _ _ (if_neg (of_decide_eq_false h)) ((ok.take _).take _))
end
/-- left, found: after i turns -/
def Pool.ordSt (p : Pool) (many : Nat) : Nat → List Int × List Int × Pool
  | 0 => ([], (List.range many).map fun i => ((i : Nat) : Int), p)
  | i + 1 => ((p.ordSt many i).1 ++ [(p.ordSt many i).2.1.getD ((p.ordSt many i).2.2.take (p.ordSt many i).2.1.length).1.toNat 0], (p.ordSt many i).2.1.eraseIdx ((p.ordSt many i).2.2.take (p.ordSt many i).2.1.length).1.toNat, ((p.ordSt many i).2.2.take (p.ordSt many i).2.1.length).2)
theorem Pool.ordSt_ok {p : Pool} (ok : p.Ok) (many : Nat) : ∀ i, i ≤ many → (p.ordSt many i).2.2.Ok ∧ (p.ordSt many i).2.1.length = many - i ∧ (p.ordSt many i).1.length = i ∧ (∀ k ∈ (p.ordSt many i).2.1, 0 ≤ k ∧ k < many) ∧ ∀ k ∈ (p.ordSt many i).1, 0 ≤ k ∧ k < many
  | 0, _ => ⟨ok, by unfold Pool.ordSt; simp, rfl, fun k hk => by
      unfold Pool.ordSt at hk
      obtain ⟨j, hj, rfl⟩ := List.mem_map.mp hk
      have := List.mem_range.mp hj
      omega, fun k hk => by cases hk⟩
  | i + 1, hi => by
    obtain ⟨h1, h2, h3, h4, h5⟩ := Pool.ordSt_ok ok many i (by omega)
    have hpos : (0 : Int) < (p.ordSt many i).2.1.length := by omega
    have t1 := (p.ordSt many i).2.2.take_lo hpos
    have t2 := (p.ordSt many i).2.2.take_hi hpos
    have hlt : ((p.ordSt many i).2.2.take (p.ordSt many i).2.1.length).1.toNat < (p.ordSt many i).2.1.length := by omega
    refine ⟨h1.take _, ?_, ?_, fun k hk => ?_, fun k hk => ?_⟩
    · show ((p.ordSt many i).2.1.eraseIdx _).length = _
      rw [List.length_eraseIdx_of_lt hlt, h2]
      omega
    · show ((p.ordSt many i).1 ++ [_]).length = _
      rw [List.length_append, h3]
      rfl
    · exact h4 k (List.mem_of_mem_eraseIdx hk)
    · rcases List.mem_append.mp hk with hk | hk
      · exact h5 k hk
      · rw [List.mem_singleton.mp hk, List.getD_eq_getElem?_getD, List.getElem?_eq_getElem hlt]
        exact h4 _ (List.getElem_mem hlt)
def Pool.order (p : Pool) (many : Int) : List Int × Pool := ((p.ordSt many.toNat many.toNat).1, (p.ordSt many.toNat many.toNat).2.2)
theorem Pool.Ok.order {p : Pool} (ok : p.Ok) (many : Int) : (p.order many).2.Ok := (Pool.ordSt_ok ok _ _ (Nat.le_refl _)).1
theorem Pool.order_mem {p : Pool} (ok : p.Ok) {many k : Int} (h : k ∈ (p.order many).1) : 0 ≤ k ∧ k < many := by
  have := (Pool.ordSt_ok ok _ _ (Nat.le_refl _)).2.2.2.2 k h
  omega
theorem Pool.order_len {p : Pool} (ok : p.Ok) (many : Int) : (p.order many).1.length = many.toNat := (Pool.ordSt_ok ok _ _ (Nat.le_refl _)).2.2.1
def PrOrder (ds : List D) (M : Mem) (d : D) (M' : Mem) : Prop := ∃ a M0 p many, ds = [dP a, dI many] ∧ M = Mem.set M0 a (Pool.mo p) ∧ p.Ok ∧ 0 ≤ many ∧ many ≤ 100000 ∧ d = .tup ((p.order many).1.map dI) ∧ M' = M0.set a (p.order many).2.mo
theorem map_erase {α β : Type} (g : α → β) : ∀ (xs : List α) (i : Nat), (xs.map g).eraseIdx i = (xs.eraseIdx i).map g
  | [], _ => rfl
  | _ :: _, 0 => rfl
  | x :: xs, i + 1 => congrArg (g x :: ·) (map_erase g xs i)
section
variable {P : Program} {w : World} {K : PySem.W.Frag} {mg : Str → Option Value} {base : Heap} {f : Addr} {fd : FuncData}
theorem c_order (F : Fun K "_law_order" "_law_order" s_order f fd) (hm : mg "_law_order" = some (.ref f)) (T : Bt mg) (c_take : Cal P w K mg base 2 "_law_take" (spD K PrTake)) : Cal P w K mg base 3 "_law_order" (spD K PrOrder) := by
  refine cal_of F sc_order hm (fun _ _ _ _ _ _ us hl => match us, hl with | [_, _], _ => rfl) (fun ds M d M' h => ?_) fun cdv A outer s H E ds M d M' hr h => ?_
  · obtain ⟨a, M0, p, many, rfl, _⟩ := h
    rfl
  · obtain ⟨a, M0, p, many, rfl, rfl, ok, h0, h1, rfl, rfl⟩ := h
    show BV _ _ [some (dP a), some (dI many), none, none, none] _ _
    refine bv_cons (sv_setN 2 sc_order.nd (en_listRg rfl T.list T.range (ev_var 1 rfl) ⟨h0, by omega⟩) (fun l hl => ?_))
    have hla : l ≠ a := fun q => by
      rw [q, Mem.set_same] at hl
      cases hl
    have hml : ∀ o, (M0.set a o) l = none := fun o => by
      rw [Mem.set_ne hla] at hl ⊢
      exact hl
    refine bv_cons (sv_set 3 sc_order.nd (ev_tup av_nil) ?_)
    refine bv_cons (sv_for rfl (iv_range1 T.range (ev_var 1 rfl) (by omega)) (pg_name (i := 4) sc_order.nd rfl (.inl rfl)) (fun i ρ M => ∃ x, ρ = [some (dP a), some (dI many), some (dP l), some (.tup ((p.ordSt many.toNat i).1.map dI)), x] ∧ M = (M0.set a (p.ordSt many.toNat i).2.2.mo).set l (.lst ((p.ordSt many.toNat i).2.1.map dI)))
      ⟨none, rfl, ?_⟩ (fun i d ρ' M' hd hi => ?_) (fun ρ' M' hi => ?_))
    · show _ = (M0.set a p.mo).set l (.lst (((List.range many.toNat).map fun i => ((i : Nat) : Int)).map dI))
      rw [List.map_map]
      unfold rgD
      refine congrArg _ (congrArg MO.lst (List.map_congr_left fun i _ => ?_))
      show dI (0 + (i : Int)) = dI (i : Int)
      rw [Int.zero_add]
    · obtain ⟨hi2, rfl⟩ := rgD_get hd
      obtain ⟨x, rfl, rfl⟩ := hi
      obtain ⟨k1, k2, k3, k4, k5⟩ := Pool.ordSt_ok ok many.toNat i (by omega)
      have hpos : (0 : Int) < (p.ordSt many.toNat i).2.1.length := by omega
      have t1 := (p.ordSt many.toNat i).2.2.take_lo hpos
      have t2 := (p.ordSt many.toNat i).2.2.take_hi hpos
      have hlt : ((p.ordSt many.toNat i).2.2.take (p.ordSt many.toNat i).2.1.length).1.toNat < (p.ordSt many.toNat i).2.1.length := by omega
      refine ⟨_, tg_name, ?_⟩
      refine bv_one (sv_set 3 sc_order.nd (ev_catT (ev_var 3 rfl) (ev_tup (av_cons (ev_pop (i := ((p.ordSt many.toNat i).2.2.take (p.ordSt many.toNat i).2.1.length).1.toNat) (d := dI ((p.ordSt many.toNat i).2.1.getD ((p.ordSt many.toNat i).2.2.take (p.ordSt many.toNat i).2.1.length).1.toNat 0)) (ds := (p.ordSt many.toNat i).2.1.map dI) (ev_var 2 rfl)
        (ev_to (ev_call c_take (hr.mono (by decide)) (av_cons (ev_var 0 rfl) (av_cons (ev_lenM T.len (ev_var 2 rfl) Mem.set_same) av_nil)) ⟨a, M0.set l (.lst ((p.ordSt many.toNat i).2.1.map dI)), (p.ordSt many.toNat i).2.2, (p.ordSt many.toNat i).2.1.length, by rw [List.length_map], Mem.set_comm hla.symm, k1, hpos, by omega, rfl, rfl⟩) ?_)
        ⟨_, Mem.set_same⟩ (by rw [Mem.set_ne hla, Mem.set_same]) ?_ (hz := ?_)) av_nil)) ?_) ?_)
      · rw [Int.toNat_of_nonneg t1]
      · rw [List.getElem?_map, List.getElem?_eq_getElem hlt, List.getD_eq_getElem?_getD, List.getElem?_eq_getElem hlt]
        rfl
      · rw [List.length_map]
        omega
      · rw [List.length_map, k3]
        exact Nat.le_trans (show i + 1 ≤ 1000000 by omega) (by decide)
      · refine ⟨some (dI (0 + (i : Int))), ?_, ?_⟩
        · have e : (p.ordSt many.toNat (i + 1)).1.map dI = (p.ordSt many.toNat i).1.map dI ++ [dI ((p.ordSt many.toNat i).2.1.getD ((p.ordSt many.toNat i).2.2.take (p.ordSt many.toNat i).2.1.length).1.toNat 0)] := List.map_append
          rw [e]
          rfl
        · rw [Mem.set_comm hla, Mem.set_set, map_erase]
          rfl
    · obtain ⟨x, rfl, rfl⟩ := hi
      rw [rgD_len]
      exact bv_one (sv_ret (ev_var 3 rfl) ⟨rfl, mle_new (Mle.refl _) (hml _)⟩)
end
def edges : List Int := [1000, -1000, 999, -999, 0, 5, 6, -1, -2, 12, -7]
def Pool.far (p : Pool) : Int × Int × Pool :=
  if (p.take 4).1 = 0 then (((p.take 4).2.take 2001).1 - 1000, (((p.take 4).2.take 2001).2.take 2001).1 - 1000, (((p.take 4).2.take 2001).2.take 2001).2)
  else if (p.take 4).1 = 1 then (edges.getD ((p.take 4).2.take 11).1.toNat 0, edges.getD (((p.take 4).2.take 11).2.take 11).1.toNat 0, (((p.take 4).2.take 11).2.take 11).2)
  else (p.take 4).2.tone
theorem Pool.Ok.far {p : Pool} (ok : p.Ok) : p.far.2.2.Ok := by
  unfold Pool.far
  split
  · exact ((ok.take _).take _).take _
  · split
    · exact ((ok.take _).take _).take _
    · exact (ok.take _).tone
theorem edges_bd : ∀ n, n < 11 → -1000 ≤ edges.getD n 0 ∧ edges.getD n 0 ≤ 1000 := by decide
theorem Pool.far_bd (p : Pool) : (-1000 ≤ p.far.1 ∧ p.far.1 ≤ 1000) ∧ -1000 ≤ p.far.2.1 ∧ p.far.2.1 ≤ 1000 := by
  unfold Pool.far
  split
  · have a1 := (p.take 4).2.take_lo (many := 2001) (by decide)
    have a2 := (p.take 4).2.take_hi (many := 2001) (by decide)
    have b1 := ((p.take 4).2.take 2001).2.take_lo (many := 2001) (by decide)
    have b2 := ((p.take 4).2.take 2001).2.take_hi (many := 2001) (by decide)
    refine ⟨⟨?_, ?_⟩, ?_, ?_⟩ <;> simp only <;> omega
  · split
    · have a1 := (p.take 4).2.take_lo (many := 11) (by decide)
      have a2 := (p.take 4).2.take_hi (many := 11) (by decide)
      have b1 := ((p.take 4).2.take 11).2.take_lo (many := 11) (by decide)
      have b2 := ((p.take 4).2.take 11).2.take_hi (many := 11) (by decide)
      exact ⟨edges_bd _ (by omega), edges_bd _ (by omega)⟩
    · have := (p.take 4).2.tone_bd
      omega
def PrFar (ds : List D) (M : Mem) (d : D) (M' : Mem) : Prop := ∃ a M0 p, ds = [dP a] ∧ M = Mem.set M0 a (Pool.mo p) ∧ p.Ok ∧ d = .tup [dI p.far.1, dI p.far.2.1] ∧ M' = M0.set a p.far.2.2.mo
section
variable {P : Program} {w : World} {K : PySem.W.Frag} {mg : Str → Option Value} {base : Heap} {f : Addr} {fd : FuncData}
theorem edges_get (p : Pool) : (edges.map dI)[(p.take ((edges.map dI).length : Nat)).1.toNat]? = some (dI (edges.getD (p.take 11).1.toNat 0)) := by
  have a1 := p.take_lo (many := 11) (by decide)
  have a2 := p.take_hi (many := 11) (by decide)
  show (edges.map dI)[(p.take 11).1.toNat]? = _
  have h : (p.take 11).1.toNat < edges.length := by show _ < 11; omega
  rw [List.getElem?_map, List.getElem?_eq_getElem h, List.getD_eq_getElem?_getD, List.getElem?_eq_getElem h]
  rfl
theorem c_far_pair (F : Fun K "_law_far_pair" "_law_far_pair" s_far_pair f fd) (hm : mg "_law_far_pair" = some (.ref f)) (c_take : Cal P w K mg base 2 "_law_take" (spD K PrTake)) (c_pick : Cal P w K mg base 3 "_law_pick" (spD K PrPick)) (c_tone : Cal P w K mg base 3 "_law_tone" (spD K PrTone)) : Cal P w K mg base 4 "_law_far_pair" (spD K PrFar) := by
  refine cal_of F sc_far_pair hm (fun _ _ _ _ _ _ us hl => match us, hl with | [_], _ => rfl) (fun ds M d M' h => ?_) fun cdv A outer s H E ds M d M' hr h => ?_
  · obtain ⟨a, M0, p, rfl, _⟩ := h
    rfl
  · obtain ⟨a, M0, p, rfl, rfl, ok, rfl, rfl⟩ := h
    show BV _ _ [some (dP a), none, none] _ _
    refine bv_cons (sv_set 1 sc_far_pair.nd (ev_call c_take (hr.mono (by decide)) (av_cons (ev_var 0 rfl) (av_cons ev_int av_nil)) ⟨a, M0, p, 4, rfl, rfl, ok, by decide, by decide, rfl, rfl⟩) ?_)
    refine bv_cons (sv_if (tv_cmpR op_eq (ev_var 1 rfl) ev_int rs_eqI (nomark _)) (fun h => ?_) (fun h => ?_))
    · have e : p.far = _ := if_pos (of_decide_eq_true h)
      rw [e]
      exact bv_one (sv_ret (ev_tup (av_cons (ev_op op_sub (ev_call c_take (hr.mono (by decide)) (av_cons (ev_var 0 rfl) (av_cons ev_int av_nil)) ⟨a, M0, _, 2001, rfl, rfl, ok.take _, by decide, by decide, rfl, rfl⟩) ev_int rs_I0) (av_cons (ev_op op_sub (ev_call c_take (hr.mono (by decide)) (av_cons (ev_var 0 rfl) (av_cons ev_int av_nil)) ⟨a, M0, _, 2001, rfl, rfl, (ok.take _).take _, by decide, by decide, rfl, rfl⟩) ev_int rs_I0) av_nil))) ⟨rfl, Mle.refl _⟩)
    · refine bv_nil ?_
      refine bv_cons (sv_if (tv_cmpR op_eq (ev_var 1 rfl) ev_int rs_eqI (nomark _)) (fun h2 => ?_) (fun h2 => ?_))
      · have e : p.far = _ := (if_neg (of_decide_eq_false h)).trans (if_pos (of_decide_eq_true h2))
        rw [e]
        refine bv_cons (sv_set 2 sc_far_pair.nd (d := .lst (edges.map dI)) (ev_lst (av_cons ev_int (av_cons (ev_un un_neg ev_int ru_neg) (av_cons ev_int (av_cons (ev_un un_neg ev_int ru_neg) (av_cons ev_int (av_cons ev_int (av_cons ev_int (av_cons (ev_un un_neg ev_int ru_neg) (av_cons (ev_un un_neg ev_int ru_neg) (av_cons ev_int (av_cons (ev_un un_neg ev_int ru_neg) av_nil)))))))))))) ?_)
        exact bv_one (sv_ret (ev_tup (av_cons (ev_call c_pick (hr.mono (by decide)) (av_cons (ev_var 0 rfl) (av_cons (ev_var 2 rfl) av_nil)) ⟨a, M0, _, true, edges.map dI, rfl, rfl, ok.take _, by decide, by decide, edges_get _, rfl⟩) (av_cons (ev_call c_pick (hr.mono (by decide)) (av_cons (ev_var 0 rfl) (av_cons (ev_var 2 rfl) av_nil)) ⟨a, M0, _, true, edges.map dI, rfl, rfl, (ok.take _).take _, by decide, by decide, edges_get _, rfl⟩) av_nil))) ⟨rfl, Mle.refl _⟩)
      · have e : p.far = _ := (if_neg (of_decide_eq_false h)).trans (if_neg (of_decide_eq_false h2))
        rw [e]
        exact bv_nil (bv_one (sv_ret (ev_call c_tone (hr.mono (by decide)) (av_cons (ev_var 0 rfl) av_nil) ⟨a, M0, _, rfl, rfl, ok.take _, rfl, rfl⟩) ⟨rfl, Mle.refl _⟩))
end
/-! ### tones -/
def pr (b : Bool) (f o : Int) : D := sq b [dI f, dI o]
def PrSteps (ds : List D) (M : Mem) (d : D) (M' : Mem) : Prop := ∃ b f o, ds = [pr b f o] ∧ d = dI (4 * f + 7 * o) ∧ M' = M
def PrHeight (ds : List D) (M : Mem) (d : D) (M' : Mem) : Prop := ∃ b f o, ds = [pr b f o] ∧ d = dI (7 * f + 12 * o) ∧ M' = M
def PrAdded (ds : List D) (M : Mem) (d : D) (M' : Mem) : Prop := ∃ b f o b2 g q, ds = [pr b f o, pr b2 g q] ∧ d = .tup [dI (f + g), dI (o + q)] ∧ M' = M
def PrBetween (ds : List D) (M : Mem) (d : D) (M' : Mem) : Prop := ∃ b f o b2 g q, ds = [pr b f o, pr b2 g q] ∧ d = .tup [dI (g - f), dI (q - o)] ∧ M' = M
def PrOpposite (ds : List D) (M : Mem) (d : D) (M' : Mem) : Prop := ∃ b f o, ds = [pr b f o] ∧ d = .tup [dI (-f), dI (-o)] ∧ M' = M
def PrInverted (ds : List D) (M : Mem) (d : D) (M' : Mem) : Prop := ∃ b f o, ds = [pr b f o] ∧ d = .tup [dI (-f), dI (1 - o)] ∧ M' = M
def PrSimple (ds : List D) (M : Mem) (d : D) (M' : Mem) : Prop := ∃ b f o, ds = [pr b f o] ∧ d = .tup [dI f, dI (((4 * f + 7 * o) % 7 - 4 * f) / 7)] ∧ M' = M
def PrWith (ds : List D) (M : Mem) (d : D) (M' : Mem) : Prop := ∃ f n : Int, ds = [dI f, dI n] ∧ d = .tup [dI f, dI ((n - 4 * f) / 7)] ∧ M' = M
section
variable {P : Program} {w : World} {K : PySem.W.Frag} {mg : Str → Option Value} {base : Heap} {f : Addr} {fd : FuncData}
theorem c_p_steps (F : Fun K "steps" "steps" s_p_steps f fd) (hm : mg "steps" = some (.ref f)) : Cal P w K mg base 1 "steps" (spD K PrSteps) := by
  refine cal_of F sc_p_steps hm (fun _ _ _ _ _ _ us hl => match us, hl with | [_], _ => rfl) (fun ds M d M' h => ?_) fun cdv A outer s H E ds M d M' hr h => ?_
  · obtain ⟨b, x, o, rfl, _⟩ := h
    rfl
  · obtain ⟨b, x, o, rfl, rfl, rfl⟩ := h
    cases b with
    | true =>
      show BV _ _ [some (.lst [dI x, dI o]), none, none] _ _
      refine bv_cons (sv_asg (ev_var 0 rfl) (pg_unl rfl (pgs_cons (pg_name (i := 1) sc_p_steps.nd rfl (.inl rfl)) (pgs_cons (pg_name (i := 2) sc_p_steps.nd rfl (.inl rfl)) pgs_nil))) (tg_lst (tg_cons tg_name (tg_cons tg_name tg_nil))) ?_)
      exact bv_one (sv_ret (ev_op op_add (ev_op op_mul ev_int (ev_var 1 rfl) (rs_I (cm_l (by decide) (by decide)))) (ev_op op_mul ev_int (ev_var 2 rfl) (rs_I (cm_l (by decide) (by decide)))) rs_I0) ⟨rfl, Mle.refl _⟩)
    | false =>
      show BV _ _ [some (.tup [dI x, dI o]), none, none] _ _
      refine bv_cons (sv_asg (ev_var 0 rfl) (pg_tup rfl (pgs_cons (pg_name (i := 1) sc_p_steps.nd rfl (.inl rfl)) (pgs_cons (pg_name (i := 2) sc_p_steps.nd rfl (.inl rfl)) pgs_nil))) (tg_tup (tg_cons tg_name (tg_cons tg_name tg_nil))) ?_)
      exact bv_one (sv_ret (ev_op op_add (ev_op op_mul ev_int (ev_var 1 rfl) (rs_I (cm_l (by decide) (by decide)))) (ev_op op_mul ev_int (ev_var 2 rfl) (rs_I (cm_l (by decide) (by decide)))) rs_I0) ⟨rfl, Mle.refl _⟩)
theorem c_p_height (F : Fun K "height" "height" s_p_height f fd) (hm : mg "height" = some (.ref f)) : Cal P w K mg base 1 "height" (spD K PrHeight) := by
  refine cal_of F sc_p_height hm (fun _ _ _ _ _ _ us hl => match us, hl with | [_], _ => rfl) (fun ds M d M' h => ?_) fun cdv A outer s H E ds M d M' hr h => ?_
  · obtain ⟨b, x, o, rfl, _⟩ := h
    rfl
  · obtain ⟨b, x, o, rfl, rfl, rfl⟩ := h
    cases b with
    | true =>
      show BV _ _ [some (.lst [dI x, dI o]), none, none] _ _
      refine bv_cons (sv_asg (ev_var 0 rfl) (pg_unl rfl (pgs_cons (pg_name (i := 1) sc_p_height.nd rfl (.inl rfl)) (pgs_cons (pg_name (i := 2) sc_p_height.nd rfl (.inl rfl)) pgs_nil))) (tg_lst (tg_cons tg_name (tg_cons tg_name tg_nil))) ?_)
      exact bv_one (sv_ret (ev_op op_add (ev_op op_mul ev_int (ev_var 1 rfl) (rs_I (cm_l (by decide) (by decide)))) (ev_op op_mul ev_int (ev_var 2 rfl) (rs_I (cm_l (by decide) (by decide)))) rs_I0) ⟨rfl, Mle.refl _⟩)
    | false =>
      show BV _ _ [some (.tup [dI x, dI o]), none, none] _ _
      refine bv_cons (sv_asg (ev_var 0 rfl) (pg_tup rfl (pgs_cons (pg_name (i := 1) sc_p_height.nd rfl (.inl rfl)) (pgs_cons (pg_name (i := 2) sc_p_height.nd rfl (.inl rfl)) pgs_nil))) (tg_tup (tg_cons tg_name (tg_cons tg_name tg_nil))) ?_)
      exact bv_one (sv_ret (ev_op op_add (ev_op op_mul ev_int (ev_var 1 rfl) (rs_I (cm_l (by decide) (by decide)))) (ev_op op_mul ev_int (ev_var 2 rfl) (rs_I (cm_l (by decide) (by decide)))) rs_I0) ⟨rfl, Mle.refl _⟩)
theorem c_p_added (F : Fun K "added" "added" s_p_added f fd) (hm : mg "added" = some (.ref f)) : Cal P w K mg base 1 "added" (spD K PrAdded) := by
  refine cal_of F sc_p_added hm (fun _ _ _ _ _ _ us hl => match us, hl with | [_, _], _ => rfl) (fun ds M d M' h => ?_) fun cdv A outer s H E ds M d M' hr h => ?_
  · obtain ⟨b, x, o, b2, g, q, rfl, _⟩ := h
    rfl
  · obtain ⟨b, x, o, b2, g, q, rfl, rfl, rfl⟩ := h
    show BV _ _ [some (sq b [dI x, dI o]), some (sq b2 [dI g, dI q])] _ _
    exact bv_one (sv_ret (ev_tup (av_cons (ev_op op_add (ev_ixQ (ev_var 0 rfl) ev_int rfl) (ev_ixQ (ev_var 1 rfl) ev_int rfl) rs_I0) (av_cons (ev_op op_add (ev_ixQ (ev_var 0 rfl) ev_int rfl) (ev_ixQ (ev_var 1 rfl) ev_int rfl) rs_I0) av_nil))) ⟨rfl, Mle.refl _⟩)
theorem c_p_between (F : Fun K "between" "between" s_p_between f fd) (hm : mg "between" = some (.ref f)) : Cal P w K mg base 1 "between" (spD K PrBetween) := by
  refine cal_of F sc_p_between hm (fun _ _ _ _ _ _ us hl => match us, hl with | [_, _], _ => rfl) (fun ds M d M' h => ?_) fun cdv A outer s H E ds M d M' hr h => ?_
  · obtain ⟨b, x, o, b2, g, q, rfl, _⟩ := h
    rfl
  · obtain ⟨b, x, o, b2, g, q, rfl, rfl, rfl⟩ := h
    show BV _ _ [some (sq b [dI x, dI o]), some (sq b2 [dI g, dI q])] _ _
    exact bv_one (sv_ret (ev_tup (av_cons (ev_op op_sub (ev_ixQ (ev_var 1 rfl) ev_int rfl) (ev_ixQ (ev_var 0 rfl) ev_int rfl) rs_I0) (av_cons (ev_op op_sub (ev_ixQ (ev_var 1 rfl) ev_int rfl) (ev_ixQ (ev_var 0 rfl) ev_int rfl) rs_I0) av_nil))) ⟨rfl, Mle.refl _⟩)
theorem c_p_opposite (F : Fun K "opposite" "opposite" s_p_opposite f fd) (hm : mg "opposite" = some (.ref f)) : Cal P w K mg base 1 "opposite" (spD K PrOpposite) := by
  refine cal_of F sc_p_opposite hm (fun _ _ _ _ _ _ us hl => match us, hl with | [_], _ => rfl) (fun ds M d M' h => ?_) fun cdv A outer s H E ds M d M' hr h => ?_
  · obtain ⟨b, x, o, rfl, _⟩ := h
    rfl
  · obtain ⟨b, x, o, rfl, rfl, rfl⟩ := h
    show BV _ _ [some (sq b [dI x, dI o])] _ _
    exact bv_one (sv_ret (ev_tup (av_cons (ev_un un_neg (ev_ixQ (ev_var 0 rfl) ev_int rfl) ru_neg) (av_cons (ev_un un_neg (ev_ixQ (ev_var 0 rfl) ev_int rfl) ru_neg) av_nil))) ⟨rfl, Mle.refl _⟩)
theorem c_p_inverted (F : Fun K "inverted" "inverted" s_p_inverted f fd) (hm : mg "inverted" = some (.ref f)) : Cal P w K mg base 1 "inverted" (spD K PrInverted) := by
  refine cal_of F sc_p_inverted hm (fun _ _ _ _ _ _ us hl => match us, hl with | [_], _ => rfl) (fun ds M d M' h => ?_) fun cdv A outer s H E ds M d M' hr h => ?_
  · obtain ⟨b, x, o, rfl, _⟩ := h
    rfl
  · obtain ⟨b, x, o, rfl, rfl, rfl⟩ := h
    show BV _ _ [some (sq b [dI x, dI o])] _ _
    exact bv_one (sv_ret (ev_tup (av_cons (ev_un un_neg (ev_ixQ (ev_var 0 rfl) ev_int rfl) ru_neg) (av_cons (ev_op op_sub ev_int (ev_ixQ (ev_var 0 rfl) ev_int rfl) rs_I0) av_nil))) ⟨rfl, Mle.refl _⟩)
theorem c_p_with_steps (F : Fun K "with_steps" "with_steps" s_p_with_steps f fd) (hm : mg "with_steps" = some (.ref f)) : Cal P w K mg base 1 "with_steps" (spD K PrWith) := by
  refine cal_of F sc_p_with_steps hm (fun _ _ _ _ _ _ us hl => match us, hl with | [_, _], _ => rfl) (fun ds M d M' h => ?_) fun cdv A outer s H E ds M d M' hr h => ?_
  · obtain ⟨x, n, rfl, _⟩ := h
    rfl
  · obtain ⟨x, n, rfl, rfl, rfl⟩ := h
    show BV _ _ [some (dI x), some (dI n)] _ _
    exact bv_one (sv_ret (ev_tup (av_cons (ev_var 0 rfl) (av_cons (ev_op op_fdiv (ev_op op_sub (ev_var 1 rfl) (ev_op op_mul ev_int (ev_var 0 rfl) (rs_I (cm_l (by decide) (by decide)))) rs_I0) ev_int (rs_I ⟨by decide, by decide⟩)) av_nil))) ⟨rfl, Mle.refl _⟩)
theorem c_p_simple (F : Fun K "simple" "simple" s_p_simple f fd) (hm : mg "simple" = some (.ref f)) (c_p_steps : Cal P w K mg base 1 "steps" (spD K PrSteps)) (c_p_with_steps : Cal P w K mg base 1 "with_steps" (spD K PrWith)) : Cal P w K mg base 2 "simple" (spD K PrSimple) := by
  refine cal_of F sc_p_simple hm (fun _ _ _ _ _ _ us hl => match us, hl with | [_], _ => rfl) (fun ds M d M' h => ?_) fun cdv A outer s H E ds M d M' hr h => ?_
  · obtain ⟨b, x, o, rfl, _⟩ := h
    rfl
  · obtain ⟨b, x, o, rfl, rfl, rfl⟩ := h
    show BV _ _ [some (sq b [dI x, dI o])] _ _
    exact bv_one (sv_ret (ev_call c_p_with_steps (hr.mono (by decide)) (av_cons (ev_ixQ (ev_var 0 rfl) ev_int rfl) (av_cons (ev_op op_mod (ev_call c_p_steps (hr.mono (by decide)) (av_cons (ev_var 0 rfl) av_nil) ⟨b, x, o, rfl, rfl, rfl⟩) ev_int (rs_I (by decide))) av_nil)) ⟨_, _, rfl, rfl, rfl⟩) ⟨rfl, Mle.refl _⟩)
end
/-! ### the law's own sums -/
def dueT (k f o g q : Int) : D :=
  if k = 0 then .tup [dI (f + g), dI (o + q)] else if k = 1 then .tup [dI (g - f), dI (q - o)] else if k = 2 then .tup [dI (-f), dI (-o)] else if k = 3 then .tup [dI (-f), dI (1 - o)]
  else if k = 4 then .tup [dI f, dI (((4 * f + 7 * o) % 7 - 4 * f) / 7)] else if k = 5 then dI (4 * f + 7 * o) else dI (7 * f + 12 * o)
theorem dueT_ok (k f o g q : Int) : okD 1 (dueT k f o g q) := by
  have h2 : ∀ x y : Int, okD 1 (.tup [dI x, dI y]) := fun x y => by
    refine ⟨by show 2 ≤ 1000000; decide, fun d hd => ?_⟩
    rcases List.mem_cons.mp hd with rfl | hd
    · exact .inr (.inr (.inl ⟨_, rfl⟩))
    · rcases List.mem_cons.mp hd with rfl | hd
      · exact .inr (.inr (.inl ⟨_, rfl⟩))
      · cases hd
  unfold dueT
  repeat' split
  all_goals first | exact h2 _ _ | exact .inr (.inr (.inl ⟨_, rfl⟩))
def PrAsked (ds : List D) (M : Mem) (d : D) (M' : Mem) : Prop := ∃ k b f o b2 g q, ds = [dI k, pr b f o, pr b2 g q] ∧ d = dueT k f o g q ∧ M' = M
def PrLSimple (ds : List D) (M : Mem) (d : D) (M' : Mem) : Prop := ∃ f o : Int, ds = [.tup [dI f, dI o]] ∧ d = .tup [dI f, dI (((4 * f + 7 * o) % 7 - 4 * f) / 7)] ∧ M' = M
def PrDue (ds : List D) (M : Mem) (d : D) (M' : Mem) : Prop := ∃ k f o g q : Int, ds = [dI k, .tup [dI f, dI o], .tup [dI g, dI q]] ∧ (0 ≤ k ∧ k < 7) ∧ d = dueT k f o g q ∧ M' = M
def PrTrue (ds : List D) (M : Mem) (Φ : D → Mem → Prop) : Prop := ∃ a M0 p, ds = [dP a] ∧ M = Mem.set M0 a (Pool.mo p) ∧ p.Ok ∧ ∀ p' : Pool, p'.Ok → Φ (dB true) (M0.set a p'.mo)
section
variable {P : Program} {w : World} {K : PySem.W.Frag} {mg : Str → Option Value} {base : Heap} {f : Addr} {fd : FuncData}
theorem c_asked (F : Fun K "_law_asked" "_law_asked" s_asked f fd) (hm : mg "_law_asked" = some (.ref f)) (c_p_added : Cal P w K mg base 1 "added" (spD K PrAdded)) (c_p_between : Cal P w K mg base 1 "between" (spD K PrBetween)) (c_p_opposite : Cal P w K mg base 1 "opposite" (spD K PrOpposite))
    (c_p_inverted : Cal P w K mg base 1 "inverted" (spD K PrInverted)) (c_p_simple : Cal P w K mg base 2 "simple" (spD K PrSimple)) (c_p_steps : Cal P w K mg base 1 "steps" (spD K PrSteps)) (c_p_height : Cal P w K mg base 1 "height" (spD K PrHeight)) : Cal P w K mg base 3 "_law_asked" (spD K PrAsked) := by
  refine cal_of F sc_asked hm (fun _ _ _ _ _ _ us hl => match us, hl with | [_, _, _], _ => rfl) (fun ds M d M' h => ?_) fun cdv A outer s H E ds M d M' hr h => ?_
  · obtain ⟨k, b, x, o, b2, g, q, rfl, _⟩ := h
    rfl
  · obtain ⟨k, b, x, o, b2, g, q, rfl, rfl, rfl⟩ := h
    show BV _ _ [some (dI k), some (pr b x o), some (pr b2 g q)] _ _
    unfold dueT
    refine bv_cons (sv_if (tv_cmpR op_eq (ev_var 0 rfl) ev_int rs_eqI (nomark _)) (fun h => ?_) (fun h => bv_nil ?_))
    · rw [if_pos (of_decide_eq_true h)]
      exact bv_one (sv_ret (ev_call c_p_added (hr.mono (by decide)) (av_cons (ev_var 1 rfl) (av_cons (ev_var 2 rfl) av_nil)) ⟨b, x, o, b2, g, q, rfl, rfl, rfl⟩) ⟨rfl, Mle.refl _⟩)
    rw [if_neg (of_decide_eq_false h)]
    refine bv_cons (sv_if (tv_cmpR op_eq (ev_var 0 rfl) ev_int rs_eqI (nomark _)) (fun h => ?_) (fun h => bv_nil ?_))
    · rw [if_pos (of_decide_eq_true h)]
      exact bv_one (sv_ret (ev_call c_p_between (hr.mono (by decide)) (av_cons (ev_var 1 rfl) (av_cons (ev_var 2 rfl) av_nil)) ⟨b, x, o, b2, g, q, rfl, rfl, rfl⟩) ⟨rfl, Mle.refl _⟩)
    rw [if_neg (of_decide_eq_false h)]
    refine bv_cons (sv_if (tv_cmpR op_eq (ev_var 0 rfl) ev_int rs_eqI (nomark _)) (fun h => ?_) (fun h => bv_nil ?_))
    · rw [if_pos (of_decide_eq_true h)]
      exact bv_one (sv_ret (ev_call c_p_opposite (hr.mono (by decide)) (av_cons (ev_var 1 rfl) av_nil) ⟨b, x, o, rfl, rfl, rfl⟩) ⟨rfl, Mle.refl _⟩)
    rw [if_neg (of_decide_eq_false h)]
    refine bv_cons (sv_if (tv_cmpR op_eq (ev_var 0 rfl) ev_int rs_eqI (nomark _)) (fun h => ?_) (fun h => bv_nil ?_))
    · rw [if_pos (of_decide_eq_true h)]
      exact bv_one (sv_ret (ev_call c_p_inverted (hr.mono (by decide)) (av_cons (ev_var 1 rfl) av_nil) ⟨b, x, o, rfl, rfl, rfl⟩) ⟨rfl, Mle.refl _⟩)
    rw [if_neg (of_decide_eq_false h)]
    refine bv_cons (sv_if (tv_cmpR op_eq (ev_var 0 rfl) ev_int rs_eqI (nomark _)) (fun h => ?_) (fun h => bv_nil ?_))
    · rw [if_pos (of_decide_eq_true h)]
      exact bv_one (sv_ret (ev_call c_p_simple (hr.mono (by decide)) (av_cons (ev_var 1 rfl) av_nil) ⟨b, x, o, rfl, rfl, rfl⟩) ⟨rfl, Mle.refl _⟩)
    rw [if_neg (of_decide_eq_false h)]
    refine bv_cons (sv_if (tv_cmpR op_eq (ev_var 0 rfl) ev_int rs_eqI (nomark _)) (fun h => ?_) (fun h => bv_nil ?_))
    · rw [if_pos (of_decide_eq_true h)]
      exact bv_one (sv_ret (ev_call c_p_steps (hr.mono (by decide)) (av_cons (ev_var 1 rfl) av_nil) ⟨b, x, o, rfl, rfl, rfl⟩) ⟨rfl, Mle.refl _⟩)
    rw [if_neg (of_decide_eq_false h)]
    exact bv_one (sv_ret (ev_call c_p_height (hr.mono (by decide)) (av_cons (ev_var 1 rfl) av_nil) ⟨b, x, o, rfl, rfl, rfl⟩) ⟨rfl, Mle.refl _⟩)
theorem c_simple (F : Fun K "_law_simple" "_law_simple" s_simple f fd) (hm : mg "_law_simple" = some (.ref f)) (T : Bt mg) : Cal P w K mg base 1 "_law_simple" (spD K PrLSimple) := by
  refine cal_of F sc_simple hm (fun _ _ _ _ _ _ us hl => match us, hl with | [_], _ => rfl) (fun ds M d M' h => ?_) fun cdv A outer s H E ds M d M' hr h => ?_
  · obtain ⟨x, o, rfl, _⟩ := h
    rfl
  · obtain ⟨x, o, rfl, rfl, rfl⟩ := h
    show BV _ _ [some (.tup [dI x, dI o]), none, none] _ _
    refine bv_cons (sv_set 1 sc_simple.nd (ev_ixT (ev_var 0 rfl) ev_int rfl) ?_)
    refine bv_cons (sv_set 2 sc_simple.nd (ev_op op_add (ev_op op_mul ev_int (ev_ixT (ev_var 0 rfl) ev_int rfl) (rs_I (cm_l (by decide) (by decide)))) (ev_op op_mul ev_int (ev_var 1 rfl) (rs_I (cm_l (by decide) (by decide)))) rs_I0) ?_)
    have e : ((4 * x + 7 * o) % 7 - 4 * x) / 7 = o - (4 * x + 7 * o - (4 * x + 7 * o) % 7) / 7 := by omega
    rw [e]
    exact bv_one (sv_ret (ev_tup (av_cons (ev_ixT (ev_var 0 rfl) ev_int rfl) (av_cons (ev_op op_sub (ev_var 1 rfl) (ev_intI T.int (ev_op op_fdiv (ev_op op_sub (ev_var 2 rfl) (ev_op op_mod (ev_intI T.int (ev_var 2 rfl)) ev_int (rs_I (by decide))) rs_I0) ev_int (rs_I ⟨by decide, by decide⟩))) rs_I0) av_nil))) ⟨rfl, Mle.refl _⟩)
theorem c_due (F : Fun K "_law_due" "_law_due" s_due f fd) (hm : mg "_law_due" = some (.ref f)) (c_simple : Cal P w K mg base 1 "_law_simple" (spD K PrLSimple)) : Cal P w K mg base 2 "_law_due" (spD K PrDue) := by
  refine cal_of F sc_due hm (fun _ _ _ _ _ _ us hl => match us, hl with | [_, _, _], _ => rfl) (fun ds M d M' h => ?_) fun cdv A outer s H E ds M d M' hr h => ?_
  · obtain ⟨k, x, o, g, q, rfl, _⟩ := h
    rfl
  · obtain ⟨k, x, o, g, q, rfl, hk, rfl, rfl⟩ := h
    show BV _ _ [some (dI k), some (.tup [dI x, dI o]), some (.tup [dI g, dI q])] _ _
    refine bv_one (sv_ret (ev_ixL (ev_lst (av_cons (ev_tup (av_cons (ev_op op_add (ev_ixT (ev_var 1 rfl) ev_int rfl) (ev_ixT (ev_var 2 rfl) ev_int rfl) rs_I0) (av_cons (ev_op op_add (ev_ixT (ev_var 1 rfl) ev_int rfl) (ev_ixT (ev_var 2 rfl) ev_int rfl) rs_I0) av_nil))) (av_cons (ev_tup (av_cons (ev_op op_sub (ev_ixT (ev_var 2 rfl) ev_int rfl) (ev_ixT (ev_var 1 rfl) ev_int rfl) rs_I0) (av_cons (ev_op op_sub (ev_ixT (ev_var 2 rfl) ev_int rfl) (ev_ixT (ev_var 1 rfl) ev_int rfl) rs_I0) av_nil))) (av_cons (ev_tup (av_cons (ev_un un_neg (ev_ixT (ev_var 1 rfl) ev_int rfl) ru_neg) (av_cons (ev_un un_neg (ev_ixT (ev_var 1 rfl) ev_int rfl) ru_neg) av_nil))) (av_cons (ev_tup (av_cons (ev_un un_neg (ev_ixT (ev_var 1 rfl) ev_int rfl) ru_neg) (av_cons (ev_op op_sub ev_int (ev_ixT (ev_var 1 rfl) ev_int rfl) rs_I0) av_nil))) (av_cons (ev_call c_simple (hr.mono (by decide)) (av_cons (ev_var 1 rfl) av_nil) ⟨x, o, rfl, rfl, rfl⟩) (av_cons (ev_op op_add (ev_op op_mul ev_int (ev_ixT (ev_var 1 rfl) ev_int rfl) (rs_I (cm_l (by decide) (by decide)))) (ev_op op_mul ev_int (ev_ixT (ev_var 1 rfl) ev_int rfl) (rs_I (cm_l (by decide) (by decide)))) rs_I0) (av_cons (ev_op op_add (ev_op op_mul ev_int (ev_ixT (ev_var 1 rfl) ev_int rfl) (rs_I (cm_l (by decide) (by decide)))) (ev_op op_mul ev_int (ev_ixT (ev_var 1 rfl) ev_int rfl) (rs_I (cm_l (by decide) (by decide)))) rs_I0) av_nil)))))))) (ev_var 0 rfl) (d := dueT k x o g q) ?_) ⟨rfl, Mle.refl _⟩)
    have h7 : k = 0 ∨ k = 1 ∨ k = 2 ∨ k = 3 ∨ k = 4 ∨ k = 5 ∨ k = 6 := by omega
    rcases h7 with rfl | rfl | rfl | rfl | rfl | rfl | rfl <;> rfl
end
def Pool.nth (p : Pool) (many : Int) : Nat → Pool
  | 0 => p
  | i + 1 => ((p.nth many i).take many).2
theorem Pool.Ok.nth {p : Pool} (ok : p.Ok) (many : Int) : ∀ i, (p.nth many i).Ok
  | 0 => ok
  | i + 1 => (ok.nth many i).take many
theorem pair_ok (x y : Int) : D.plain (.tup [dI x, dI y]) = true := rfl
theorem pair_shaped (x y : Int) : SeqAt.shaped (D.py (.tup [dI x, dI y])) = true := rfl
section
variable {P : Program} {w : World} {K : PySem.W.Frag} {mg : Str → Option Value} {base : Heap} {f : Addr} {fd : FuncData}
theorem c_sums_so (F : Fun K "_law_sums_so" "_law_sums_so" s_sums_so f fd) (hm : mg "_law_sums_so" = some (.ref f)) (T : Bt mg) (c_take : Cal P w K mg base 2 "_law_take" (spD K PrTake)) (c_far_pair : Cal P w K mg base 4 "_law_far_pair" (spD K PrFar)) (c_pick : Cal P w K mg base 3 "_law_pick" (spD K PrPick))
    (c_order : Cal P w K mg base 3 "_law_order" (spD K PrOrder)) (c_asked : Cal P w K mg base 3 "_law_asked" (spD K PrAsked)) (c_same : Cal P w K mg base 3 "_law_same" (spD K (PrSame 1))) (c_due : Cal P w K mg base 2 "_law_due" (spD K PrDue)) : Cal P w K mg base 5 "_law_sums_so" (spW K PrTrue) := by
  refine calW_of F sc_sums_so hm (fun _ _ _ _ _ _ us hl => match us, hl with | [_], _ => rfl) (fun ds M Φ h => ?_) fun cdv A outer s H E ds M Φ hr h => ?_
  · obtain ⟨a, M0, p, rfl, _⟩ := h
    rfl
  · obtain ⟨a, M0, p, rfl, rfl, ok, hΦ⟩ := h
    show BV _ _ [some (dP a), none, none, none, none, none, none, none] _ _
    have t1 := p.take_lo (many := 7) (by decide)
    have t2 := p.take_hi (many := 7) (by decide)
    refine bv_cons (sv_for rfl (iv_range1 T.range (ev_op op_add ev_int (ev_call c_take (hr.mono (by decide)) (av_cons (ev_var 0 rfl) (av_cons ev_int av_nil)) ⟨a, M0, p, 7, rfl, rfl, ok, by decide, by decide, rfl, rfl⟩) rs_I0) (by omega)) (pg_name (i := 1) sc_sums_so.nd rfl (.inl rfl))
      (fun _ ρ M => ∃ x1 x2 x3 x4 x5 x6 x7 q, ρ = [some (dP a), x1, x2, x3, x4, x5, x6, x7] ∧ M = M0.set a (Pool.mo q) ∧ q.Ok) ⟨none, none, none, none, none, none, none, _, rfl, rfl, ok.take _⟩ (fun i d ρ' M' hd hi => ?_) (fun ρ' M' hi => ?_))
    · obtain ⟨x1, x2, x3, x4, x5, x6, x7, q, rfl, rfl, okq⟩ := hi
      refine ⟨_, tg_name, ?_⟩
      refine bv_cons (sv_set 2 sc_sums_so.nd (ev_call c_far_pair (hr.mono (by decide)) (av_cons (ev_var 0 rfl) av_nil) ⟨a, M0, q, rfl, rfl, okq, rfl, rfl⟩) ?_)
      generalize hx : q.far.1 = x
      generalize ho : q.far.2.1 = o
      have ok1 := okq.far
      generalize q.far.2.2 = q1 at ok1 ⊢
      have h4 : ∃ g r, ([.tup [dI q1.far.1, dI q1.far.2.1], .tup [dI q1.far.2.2.far.1, dI q1.far.2.2.far.2.1], .tup [dI x, dI o], .tup [dI (-x), dI (-o)]] : List D)[(q1.far.2.2.far.2.2.take 4).1.toNat]? = some (.tup [dI g, dI r]) := by
        have u1 := q1.far.2.2.far.2.2.take_lo (many := 4) (by decide)
        have u2 := q1.far.2.2.far.2.2.take_hi (many := 4) (by decide)
        have u3 : (q1.far.2.2.far.2.2.take 4).1.toNat = 0 ∨ (q1.far.2.2.far.2.2.take 4).1.toNat = 1 ∨ (q1.far.2.2.far.2.2.take 4).1.toNat = 2 ∨ (q1.far.2.2.far.2.2.take 4).1.toNat = 3 := by omega
        rcases u3 with e | e | e | e <;> rw [e] <;> exact ⟨_, _, rfl⟩
      obtain ⟨g, r, h4⟩ := h4
      refine bv_cons (sv_set 3 sc_sums_so.nd (ev_call c_pick (hr.mono (by decide)) (av_cons (ev_var 0 rfl) (av_cons (ev_lst (av_cons (ev_call c_far_pair (hr.mono (by decide)) (av_cons (ev_var 0 rfl) av_nil) ⟨a, M0, q1, rfl, rfl, ok1, rfl, rfl⟩) (av_cons (ev_call c_far_pair (hr.mono (by decide)) (av_cons (ev_var 0 rfl) av_nil) ⟨a, M0, q1.far.2.2, rfl, rfl, ok1.far, rfl, rfl⟩) (av_cons (ev_var 2 rfl) (av_cons (ev_tup (av_cons (ev_un un_neg (ev_ixT (ev_var 2 rfl) ev_int rfl) ru_neg) (av_cons (ev_un un_neg (ev_ixT (ev_var 2 rfl) ev_int rfl) ru_neg) av_nil))) av_nil))))) av_nil)) ⟨a, M0, q1.far.2.2.far.2.2, true, _, rfl, rfl, ok1.far.far, by simp, by simp, h4, rfl⟩) ?_)
      have ok2 : (q1.far.2.2.far.2.2.take 4).2.Ok := ok1.far.far.take _
      show BV _ _ _ (M0.set a (q1.far.2.2.far.2.2.take 4).2.mo) _
      generalize (q1.far.2.2.far.2.2.take 4).2 = q2 at ok2 ⊢
      refine bv_one (sv_for rfl (iv_tup (ev_call c_order (hr.mono (by decide)) (av_cons (ev_var 0 rfl) (av_cons ev_int av_nil)) ⟨a, M0, q2, 7, rfl, rfl, ok2, by decide, by decide, rfl, rfl⟩)) (pg_name (i := 4) sc_sums_so.nd rfl (.inl rfl))
        (fun _ ρ M => ∃ x1 x4 x5 x6 x7 q, ρ = [some (dP a), x1, some (.tup [dI x, dI o]), some (.tup [dI g, dI r]), x4, x5, x6, x7] ∧ M = M0.set a (Pool.mo q) ∧ q.Ok) ⟨_, _, _, _, _, _, rfl, rfl, ok2.order _⟩ (fun j d ρ' M' hd hi => ?_) (fun ρ' M' hi => ?_))
      · obtain ⟨y1, y4, y5, y6, y7, u, rfl, rfl, oku⟩ := hi
        rw [List.getElem?_map] at hd
        cases hk : (q2.order 7).1[j]? with
        | none => rw [hk] at hd; cases hd
        | some k =>
          rw [hk] at hd
          cases hd
          have hk7 := Pool.order_mem ok2 (List.mem_of_getElem? hk)
          refine ⟨_, tg_name, ?_⟩
          refine bv_cons (sv_setLc 5 (own := [("pair", 6)]) (g := gName 6) rfl sc_sums_so.nd rfl rfl (sw_true rfl rfl rfl (by decide +kernel)) (iv_tup (ev_tup (av_cons (ev_var 2 rfl) (av_cons (ev_var 3 rfl) av_nil)))) (blkOk_by (N := ["pool", "turn", "one", "other", "kind", "handed", "pair", "found"]) (sc := defScope s_sums_so) (by decide +kernel)) (fun _ _ _ _ _ => pg_name (i := 6) sc_sums_so.nd rfl (Or.inl rfl))
            (fun i => sq (decide (((u.nth 4 i).take 4).1 = 0)) (if i = 0 then [dI x, dI o] else [dI g, dI r])) (fun i => M0.set a (u.nth 4 i).mo) rfl (fun i p hp => ?_) (by simp only [List.length_cons, List.length_nil]; decide) (fun i d hd => ?_) ?_)
          · have hpa : p ≠ a := fun e => by rw [e, Mem.set_same] at hp; cases hp
            rw [Mem.set_ne hpa] at hp ⊢
            exact hp
          · refine ⟨_, tgb_name, fun p acc hp s H C cl fp => ?_⟩
            have hpa : a ≠ p := fun e => by rw [← e, Mem.set_same] at hp; cases hp
            have ed : d = .tup (if i = 0 then [dI x, dI o] else [dI g, dI r]) := by
              match i, hd with
              | 0, hd => cases hd; rfl
              | 1, hd => cases hd; rfl
              | i + 2, hd => cases hd
            subst ed
            show EV _ _ _ ((M0.set a (u.nth 4 i).mo).set p (.lst acc)) _ ((M0.set a (u.nth 4 (i + 1)).mo).set p (.lst acc))
            rw [Mem.set_comm hpa, Mem.set_comm hpa]
            refine ev_if (tv_cmpR op_eq (ev_call c_take (hr.mono (by decide)) (av_cons (ev_var 0 rfl) (av_cons ev_int av_nil)) ⟨a, M0.set p (.lst acc), u.nth 4 i, 4, rfl, rfl, oku.nth _ _, by decide, by decide, rfl, rfl⟩) ev_int rs_eqI (nomark _)) (fun h => ?_) (fun h => ?_)
            · rw [h]
              exact ev_listL (b := false) T.list (ev_var 6 rfl)
            · rw [h]
              exact ev_var 6 rfl
          · refine bv_cons (sv_set 7 sc_sums_so.nd (ev_call c_asked (hr.mono (by decide)) (av_cons (ev_var 4 rfl) (av_cons (ev_ixL (ev_var 5 rfl) ev_int rfl) (av_cons (ev_ixL (ev_var 5 rfl) ev_int rfl) av_nil))) ⟨k, _, x, o, _, g, r, rfl, rfl, rfl⟩) ?_)
            refine bv_cons (sv_if (tv_not (tv_val (ev_call c_same (hr.mono (by decide)) (av_cons (ev_var 7 rfl) (av_cons (ev_call c_due (hr.mono (by decide)) (av_cons (ev_var 4 rfl) (av_cons (ev_var 2 rfl) (av_cons (ev_var 3 rfl) av_nil))) ⟨k, x, o, g, r, rfl, hk7, rfl, rfl⟩) av_nil)) ⟨_, rfl, dueT_ok k x o g r, rfl, rfl⟩))) (fun h => nomatch h) (fun _ => bv_nil ?_))
            refine bv_one (sv_if (PW.pt (wv_orF (tv_neSame hr.units (ev_tupOf T.tuple (ev_ixL (ev_var 5 rfl) ev_int rfl)) (ev_var 2 rfl) rfl rfl (nomark _)) (wv_one_or (tv_neSame hr.units (ev_tupOf T.tuple (ev_ixL (ev_var 5 rfl) ev_int rfl)) (ev_var 3 rfl) rfl rfl (nomark _))))) (fun h => nomatch h) (fun _ => bv_nil ?_))
            exact ⟨_, _, _, _, _, _, rfl, rfl, oku.nth _ _⟩
      · obtain ⟨y1, y4, y5, y6, y7, u, rfl, rfl, oku⟩ := hi
        exact ⟨_, _, _, _, _, _, _, _, rfl, rfl, oku⟩
    · obtain ⟨x1, x2, x3, x4, x5, x6, x7, q, rfl, rfl, okq⟩ := hi
      exact bv_one (sv_ret ev_bl ⟨_, hΦ q okq, Mle.refl _⟩)
end
/-! ### spellings -/
def spd (n f : Int) : Int × Int := (f, (n - 7 * f) / 12)
def fnd (n low : Int) (k : Nat) : List (Int × Int) := (((List.range k).map fun t => low + (t : Nat)).filter fun f => decide ((n - 7 * f) % 12 = 0)).map (spd n)
theorem fnd_succ (n low : Int) (k : Nat) : fnd n low (k + 1) = if (n - 7 * (low + k)) % 12 = 0 then fnd n low k ++ [spd n (low + k)] else fnd n low k := by
  unfold fnd
  rw [List.range_succ, List.map_append, List.filter_append, List.map_append]
  by_cases h : (n - 7 * (low + k)) % 12 = 0
  · have e : (List.map (fun t : Nat => low + (t : Int)) [k]).filter (fun f => decide ((n - 7 * f) % 12 = 0)) = [low + (k : Int)] := by simp [h]
    rw [if_pos h, e]
    rfl
  · have e : (List.map (fun t : Nat => low + (t : Int)) [k]).filter (fun f => decide ((n - 7 * f) % 12 = 0)) = [] := by simp [h]
    rw [if_neg h, e]
    exact List.append_nil _
theorem asc_ext : ∀ {l m : List Int}, l.Pairwise (· < ·) → m.Pairwise (· < ·) → (∀ x, x ∈ l ↔ x ∈ m) → l = m
  | [], [], _, _, _ => rfl
  | [], y :: m, _, _, h => absurd ((h y).mpr List.mem_cons_self) (by simp)
  | x :: l, [], _, _, h => absurd ((h x).mp List.mem_cons_self) (by simp)
  | x :: l, y :: m, hl, hm, h => by
    have l1 := (List.pairwise_cons.mp hl).1
    have m1 := (List.pairwise_cons.mp hm).1
    have e : x = y := by
      rcases List.mem_cons.mp ((h x).mp List.mem_cons_self) with e | hx
      · exact e
      · rcases List.mem_cons.mp ((h y).mpr List.mem_cons_self) with e | hy
        · exact e.symm
        · have a := m1 x hx
          have b := l1 y hy
          omega
    subst e
    rw [asc_ext (List.pairwise_cons.mp hl).2 (List.pairwise_cons.mp hm).2 fun z => ⟨fun hz => ?_, fun hz => ?_⟩]
    · rcases List.mem_cons.mp ((h z).mp (List.mem_cons_of_mem _ hz)) with e | hz'
      · have := l1 z hz
        omega
      · exact hz'
    · rcases List.mem_cons.mp ((h z).mpr (List.mem_cons_of_mem _ hz)) with e | hz'
      · have := m1 z hz
        omega
      · exact hz'
theorem asc_range (low c : Int) (hc : 0 < c) (n : Nat) : ((List.range n).map fun t => low + (t : Nat) * c).Pairwise (· < ·) := by
  rw [List.pairwise_map]
  refine List.Pairwise.imp (fun {a b} (h : a < b) => ?_) List.pairwise_lt_range
  have : (a : Int) * c < (b : Int) * c := Int.mul_lt_mul_of_pos_right (by omega) hc
  omega
theorem fnd_sorted (n low : Int) (k : Nat) : (fnd n low k).Pairwise (fun a b => SrtO.lexB b a = false) := by
  unfold fnd
  rw [List.pairwise_map]
  have h := asc_range low 1 (by decide) k
  have e : ((List.range k).map fun t => low + (t : Nat) * 1) = (List.range k).map fun t => low + ((t : Nat) : Int) := List.map_congr_left fun t _ => by rw [Int.mul_one]
  rw [e] at h
  refine List.Pairwise.imp (fun {a b} (q : a < b) => ?_) (h.filter _)
  refine SrtO.lexB_no.mpr ?_
  show ¬ (b < a ∨ b = a ∧ (n - 7 * b) / 12 < (n - 7 * a) / 12)
  omega
theorem spell_eq (number most : Int) (h0 : 0 ≤ most) (h1 : most ≤ 1000) :
    ((List.range (if -7 * most - 1 + (7 * number - (-7 * most - 1)) % 12 < 7 * most + 6 then (7 * most + 6 - (-7 * most - 1 + (7 * number - (-7 * most - 1)) % 12) - 1) / 12 + 1 else 0).toNat).map fun m => spd number (-7 * most - 1 + (7 * number - (-7 * most - 1)) % 12 + (m : Nat) * 12)) = fnd number (-7 * most - 1) (14 * most + 7).toNat := by
  unfold fnd
  have em : ∀ l : List Nat, (l.map fun m => spd number (-7 * most - 1 + (7 * number - (-7 * most - 1)) % 12 + (m : Nat) * 12)) = (l.map fun m => -7 * most - 1 + (7 * number - (-7 * most - 1)) % 12 + ((m : Nat) : Int) * 12).map (spd number) := fun l => by
    rw [List.map_map]
    rfl
  rw [em]
  refine congrArg (List.map (spd number)) (asc_ext (asc_range _ 12 (by decide) _) ?_ fun x => ?_)
  · have h := asc_range (-7 * most - 1) 1 (by decide) (14 * most + 7).toNat
    have e : ((List.range (14 * most + 7).toNat).map fun t => -7 * most - 1 + (t : Nat) * 1) = (List.range (14 * most + 7).toNat).map fun t => -7 * most - 1 + ((t : Nat) : Int) := List.map_congr_left fun t _ => by rw [Int.mul_one]
    rw [e] at h
    exact h.filter _
  · rw [List.mem_map, List.mem_filter, List.mem_map]
    constructor
    · rintro ⟨m, hm, rfl⟩
      have hm := List.mem_range.mp hm
      refine ⟨⟨((7 * number - (-7 * most - 1)) % 12 + (m : Int) * 12).toNat, List.mem_range.mpr ?_, ?_⟩, decide_eq_true ?_⟩ <;> (split at hm <;> omega)
    · rintro ⟨⟨t, ht, rfl⟩, hx⟩
      have ht := List.mem_range.mp ht
      have hx := of_decide_eq_true hx
      have hr : (7 * number - (-7 * most - 1)) % 12 = (t : Int) % 12 := by omega
      rw [hr]
      have ht2 : (t : Int) < 14 * most + 7 := by omega
      refine ⟨((t : Int) / 12).toNat, List.mem_range.mpr ?_, ?_⟩
      · split <;> omega
      · omega
def PrSpell (ds : List D) (M : Mem) (d : D) (M' : Mem) : Prop := ∃ n m : Int, ds = [dI n, dI m] ∧ (-100000 ≤ n ∧ n ≤ 100000) ∧ (0 ≤ m ∧ m ≤ 1000) ∧ d = .tup ((fnd n (-7 * m - 1) (14 * m + 7).toNat).map pD) ∧ M' = M
theorem rgC12 {i j : Int} (h1 : -1000000 ≤ i ∧ i ≤ 1000000) (h2 : -1000000 ≤ j ∧ j ≤ 1000000) : RgC i j 12 (if i < j then (j - i - 1) / 12 + 1 else 0).toNat := by
  have e : Builtin.Range.rangeSize i j 12 = if i < j then (j - i - 1) / 12 + 1 else 0 := by
    unfold Builtin.Range.rangeSize
    rw [if_pos (by decide)]
  refine ⟨by decide, by decide, ?_, ?_⟩
  · unfold Builtin.Range.small
    rw [e]
    simp only [Builtin.Range.rangeFitsLong, Bool.and_eq_true, Bool.or_eq_true, decide_eq_true_eq, beq_iff_eq, show (12 : Int) > 0 by decide, if_true]
    split <;> omega
  · rw [e]
    split <;> omega
def spdD (n : Int) : D → D
  | .val (.int f) => pD (spd n f)
  | d => d
def places : List D := [dI 3, dI 0, dI 4, dI 1, dI 5, dI 2, dI 6]
theorem place_of {j : Nat} {d : D} (h : places[j]? = some d) : j < 7 ∧ ∃ pl : Int, d = dI pl ∧ atI [dI 0, dI 2, dI 4, dI (-1), dI 1, dI 3, dI 5] pl = some (dI ((j : Int) - 1)) := by
  match j, h with
  | 0, h => cases h; exact ⟨by decide, _, rfl, rfl⟩
  | 1, h => cases h; exact ⟨by decide, _, rfl, rfl⟩
  | 2, h => cases h; exact ⟨by decide, _, rfl, rfl⟩
  | 3, h => cases h; exact ⟨by decide, _, rfl, rfl⟩
  | 4, h => cases h; exact ⟨by decide, _, rfl, rfl⟩
  | 5, h => cases h; exact ⟨by decide, _, rfl, rfl⟩
  | 6, h => cases h; exact ⟨by decide, _, rfl, rfl⟩
  | j + 7, h => cases h
section
variable {P : Program} {w : World} {K : PySem.W.Frag} {mg : Str → Option Value} {base : Heap} {f : Addr} {fd : FuncData}
theorem c_p_spellings (F : Fun K "spellings" "spellings" s_p_spellings f fd) (hm : mg "spellings" = some (.ref f)) (T : Bt mg) : Cal P w K mg base 1 "spellings" (spD K PrSpell) := by
  refine cal_of F sc_p_spellings hm (fun _ _ _ _ _ _ us hl => match us, hl with | [_, _], _ => rfl) (fun ds M d M' h => ?_) fun cdv A outer s H E ds M d M' hr h => ?_
  · obtain ⟨n, m, rfl, _⟩ := h
    rfl
  · obtain ⟨n, m, rfl, hn, hm2, rfl, rfl⟩ := h
    show BV _ _ [some (dI n), some (dI m), none, none, none] _ _
    refine bv_cons (sv_set 2 sc_p_spellings.nd (ev_op op_sub (ev_op op_mul (ev_un un_neg ev_int ru_neg) (ev_var 1 rfl) (rs_I (cm_l (by decide) (by decide)))) ev_int rs_I0) ?_)
    refine bv_cons (sv_set 3 sc_p_spellings.nd (ev_op op_add (ev_var 2 rfl) (ev_op op_mod (ev_op op_sub (ev_op op_mul ev_int (ev_var 0 rfl) (rs_I (cm_l (by decide) (by decide)))) (ev_var 2 rfl) rs_I0) ev_int (rs_I (by decide))) rs_I0) ?_)
    have hb := Int.emod_nonneg (7 * n - (-7 * m - 1)) (show (12 : Int) ≠ 0 by decide)
    have hb2 := Int.emod_lt_of_pos (7 * n - (-7 * m - 1)) (show (0 : Int) < 12 by decide)
    refine bv_one (sv_ret (ev_tupOf (b := true) T.tuple (ev_lcM (own := [("f", 4)]) (g := gName 4) rfl sc_p_spellings.nd (iv_range3 T.range (ev_var 3 rfl) (ev_op op_add (ev_op op_mul ev_int (ev_var 1 rfl) (rs_I (cm_l (by decide) (by decide)))) ev_int rs_I0) ev_int (rgC12 (by omega) (by omega))) (blkOk_by (N := ["number", "most", "low", "first", "f"]) (sc := defScope s_p_spellings) (by decide +kernel)) (fun _ _ _ _ _ => pg_name (i := 4) sc_p_spellings.nd rfl (Or.inl rfl)) (spdD n) ?_ (fun i d hd => ?_))) ⟨?_, Mle.refl _⟩)
    · rw [List.length_map, List.length_range]
      refine Nat.le_trans (show _ ≤ 1000000 from ?_) (by decide)
      split <;> omega
    · rw [List.getElem?_map] at hd
      cases q : (List.range (if -7 * m - 1 + (7 * n - (-7 * m - 1)) % 12 < 7 * m + 6 then (7 * m + 6 - (-7 * m - 1 + (7 * n - (-7 * m - 1)) % 12) - 1) / 12 + 1 else 0).toNat)[i]? with
      | none => rw [q] at hd; cases hd
      | some t =>
        rw [q] at hd
        cases hd
        exact ⟨_, tgb_name, fun M2 s H C cl fp => ev_tup (av_cons (ev_var 4 rfl) (av_cons (ev_op op_fdiv (ev_op op_sub (ev_var 0 rfl) (ev_op op_mul ev_int (ev_var 4 rfl) (rs_I (cm_l (by decide) (by decide)))) rs_I0) ev_int (rs_I ⟨by decide, by decide⟩)) av_nil))⟩
    · rw [← spell_eq n m hm2.1 hm2.2, List.map_map, List.map_map]
      rfl
theorem c_spelled (F : Fun K "_law_spelled" "_law_spelled" s_spelled f fd) (hm : mg "_law_spelled" = some (.ref f)) (T : Bt mg) (hs : mg "sorted" = none) : Cal P w K mg base 1 "_law_spelled" (spD K PrSpell) := by
  refine cal_of F sc_spelled hm (fun _ _ _ _ _ _ us hl => match us, hl with | [_, _], _ => rfl) (fun ds M d M' h => ?_) fun cdv A outer s H E ds M d M' hr h => ?_
  · obtain ⟨n, m, rfl, _⟩ := h
    rfl
  · obtain ⟨n, m, rfl, hn, hm2, rfl, rfl⟩ := h
    show BV _ _ [some (dI n), some (dI m), none, none, none, none] _ _
    refine bv_cons (sv_setN 2 sc_spelled.nd (en_lst av_nil) (fun l hl => ?_))
    refine bv_cons (sv_for rfl (iv_range2 T.range (ev_un un_neg (ev_var 1 rfl) ru_neg) (ev_op op_add (ev_var 1 rfl) ev_int rs_I0) (by omega)) (pg_name (i := 3) sc_spelled.nd rfl (.inl rfl))
      (fun i ρ M => ∃ x3 x4 x5, ρ = [some (dI n), some (dI m), some (dP l), x3, x4, x5] ∧ M = M'.set l (.lst ((fnd n (-7 * m - 1) (7 * i)).map pD))) ⟨none, none, none, rfl, rfl⟩ (fun i d ρ' M1 hd hi => ?_) (fun ρ' M1 hi => ?_))
    · obtain ⟨x3, x4, x5, rfl, rfl⟩ := hi
      obtain ⟨hi2, rfl⟩ := rgD_get hd
      refine ⟨_, tg_name, ?_⟩
      refine bv_one (sv_for rfl (iv_tup (ev_tup (ds := places) (av_cons ev_int (av_cons ev_int (av_cons ev_int (av_cons ev_int (av_cons ev_int (av_cons ev_int (av_cons ev_int av_nil))))))))) (pg_name (i := 4) sc_spelled.nd rfl (.inl rfl))
        (fun j ρ M => ∃ x4 x5, ρ = [some (dI n), some (dI m), some (dP l), some (dI (-m + (i : Int))), x4, x5] ∧ M = M'.set l (.lst ((fnd n (-7 * m - 1) (7 * i + j)).map pD))) ⟨_, _, rfl, rfl⟩ (fun j d ρ' M1 hd hi => ?_) (fun ρ' M1 hi => ?_))
      · obtain ⟨y4, y5, rfl, rfl⟩ := hi
        obtain ⟨hj, pl, rfl, hpl⟩ := place_of hd
        refine ⟨_, tg_name, ?_⟩
        refine bv_cons (sv_set 5 sc_spelled.nd (ev_op op_add (ev_ixL (ev_lst (av_cons ev_int (av_cons ev_int (av_cons ev_int (av_cons (ev_un un_neg ev_int ru_neg) (av_cons ev_int (av_cons ev_int (av_cons ev_int av_nil)))))))) (ev_var 4 rfl) hpl) (ev_op op_mul ev_int (ev_var 3 rfl) (rs_I (cm_l (by decide) (by decide)))) rs_I0) ?_)
        have ef : (j : Int) - 1 + 7 * (-m + (i : Int)) = -7 * m - 1 + ((7 * i + j : Nat) : Int) := by omega
        rw [ef]
        have es := fnd_succ n (-7 * m - 1) (7 * i + j)
        refine bv_one (sv_if (tv_cmpR op_eq (ev_op op_mod (ev_intI T.int (ev_op op_sub (ev_var 0 rfl) (ev_op op_mul ev_int (ev_var 5 rfl) (rs_I (cm_l (by decide) (by decide)))) rs_I0)) ev_int (rs_I (by decide))) ev_int rs_eqI (nomark _)) (fun h => ?_) (fun h => bv_nil ?_))
        · rw [if_pos (of_decide_eq_true h)] at es
          refine bv_one (sv_append (ev_var 2 rfl) (ev_tup (av_cons (ev_var 5 rfl) (av_cons (ev_intI T.int (ev_op op_fdiv (ev_op op_sub (ev_var 0 rfl) (ev_op op_mul ev_int (ev_var 5 rfl) (rs_I (cm_l (by decide) (by decide)))) rs_I0) ev_int (rs_I ⟨by decide, by decide⟩))) av_nil))) ⟨_, Mem.set_same⟩ Mem.set_same ?_ ?_)
          · rw [List.length_map]
            unfold fnd
            rw [List.length_map]
            refine Nat.lt_of_le_of_lt (List.length_filter_le _ _) ?_
            rw [List.length_map, List.length_range]
            exact Nat.lt_of_lt_of_le (show 7 * i + j < 1000000 by omega) (by decide)
          · refine ⟨_, _, rfl, ?_⟩
            rw [Mem.set_set]
            show _ = M'.set l (.lst ((fnd n (-7 * m - 1) (7 * i + j + 1)).map pD))
            rw [es, List.map_append]
            rfl
        · rw [if_neg (of_decide_eq_false h)] at es
          refine ⟨_, _, rfl, ?_⟩
          show _ = M'.set l (.lst ((fnd n (-7 * m - 1) (7 * i + j + 1)).map pD))
          rw [es]
      · obtain ⟨y4, y5, rfl, rfl⟩ := hi
        exact ⟨_, _, _, rfl, rfl⟩
    · obtain ⟨x3, x4, x5, rfl, rfl⟩ := hi
      rw [rgD_len]
      have ek : 7 * (m + 1 - -m).toNat = (14 * m + 7).toNat := by omega
      rw [ek]
      exact bv_one (sv_ret (ev_tupOf (b := true) T.tuple (ev_sortedM hs (ev_var 2 rfl) Mem.set_same (fnd_sorted _ _ _) (List.Perm.refl _))) ⟨rfl, mle_new (Mle.refl _) hl⟩)
end
def PrWanted (ds : List D) (M : Mem) (Φ : D → Mem → Prop) : Prop := ∃ a M0 p, ds = [dP a] ∧ M = Mem.set M0 a (Pool.mo p) ∧ p.Ok ∧ ∀ (n : Int) (p' : Pool), -100000 ≤ n ∧ n ≤ 100000 → p'.Ok → Φ (dI n) (M0.set a p'.mo)
section
variable {P : Program} {w : World} {K : PySem.W.Frag} {mg : Str → Option Value} {base : Heap} {f : Addr} {fd : FuncData}
theorem c_wanted (F : Fun K "_law_wanted" "_law_wanted" s_wanted f fd) (hm : mg "_law_wanted" = some (.ref f)) (T : Bt mg) (ha : mg "abs" = none) (c_take : Cal P w K mg base 2 "_law_take" (spD K PrTake)) (c_far_pair : Cal P w K mg base 4 "_law_far_pair" (spD K PrFar)) (c_pick : Cal P w K mg base 3 "_law_pick" (spD K PrPick)) : Cal P w K mg base 5 "_law_wanted" (spW K PrWanted) := by
  refine calW_of F sc_wanted hm (fun _ _ _ _ _ _ us hl => match us, hl with | [_], _ => rfl) (fun ds M Φ h => ?_) fun cdv A outer s H E ds M Φ hr h => ?_
  · obtain ⟨a, M0, p, rfl, _⟩ := h
    rfl
  · obtain ⟨a, M0, p, rfl, rfl, ok, hΦ⟩ := h
    show BV _ _ [some (dP a), none, none, none] _ _
    refine bv_cons (sv_set 1 sc_wanted.nd (ev_call c_take (hr.mono (by decide)) (av_cons (ev_var 0 rfl) (av_cons ev_int av_nil)) ⟨a, M0, p, 4, rfl, rfl, ok, by decide, by decide, rfl, rfl⟩) ?_)
    have ok1 := ok.take 4
    generalize (p.take 4).1 = k
    show BV _ _ _ (M0.set a (p.take 4).2.mo) _
    generalize (p.take 4).2 = q at ok1 ⊢
    refine bv_cons (sv_if (tv_cmpR op_eq (ev_var 1 rfl) ev_int rs_eqI (nomark _)) (fun h => ?_) (fun h => bv_nil ?_))
    · have t1 := q.take_lo (many := 40) (by decide)
      have t2 := q.take_hi (many := 40) (by decide)
      exact bv_one (sv_ret (ev_op op_sub (ev_call c_take (hr.mono (by decide)) (av_cons (ev_var 0 rfl) (av_cons ev_int av_nil)) ⟨a, M0, q, 40, rfl, rfl, ok1, by decide, by decide, rfl, rfl⟩) ev_int rs_I0) ⟨_, hΦ _ _ (by omega) (ok1.take 40), Mle.refl _⟩)
    refine bv_cons (sv_if (tv_cmpR op_eq (ev_var 1 rfl) ev_int rs_eqI (nomark _)) (fun h => ?_) (fun h => bv_nil ?_))
    · have t1 := q.take_lo (many := 20001) (by decide)
      have t2 := q.take_hi (many := 20001) (by decide)
      exact bv_one (sv_ret (ev_op op_sub (ev_call c_take (hr.mono (by decide)) (av_cons (ev_var 0 rfl) (av_cons ev_int av_nil)) ⟨a, M0, q, 20001, rfl, rfl, ok1, by decide, by decide, rfl, rfl⟩) ev_int rs_I0) ⟨_, hΦ _ _ (by omega) (ok1.take 20001), Mle.refl _⟩)
    refine bv_cons (sv_if (tv_cmpR op_eq (ev_var 1 rfl) ev_int rs_eqI (nomark _)) (fun h => ?_) (fun h => bv_nil ?_))
    · have t1 := q.take_lo (many := 5) (by decide)
      have t2 := q.take_hi (many := 5) (by decide)
      have h5 : ∃ n : Int, ([dI 10000, dI (-10000), dI 9999, dI 0, dI (-9996)] : List D)[(q.take 5).1.toNat]? = some (dI n) ∧ -100000 ≤ n ∧ n ≤ 100000 := by
        have u3 : (q.take 5).1.toNat = 0 ∨ (q.take 5).1.toNat = 1 ∨ (q.take 5).1.toNat = 2 ∨ (q.take 5).1.toNat = 3 ∨ (q.take 5).1.toNat = 4 := by omega
        rcases u3 with e | e | e | e | e <;> rw [e] <;> exact ⟨_, rfl, by decide, by decide⟩
      obtain ⟨n, h5, hn⟩ := h5
      exact bv_one (sv_ret (ev_call c_pick (hr.mono (by decide)) (av_cons (ev_var 0 rfl) (av_cons (ev_lst (av_cons ev_int (av_cons (ev_un un_neg ev_int ru_neg) (av_cons ev_int (av_cons ev_int (av_cons (ev_un un_neg ev_int ru_neg) av_nil)))))) av_nil)) ⟨a, M0, q, true, _, rfl, rfl, ok1, by simp, by simp, h5, rfl⟩) ⟨_, hΦ _ _ hn (ok1.take _), Mle.refl _⟩)
    refine bv_cons (sv_set 2 sc_wanted.nd (ev_call c_far_pair (hr.mono (by decide)) (av_cons (ev_var 0 rfl) av_nil) ⟨a, M0, q, rfl, rfl, ok1, rfl, rfl⟩) ?_)
    refine bv_cons (sv_set 3 sc_wanted.nd (ev_op op_add (ev_op op_mul ev_int (ev_ixT (ev_var 2 rfl) ev_int rfl) (rs_I (cm_l (by decide) (by decide)))) (ev_op op_mul ev_int (ev_ixT (ev_var 2 rfl) ev_int rfl) (rs_I (cm_l (by decide) (by decide)))) rs_I0) ?_)
    have hb := q.far_bd
    refine bv_one (sv_retW (Φ := fun d M' => ∃ n p', d = dI n ∧ (-100000 ≤ n ∧ n ≤ 100000) ∧ p'.Ok ∧ M' = M0.set a (Pool.mo p')) (ew_ev (ev_if (d := dI (if decide ((if 7 * q.far.1 + 12 * q.far.2.1 < 0 then -(7 * q.far.1 + 12 * q.far.2.1) else 7 * q.far.1 + 12 * q.far.2.1) ≤ 10000) = true then 7 * q.far.1 + 12 * q.far.2.1 else (7 * q.far.1 + 12 * q.far.2.1) / 2)) (tv_cmpR op_le (ev_abs ha (ev_var 3 rfl)) ev_int rs_I0 (nomark _)) (fun h => ?_) (fun h => ?_)) ⟨_, q.far.2.2, rfl, ?_, ok1.far, rfl⟩) (fun d M1 h => ?_))
    · rw [if_pos h]
      exact ev_var 3 rfl
    · rw [if_neg (by rw [h]; decide)]
      exact ev_intI T.int (ev_op op_fdiv (ev_var 3 rfl) ev_int (rs_I ⟨by decide, by decide⟩))
    · split <;> omega
    · obtain ⟨n, p', rfl, hn, okp, rfl⟩ := h
      exact ⟨_, hΦ n p' hn okp, Mle.refl _⟩
def rowOk (r : Int × Int) : Prop := (-100000 ≤ r.1 ∧ r.1 ≤ 100000) ∧ 0 ≤ r.2 ∧ r.2 ≤ 1000
theorem pD_ok (r : Int × Int) : okD 1 (pD r) := by
  refine ⟨by show 2 ≤ 1000000; decide, fun d hd => ?_⟩
  rcases List.mem_cons.mp hd with rfl | hd
  · exact .inr (.inr (.inl ⟨_, rfl⟩))
  · rcases List.mem_cons.mp hd with rfl | hd
    · exact .inr (.inr (.inl ⟨_, rfl⟩))
    · cases hd
theorem spell_ok (n m : Int) (h : 0 ≤ m ∧ m ≤ 1000) : okD 2 (.tup ((fnd n (-7 * m - 1) (14 * m + 7).toNat).map pD)) := by
  refine ⟨?_, fun d hd => ?_⟩
  · rw [List.length_map]
    unfold fnd
    rw [List.length_map]
    refine Nat.le_trans (List.length_filter_le _ _) ?_
    rw [List.length_map, List.length_range]
    omega
  · obtain ⟨r, _, rfl⟩ := List.mem_map.mp hd
    exact pD_ok r
theorem c_spellings_so (F : Fun K "_law_spellings_so" "_law_spellings_so" s_spellings_so f fd) (hm : mg "_law_spellings_so" = some (.ref f)) (T : Bt mg) (c_take : Cal P w K mg base 2 "_law_take" (spD K PrTake)) (c_wanted : Cal P w K mg base 5 "_law_wanted" (spW K PrWanted)) (c_pick : Cal P w K mg base 3 "_law_pick" (spD K PrPick))
    (c_order : Cal P w K mg base 3 "_law_order" (spD K PrOrder)) (c_same : Cal P w K mg base 4 "_law_same" (spD K (PrSame 2))) (c_p_spellings : Cal P w K mg base 1 "spellings" (spD K PrSpell)) (c_spelled : Cal P w K mg base 1 "_law_spelled" (spD K PrSpell)) : Cal P w K mg base 6 "_law_spellings_so" (spW K PrTrue) := by
  refine calW_of F sc_spellings_so hm (fun _ _ _ _ _ _ us hl => match us, hl with | [_], _ => rfl) (fun ds M Φ h => ?_) fun cdv A outer s H E ds M Φ hr h => ?_
  · obtain ⟨a, M0, p, rfl, _⟩ := h
    rfl
  · obtain ⟨a, M0, p, rfl, rfl, ok, hΦ⟩ := h
    show BV _ _ [some (dP a), none, none, none, none, none] _ _
    refine bv_cons (sv_setN 1 sc_spellings_so.nd (en_lst av_nil) (fun l hl => ?_))
    have hla : l ≠ a := fun q => by
      rw [q, Mem.set_same] at hl
      cases hl
    have hml : ∀ o, (M0.set a o) l = none := fun o => by
      rw [Mem.set_ne hla] at hl ⊢
      exact hl
    have t1 := p.take_lo (many := 6) (by decide)
    have t2 := p.take_hi (many := 6) (by decide)
    refine bv_cons (sv_for rfl (iv_range1 T.range (ev_op op_add ev_int (ev_call c_take (hr.mono (by decide)) (av_cons (ev_var 0 rfl) (av_cons ev_int av_nil)) ⟨a, M0.set l (.lst []), p, 6, rfl, Mem.set_comm hla.symm, ok, by decide, by decide, rfl, rfl⟩) rs_I0) (by omega)) (pg_name (i := 2) sc_spellings_so.nd rfl (.inl rfl))
      (fun i ρ M => ∃ x2 x3 x4 x5 q rows, ρ = [some (dP a), some (dP l), x2, x3, x4, x5] ∧ M = (M0.set a (Pool.mo q)).set l (.lst (rows.map pD)) ∧ q.Ok ∧ rows.length = 2 * i ∧ ∀ r ∈ rows, rowOk r) ⟨none, none, none, none, _, [], rfl, Mem.set_comm hla, ok.take _, rfl, fun r hr => by cases hr⟩ (fun i d ρ' M' hd hi => ?_) (fun ρ' M' hi => ?_))
    · obtain ⟨x2, x3, x4, x5, q, rows, rfl, rfl, okq, hlen, hrows⟩ := hi
      have hi20 : i < 20 := by
        have := (rgD_get hd).1
        omega
      refine ⟨_, tg_name, ?_⟩
      refine bv_cons (sv_setW 3 sc_spellings_so.nd (Φ := fun d M' => ∃ n p', d = dI n ∧ (-100000 ≤ n ∧ n ≤ 100000) ∧ p'.Ok ∧ M' = (M0.set a (Pool.mo p')).set l (.lst (rows.map pD))) (ew_call c_wanted (hr.mono (by decide)) (av_cons (ev_var 0 rfl) av_nil) ⟨a, M0.set l (.lst (rows.map pD)), q, rfl, Mem.set_comm hla.symm, okq, fun n p' hn okp => ⟨n, p', rfl, hn, okp, Mem.set_comm hla⟩⟩) (fun d M1 h => ?_))
      obtain ⟨n, q1, rfl, hn, ok1, rfl⟩ := h
      refine bv_cons (sv_append (ds := rows.map pD) (ev_var 1 rfl) (ev_tup (av_cons (ev_var 3 rfl) (av_cons (ev_call c_take (hr.mono (by decide)) (av_cons (ev_var 0 rfl) (av_cons ev_int av_nil)) ⟨a, M0.set l (.lst (rows.map pD)), q1, 21, rfl, Mem.set_comm hla.symm, ok1, by decide, by decide, rfl, rfl⟩) av_nil))) ⟨_, Mem.set_same⟩ (by rw [Mem.set_ne hla, Mem.set_same]) ?_ ?_)
      · rw [List.length_map, hlen]
        exact Nat.lt_of_lt_of_le (show 2 * i < 1000 by omega) (by decide)
      have v1 := q1.take_lo (many := 21) (by decide)
      have v2 := q1.take_hi (many := 21) (by decide)
      have ok2 := ok1.take 21
      show BV _ _ _ (((M0.set l (.lst (rows.map pD))).set a (q1.take 21).2.mo).set l (.lst (rows.map pD ++ [pD (n, (q1.take 21).1)]))) _
      generalize (q1.take 21).2 = q2 at ok2 ⊢
      generalize (q1.take 21).1 = m1 at v1 v2 ⊢
      have em : ((M0.set l (.lst (rows.map pD))).set a q2.mo).set l (.lst (rows.map pD ++ [pD (n, m1)])) = (M0.set a q2.mo).set l (.lst ((rows ++ [(n, m1)]).map pD)) := by
        rw [Mem.set_comm hla, Mem.set_set, List.map_append]
        rfl
      rw [em]
      have w1 := q2.take_lo (many := 5) (by decide)
      have w2 := q2.take_hi (many := 5) (by decide)
      have h5 : ∃ k : Int, ([dI 0, dI 1, dI 2, dI 3, dI 20] : List D)[(q2.take 5).1.toNat]? = some (dI k) ∧ 0 ≤ k ∧ k ≤ 1000 := by
        have u3 : (q2.take 5).1.toNat = 0 ∨ (q2.take 5).1.toNat = 1 ∨ (q2.take 5).1.toNat = 2 ∨ (q2.take 5).1.toNat = 3 ∨ (q2.take 5).1.toNat = 4 := by omega
        rcases u3 with e | e | e | e | e <;> rw [e] <;> exact ⟨_, rfl, by decide, by decide⟩
      obtain ⟨m2, h5, hm2⟩ := h5
      refine bv_one (sv_append (ds := (rows ++ [(n, m1)]).map pD) (ev_var 1 rfl) (ev_tup (av_cons (ev_var 3 rfl) (av_cons (ev_call c_pick (hr.mono (by decide)) (av_cons (ev_var 0 rfl) (av_cons (ev_lst (av_cons ev_int (av_cons ev_int (av_cons ev_int (av_cons ev_int (av_cons ev_int av_nil)))))) av_nil)) ⟨a, M0.set l (.lst ((rows ++ [(n, m1)]).map pD)), q2, true, _, rfl, Mem.set_comm hla.symm, ok2, by simp, by simp, h5, rfl⟩) av_nil))) ⟨_, Mem.set_same⟩ (by rw [Mem.set_ne hla, Mem.set_same]) ?_ ?_)
      · rw [List.length_map, List.length_append, hlen]
        exact Nat.lt_of_lt_of_le (show 2 * i + 1 < 1000 by omega) (by decide)
      · refine ⟨_, _, _, _, (q2.take 5).2, rows ++ [(n, m1)] ++ [(n, m2)], rfl, ?_, ok2.take 5, ?_, fun r hr => ?_⟩
        · show ((M0.set l _).set a (q2.take 5).2.mo).set l (.lst ((rows ++ [(n, m1)]).map pD ++ [pD (n, m2)])) = _
          rw [Mem.set_comm hla, Mem.set_set, List.map_append (l₁ := rows ++ [(n, m1)])]
          rfl
        · rw [List.length_append, List.length_append, hlen]
          show 2 * i + 1 + 1 = 2 * (i + 1)
          omega
        · rcases List.mem_append.mp hr with hr | hr
          · rcases List.mem_append.mp hr with hr | hr
            · exact hrows r hr
            · rw [List.mem_singleton.mp hr]
              exact ⟨hn, by show 0 ≤ m1; omega, by show m1 ≤ 1000; omega⟩
          · rw [List.mem_singleton.mp hr]
            exact ⟨hn, hm2⟩
    · obtain ⟨x2, x3, x4, x5, q, rows, rfl, rfl, okq, hlen, hrows⟩ := hi
      rw [rgD_len] at hlen
      refine bv_freeze 1 rfl (hml _) ?_
      show BV _ _ [some (dP a), some (.lst (rows.map pD)), x2, x3, x4, x5] _ _
      refine bv_cons (sv_for rfl (iv_tup (ev_call c_order (hr.mono (by decide)) (av_cons (ev_var 0 rfl) (av_cons (ev_lenL T.len (ev_var 1 rfl)) av_nil)) ⟨a, M0, q, ((rows.map pD).length : Nat), rfl, rfl, okq, by omega, by rw [List.length_map]; omega, rfl, rfl⟩)) (pg_name (i := 4) sc_spellings_so.nd rfl (.inl rfl))
        (fun _ ρ M => ∃ x2 x3 x4 x5 q, ρ = [some (dP a), some (.lst (rows.map pD)), x2, x3, x4, x5] ∧ M = M0.set a (Pool.mo q) ∧ q.Ok) ⟨_, _, _, _, _, rfl, rfl, okq.order _⟩ (fun j d ρ' M' hd hi => ?_) (fun ρ' M' hi => ?_))
      · obtain ⟨y2, y3, y4, y5, u, rfl, rfl, oku⟩ := hi
        rw [List.getElem?_map] at hd
        cases hk : (q.order ((rows.map pD).length : Nat)).1[j]? with
        | none => rw [hk] at hd; cases hd
        | some k =>
          rw [hk] at hd
          cases hd
          have hk7 := Pool.order_mem okq (List.mem_of_getElem? hk)
          rw [List.length_map] at hk7
          have hkn : k.toNat < rows.length := by omega
          have hr1 := hrows _ (List.getElem_mem hkn)
          have hg : (rows.map pD)[k.toNat]? = some (pD rows[k.toNat]) := by
            rw [List.getElem?_map, List.getElem?_eq_getElem hkn]
            rfl
          generalize rows[k.toNat] = r at hr1 hg
          obtain ⟨n, m⟩ := r
          refine ⟨_, tg_name, ?_⟩
          refine bv_cons (sv_asg (ev_ixL (ev_var 1 rfl) (ev_var 4 rfl) (atI_nat hg (by omega))) (pg_tup rfl (pgs_cons (pg_name (i := 3) sc_spellings_so.nd rfl (.inl rfl)) (pgs_cons (pg_name (i := 5) sc_spellings_so.nd rfl (.inl rfl)) pgs_nil))) (tg_tup (tg_cons tg_name (tg_cons tg_name tg_nil))) ?_)
          refine bv_one (sv_if (tv_not (tv_val (ev_call c_same (hr.mono (by decide)) (av_cons (ev_call c_p_spellings (hr.mono (by decide)) (av_cons (ev_var 3 rfl) (av_cons (ev_var 5 rfl) av_nil)) ⟨n, m, rfl, hr1.1, hr1.2, rfl, rfl⟩) (av_cons (ev_call c_spelled (hr.mono (by decide)) (av_cons (ev_var 3 rfl) (av_cons (ev_var 5 rfl) av_nil)) ⟨n, m, rfl, hr1.1, hr1.2, rfl, rfl⟩) av_nil)) ⟨_, rfl, spell_ok n m hr1.2, rfl, rfl⟩))) (fun h => nomatch h) (fun _ => bv_nil ?_))
          exact ⟨_, _, _, _, _, rfl, rfl, oku⟩
      · obtain ⟨y2, y3, y4, y5, u, rfl, rfl, oku⟩ := hi
        exact bv_one (sv_ret ev_bl ⟨_, hΦ u oku, Mle.refl _⟩)
theorem c_law (F : Fun K "law" "law" s_law f fd) (c_pool : Cal P w K mg base 1 "_law_pool" (spN K PrPool)) (c_sums_so : Cal P w K mg base 5 "_law_sums_so" (spW K PrTrue)) (c_spellings_so : Cal P w K mg base 6 "_law_spellings_so" (spW K PrTrue)) : FnOk P w K mg base CX0 7 f fd ["script"] (spLaw K) := by
  refine law_of F sc_law fun cdv A outer s H E ns hr hl => ?_
  show BV _ _ [some (.lst (ns.map dI)), none] _ _
  refine bv_cons (sv_setN 1 sc_law.nd (en_call c_pool (hr.mono (by decide)) (av_cons (ev_var 0 rfl) av_nil) ⟨ns, rfl, by omega, rfl, rfl⟩) (fun a ha => ?_))
  refine bv_one (sv_retW (Φ := fun d _ => d = dB true) (ew_and (Φ1 := fun M1 => ∃ p' : Pool, p'.Ok ∧ M1 = Mem.set (fun _ => none) a p'.mo) (ew_call c_sums_so (hr.mono (by decide)) (av_cons (ev_var 1 rfl) av_nil) ⟨a, fun _ => none, Pool.new ns, rfl, rfl, Pool.new_ok ns, fun p' okp => ⟨rfl, p', okp, rfl⟩⟩) (fun M1 h => ?_)) (fun d M1 h => h))
  obtain ⟨p', okp, rfl⟩ := h
  exact ew_one (ew_call c_spellings_so (hr.mono (by decide)) (av_cons (ev_var 1 rfl) av_nil) ⟨a, fun _ => none, p', rfl, rfl, okp, fun _ _ => rfl⟩)
end
theorem all_mk {l : PySem.W.OpenLaw} {w : World} {K : PySem.W.Frag} {h : Heap} {mg : Str → Option Value} {fa f_p_steps f_p_height f_p_added f_p_opposite f_p_between f_p_inverted f_p_simple f_p_with_steps f_p_spellings f_pool f_take f_pick f_is_integer f_same f_tone f_order f_far_pair f_asked f_simple f_due f_sums_so f_spelled f_wanted f_spellings_so f_law : Addr} (X : K.In h) (G : h.Ns mainGlobals mg) (hfa : mg "law" = some (.ref fa))
    {od_p_steps an_p_steps od_p_height an_p_height od_p_added an_p_added od_p_opposite an_p_opposite od_p_between an_p_between od_p_inverted an_p_inverted od_p_simple an_p_simple od_p_with_steps an_p_with_steps od_p_spellings an_p_spellings od_pool an_pool od_take an_take od_pick an_pick od_is_integer an_is_integer od_same an_same od_tone an_tone od_order an_order od_far_pair an_far_pair od_asked an_asked od_simple an_simple od_due an_due od_sums_so an_sums_so od_spelled an_spelled od_wanted an_wanted od_spellings_so an_spellings_so od_law an_law : Option Addr} {sl_p_steps sl_p_height sl_p_added sl_p_opposite sl_p_between sl_p_inverted sl_p_simple sl_p_with_steps sl_p_spellings sl_pool sl_take sl_pick sl_is_integer sl_same sl_tone sl_order sl_far_pair sl_asked sl_simple sl_due sl_sums_so sl_spelled sl_wanted sl_spellings_so sl_law : Array (Option Value)} {oc_p_steps kV_p_steps dc_p_steps pm_p_steps cd_p_steps ct_p_steps oc_p_height kV_p_height dc_p_height pm_p_height cd_p_height ct_p_height oc_p_added kV_p_added dc_p_added pm_p_added cd_p_added ct_p_added oc_p_opposite kV_p_opposite dc_p_opposite pm_p_opposite cd_p_opposite ct_p_opposite oc_p_between kV_p_between dc_p_between pm_p_between cd_p_between ct_p_between oc_p_inverted kV_p_inverted dc_p_inverted pm_p_inverted cd_p_inverted ct_p_inverted oc_p_simple kV_p_simple dc_p_simple pm_p_simple cd_p_simple ct_p_simple oc_p_with_steps kV_p_with_steps dc_p_with_steps pm_p_with_steps cd_p_with_steps ct_p_with_steps oc_p_spellings kV_p_spellings dc_p_spellings pm_p_spellings cd_p_spellings ct_p_spellings oc_pool kV_pool dc_pool pm_pool cd_pool ct_pool oc_take kV_take dc_take pm_take cd_take ct_take oc_pick kV_pick dc_pick pm_pick cd_pick ct_pick oc_is_integer kV_is_integer dc_is_integer pm_is_integer cd_is_integer ct_is_integer oc_same kV_same dc_same pm_same cd_same ct_same oc_tone kV_tone dc_tone pm_tone cd_tone ct_tone oc_order kV_order dc_order pm_order cd_order ct_order oc_far_pair kV_far_pair dc_far_pair pm_far_pair cd_far_pair ct_far_pair oc_asked kV_asked dc_asked pm_asked cd_asked ct_asked oc_simple kV_simple dc_simple pm_simple cd_simple ct_simple oc_due kV_due dc_due pm_due cd_due ct_due oc_sums_so kV_sums_so dc_sums_so pm_sums_so cd_sums_so ct_sums_so oc_spelled kV_spelled dc_spelled pm_spelled cd_spelled ct_spelled oc_wanted kV_wanted dc_wanted pm_wanted cd_wanted ct_wanted oc_spellings_so kV_spellings_so dc_spellings_so pm_spellings_so cd_spellings_so ct_spellings_so oc_law kV_law dc_law pm_law cd_law ct_law : Value}
    (a_p_steps : PySem.W.nsIn K mainGlobals "steps" = some (some (.ref f_p_steps))) (l_p_steps : K.lookup f_p_steps = some ⟨oc_p_steps, od_p_steps, .func (PySem.W.fnOf "steps" "steps" (defArgs s_p_steps) (defBody s_p_steps) (defScope s_p_steps) .none kV_p_steps dc_p_steps pm_p_steps an_p_steps cd_p_steps ct_p_steps), sl_p_steps⟩) (c_p_steps : PySem.W.codeIn K cd_p_steps "steps" = true) (k_p_steps : PySem.W.keepIn K (.ref f_p_steps) = true)
    (a_p_height : PySem.W.nsIn K mainGlobals "height" = some (some (.ref f_p_height))) (l_p_height : K.lookup f_p_height = some ⟨oc_p_height, od_p_height, .func (PySem.W.fnOf "height" "height" (defArgs s_p_height) (defBody s_p_height) (defScope s_p_height) .none kV_p_height dc_p_height pm_p_height an_p_height cd_p_height ct_p_height), sl_p_height⟩) (c_p_height : PySem.W.codeIn K cd_p_height "height" = true) (k_p_height : PySem.W.keepIn K (.ref f_p_height) = true)
    (a_p_added : PySem.W.nsIn K mainGlobals "added" = some (some (.ref f_p_added))) (l_p_added : K.lookup f_p_added = some ⟨oc_p_added, od_p_added, .func (PySem.W.fnOf "added" "added" (defArgs s_p_added) (defBody s_p_added) (defScope s_p_added) .none kV_p_added dc_p_added pm_p_added an_p_added cd_p_added ct_p_added), sl_p_added⟩) (c_p_added : PySem.W.codeIn K cd_p_added "added" = true) (k_p_added : PySem.W.keepIn K (.ref f_p_added) = true)
    (a_p_opposite : PySem.W.nsIn K mainGlobals "opposite" = some (some (.ref f_p_opposite))) (l_p_opposite : K.lookup f_p_opposite = some ⟨oc_p_opposite, od_p_opposite, .func (PySem.W.fnOf "opposite" "opposite" (defArgs s_p_opposite) (defBody s_p_opposite) (defScope s_p_opposite) .none kV_p_opposite dc_p_opposite pm_p_opposite an_p_opposite cd_p_opposite ct_p_opposite), sl_p_opposite⟩) (c_p_opposite : PySem.W.codeIn K cd_p_opposite "opposite" = true) (k_p_opposite : PySem.W.keepIn K (.ref f_p_opposite) = true)
    (a_p_between : PySem.W.nsIn K mainGlobals "between" = some (some (.ref f_p_between))) (l_p_between : K.lookup f_p_between = some ⟨oc_p_between, od_p_between, .func (PySem.W.fnOf "between" "between" (defArgs s_p_between) (defBody s_p_between) (defScope s_p_between) .none kV_p_between dc_p_between pm_p_between an_p_between cd_p_between ct_p_between), sl_p_between⟩) (c_p_between : PySem.W.codeIn K cd_p_between "between" = true) (k_p_between : PySem.W.keepIn K (.ref f_p_between) = true)
    (a_p_inverted : PySem.W.nsIn K mainGlobals "inverted" = some (some (.ref f_p_inverted))) (l_p_inverted : K.lookup f_p_inverted = some ⟨oc_p_inverted, od_p_inverted, .func (PySem.W.fnOf "inverted" "inverted" (defArgs s_p_inverted) (defBody s_p_inverted) (defScope s_p_inverted) .none kV_p_inverted dc_p_inverted pm_p_inverted an_p_inverted cd_p_inverted ct_p_inverted), sl_p_inverted⟩) (c_p_inverted : PySem.W.codeIn K cd_p_inverted "inverted" = true) (k_p_inverted : PySem.W.keepIn K (.ref f_p_inverted) = true)
    (a_p_simple : PySem.W.nsIn K mainGlobals "simple" = some (some (.ref f_p_simple))) (l_p_simple : K.lookup f_p_simple = some ⟨oc_p_simple, od_p_simple, .func (PySem.W.fnOf "simple" "simple" (defArgs s_p_simple) (defBody s_p_simple) (defScope s_p_simple) .none kV_p_simple dc_p_simple pm_p_simple an_p_simple cd_p_simple ct_p_simple), sl_p_simple⟩) (c_p_simple : PySem.W.codeIn K cd_p_simple "simple" = true) (k_p_simple : PySem.W.keepIn K (.ref f_p_simple) = true)
    (a_p_with_steps : PySem.W.nsIn K mainGlobals "with_steps" = some (some (.ref f_p_with_steps))) (l_p_with_steps : K.lookup f_p_with_steps = some ⟨oc_p_with_steps, od_p_with_steps, .func (PySem.W.fnOf "with_steps" "with_steps" (defArgs s_p_with_steps) (defBody s_p_with_steps) (defScope s_p_with_steps) .none kV_p_with_steps dc_p_with_steps pm_p_with_steps an_p_with_steps cd_p_with_steps ct_p_with_steps), sl_p_with_steps⟩) (c_p_with_steps : PySem.W.codeIn K cd_p_with_steps "with_steps" = true) (k_p_with_steps : PySem.W.keepIn K (.ref f_p_with_steps) = true)
    (a_p_spellings : PySem.W.nsIn K mainGlobals "spellings" = some (some (.ref f_p_spellings))) (l_p_spellings : K.lookup f_p_spellings = some ⟨oc_p_spellings, od_p_spellings, .func (PySem.W.fnOf "spellings" "spellings" (defArgs s_p_spellings) (defBody s_p_spellings) (defScope s_p_spellings) .none kV_p_spellings dc_p_spellings pm_p_spellings an_p_spellings cd_p_spellings ct_p_spellings), sl_p_spellings⟩) (c_p_spellings : PySem.W.codeIn K cd_p_spellings "spellings" = true) (k_p_spellings : PySem.W.keepIn K (.ref f_p_spellings) = true)
    (a_pool : PySem.W.nsIn K mainGlobals "_law_pool" = some (some (.ref f_pool))) (l_pool : K.lookup f_pool = some ⟨oc_pool, od_pool, .func (PySem.W.fnOf "_law_pool" "_law_pool" (defArgs s_pool) (defBody s_pool) (defScope s_pool) .none kV_pool dc_pool pm_pool an_pool cd_pool ct_pool), sl_pool⟩) (c_pool : PySem.W.codeIn K cd_pool "_law_pool" = true) (k_pool : PySem.W.keepIn K (.ref f_pool) = true)
    (a_take : PySem.W.nsIn K mainGlobals "_law_take" = some (some (.ref f_take))) (l_take : K.lookup f_take = some ⟨oc_take, od_take, .func (PySem.W.fnOf "_law_take" "_law_take" (defArgs s_take) (defBody s_take) (defScope s_take) .none kV_take dc_take pm_take an_take cd_take ct_take), sl_take⟩) (c_take : PySem.W.codeIn K cd_take "_law_take" = true) (k_take : PySem.W.keepIn K (.ref f_take) = true)
    (a_pick : PySem.W.nsIn K mainGlobals "_law_pick" = some (some (.ref f_pick))) (l_pick : K.lookup f_pick = some ⟨oc_pick, od_pick, .func (PySem.W.fnOf "_law_pick" "_law_pick" (defArgs s_pick) (defBody s_pick) (defScope s_pick) .none kV_pick dc_pick pm_pick an_pick cd_pick ct_pick), sl_pick⟩) (c_pick : PySem.W.codeIn K cd_pick "_law_pick" = true) (k_pick : PySem.W.keepIn K (.ref f_pick) = true)
    (a_is_integer : PySem.W.nsIn K mainGlobals "_law_is_integer" = some (some (.ref f_is_integer))) (l_is_integer : K.lookup f_is_integer = some ⟨oc_is_integer, od_is_integer, .func (PySem.W.fnOf "_law_is_integer" "_law_is_integer" (defArgs s_is_integer) (defBody s_is_integer) (defScope s_is_integer) .none kV_is_integer dc_is_integer pm_is_integer an_is_integer cd_is_integer ct_is_integer), sl_is_integer⟩) (c_is_integer : PySem.W.codeIn K cd_is_integer "_law_is_integer" = true) (k_is_integer : PySem.W.keepIn K (.ref f_is_integer) = true)
    (a_same : PySem.W.nsIn K mainGlobals "_law_same" = some (some (.ref f_same))) (l_same : K.lookup f_same = some ⟨oc_same, od_same, .func (PySem.W.fnOf "_law_same" "_law_same" (defArgs s_same) (defBody s_same) (defScope s_same) .none kV_same dc_same pm_same an_same cd_same ct_same), sl_same⟩) (c_same : PySem.W.codeIn K cd_same "_law_same" = true) (k_same : PySem.W.keepIn K (.ref f_same) = true)
    (a_tone : PySem.W.nsIn K mainGlobals "_law_tone" = some (some (.ref f_tone))) (l_tone : K.lookup f_tone = some ⟨oc_tone, od_tone, .func (PySem.W.fnOf "_law_tone" "_law_tone" (defArgs s_tone) (defBody s_tone) (defScope s_tone) .none kV_tone dc_tone pm_tone an_tone cd_tone ct_tone), sl_tone⟩) (c_tone : PySem.W.codeIn K cd_tone "_law_tone" = true) (k_tone : PySem.W.keepIn K (.ref f_tone) = true)
    (a_order : PySem.W.nsIn K mainGlobals "_law_order" = some (some (.ref f_order))) (l_order : K.lookup f_order = some ⟨oc_order, od_order, .func (PySem.W.fnOf "_law_order" "_law_order" (defArgs s_order) (defBody s_order) (defScope s_order) .none kV_order dc_order pm_order an_order cd_order ct_order), sl_order⟩) (c_order : PySem.W.codeIn K cd_order "_law_order" = true) (k_order : PySem.W.keepIn K (.ref f_order) = true)
    (a_far_pair : PySem.W.nsIn K mainGlobals "_law_far_pair" = some (some (.ref f_far_pair))) (l_far_pair : K.lookup f_far_pair = some ⟨oc_far_pair, od_far_pair, .func (PySem.W.fnOf "_law_far_pair" "_law_far_pair" (defArgs s_far_pair) (defBody s_far_pair) (defScope s_far_pair) .none kV_far_pair dc_far_pair pm_far_pair an_far_pair cd_far_pair ct_far_pair), sl_far_pair⟩) (c_far_pair : PySem.W.codeIn K cd_far_pair "_law_far_pair" = true) (k_far_pair : PySem.W.keepIn K (.ref f_far_pair) = true)
    (a_asked : PySem.W.nsIn K mainGlobals "_law_asked" = some (some (.ref f_asked))) (l_asked : K.lookup f_asked = some ⟨oc_asked, od_asked, .func (PySem.W.fnOf "_law_asked" "_law_asked" (defArgs s_asked) (defBody s_asked) (defScope s_asked) .none kV_asked dc_asked pm_asked an_asked cd_asked ct_asked), sl_asked⟩) (c_asked : PySem.W.codeIn K cd_asked "_law_asked" = true) (k_asked : PySem.W.keepIn K (.ref f_asked) = true)
    (a_simple : PySem.W.nsIn K mainGlobals "_law_simple" = some (some (.ref f_simple))) (l_simple : K.lookup f_simple = some ⟨oc_simple, od_simple, .func (PySem.W.fnOf "_law_simple" "_law_simple" (defArgs s_simple) (defBody s_simple) (defScope s_simple) .none kV_simple dc_simple pm_simple an_simple cd_simple ct_simple), sl_simple⟩) (c_simple : PySem.W.codeIn K cd_simple "_law_simple" = true) (k_simple : PySem.W.keepIn K (.ref f_simple) = true)
    (a_due : PySem.W.nsIn K mainGlobals "_law_due" = some (some (.ref f_due))) (l_due : K.lookup f_due = some ⟨oc_due, od_due, .func (PySem.W.fnOf "_law_due" "_law_due" (defArgs s_due) (defBody s_due) (defScope s_due) .none kV_due dc_due pm_due an_due cd_due ct_due), sl_due⟩) (c_due : PySem.W.codeIn K cd_due "_law_due" = true) (k_due : PySem.W.keepIn K (.ref f_due) = true)
    (a_sums_so : PySem.W.nsIn K mainGlobals "_law_sums_so" = some (some (.ref f_sums_so))) (l_sums_so : K.lookup f_sums_so = some ⟨oc_sums_so, od_sums_so, .func (PySem.W.fnOf "_law_sums_so" "_law_sums_so" (defArgs s_sums_so) (defBody s_sums_so) (defScope s_sums_so) .none kV_sums_so dc_sums_so pm_sums_so an_sums_so cd_sums_so ct_sums_so), sl_sums_so⟩) (c_sums_so : PySem.W.codeIn K cd_sums_so "_law_sums_so" = true) (k_sums_so : PySem.W.keepIn K (.ref f_sums_so) = true)
    (a_spelled : PySem.W.nsIn K mainGlobals "_law_spelled" = some (some (.ref f_spelled))) (l_spelled : K.lookup f_spelled = some ⟨oc_spelled, od_spelled, .func (PySem.W.fnOf "_law_spelled" "_law_spelled" (defArgs s_spelled) (defBody s_spelled) (defScope s_spelled) .none kV_spelled dc_spelled pm_spelled an_spelled cd_spelled ct_spelled), sl_spelled⟩) (c_spelled : PySem.W.codeIn K cd_spelled "_law_spelled" = true) (k_spelled : PySem.W.keepIn K (.ref f_spelled) = true)
    (a_wanted : PySem.W.nsIn K mainGlobals "_law_wanted" = some (some (.ref f_wanted))) (l_wanted : K.lookup f_wanted = some ⟨oc_wanted, od_wanted, .func (PySem.W.fnOf "_law_wanted" "_law_wanted" (defArgs s_wanted) (defBody s_wanted) (defScope s_wanted) .none kV_wanted dc_wanted pm_wanted an_wanted cd_wanted ct_wanted), sl_wanted⟩) (c_wanted : PySem.W.codeIn K cd_wanted "_law_wanted" = true) (k_wanted : PySem.W.keepIn K (.ref f_wanted) = true)
    (a_spellings_so : PySem.W.nsIn K mainGlobals "_law_spellings_so" = some (some (.ref f_spellings_so))) (l_spellings_so : K.lookup f_spellings_so = some ⟨oc_spellings_so, od_spellings_so, .func (PySem.W.fnOf "_law_spellings_so" "_law_spellings_so" (defArgs s_spellings_so) (defBody s_spellings_so) (defScope s_spellings_so) .none kV_spellings_so dc_spellings_so pm_spellings_so an_spellings_so cd_spellings_so ct_spellings_so), sl_spellings_so⟩) (c_spellings_so : PySem.W.codeIn K cd_spellings_so "_law_spellings_so" = true) (k_spellings_so : PySem.W.keepIn K (.ref f_spellings_so) = true)
    (a_law : PySem.W.nsIn K mainGlobals "law" = some (some (.ref f_law))) (l_law : K.lookup f_law = some ⟨oc_law, od_law, .func (PySem.W.fnOf "law" "law" (defArgs s_law) (defBody s_law) (defScope s_law) .none kV_law dc_law pm_law an_law cd_law ct_law), sl_law⟩) (c_law : PySem.W.codeIn K cd_law "law" = true) (k_law : PySem.W.keepIn K (.ref f_law) = true)
    (z_len : PySem.W.nsIn K mainGlobals "len" = some none)
    (z_int : PySem.W.nsIn K mainGlobals "int" = some none)
    (z_isinstance : PySem.W.nsIn K mainGlobals "isinstance" = some none)
    (z_range : PySem.W.nsIn K mainGlobals "range" = some none)
    (z_list : PySem.W.nsIn K mainGlobals "list" = some none)
    (z_tuple : PySem.W.nsIn K mainGlobals "tuple" = some none)
    (z_all : PySem.W.nsIn K mainGlobals "all" = some none)
    (z_bool : PySem.W.nsIn K mainGlobals "bool" = some none)
    (z_str : PySem.W.nsIn K mainGlobals "str" = some none)
    (z_sorted : PySem.W.nsIn K mainGlobals "sorted" = some none)
    (z_abs : PySem.W.nsIn K mainGlobals "abs" = some none)
    : ∃ fd : FuncData, (∀ (s : Shared) (v : Value), BindsTo s fd ⟨[v], []⟩ [("script", v)]) ∧ ∀ base : Heap, K.In base → base.Ns mainGlobals mg → FnOk l.prog w K mg base CX0 7 fa fd ["script"] (spLaw K) := by
  have e := hfa.symm.trans (PySem.W.mg_of X G a_law)
  cases e
  have T : Bt mg := ⟨PySem.W.mg_none_of X G z_len, PySem.W.mg_none_of X G z_int, PySem.W.mg_none_of X G z_isinstance, PySem.W.mg_none_of X G z_range, PySem.W.mg_none_of X G z_list, PySem.W.mg_none_of X G z_tuple, PySem.W.mg_none_of X G z_all, PySem.W.mg_none_of X G z_bool, PySem.W.mg_none_of X G z_str⟩
  have F_p_steps := fun_mk (st := s_p_steps) l_p_steps c_p_steps k_p_steps
  have m_p_steps := PySem.W.mg_of X G a_p_steps
  have F_p_height := fun_mk (st := s_p_height) l_p_height c_p_height k_p_height
  have m_p_height := PySem.W.mg_of X G a_p_height
  have F_p_added := fun_mk (st := s_p_added) l_p_added c_p_added k_p_added
  have m_p_added := PySem.W.mg_of X G a_p_added
  have F_p_opposite := fun_mk (st := s_p_opposite) l_p_opposite c_p_opposite k_p_opposite
  have m_p_opposite := PySem.W.mg_of X G a_p_opposite
  have F_p_between := fun_mk (st := s_p_between) l_p_between c_p_between k_p_between
  have m_p_between := PySem.W.mg_of X G a_p_between
  have F_p_inverted := fun_mk (st := s_p_inverted) l_p_inverted c_p_inverted k_p_inverted
  have m_p_inverted := PySem.W.mg_of X G a_p_inverted
  have F_p_simple := fun_mk (st := s_p_simple) l_p_simple c_p_simple k_p_simple
  have m_p_simple := PySem.W.mg_of X G a_p_simple
  have F_p_with_steps := fun_mk (st := s_p_with_steps) l_p_with_steps c_p_with_steps k_p_with_steps
  have m_p_with_steps := PySem.W.mg_of X G a_p_with_steps
  have F_p_spellings := fun_mk (st := s_p_spellings) l_p_spellings c_p_spellings k_p_spellings
  have m_p_spellings := PySem.W.mg_of X G a_p_spellings
  have F_pool := fun_mk (st := s_pool) l_pool c_pool k_pool
  have m_pool := PySem.W.mg_of X G a_pool
  have F_take := fun_mk (st := s_take) l_take c_take k_take
  have m_take := PySem.W.mg_of X G a_take
  have F_pick := fun_mk (st := s_pick) l_pick c_pick k_pick
  have m_pick := PySem.W.mg_of X G a_pick
  have F_is_integer := fun_mk (st := s_is_integer) l_is_integer c_is_integer k_is_integer
  have m_is_integer := PySem.W.mg_of X G a_is_integer
  have F_same := fun_mk (st := s_same) l_same c_same k_same
  have m_same := PySem.W.mg_of X G a_same
  have F_tone := fun_mk (st := s_tone) l_tone c_tone k_tone
  have m_tone := PySem.W.mg_of X G a_tone
  have F_order := fun_mk (st := s_order) l_order c_order k_order
  have m_order := PySem.W.mg_of X G a_order
  have F_far_pair := fun_mk (st := s_far_pair) l_far_pair c_far_pair k_far_pair
  have m_far_pair := PySem.W.mg_of X G a_far_pair
  have F_asked := fun_mk (st := s_asked) l_asked c_asked k_asked
  have m_asked := PySem.W.mg_of X G a_asked
  have F_simple := fun_mk (st := s_simple) l_simple c_simple k_simple
  have m_simple := PySem.W.mg_of X G a_simple
  have F_due := fun_mk (st := s_due) l_due c_due k_due
  have m_due := PySem.W.mg_of X G a_due
  have F_sums_so := fun_mk (st := s_sums_so) l_sums_so c_sums_so k_sums_so
  have m_sums_so := PySem.W.mg_of X G a_sums_so
  have F_spelled := fun_mk (st := s_spelled) l_spelled c_spelled k_spelled
  have m_spelled := PySem.W.mg_of X G a_spelled
  have F_wanted := fun_mk (st := s_wanted) l_wanted c_wanted k_wanted
  have m_wanted := PySem.W.mg_of X G a_wanted
  have F_spellings_so := fun_mk (st := s_spellings_so) l_spellings_so c_spellings_so k_spellings_so
  have m_spellings_so := PySem.W.mg_of X G a_spellings_so
  have F_law := fun_mk (st := s_law) l_law c_law k_law
  have m_law := PySem.W.mg_of X G a_law
  have n_sorted := PySem.W.mg_none_of X G z_sorted
  have n_abs := PySem.W.mg_none_of X G z_abs
  refine ⟨PySem.W.fnOf "law" "law" (defArgs s_law) (defBody s_law) (defScope s_law) .none kV_law dc_law pm_law an_law cd_law ct_law, fun s v => .of_eq rfl, fun base _ _ => ?_⟩
  have q_pool := Vt.c_pool (P := l.prog) (w := w) (base := base) F_pool m_pool
  have q_take := Vt.c_take (P := l.prog) (w := w) (base := base) F_take m_take T
  have q_pick := Vt.c_pick F_pick m_pick T q_take
  have q_is_integer := Vt.c_is_integer (P := l.prog) (w := w) (base := base) F_is_integer m_is_integer T
  have q_same := Vt.c_same F_same m_same T q_is_integer
  have q_tone := Vt.c_tone F_tone m_tone T q_take
  have q_order := Vt.c_order F_order m_order T q_take
  have q_far := Vt.c_far_pair F_far_pair m_far_pair q_take q_pick q_tone
  have q_steps := Vt.c_p_steps (P := l.prog) (w := w) (base := base) F_p_steps m_p_steps
  have q_height := Vt.c_p_height (P := l.prog) (w := w) (base := base) F_p_height m_p_height
  have q_added := Vt.c_p_added (P := l.prog) (w := w) (base := base) F_p_added m_p_added
  have q_opposite := Vt.c_p_opposite (P := l.prog) (w := w) (base := base) F_p_opposite m_p_opposite
  have q_between := Vt.c_p_between (P := l.prog) (w := w) (base := base) F_p_between m_p_between
  have q_inverted := Vt.c_p_inverted (P := l.prog) (w := w) (base := base) F_p_inverted m_p_inverted
  have q_with := Vt.c_p_with_steps (P := l.prog) (w := w) (base := base) F_p_with_steps m_p_with_steps
  have q_simple := Vt.c_p_simple F_p_simple m_p_simple q_steps q_with
  have q_spellings := Vt.c_p_spellings (P := l.prog) (w := w) (base := base) F_p_spellings m_p_spellings T
  have q_asked := Vt.c_asked F_asked m_asked q_added q_between q_opposite q_inverted q_simple q_steps q_height
  have q_lsimple := Vt.c_simple (P := l.prog) (w := w) (base := base) F_simple m_simple T
  have q_due := Vt.c_due F_due m_due q_lsimple
  have q_sums := Vt.c_sums_so F_sums_so m_sums_so T q_take q_far q_pick q_order q_asked (q_same 1) q_due
  have q_spelled := Vt.c_spelled (P := l.prog) (w := w) (base := base) F_spelled m_spelled T n_sorted
  have q_wanted := Vt.c_wanted F_wanted m_wanted T n_abs q_take q_far q_pick
  have q_sso := Vt.c_spellings_so F_spellings_so m_spellings_so T q_take q_wanted q_pick q_order (q_same 2) q_spellings q_spelled
  exact Vt.c_law F_law q_pool q_sums q_sso
end Vt
open PySem PySem.W PyProof.Rows
set_option maxRecDepth 100000 in
set_option maxHeartbeats 0 in
theorem PySem.Challenge.cw_counterheld_k04_whole_sums_and_spellings_holds : PySem.Challenge.rw_counterheld_k04_whole_sums_and_spellings.Holds := by
  w_on; o_law; k_head; (case hw => w_witness2)
  k_fill
  refine Vt.walk (l := PySem.Challenge.rw_counterheld_k04_whole_sums_and_spellings) (k := 7) ⟨rfl, by decide, by decide⟩ rfl rfl (fun w h Y => PySem.W.kIn_of Y) ?F
  case F =>
    intro w mg fa h KX G hmg
    refine' Vt.all_mk KX G hmg ?a_p_steps ?l_p_steps ?c_p_steps ?k_p_steps ?a_p_height ?l_p_height ?c_p_height ?k_p_height ?a_p_added ?l_p_added ?c_p_added ?k_p_added ?a_p_opposite ?l_p_opposite ?c_p_opposite ?k_p_opposite ?a_p_between ?l_p_between ?c_p_between ?k_p_between ?a_p_inverted ?l_p_inverted ?c_p_inverted ?k_p_inverted ?a_p_simple ?l_p_simple ?c_p_simple ?k_p_simple ?a_p_with_steps ?l_p_with_steps ?c_p_with_steps ?k_p_with_steps ?a_p_spellings ?l_p_spellings ?c_p_spellings ?k_p_spellings ?a_pool ?l_pool ?c_pool ?k_pool ?a_take ?l_take ?c_take ?k_take ?a_pick ?l_pick ?c_pick ?k_pick ?a_is_integer ?l_is_integer ?c_is_integer ?k_is_integer ?a_same ?l_same ?c_same ?k_same ?a_tone ?l_tone ?c_tone ?k_tone ?a_order ?l_order ?c_order ?k_order ?a_far_pair ?l_far_pair ?c_far_pair ?k_far_pair ?a_asked ?l_asked ?c_asked ?k_asked ?a_simple ?l_simple ?c_simple ?k_simple ?a_due ?l_due ?c_due ?k_due ?a_sums_so ?l_sums_so ?c_sums_so ?k_sums_so ?a_spelled ?l_spelled ?c_spelled ?k_spelled ?a_wanted ?l_wanted ?c_wanted ?k_wanted ?a_spellings_so ?l_spellings_so ?c_spellings_so ?k_spellings_so ?a_law ?l_law ?c_law ?k_law ?z_len ?z_int ?z_isinstance ?z_range ?z_list ?z_tuple ?z_all ?z_bool ?z_str ?z_sorted ?z_abs
    (case a_p_steps => k_is)
    (case l_p_steps => k_is)
    (case c_p_steps => k_is)
    (case k_p_steps => k_is)
    (case a_p_height => k_is)
    (case l_p_height => k_is)
    (case c_p_height => k_is)
    (case k_p_height => k_is)
    (case a_p_added => k_is)
    (case l_p_added => k_is)
    (case c_p_added => k_is)
    (case k_p_added => k_is)
    (case a_p_opposite => k_is)
    (case l_p_opposite => k_is)
    (case c_p_opposite => k_is)
    (case k_p_opposite => k_is)
    (case a_p_between => k_is)
    (case l_p_between => k_is)
    (case c_p_between => k_is)
    (case k_p_between => k_is)
    (case a_p_inverted => k_is)
    (case l_p_inverted => k_is)
    (case c_p_inverted => k_is)
    (case k_p_inverted => k_is)
    (case a_p_simple => k_is)
    (case l_p_simple => k_is)
    (case c_p_simple => k_is)
    (case k_p_simple => k_is)
    (case a_p_with_steps => k_is)
    (case l_p_with_steps => k_is)
    (case c_p_with_steps => k_is)
    (case k_p_with_steps => k_is)
    (case a_p_spellings => k_is)
    (case l_p_spellings => k_is)
    (case c_p_spellings => k_is)
    (case k_p_spellings => k_is)
    (case a_pool => k_is)
    (case l_pool => k_is)
    (case c_pool => k_is)
    (case k_pool => k_is)
    (case a_take => k_is)
    (case l_take => k_is)
    (case c_take => k_is)
    (case k_take => k_is)
    (case a_pick => k_is)
    (case l_pick => k_is)
    (case c_pick => k_is)
    (case k_pick => k_is)
    (case a_is_integer => k_is)
    (case l_is_integer => k_is)
    (case c_is_integer => k_is)
    (case k_is_integer => k_is)
    (case a_same => k_is)
    (case l_same => k_is)
    (case c_same => k_is)
    (case k_same => k_is)
    (case a_tone => k_is)
    (case l_tone => k_is)
    (case c_tone => k_is)
    (case k_tone => k_is)
    (case a_order => k_is)
    (case l_order => k_is)
    (case c_order => k_is)
    (case k_order => k_is)
    (case a_far_pair => k_is)
    (case l_far_pair => k_is)
    (case c_far_pair => k_is)
    (case k_far_pair => k_is)
    (case a_asked => k_is)
    (case l_asked => k_is)
    (case c_asked => k_is)
    (case k_asked => k_is)
    (case a_simple => k_is)
    (case l_simple => k_is)
    (case c_simple => k_is)
    (case k_simple => k_is)
    (case a_due => k_is)
    (case l_due => k_is)
    (case c_due => k_is)
    (case k_due => k_is)
    (case a_sums_so => k_is)
    (case l_sums_so => k_is)
    (case c_sums_so => k_is)
    (case k_sums_so => k_is)
    (case a_spelled => k_is)
    (case l_spelled => k_is)
    (case c_spelled => k_is)
    (case k_spelled => k_is)
    (case a_wanted => k_is)
    (case l_wanted => k_is)
    (case c_wanted => k_is)
    (case k_wanted => k_is)
    (case a_spellings_so => k_is)
    (case l_spellings_so => k_is)
    (case c_spellings_so => k_is)
    (case k_spellings_so => k_is)
    (case a_law => k_is)
    (case l_law => k_is)
    (case c_law => k_is)
    (case k_law => k_is)
    (case z_len => k_is)
    (case z_int => k_is)
    (case z_isinstance => k_is)
    (case z_range => k_is)
    (case z_list => k_is)
    (case z_tuple => k_is)
    (case z_all => k_is)
    (case z_bool => k_is)
    (case z_str => k_is)
    (case z_sorted => k_is)
    (case z_abs => k_is)
