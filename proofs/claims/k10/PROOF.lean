import PyProof.Rows.All
import Wide.All
import OpenK.AllK
import Wide.FinOn
import HandS.ForMost
import HandS.IsInst
import HandS.Wide
import HandS.Sort
import HandS.TupAny
import HandS.StrMore
import HandS.Conv
import HandS.NoneIn
import HandS.SortRule
import HandS.Iter
import HandS.Exc
import HandS.ExcOwn
import HandS.ExcIs
import HandS.WordsExc
import HandS.TryMany
import KE.KTryMore
import PyProof.ExcBaseAll.ValueError
import HandS.Replace
import HandS.Gcd
import HandS.Style
import HandS.Zip0
import HandS.Zip
import HandS.Rev
import PySem.Challenge.RW_counterheld_k10_whole_notes_of_bars
set_option Elab.async false
set_option linter.all false
set_option maxRecDepth 100000
set_option maxHeartbeats 2000000
/-! Values as trees: what is never changed is a tree; what is changed stands in a memory by address. -/
namespace Vt
open PySem PySem.Spec PyProof.Rows L2

inductive D where
  | val (v : V)
  | tup (ds : List D)
  | lst (ds : List D)
abbrev dI (i : Int) : D := .val (.int i)
abbrev dB (b : Bool) : D := .val (.bl b)
abbrev dS (s : Str) : D := .val (.str s)
abbrev dN : D := .val .non
abbrev dP (a : Addr) : D := .val (.ref a)

section
variable (K : PySem.W.Frag) (G : Hp)
mutual
inductive Rep : V → D → Prop where
  | val (v : V) : Rep v (.val v)
  | tup {a : Addr} {vs : List V} {ds : List D} (h : SqT K G a vs) (r : RepL vs ds) : Rep (.ref a) (.tup ds)
  | lst {a : Addr} {vs : List V} {ds : List D} (h : SqL K G a vs) (r : RepL vs ds) : Rep (.ref a) (.lst ds)
inductive RepL : List V → List D → Prop where
  | nil : RepL [] []
  | cons {v : V} {d : D} {vs : List V} {ds : List D} (h : Rep v d) (t : RepL vs ds) : RepL (v :: vs) (d :: ds)
end
end

section
variable {K : PySem.W.Frag} {G G' H H' : Hp} {v : V} {d : D} {vs : List V} {ds : List D} {a : Addr}
theorem rdUp {u : HO} (e : Same G G') (h : Rd G a u) : Rd G' a u := by
  rcases h with h | ⟨o, h⟩
  · exact .inl (e _ _ h)
  · exact .inr ⟨o, e _ _ h⟩
theorem sqtUp (e : Same G G') (h : SqT K G a vs) : SqT K G' a vs := by
  rcases h with h | h
  · exact .inl (rdUp e h)
  · exact .inr h
theorem sqlUp (e : Same G G') (h : SqL K G a vs) : SqL K G' a vs := by
  rcases h with h | h
  · exact .inl (rdUp e h)
  · exact .inr h
mutual
theorem Rep.up {v : V} {d : D} (e : Same G G') : Rep K G v d → Rep K G' v d
  | .val v => .val v
  | .tup h r => .tup (sqtUp e h) (RepL.up e r)
  | .lst h r => .lst (sqlUp e h) (RepL.up e r)
theorem RepL.up {vs : List V} {ds : List D} (e : Same G G') : RepL K G vs ds → RepL K G' vs ds
  | .nil => .nil
  | .cons h t => .cons (Rep.up e h) (RepL.up e t)
end
theorem RepL.len : ∀ {vs : List V} {ds : List D}, RepL K G vs ds → vs.length = ds.length
  | _, _, .nil => rfl
  | _, _, .cons _ t => congrArg (· + 1) (RepL.len t)
theorem RepL.get : ∀ {vs : List V} {ds : List D} {i : Nat} {d : D}, RepL K G vs ds → ds[i]? = some d → ∃ v, vs[i]? = some v ∧ Rep K G v d
  | _, _, _, _, .nil, e => by simp at e
  | _, _, 0, _, .cons h _, e => by simp at e; subst e; exact ⟨_, rfl, h⟩
  | _, _, i + 1, d, .cons _ t, e => by
    obtain ⟨v, h1, h2⟩ := RepL.get (i := i) (d := d) t (by simpa using e)
    exact ⟨v, by simpa using h1, h2⟩
theorem RepL.append : ∀ {vs ws : List V} {ds es : List D}, RepL K G vs ds → RepL K G ws es → RepL K G (vs ++ ws) (ds ++ es)
  | _, _, _, _, .nil, s => s
  | _, _, _, _, .cons h t, s => .cons h (RepL.append t s)
theorem RepL.set {v : V} {d : D} (r : Rep K G v d) : ∀ {vs : List V} {ds : List D} (i : Nat), RepL K G vs ds → RepL K G (vs.set i v) (ds.set i d)
  | _, _, _, .nil => .nil
  | _, _, 0, .cons _ t => .cons r t
  | _, _, i + 1, .cons q t => .cons q (RepL.set r i t)
theorem RepL.erase : ∀ {vs : List V} {ds : List D} (i : Nat), RepL K G vs ds → RepL K G (vs.eraseIdx i) (ds.eraseIdx i)
  | _, _, _, .nil => .nil
  | _, _, 0, .cons _ t => t
  | _, _, i + 1, .cons q t => .cons q (RepL.erase i t)
theorem RepL.vals : ∀ (xs : List V), RepL K G xs (xs.map D.val)
  | [] => .nil
  | v :: xs => .cons (.val v) (RepL.vals xs)
theorem RepL.of_vals : ∀ {vs : List V} {xs : List V}, RepL K G vs (xs.map D.val) → vs = xs
  | [], [], _ => rfl
  | v :: vs, x :: xs, h => by
    cases h with
    | cons h t =>
      cases h
      rw [RepL.of_vals t]
theorem Rep.of_val {v u : V} (h : Rep K G v (.val u)) : v = u := by cases h; rfl
end

/-! ### the memory -/
inductive MO where
  | lst (ds : List D)
abbrev Mem := Addr → Option MO
def Mem.set (M : Mem) (a : Addr) (o : MO) : Mem := fun b => if b = a then some o else M b
theorem Mem.set_same {M : Mem} {a : Addr} {o : MO} : M.set a o a = some o := if_pos rfl
theorem Mem.set_ne {M : Mem} {a b : Addr} {o : MO} (h : b ≠ a) : M.set a o b = M b := if_neg h
theorem Mem.set_set {M : Mem} {a : Addr} {o u : MO} : (M.set a o).set a u = M.set a u := by
  funext b; unfold Mem.set; split <;> rfl
def AtM (K : PySem.W.Frag) (G H : Hp) (a : Addr) : MO → Prop
  | .lst ds => ∃ vs, H a = some (.lst vs) ∧ RepL K G vs ds
structure SH (K : PySem.W.Frag) (G H : Hp) (M : Mem) : Prop where
  le : Same G H
  mem : ∀ b mo, M b = some mo → G b = none ∧ AtM K G H b mo
def Mle (M M' : Mem) : Prop := ∀ b o, M b = some o → M' b = some o
theorem Mle.refl (M : Mem) : Mle M M := fun _ _ h => h
theorem Mle.trans {M M1 M2 : Mem} (a : Mle M M1) (b : Mle M1 M2) : Mle M M2 := fun c o h => b c o (a c o h)
theorem SH.weak {K : PySem.W.Frag} {G H : Hp} {M M' : Mem} (s : SH K G H M') (h : Mle M M') : SH K G H M := ⟨s.le, fun b mo e => s.mem b mo (h b mo e)⟩
theorem AtM.some {K : PySem.W.Frag} {G H : Hp} {a : Addr} {mo : MO} (h : AtM K G H a mo) : ∃ o, H a = some o := by
  cases mo with
  | lst ds => obtain ⟨vs, e, _⟩ := h; exact ⟨_, e⟩
theorem AtM.up {K : PySem.W.Frag} {G G' H H' : Hp} {a : Addr} {mo : MO} (e : Same G G') (q : H' a = H a) (h : AtM K G H a mo) : AtM K G' H' a mo := by
  cases mo with
  | lst ds => obtain ⟨vs, e1, r⟩ := h; exact ⟨vs, by rw [q]; exact e1, r.up e⟩
/-- a new thing that is never changed -/
theorem SH.new {K : PySem.W.Frag} {G H : Hp} {M : Mem} {p : Addr} {o : HO} (s : SH K G H M) (hp : H p = none) : SH K (upd G p o) (upd H p o) M ∧ Same G (upd G p o) := by
  have gp : G p = none := by
    cases e : G p with
    | none => rfl
    | some u => rw [s.le p u e] at hp; cases hp
  have up : Same G (upd G p o) := fun b u e => by rw [upd_ne (ne_of_none e gp)]; exact e
  refine ⟨⟨fun b u e => ?_, fun b mo e => ?_⟩, up⟩
  · by_cases hb : b = p
    · subst hb; rw [upd_same] at e ⊢; exact e
    · rw [upd_ne hb] at e ⊢; exact s.le b u e
  · obtain ⟨g0, at0⟩ := s.mem b mo e
    obtain ⟨u, hu⟩ := at0.some
    have hb : b ≠ p := ne_of_none hu hp
    exact ⟨by rw [upd_ne hb]; exact g0, at0.up up (upd_ne hb)⟩
/-- a new thing that may be changed -/
theorem SH.newM {K : PySem.W.Frag} {G H : Hp} {M : Mem} {p : Addr} {vs : List V} {ds : List D} (s : SH K G H M) (hp : H p = none) (r : RepL K G vs ds) : SH K G (upd H p (.lst vs)) (M.set p (.lst ds)) ∧ M p = none ∧ G p = none := by
  have gp : G p = none := by
    cases e : G p with
    | none => rfl
    | some u => rw [s.le p u e] at hp; cases hp
  refine ⟨⟨fun b u e => ?_, fun b mo e => ?_⟩, ?_, gp⟩
  · rw [upd_ne (ne_of_none e gp)]; exact s.le b u e
  · by_cases hb : b = p
    · subst hb
      rw [Mem.set_same] at e
      cases e
      exact ⟨gp, vs, upd_same, r⟩
    · rw [Mem.set_ne hb] at e
      obtain ⟨g0, at0⟩ := s.mem b mo e
      exact ⟨g0, at0.up (Same.refl G) (upd_ne hb)⟩
  · cases e : M p with
    | none => rfl
    | some mo =>
      obtain ⟨_, at0⟩ := s.mem p mo e
      obtain ⟨u, hu⟩ := at0.some
      rw [hp] at hu; cases hu
/-- a list that stands in the memory is changed -/
theorem SH.put {K : PySem.W.Frag} {G H : Hp} {M : Mem} {p : Addr} {mo : MO} {vs : List V} {ds : List D} (s : SH K G H M) (hm : M p = some mo) (r : RepL K G vs ds) : SH K G (upd H p (.lst vs)) (M.set p (.lst ds)) := by
  obtain ⟨gp, _⟩ := s.mem p mo hm
  refine ⟨fun b u e => ?_, fun b mo e => ?_⟩
  · rw [upd_ne (ne_of_none e gp)]; exact s.le b u e
  · by_cases hb : b = p
    · subst hb
      rw [Mem.set_same] at e
      cases e
      exact ⟨gp, vs, upd_same, r⟩
    · rw [Mem.set_ne hb] at e
      obtain ⟨g0, at0⟩ := s.mem b mo e
      exact ⟨g0, at0.up (Same.refl G) (upd_ne hb)⟩

/-! ### the slots -/
abbrev Sl := List (Option D)
def RepS (K : PySem.W.Frag) (G : Hp) (σ : L2.St) (ρ : Sl) : Prop := σ.length = ρ.length ∧ ∀ (i : Nat) (d : D), ρ[i]? = some (some d) → ∃ v, σ[i]? = some (some v) ∧ Rep K G v d
theorem RepS.up {K : PySem.W.Frag} {G G' : Hp} {σ : L2.St} {ρ : Sl} (e : Same G G') (h : RepS K G σ ρ) : RepS K G' σ ρ :=
  ⟨h.1, fun i d q => let ⟨v, a, b⟩ := h.2 i d q; ⟨v, a, b.up e⟩⟩
theorem RepS.set {K : PySem.W.Frag} {G : Hp} {σ : L2.St} {ρ : Sl} {v : V} {d : D} (i : Nat) (h : RepS K G σ ρ) (r : Rep K G v d) : RepS K G (σ.set i (some v)) (ρ.set i (some d)) := by
  refine ⟨by rw [List.length_set, List.length_set]; exact h.1, fun j e q => ?_⟩
  by_cases hj : i = j
  · subst hj
    by_cases hl : i < ρ.length
    · rw [List.getElem?_set_self hl] at q
      cases q
      exact ⟨v, List.getElem?_set_self (by rw [h.1]; exact hl), r⟩
    · rw [List.getElem?_eq_none (by rw [List.length_set]; omega)] at q
      cases q
  · rw [List.getElem?_set_ne hj] at q ⊢
    exact h.2 j e q
/-- a slot is forgotten -/
theorem RepS.none {K : PySem.W.Frag} {G : Hp} {σ : L2.St} {ρ : Sl} {x : Option V} (i : Nat) (h : RepS K G σ ρ) : RepS K G (σ.set i x) (ρ.set i Option.none) := by
  refine ⟨by rw [List.length_set, List.length_set]; exact h.1, fun j e q => ?_⟩
  by_cases hj : i = j
  · subst hj
    by_cases hl : i < ρ.length
    · rw [List.getElem?_set_self hl] at q
      cases q
    · rw [List.getElem?_eq_none (by rw [List.length_set]; omega)] at q
      cases q
  · rw [List.getElem?_set_ne hj] at q ⊢
    exact h.2 j e q
/-- of fewer slots known -/
theorem RepS.weak {K : PySem.W.Frag} {G : Hp} {σ : L2.St} {ρ ρ' : Sl} (h : RepS K G σ ρ) (hl : ρ'.length = ρ.length) (hs : ∀ (i : Nat) (d : D), ρ'[i]? = some (some d) → ρ[i]? = some (some d)) : RepS K G σ ρ' :=
  ⟨by rw [h.1, hl], fun i d q => h.2 i d (hs i d q)⟩
structure SA (K : PySem.W.Frag) (G H : Hp) (σ : L2.St) (ρ : Sl) (M : Mem) : Prop where
  sh : SH K G H M
  sl : RepS K G σ ρ

/-! ### the judgements -/
def tE (K : PySem.W.Frag) (ρ : Sl) (M : Mem) (d : D) (M' : Mem) : TE := fun σ H Q => ∃ G, SA K G H σ ρ M ∧ ∀ v G' H', Same G G' → SH K G' H' M' → Rep K G' v d → Q v H'
def tT (K : PySem.W.Frag) (ρ : Sl) (M : Mem) (b : Bool) (M' : Mem) : TT := fun σ H Q => ∃ G, SA K G H σ ρ M ∧ ∀ G' H', Same G G' → SH K G' H' M' → Q b H'
def tA (K : PySem.W.Frag) (ρ : Sl) (M : Mem) (ds : List D) (M' : Mem) : TA := fun σ H Q => ∃ G, SA K G H σ ρ M ∧ ∀ vs G' H', Same G G' → SH K G' H' M' → RepL K G' vs ds → Q vs H'
def tO (K : PySem.W.Frag) (ρ : Sl) (M : Mem) (o : Option Int) (M' : Mem) : TO := fun σ H Q => ∃ G, SA K G H σ ρ M ∧ ∀ G' H', Same G G' → SH K G' H' M' → Q o H'
abbrev EV (X : Cx) (e : Expr) (ρ : Sl) (M : Mem) (d : D) (M' : Mem) : Prop := PE X e (tE X.K ρ M d M')
abbrev TV (X : Cx) (e : Expr) (ρ : Sl) (M : Mem) (b : Bool) (M' : Mem) : Prop := PT X e (tT X.K ρ M b M')
abbrev WV (X : Cx) (e : Expr) (ρ : Sl) (M : Mem) (b : Bool) (M' : Mem) : Prop := PW X e (tT X.K ρ M b M')
abbrev AV (X : Cx) (es : List Expr) (ρ : Sl) (M : Mem) (ds : List D) (M' : Mem) : Prop := PA X es (tA X.K ρ M ds M')
abbrev OV (X : Cx) (e : Option Expr) (ρ : Sl) (M : Mem) (o : Option Int) (M' : Mem) : Prop := PO X e (tO X.K ρ M o M')
inductive Out where
  | nx (ρ : Sl) (M : Mem) | ret (d : D) (M : Mem) | bk (ρ : Sl) (M : Mem) | ct (ρ : Sl) (M : Mem)
def okE (K : PySem.W.Frag) (G0 : Hp) (E : Ends) : Out → Prop
  | .nx ρ M => ∀ σ G H, Same G0 G → SA K G H σ ρ M → E.nx σ H
  | .ret d M => ∀ v G H, Same G0 G → SH K G H M → Rep K G v d → E.rt v H
  | .bk ρ M => ∀ σ G H, Same G0 G → SA K G H σ ρ M → E.bk σ H
  | .ct ρ M => ∀ σ G H, Same G0 G → SA K G H σ ρ M → E.ct σ H
theorem okE.up {K : PySem.W.Frag} {G0 G1 : Hp} {E : Ends} {o : Out} (e : Same G0 G1) (h : okE K G0 E o) : okE K G1 E o := by
  cases o with
  | nx ρ M => exact fun σ G H g => h σ G H (e.trans g)
  | ret d M => exact fun v G H g => h v G H (e.trans g)
  | bk ρ M => exact fun σ G H g => h σ G H (e.trans g)
  | ct ρ M => exact fun σ G H g => h σ G H (e.trans g)
def tS (K : PySem.W.Frag) (ρ : Sl) (M : Mem) (Ψ : Out → Prop) : TS := fun E σ H => ∃ G, SA K G H σ ρ M ∧ ∀ o, Ψ o → okE K G E o
abbrev SV (X : Cx) (st : Stmt) (ρ : Sl) (M : Mem) (Ψ : Out → Prop) : Prop := PS X st (tS X.K ρ M Ψ)
abbrev BV (X : Cx) (sts : List Stmt) (ρ : Sl) (M : Mem) (Ψ : Out → Prop) : Prop := PSs X sts (tS X.K ρ M Ψ)

section
variable {X : Cx}
theorem _root_.L2.PE.mono {e : Expr} {t t' : TE} (h : PE X e t) (i : ∀ σ H Q, t' σ H Q → t σ H Q) : PE X e t' := ⟨fun pins s σ H Q I q => h.run pins s σ H Q I (i σ H Q q)⟩
theorem _root_.L2.PT.mono {e : Expr} {t t' : TT} (h : PT X e t) (i : ∀ σ H Q, t' σ H Q → t σ H Q) : PT X e t' := ⟨fun pins s σ H Q I q => h.run pins s σ H Q I (i σ H Q q)⟩
theorem _root_.L2.PW.mono {e : Expr} {t t' : TT} (h : PW X e t) (i : ∀ σ H Q, t' σ H Q → t σ H Q) : PW X e t' := ⟨fun wh pins s σ H Q I q => h.run wh pins s σ H Q I (i σ H Q q)⟩
theorem _root_.L2.PA.mono {e : List Expr} {t t' : TA} (h : PA X e t) (i : ∀ σ H Q, t' σ H Q → t σ H Q) : PA X e t' := ⟨fun pos pins s σ H Q I q => h.run pos pins s σ H Q I (i σ H Q q)⟩
theorem _root_.L2.PO.mono {e : Option Expr} {t t' : TO} (h : PO X e t) (i : ∀ σ H Q, t' σ H Q → t σ H Q) : PO X e t' := ⟨fun pins s σ H Q I q => h.run pins s σ H Q I (i σ H Q q)⟩
theorem _root_.L2.PS.mono {e : Stmt} {t t' : TS} (h : PS X e t) (i : ∀ E σ H, t' E σ H → t E σ H) : PS X e t' := ⟨fun pins s σ H E I q => h.run pins s σ H E I (i E σ H q)⟩
theorem _root_.L2.PSs.mono {e : List Stmt} {t t' : TS} (h : PSs X e t) (i : ∀ E σ H, t' E σ H → t E σ H) : PSs X e t' := ⟨fun pins s σ H E I q => h.run pins s σ H E I (i E σ H q)⟩
end

section
variable {X : Cx} {ρ : Sl} {M M1 M2 M3 : Mem} {a b c e : Expr} {es : List Expr} {d d1 d2 : D} {ds : List D} {pos : Pos}
/-! ### leaves -/
theorem ev_var (i : Nat) {x : Str} (hρ : ρ[i]? = some (some d)) (hN : X.N[i]? = some x := by rfl) (hv : Vis X.env.scope x := by first | exact Or.inl rfl | exact Or.inr (Or.inl rfl) | exact Or.inr (Or.inr rfl))
    (hd : (x == ("__debug__" : Str)) = false := by decide) (hcd : (x == ("__classdict__" : Str)) = false := by decide) : EV X (.Name x pos) ρ M d M :=
  (pe_var hN hv hd hcd).mono fun σ H Q ⟨G, sa, k⟩ => let ⟨v, e1, r⟩ := sa.sl.2 i d hρ; ⟨v, e1, k v G H (Same.refl G) sa.sh r⟩
theorem ev_int {i : Int} {j} : EV X (.Constant (.int i) j pos) ρ M (dI i) M := pe_int.mono fun σ H Q ⟨G, sa, k⟩ => k _ G H (Same.refl G) sa.sh (.val _)
theorem ev_bl {i : Bool} {j} : EV X (.Constant (.bool i) j pos) ρ M (dB i) M := pe_bl.mono fun σ H Q ⟨G, sa, k⟩ => k _ G H (Same.refl G) sa.sh (.val _)
theorem ev_non {j} : EV X (.Constant .none j pos) ρ M dN M := pe_non.mono fun σ H Q ⟨G, sa, k⟩ => k _ G H (Same.refl G) sa.sh (.val _)
theorem ev_str {x : Str} {j} : EV X (.Constant (.str x) j pos) ρ M (dS x) M := pe_str.mono fun σ H Q ⟨G, sa, k⟩ => k _ G H (Same.refl G) sa.sh (.val _)
theorem ev_glob {x : Str} {v : V} {u : Value} (hg : Gl X x) (hm : X.mg x = some u) (r : RelV v u) (hd : (x == ("__debug__" : Str)) = false := by decide) : EV X (.Name x pos) ρ M (.val v) M :=
  (pe_glob hg hm r hd).mono fun σ H Q ⟨G, sa, k⟩ => k _ G H (Same.refl G) sa.sh (.val _)
/-- a tuple or a list of the module, written -/
theorem ev_globD {x : Str} {f : Addr} (hg : Gl X x) (hm : X.mg x = some (.ref f)) (h : ∀ G, Rep X.K G (.ref f) d) (hd : (x == ("__debug__" : Str)) = false := by decide) : EV X (.Name x pos) ρ M d M :=
  (pe_glob (v := .ref f) hg hm rfl hd).mono fun σ H Q ⟨G, sa, k⟩ => k _ G H (Same.refl G) sa.sh (h G)

/-! ### operators by values -/
def RS (r : R2) (x y z : V) : Prop := ∀ H Q, Q z H → r x y H Q
def RU (r : V → Hp → VK → Prop) (x z : V) : Prop := ∀ H Q, Q z H → r x H Q
theorem ev_op {op : Operator} {r : R2} {x y z : V} (ho : OpR X (binaryOp op) r) (ha : EV X a ρ M (.val x) M1) (hb : EV X b ρ M1 (.val y) M2) (hr : RS r x y z) : EV X (.BinOp a op b pos) ρ M (.val z) M2 :=
  (pe_op ho ha hb).mono fun σ H Q ⟨G, sa, k⟩ => ⟨G, sa, fun v1 G1 H1 g1 sh1 r1 => ⟨G1, ⟨sh1, sa.sl.up g1⟩, fun v2 G2 H2 g2 sh2 r2 => by
    rw [r1.of_val, r2.of_val]
    exact hr H2 Q (k _ G2 H2 (g1.trans g2) sh2 (.val _))⟩⟩
theorem ev_un {op : UnaryOp} {r : V → Hp → VK → Prop} {x z : V} (ho : UnR X (unaryOp op) r) (ha : EV X a ρ M (.val x) M1) (hr : RU r x z) : EV X (.UnaryOp op a pos) ρ M (.val z) M1 :=
  (pe_un ho ha).mono fun σ H Q ⟨G, sa, k⟩ => ⟨G, sa, fun v1 G1 H1 g1 sh1 r1 => by
    rw [r1.of_val]
    exact hr H1 Q (k _ G1 H1 g1 sh1 (.val _))⟩
theorem ev_cmpR {op : CmpOp} {r : R2} {x y z : V} (ho : OpR X (compareOp op) r) (ha : EV X a ρ M (.val x) M1) (hb : EV X b ρ M1 (.val y) M2) (hr : RS r x y z) (hm : behindInMarks op b = false) : EV X (.Compare a [op] [b] pos) ρ M (.val z) M2 :=
  (pe_cmpR ho ha hb hm).mono fun σ H Q ⟨G, sa, k⟩ => ⟨G, sa, fun v1 G1 H1 g1 sh1 r1 => ⟨G1, ⟨sh1, sa.sl.up g1⟩, fun v2 G2 H2 g2 sh2 r2 => by
    rw [r1.of_val, r2.of_val]
    exact hr H2 Q (k _ G2 H2 (g1.trans g2) sh2 (.val _))⟩⟩
theorem tv_cmpR {op : CmpOp} {r : R2} {x y : V} {z : Bool} (ho : OpR X (compareOp op) r) (ha : EV X a ρ M (.val x) M1) (hb : EV X b ρ M1 (.val y) M2) (hr : RS r x y (.bl z)) (hm : behindInMarks op b = false) : TV X (.Compare a [op] [b] pos) ρ M z M2 :=
  (pt_cmpR ho ha hb hm).mono fun σ H Q ⟨G, sa, k⟩ => ⟨G, sa, fun v1 G1 H1 g1 sh1 r1 => ⟨G1, ⟨sh1, sa.sl.up g1⟩, fun v2 G2 H2 g2 sh2 r2 => by
    rw [r1.of_val, r2.of_val]
    exact hr H2 _ ⟨_, rfl, k G2 H2 (g1.trans g2) sh2⟩⟩⟩
theorem rs_I0 {g : Int → Int → V} {i j : Int} : RS (rI0 g) (.int i) (.int j) (g i j) := fun H Q q => ⟨i, j, rfl, rfl, q⟩
theorem rs_I {C : Int → Int → Prop} {g : Int → Int → V} {i j : Int} (h : C i j) : RS (rI C g) (.int i) (.int j) (g i j) := fun H Q q => ⟨i, j, rfl, rfl, h, q⟩
theorem rs_eq {x y : V} (h : scal x y = true) : RS rEq x y (.bl (decide (x = y))) := fun H Q q => ⟨h, q⟩
theorem rs_ne {x y : V} (h : scal x y = true) : RS rNe x y (.bl (!decide (x = y))) := fun H Q q => ⟨h, q⟩

theorem sc_ii {i j : Int} : scal (.int i) (.int j) = true := rfl
theorem sc_ss {i j : Str} : scal (.str i) (.str j) = true := rfl
theorem sc_bb {i j : Bool} : scal (.bl i) (.bl j) = true := rfl

/-! ### tests -/
theorem tv_val {b : Bool} (h : EV X e ρ M (dB b) M1) (he : ∀ whole, isTrue e X.env whole = (do let v ← whole; standAt e.pos; holding [v] (truthy v)) := by intro _; rfl) : TV X e ρ M b M1 :=
  (pt_val h he).mono fun σ H Q ⟨G, sa, k⟩ => ⟨G, sa, fun v1 G1 H1 g1 sh1 r1 => ⟨b, r1.of_val, k G1 H1 g1 sh1⟩⟩
theorem wv_one_and {b : Bool} {pos} (h : TV X e ρ M b M1) : WV X (.BoolOp .And [e] pos) ρ M b M1 := pw_and1 h
theorem wv_one_or {b : Bool} {pos} (h : TV X e ρ M b M1) : WV X (.BoolOp .Or [e] pos) ρ M b M1 := pw_or1 h
/-- a and b and ..: what stands behind a is asked only where a is true; it changes nothing -/
theorem wv_and {p q : Bool} {rest : List Expr} (ha : TV X a ρ M p M1) (hb : p = true → WV X (.BoolOp .And (b :: rest) pos) ρ M1 q M1) : WV X (.BoolOp .And (a :: b :: rest) pos) ρ M (p && q) M1 := by
  cases p with
  | true => exact (pw_and ha (hb rfl)).mono fun σ H Q ⟨G, sa, k⟩ => ⟨G, sa, fun G1 H1 g1 sh1 => (⟨G1, ⟨sh1, sa.sl.up g1⟩, fun G2 H2 g2 sh2 => k G2 H2 (g1.trans g2) sh2⟩ : tT _ _ _ _ _ σ H1 Q)⟩
  | false => exact (pw_and (tB' := fun _ _ _ => False) ha ⟨fun _ _ _ _ _ _ _ h => h.elim⟩).mono fun σ H Q ⟨G, sa, k⟩ => ⟨G, sa, fun G1 H1 g1 sh1 => (k G1 H1 g1 sh1 : Q false H1)⟩
theorem wv_or {p q : Bool} {rest : List Expr} (ha : TV X a ρ M p M1) (hb : p = false → WV X (.BoolOp .Or (b :: rest) pos) ρ M1 q M1) : WV X (.BoolOp .Or (a :: b :: rest) pos) ρ M (p || q) M1 := by
  cases p with
  | false => exact (pw_or ha (hb rfl)).mono fun σ H Q ⟨G, sa, k⟩ => ⟨G, sa, fun G1 H1 g1 sh1 => (⟨G1, ⟨sh1, sa.sl.up g1⟩, fun G2 H2 g2 sh2 => k G2 H2 (g1.trans g2) sh2⟩ : tT _ _ _ _ _ σ H1 Q)⟩
  | true => exact (pw_or (tB' := fun _ _ _ => False) ha ⟨fun _ _ _ _ _ _ _ h => h.elim⟩).mono fun σ H Q ⟨G, sa, k⟩ => ⟨G, sa, fun G1 H1 g1 sh1 => (k G1 H1 g1 sh1 : Q true H1)⟩
/-- what stands behind may change the memory: the way is known -/
theorem wv_andT {q : Bool} {rest : List Expr} (ha : TV X a ρ M true M1) (hb : WV X (.BoolOp .And (b :: rest) pos) ρ M1 q M2) : WV X (.BoolOp .And (a :: b :: rest) pos) ρ M q M2 :=
  (pw_and ha hb).mono fun σ H Q ⟨G, sa, k⟩ => ⟨G, sa, fun G1 H1 g1 sh1 => (⟨G1, ⟨sh1, sa.sl.up g1⟩, fun G2 H2 g2 sh2 => k G2 H2 (g1.trans g2) sh2⟩ : tT _ _ _ _ _ σ H1 Q)⟩
theorem wv_andF {rest : List Expr} (ha : TV X a ρ M false M1) : WV X (.BoolOp .And (a :: b :: rest) pos) ρ M false M1 :=
  (pw_and (tB' := fun _ _ _ => False) ha ⟨fun _ _ _ _ _ _ _ h => h.elim⟩).mono fun σ H Q ⟨G, sa, k⟩ => ⟨G, sa, fun G1 H1 g1 sh1 => (k G1 H1 g1 sh1 : Q false H1)⟩
theorem wv_orT {rest : List Expr} (ha : TV X a ρ M true M1) : WV X (.BoolOp .Or (a :: b :: rest) pos) ρ M true M1 :=
  (pw_or (tB' := fun _ _ _ => False) ha ⟨fun _ _ _ _ _ _ _ h => h.elim⟩).mono fun σ H Q ⟨G, sa, k⟩ => ⟨G, sa, fun G1 H1 g1 sh1 => (k G1 H1 g1 sh1 : Q true H1)⟩
theorem wv_orF {q : Bool} {rest : List Expr} (ha : TV X a ρ M false M1) (hb : WV X (.BoolOp .Or (b :: rest) pos) ρ M1 q M2) : WV X (.BoolOp .Or (a :: b :: rest) pos) ρ M q M2 :=
  (pw_or ha hb).mono fun σ H Q ⟨G, sa, k⟩ => ⟨G, sa, fun G1 H1 g1 sh1 => (⟨G1, ⟨sh1, sa.sl.up g1⟩, fun G2 H2 g2 sh2 => k G2 H2 (g1.trans g2) sh2⟩ : tT _ _ _ _ _ σ H1 Q)⟩
theorem tv_not {b : Bool} (h : TV X e ρ M b M1) : TV X (.UnaryOp .Not e pos) ρ M (!b) M1 :=
  (pt_not h).mono fun σ H Q ⟨G, sa, k⟩ => ⟨G, sa, fun G1 H1 g1 sh1 => k G1 H1 g1 sh1⟩
theorem tv_to {b b' : Bool} (h : TV X e ρ M b M1) (q : b = b') : TV X e ρ M b' M1 := q ▸ h
theorem ev_to {d d' : D} (h : EV X e ρ M d M1) (q : d = d') : EV X e ρ M d' M1 := q ▸ h
theorem ev_toM {d : D} (h : EV X e ρ M d M1) (q : M1 = M2) : EV X e ρ M d M2 := q ▸ h
theorem wv_to {b b' : Bool} (h : WV X e ρ M b M1) (q : b = b') : WV X e ρ M b' M1 := q ▸ h

/-! ### and, or, not as values -/
theorem ev_one {op} {b : Bool} (h : EV X e ρ M d M1) : EV X (.BoolOp op [e] pos) ρ M d M1 := pe_one h
theorem ev_and {p : Bool} {d : D} {rest : List Expr} (ha : EV X a ρ M (dB p) M1) (hb : p = true → EV X (.BoolOp .And (b :: rest) pos) ρ M1 d M1) (hf : p = false → d = dB false) : EV X (.BoolOp .And (a :: b :: rest) pos) ρ M d M1 := by
  cases p with
  | true => exact (pe_and ha (hb rfl)).mono fun σ H Q ⟨G, sa, k⟩ => ⟨G, sa, fun v1 G1 H1 g1 sh1 r1 => ⟨true, r1.of_val, (⟨G1, ⟨sh1, sa.sl.up g1⟩, fun v G2 H2 g2 sh2 => k v G2 H2 (g1.trans g2) sh2⟩ : tE _ _ _ _ _ σ H1 Q)⟩⟩
  | false =>
    cases hf rfl
    exact (pe_and (tb := fun _ _ _ => False) ha ⟨fun _ _ _ _ _ _ h => h.elim⟩).mono fun σ H Q ⟨G, sa, k⟩ => ⟨G, sa, fun v1 G1 H1 g1 sh1 r1 => ⟨false, r1.of_val, (k _ G1 H1 g1 sh1 (.val _) : Q (.bl false) H1)⟩⟩
theorem ev_andB {p q : Bool} {rest : List Expr} (ha : EV X a ρ M (dB p) M1) (hb : p = true → EV X (.BoolOp .And (b :: rest) pos) ρ M1 (dB q) M1) : EV X (.BoolOp .And (a :: b :: rest) pos) ρ M (dB (p && q)) M1 := by
  refine ev_and ha (fun h => ?_) fun h => by rw [h]; rfl
  rw [h]
  exact hb h
theorem ev_orB {p q : Bool} {rest : List Expr} (ha : EV X a ρ M (dB p) M1) (hb : p = false → EV X (.BoolOp .Or (b :: rest) pos) ρ M1 (dB q) M1) : EV X (.BoolOp .Or (a :: b :: rest) pos) ρ M (dB (p || q)) M1 := by
  cases p with
  | false => exact (pe_or ha (hb rfl)).mono fun σ H Q ⟨G, sa, k⟩ => ⟨G, sa, fun v1 G1 H1 g1 sh1 r1 => ⟨false, r1.of_val, (⟨G1, ⟨sh1, sa.sl.up g1⟩, fun v G2 H2 g2 sh2 => k v G2 H2 (g1.trans g2) sh2⟩ : tE _ _ _ _ _ σ H1 Q)⟩⟩
  | true => exact (pe_or (tb := fun _ _ _ => False) ha ⟨fun _ _ _ _ _ _ h => h.elim⟩).mono fun σ H Q ⟨G, sa, k⟩ => ⟨G, sa, fun v1 G1 H1 g1 sh1 r1 => ⟨true, r1.of_val, (k _ G1 H1 g1 sh1 (.val _) : Q (.bl true) H1)⟩⟩
theorem ev_notB {p : Bool} (h : EV X e ρ M (dB p) M1) : EV X (.UnaryOp .Not e pos) ρ M (dB (!p)) M1 :=
  (pe_not h).mono fun σ H Q ⟨G, sa, k⟩ => ⟨G, sa, fun v1 G1 H1 g1 sh1 r1 => ⟨p, r1.of_val, k _ G1 H1 g1 sh1 (.val _)⟩⟩
/-- a if c else b -/
theorem ev_if {p : Bool} (hc : TV X c ρ M p M1) (ha : p = true → EV X a ρ M1 d M2) (hb : p = false → EV X b ρ M1 d M2) : EV X (.IfExp c a b pos) ρ M d M2 := by
  cases p with
  | true => exact (pe_ifExp (tb := fun _ _ _ => False) hc (ha rfl) ⟨fun _ _ _ _ _ _ h => h.elim⟩).mono fun σ H Q ⟨G, sa, k⟩ => ⟨G, sa, fun G1 H1 g1 sh1 => (⟨G1, ⟨sh1, sa.sl.up g1⟩, fun v G2 H2 g2 sh2 => k v G2 H2 (g1.trans g2) sh2⟩ : tE _ _ _ _ _ σ H1 Q)⟩
  | false => exact (pe_ifExp (ta := fun _ _ _ => False) hc ⟨fun _ _ _ _ _ _ h => h.elim⟩ (hb rfl)).mono fun σ H Q ⟨G, sa, k⟩ => ⟨G, sa, fun G1 H1 g1 sh1 => (⟨G1, ⟨sh1, sa.sl.up g1⟩, fun v G2 H2 g2 sh2 => k v G2 H2 (g1.trans g2) sh2⟩ : tE _ _ _ _ _ σ H1 Q)⟩
theorem ev_ifB {p : Bool} (hc : TV X c ρ M p M1) (ha : EV X a ρ M1 d1 M2) (hb : EV X b ρ M1 d2 M2) : EV X (.IfExp c a b pos) ρ M (if p = true then d1 else d2) M2 :=
  ev_if hc (fun h => by rw [if_pos h]; exact ha) (fun h => by rw [h, if_neg Bool.false_ne_true]; exact hb)

/-! ### arguments, displays -/
theorem av_nil : AV X [] ρ M [] M := pa_nil.mono fun σ H Q ⟨G, sa, k⟩ => k [] G H (Same.refl G) sa.sh .nil
theorem av_cons (ha : EV X e ρ M d M1) (hr : AV X es ρ M1 ds M2) (hs : starEach (e :: es) X.env = (false, eval e X.env) :: starEach es X.env := by rfl) : AV X (e :: es) ρ M (d :: ds) M2 :=
  (pa_cons ha hr hs).mono fun σ H Q ⟨G, sa, k⟩ => ⟨G, sa, fun v1 G1 H1 g1 sh1 r1 => ⟨G1, ⟨sh1, sa.sl.up g1⟩, fun vs G2 H2 g2 sh2 r2 => k _ G2 H2 (g1.trans g2) sh2 (.cons (r1.up g2) r2)⟩⟩
theorem ev_tup {x1} (h : AV X es ρ M ds M1) (hl : ds.length ≤ sizeLine := by first | (simp only [List.length_cons, List.length_nil]; decide) | decide) : EV X (.Tuple es x1 pos) ρ M (.tup ds) M1 :=
  (pe_tup h).mono fun σ H Q ⟨G, sa, k⟩ => ⟨G, sa, fun vs G1 H1 g1 sh1 r1 => ⟨by rw [r1.len]; exact hl, fun p hp => by
    obtain ⟨sh2, g2⟩ := sh1.new (o := .tup vs) hp
    exact k _ _ _ (g1.trans g2) sh2 (.tup (.inl (.inl upd_same)) (r1.up g2))⟩⟩
theorem ev_lst (h : AV X es ρ M ds M1) (hl : ds.length ≤ sizeLine := by first | (simp only [List.length_cons, List.length_nil]; decide) | decide) : EV X (.List es pos) ρ M (.lst ds) M1 :=
  (pe_lst h).mono fun σ H Q ⟨G, sa, k⟩ => ⟨G, sa, fun vs G1 H1 g1 sh1 r1 => ⟨by rw [r1.len]; exact hl, fun p hp => by
    obtain ⟨sh2, g2⟩ := sh1.new (o := .lst vs) hp
    exact k _ _ _ (g1.trans g2) sh2 (.lst (.inl (.inl upd_same)) (r1.up g2))⟩⟩

/-! ### items -/
theorem atI_up {K : PySem.W.Frag} {G : Hp} {vs : List V} {i : Int} (r : RepL K G vs ds) (h : atI ds i = some d) : ∃ v, atI vs i = some v ∧ Rep K G v d := by
  unfold atI at h ⊢
  rw [r.len]
  cases q : ixN ds.length i with
  | none => rw [q] at h; cases h
  | some j =>
    rw [q] at h
    exact r.get h
theorem ev_ixT {i : Int} (ha : EV X a ρ M (.tup ds) M1) (hb : EV X b ρ M1 (dI i) M2) (h : atI ds i = some d) (hs : PlainIx b := by (intro _ _; rfl)) : EV X (.Subscript a b pos) ρ M d M2 :=
  (pe_ix ix_tup ha hb hs).mono fun σ H Q ⟨G, sa, k⟩ => ⟨G, sa, fun v1 G1 H1 g1 sh1 r1 => ⟨G1, ⟨sh1, sa.sl.up g1⟩, fun v2 G2 H2 g2 sh2 r2 => by
    cases r1 with
    | tup q r =>
      obtain ⟨v, e, rv⟩ := atI_up (r.up g2) h
      exact ⟨_, _, i, v, rfl, r2.of_val, sqtUp sh2.le (sqtUp g2 q), e, k _ G2 H2 (g1.trans g2) sh2 rv⟩⟩⟩
theorem ev_ixL {i : Int} (ha : EV X a ρ M (.lst ds) M1) (hb : EV X b ρ M1 (dI i) M2) (h : atI ds i = some d) (hs : PlainIx b := by (intro _ _; rfl)) : EV X (.Subscript a b pos) ρ M d M2 :=
  (pe_ix ix_list ha hb hs).mono fun σ H Q ⟨G, sa, k⟩ => ⟨G, sa, fun v1 G1 H1 g1 sh1 r1 => ⟨G1, ⟨sh1, sa.sl.up g1⟩, fun v2 G2 H2 g2 sh2 r2 => by
    cases r1 with
    | lst q r =>
      obtain ⟨v, e, rv⟩ := atI_up (r.up g2) h
      exact ⟨_, _, i, v, rfl, r2.of_val, sqlUp sh2.le (sqlUp g2 q), e, k _ G2 H2 (g1.trans g2) sh2 rv⟩⟩⟩
/-- an item of a list of the memory -/
theorem ev_ixM {p : Addr} {i : Int} (ha : EV X a ρ M (dP p) M1) (hb : EV X b ρ M1 (dI i) M2) (hm : M2 p = some (.lst ds)) (h : atI ds i = some d) (hs : PlainIx b := by (intro _ _; rfl)) : EV X (.Subscript a b pos) ρ M d M2 :=
  (pe_ix ix_list ha hb hs).mono fun σ H Q ⟨G, sa, k⟩ => ⟨G, sa, fun v1 G1 H1 g1 sh1 r1 => ⟨G1, ⟨sh1, sa.sl.up g1⟩, fun v2 G2 H2 g2 sh2 r2 => by
    obtain ⟨_, vs, hv, r⟩ := sh2.mem p _ hm
    obtain ⟨v, e, rv⟩ := atI_up r h
    exact ⟨p, vs, i, v, r1.of_val, r2.of_val, .inl (.inl hv), e, k _ G2 H2 (g1.trans g2) sh2 rv⟩⟩⟩
theorem ev_ixS {z : Str} {i : Int} {ch : Nat} (ha : EV X a ρ M (dS z) M1) (hb : EV X b ρ M1 (dI i) M2) (hz : z.length ≤ sizeLine) (h : atI z.cps.toList i = some ch) (hs : PlainIx b := by (intro _ _; rfl)) : EV X (.Subscript a b pos) ρ M (dS ⟨#[ch]⟩) M2 :=
  (pe_ix ix_str ha hb hs).mono fun σ H Q ⟨G, sa, k⟩ => ⟨G, sa, fun v1 G1 H1 g1 sh1 r1 => ⟨G1, ⟨sh1, sa.sl.up g1⟩, fun v2 G2 H2 g2 sh2 r2 =>
    ⟨z, i, ch, r1.of_val, r2.of_val, hz, h, k _ G2 H2 (g1.trans g2) sh2 (.val _)⟩⟩⟩

/-! ### calls -/
/-- what a def of trees promises -/
def spD (K : PySem.W.Frag) (Pr : List D → Mem → D → Mem → Prop) : Sp := fun vs H Q _ => ∃ G ds M d M', SH K G H M ∧ RepL K G vs ds ∧ Pr ds M d M' ∧ ∀ v G' H', Same G G' → SH K G' H' M' → Rep K G' v d → Q v H'
structure Cal (P : Program) (w : World) (K : PySem.W.Frag) (mg : Str → Option Value) (base : Heap) (k : Nat) (x : Str) (sp : Sp) : Prop where
  ex : ∃ f fd ps, mg x = some (.ref f) ∧ PySem.W.keepIn K (.ref f) = true ∧ Binds K fd ps [] ∧ FnOk P w K mg base CX0 k f fd ps sp
theorem Cal.mono {P : Program} {w : World} {K : PySem.W.Frag} {mg : Str → Option Value} {base : Heap} {j k : Nat} {x : Str} {sp : Sp} (C : Cal P w K mg base j x sp) (h : j ≤ k) : Cal P w K mg base k x sp :=
  let ⟨f, fd, ps, a, b, c, F⟩ := C.ex
  ⟨f, fd, ps, a, b, c, F.mono h⟩
theorem Cal.imp {P : Program} {w : World} {K : PySem.W.Frag} {mg : Str → Option Value} {base : Heap} {k : Nat} {x : Str} {sp sp' : Sp} (C : Cal P w K mg base k x sp) (h : ∀ vs H Q E, sp' vs H Q E → sp vs H Q E) : Cal P w K mg base k x sp' :=
  let ⟨f, fd, ps, a, b, c, F⟩ := C.ex
  ⟨f, fd, ps, a, b, c, F.imp h⟩
theorem ev_call {k : Nat} {x : Str} {Pr : List D → Mem → D → Mem → Prop} {p : Pos} (C : Cal X.prog X.w X.K X.mg X.base k x (spD X.K Pr)) (hr : Room k X.A) (ha : AV X (e :: es) ρ M ds M1) (hp : Pr ds M1 d M2) (hg : Gl X x := by rfl)
    (hd : (x == ("__debug__" : Str)) = false := by decide) (hst : starEach (e :: es) X.env = (false, eval e X.env) :: starEach es X.env := by rfl) (hpl : (backTo pos (starEach es X.env)).any (·.1) = false := by rfl) : EV X (.Call (.Name x p) (e :: es) [] pos) ρ M d M2 := by
  obtain ⟨f, fd, ps, hm, hk, hb, F⟩ := C.ex
  refine (pe_call F hr hg hm hk hb .nil pass0 ha (hdb := hd) (he := hst) (hpl := hpl)).mono fun σ H Q ⟨G, sa, k⟩ => ⟨G, sa, fun vs G1 H1 g1 sh1 r1 => ?_⟩
  show spD X.K Pr (vs ++ []) H1 Q E0
  rw [List.append_nil]
  exact ⟨G1, ds, M1, d, M2, sh1, r1, hp, fun v G' H' g sh r => k v G' H' (g1.trans g) sh r⟩
/-- a built-in of scalars -/
def RC (r : List V → Hp → VK → Prop) (vs : List V) (z : V) : Prop := ∀ H Q, Q z H → r vs H Q
theorem ev_cb {x : Str} {p : Pos} {id : String} {r : List V → Hp → VK → Prop} {vs : List V} {z : V} (hc : CallR X (.builtin id) r) (hm : X.mg x = none) (hv : bootBuiltins x = some (.builtin id)) (ha : AV X (e :: es) ρ M (vs.map D.val) M1) (hr : RC r vs z) (hg : Gl X x := by rfl)
    (hn : x ≠ "__name__" := by decide) (hd : (x == ("__debug__" : Str)) = false := by decide) (hst : starEach (e :: es) X.env = (false, eval e X.env) :: starEach es X.env := by rfl) (hpl : (backTo pos (starEach es X.env)).any (·.1) = false := by rfl) : EV X (.Call (.Name x p) (e :: es) [] pos) ρ M (.val z) M1 :=
  (pe_callB hc hg hm hv ha hn hd hst hpl).mono fun σ H Q ⟨G, sa, k⟩ => ⟨G, sa, fun vs' G1 H1 g1 sh1 r1 => by
    rw [RepL.of_vals r1]
    exact hr H1 Q (k _ G1 H1 g1 sh1 (.val _))⟩
theorem ev_ct {x : Str} {p : Pos} {id : String} {r : List V → Hp → VK → Prop} {vs : List V} {z : V} (hc : CallR X (.type id) r) (hm : X.mg x = none) (hv : bootBuiltins x = some (.type id)) (ha : AV X (e :: es) ρ M (vs.map D.val) M1) (hr : RC r vs z) (hg : Gl X x := by rfl)
    (hn : x ≠ "__name__" := by decide) (hd : (x == ("__debug__" : Str)) = false := by decide) (hst : starEach (e :: es) X.env = (false, eval e X.env) :: starEach es X.env := by rfl) (hpl : (backTo pos (starEach es X.env)).any (·.1) = false := by rfl) : EV X (.Call (.Name x p) (e :: es) [] pos) ρ M (.val z) M1 :=
  (pe_callTy hc hg hm hv ha hn hd hst hpl).mono fun σ H Q ⟨G, sa, k⟩ => ⟨G, sa, fun vs' G1 H1 g1 sh1 r1 => by
    rw [RepL.of_vals r1]
    exact hr H1 Q (k _ G1 H1 g1 sh1 (.val _))⟩
/-- int(i) -/
theorem ev_intI {i : Int} {p : Pos} (hm : X.mg "int" = none) (ha : EV X e ρ M (dI i) M1) (hg : Gl X "int" := by rfl) (hst : starEach [e] X.env = [(false, eval e X.env)] := by rfl) : EV X (.Call (.Name "int" p) [e] [] pos) ρ M (dI i) M1 :=
  (pe_callTy call_int1 hg hm (by decide +kernel) (av_cons ha av_nil hst) (he := hst)).mono fun σ H Q ⟨G, sa, k⟩ => ⟨G, sa, fun vs' G1 H1 g1 sh1 r1 => by
    rw [RepL.of_vals (xs := [.int i]) r1]
    exact .inl ⟨i, rfl, k _ G1 H1 g1 sh1 (.val _)⟩⟩
/-- len of a tree, of a list of the memory, of a text -/
theorem ev_lenT {p : Pos} (hm : X.mg "len" = none) (ha : EV X e ρ M (.tup ds) M1) (hg : Gl X "len" := by rfl) (hst : starEach [e] X.env = [(false, eval e X.env)] := by rfl) : EV X (.Call (.Name "len" p) [e] [] pos) ρ M (dI ds.length) M1 :=
  (pe_callB call_len_seq hg hm PySem.boot_len (av_cons ha av_nil hst) (he := hst)).mono fun σ H Q ⟨G, sa, k⟩ => ⟨G, sa, fun vs' G1 H1 g1 sh1 r1 => by
    cases r1 with
    | cons h t =>
      cases t
      cases h with
      | tup q r => exact ⟨_, _, rfl, .inr (sqtUp sh1.le q), by rw [r.len]; exact k _ G1 H1 g1 sh1 (.val _)⟩⟩
theorem ev_lenL {p : Pos} (hm : X.mg "len" = none) (ha : EV X e ρ M (.lst ds) M1) (hg : Gl X "len" := by rfl) (hst : starEach [e] X.env = [(false, eval e X.env)] := by rfl) : EV X (.Call (.Name "len" p) [e] [] pos) ρ M (dI ds.length) M1 :=
  (pe_callB call_len_seq hg hm PySem.boot_len (av_cons ha av_nil hst) (he := hst)).mono fun σ H Q ⟨G, sa, k⟩ => ⟨G, sa, fun vs' G1 H1 g1 sh1 r1 => by
    cases r1 with
    | cons h t =>
      cases t
      cases h with
      | lst q r => exact ⟨_, _, rfl, .inl (sqlUp sh1.le q), by rw [r.len]; exact k _ G1 H1 g1 sh1 (.val _)⟩⟩
theorem ev_lenM {a : Addr} {p : Pos} (hm : X.mg "len" = none) (ha : EV X e ρ M (dP a) M1) (h : M1 a = some (.lst ds)) (hg : Gl X "len" := by rfl) (hst : starEach [e] X.env = [(false, eval e X.env)] := by rfl) : EV X (.Call (.Name "len" p) [e] [] pos) ρ M (dI ds.length) M1 :=
  (pe_callB call_len_seq hg hm PySem.boot_len (av_cons ha av_nil hst) (he := hst)).mono fun σ H Q ⟨G, sa, k⟩ => ⟨G, sa, fun vs' G1 H1 g1 sh1 r1 => by
    obtain ⟨_, vs, hv, r⟩ := sh1.mem a _ h
    rw [RepL.of_vals (xs := [.ref a]) r1]
    exact ⟨a, vs, rfl, .inl (.inl (.inl hv)), by rw [r.len]; exact k _ G1 H1 g1 sh1 (.val _)⟩⟩
theorem ev_lenS {z : Str} {p : Pos} (hm : X.mg "len" = none) (ha : EV X e ρ M (dS z) M1) (hz : z.length ≤ sizeLine) (hg : Gl X "len" := by rfl) (hst : starEach [e] X.env = [(false, eval e X.env)] := by rfl) : EV X (.Call (.Name "len" p) [e] [] pos) ρ M (dI z.length) M1 :=
  (pe_callB call_len_str hg hm PySem.boot_len (av_cons ha av_nil hst) (he := hst)).mono fun σ H Q ⟨G, sa, k⟩ => ⟨G, sa, fun vs' G1 H1 g1 sh1 r1 => by
    rw [RepL.of_vals (xs := [.str z]) r1]
    exact ⟨z, rfl, hz, k _ G1 H1 g1 sh1 (.val _)⟩⟩

/-! ### statements -/
variable {Ψ : Out → Prop} {st : Stmt} {rest : List Stmt}
/-- what follows -/
def thenR (X : Cx) (rest : List Stmt) (Ψ : Out → Prop) : Out → Prop
  | .nx ρ M => BV X rest ρ M Ψ
  | o => Ψ o
theorem bv_nil (h : Ψ (.nx ρ M)) : BV X [] ρ M Ψ := pss_nil.mono fun E σ H ⟨G, sa, k⟩ => k _ h σ G H (Same.refl G) sa
theorem bv_cons (h : SV X st ρ M (thenR X rest Ψ)) : BV X (st :: rest) ρ M Ψ := by
  refine (pss_cons (u := fun E σ H => ∃ ρ' M', BV X rest ρ' M' Ψ ∧ tS X.K ρ' M' Ψ E σ H) h ⟨fun pins s σ H E I ⟨ρ', M', hb, q⟩ => hb.run pins s σ H E I q⟩).mono fun E σ H ⟨G, sa, k⟩ => ⟨G, sa, fun o ho => ?_⟩
  cases o with
  | nx ρ' M' => exact fun σ' G' H' g sa' => ⟨ρ', M', ho, G', sa', fun o' ho' => (k o' ho').up g⟩
  | ret d M' => exact k _ ho
  | bk ρ' M' => exact k _ ho
  | ct ρ' M' => exact k _ ho
theorem bv_one (h : SV X st ρ M Ψ) : BV X [st] ρ M Ψ := pss_one h
theorem sv_to {Ψ' : Out → Prop} (h : SV X st ρ M Ψ) (i : ∀ o, Ψ o → Ψ' o) : SV X st ρ M Ψ' := h.mono fun E σ H ⟨G, sa, k⟩ => ⟨G, sa, fun o ho => k o (i o ho)⟩
theorem bv_to {Ψ' : Out → Prop} (h : BV X rest ρ M Ψ) (i : ∀ o, Ψ o → Ψ' o) : BV X rest ρ M Ψ' := h.mono fun E σ H ⟨G, sa, k⟩ => ⟨G, sa, fun o ho => k o (i o ho)⟩
/-- fewer slots known, the same memory -/
theorem bv_weak {ρ' : Sl} (h : BV X rest ρ' M Ψ) (hl : ρ'.length = ρ.length) (hs : ∀ (i : Nat) (d : D), ρ'[i]? = some (some d) → ρ[i]? = some (some d)) : BV X rest ρ M Ψ := h.mono fun E σ H ⟨G, sa, k⟩ => ⟨G, ⟨sa.sh, sa.sl.weak hl hs⟩, k⟩
theorem sv_ret (h : EV X e ρ M d M1) (hΨ : Ψ (.ret d M1)) : SV X (.Return (some e) pos) ρ M Ψ :=
  (ps_ret h).mono fun E σ H ⟨G, sa, k⟩ => ⟨G, sa, fun v G1 H1 g1 sh1 r1 => k _ hΨ v G1 H1 g1 sh1 r1⟩
theorem sv_retN (hΨ : Ψ (.ret dN M)) : SV X (.Return none pos) ρ M Ψ :=
  ps_retN.mono fun E σ H ⟨G, sa, k⟩ => k _ hΨ _ G H (Same.refl G) sa.sh (.val _)
theorem sv_pass (hΨ : Ψ (.nx ρ M)) : SV X (.Pass pos) ρ M Ψ := ps_pass.mono fun E σ H ⟨G, sa, k⟩ => k _ hΨ σ G H (Same.refl G) sa
theorem sv_break (hΨ : Ψ (.bk ρ M)) : SV X (.Break pos) ρ M Ψ := ps_break.mono fun E σ H ⟨G, sa, k⟩ => k _ hΨ σ G H (Same.refl G) sa
theorem sv_cont (hΨ : Ψ (.ct ρ M)) : SV X (.Continue pos) ρ M Ψ := ps_continue.mono fun E σ H ⟨G, sa, k⟩ => k _ hΨ σ G H (Same.refl G) sa
theorem sv_expr (h : EV X e ρ M d M1) (hΨ : Ψ (.nx ρ M1)) (hs : swapsWith e none pos.line X.env = pure false := by rfl) : SV X (.Expr e pos) ρ M Ψ :=
  (ps_expr h hs).mono fun E σ H ⟨G, sa, k⟩ => ⟨G, sa, fun v G1 H1 g1 sh1 r1 => k _ hΨ σ G1 H1 g1 ⟨sh1, sa.sl.up g1⟩⟩
/-- x = e -/
theorem sv_set (i : Nat) {x : Str} {pos' : Pos} (hN : X.N.Nodup) (he : EV X e ρ M d M1) (hΨ : Ψ (.nx (ρ.set i (some d)) M1)) (hi : X.N[i]? = some x := by rfl) (hx : L2.Loc X.env.scope x := by first | exact Or.inl rfl | exact Or.inr rfl) (hs : swapsWith e (some (.Name x pos')) pos.line X.env = pure false := by rfl)
    (hf : X.fn x = true ∨ X.env.scope.names.lookup x = some .local := by first | exact .inl rfl | exact .inr rfl) : SV X (.Assign [.Name x pos'] e pos) ρ M Ψ :=
  (ps_set hN hi hx he hs hf).mono fun E σ H ⟨G, sa, k⟩ => ⟨G, sa, fun v G1 H1 g1 sh1 r1 => k _ hΨ _ G1 H1 g1 ⟨sh1, (sa.sl.up g1).set i r1⟩⟩
/-- x = a new list that is going to be changed: its address p is new -/
theorem sv_setNew (i : Nat) {x : Str} {pos' pl : Pos} (hN : X.N.Nodup) (ha : AV X es ρ M ds M1) (hΨ : ∀ p, M1 p = none → Ψ (.nx (ρ.set i (some (dP p))) (M1.set p (.lst ds)))) (hl : ds.length ≤ sizeLine := by first | (simp only [List.length_cons, List.length_nil]; decide) | decide) (hi : X.N[i]? = some x := by rfl) (hx : L2.Loc X.env.scope x := by first | exact Or.inl rfl | exact Or.inr rfl)
    (hs : swapsWith (.List es pl) (some (.Name x pos')) pos.line X.env = pure false := by rfl) (hf : X.fn x = true ∨ X.env.scope.names.lookup x = some .local := by first | exact .inl rfl | exact .inr rfl) : SV X (.Assign [.Name x pos'] (.List es pl) pos) ρ M Ψ :=
  (ps_set hN hi hx (pe_lst ha) hs hf).mono fun E σ H ⟨G, sa, k⟩ => ⟨G, sa, fun vs G1 H1 g1 sh1 r1 => ⟨by rw [r1.len]; exact hl, fun p hp => by
    obtain ⟨sh2, mp, gp⟩ := sh1.newM hp r1
    exact k _ (hΨ p mp) _ G1 _ g1 ⟨sh2, (sa.sl.up g1).set i (.val _)⟩⟩⟩
theorem sv_if {p : Bool} {as bs : List Stmt} (hc : TV X c ρ M p M1) (ha : p = true → BV X as ρ M1 Ψ) (hb : p = false → BV X bs ρ M1 Ψ) : SV X (.If c as bs pos) ρ M Ψ := by
  cases p with
  | true => exact (ps_if (u := fun _ _ _ => False) hc (ha rfl) ⟨fun _ _ _ _ _ _ h => h.elim⟩).mono fun E σ H ⟨G, sa, k⟩ => ⟨G, sa, fun G1 H1 g1 sh1 => (⟨G1, ⟨sh1, sa.sl.up g1⟩, fun o ho => (k o ho).up g1⟩ : tS _ _ _ _ E σ H1)⟩
  | false => exact (ps_if (t := fun _ _ _ => False) hc ⟨fun _ _ _ _ _ _ h => h.elim⟩ (hb rfl)).mono fun E σ H ⟨G, sa, k⟩ => ⟨G, sa, fun G1 H1 g1 sh1 => (⟨G1, ⟨sh1, sa.sl.up g1⟩, fun o ho => (k o ho).up g1⟩ : tS _ _ _ _ E σ H1)⟩
/-- the list at p, which slot i names, is changed no more -/
theorem SH.freeze {K : PySem.W.Frag} {G H : Hp} {M : Mem} {p : Addr} {ds : List D} (s : SH K G H (M.set p (.lst ds))) (hm : M p = none) : ∃ vs, SH K (upd G p (.lst vs)) H M ∧ Same G (upd G p (.lst vs)) ∧ RepL K G vs ds := by
  obtain ⟨gp, vs, hv, r⟩ := s.mem p _ Mem.set_same
  have up : Same G (upd G p (.lst vs)) := fun b u e => by rw [upd_ne (ne_of_none e gp)]; exact e
  refine ⟨vs, ⟨fun b u e => ?_, fun b mo e => ?_⟩, up, r⟩
  · by_cases hb : b = p
    · subst hb; rw [upd_same] at e; rw [← e]; exact hv
    · rw [upd_ne hb] at e; exact s.le b u e
  · have hb : b ≠ p := fun q => by rw [q, hm] at e; cases e
    obtain ⟨g0, at0⟩ := s.mem b mo (by rw [Mem.set_ne hb]; exact e)
    exact ⟨by rw [upd_ne hb]; exact g0, at0.up up rfl⟩
theorem bv_freeze (i : Nat) {p : Addr} (hρ : ρ[i]? = some (some (dP p))) (hm : M p = none) (h : BV X rest (ρ.set i (some (.lst ds))) M Ψ) : BV X rest ρ (M.set p (.lst ds)) Ψ := h.mono fun E σ H ⟨G, sa, k⟩ => by
  obtain ⟨vs, sh, g, r⟩ := sa.sh.freeze hm
  obtain ⟨v, e1, r1⟩ := sa.sl.2 i _ hρ
  refine ⟨_, ⟨sh, ?_⟩, fun o ho => (k o ho).up g⟩
  have q := (sa.sl.up g).set i (v := .ref p) (d := .lst ds) (.lst (.inl (.inl upd_same)) (r.up g))
  have e2 : σ.set i (some (V.ref p)) = σ := by
    have ev : v = V.ref p := r1.of_val
    rw [ev] at e1
    obtain ⟨hi, e3⟩ := List.getElem?_eq_some_iff.mp e1
    rw [← e3]
    exact List.set_getElem_self hi
  rw [e2] at q
  exact q

/-- a def's promise by its body -/
def Fin (d : D) (M' : Mem) : Out → Prop
  | .ret d' M'' => d' = d ∧ Mle M' M''
  | .nx _ M'' => d = dN ∧ Mle M' M''
  | _ => False
def startD (N : List Str) (ds : List D) : Sl := ds.map some ++ List.replicate (N.length - ds.length) none
theorem start_rep {K : PySem.W.Frag} {G : Hp} {N : List Str} : ∀ {vs : List V} {ds : List D}, RepL K G vs ds → RepS K G (L2.start N vs) (startD N ds) := fun {vs ds} r => by
  have hl := r.len
  unfold L2.start startD
  refine ⟨by simp [hl], fun i d e => ?_⟩
  by_cases hi : i < ds.length
  · rw [List.getElem?_append_left (by simpa using hi), List.getElem?_map] at e
    rw [List.getElem?_append_left (by simpa [hl] using hi), List.getElem?_map]
    cases q : ds[i]? with
    | none => rw [q] at e; cases e
    | some d' =>
      rw [q] at e
      cases e
      obtain ⟨v, h1, h2⟩ := r.get q
      exact ⟨v, by rw [h1]; rfl, h2⟩
  · rw [List.getElem?_append_right (by simpa using hi), List.getElem?_replicate] at e
    split at e <;> cases e
theorem fn_ok {P : Program} {w : World} {K : PySem.W.Frag} {mg : Str → Option Value} {base : Heap} {x qual : Str} {sd : Stmt} {f : Addr} {fd : FuncData} {N ps : List Str} {k : Nat} {Pr : List D → Mem → D → Mem → Prop} (F : Fun K x qual sd f fd) (S : FnScope N ps (defScope sd))
    (len : ∀ ds M d M', Pr ds M d M' → ds.length = ps.length)
    (hb : ∀ (cdv : Value) (A : Around) (outer : List Env) (s : Shared) (H : Hp) (E : XK) (ds : List D) (M : Mem) (d : D) (M' : Mem), Room k (A.deeper (envOfC qual (defScope sd) s.heap.objs.size f cdv)) → Pr ds M d M' →
      BV (cxOf CX0 P w K mg base N qual (defScope sd) f cdv A outer s H E).nox (defBody sd) (startD N ds) M (Fin d M')) : FnOk P w K mg base CX0 (k + 1) f fd ps (spD K Pr) := by
  refine F.ok S (fun vs H Q E ⟨G, ds, M, d, M', sh, r, p, q⟩ => by rw [r.len]; exact len _ _ _ _ p) fun cdv A outer s H vs Q E hr ⟨G, ds, M, d, M', sh, r, p, q⟩ => ?_
  refine ⟨_, hb cdv A outer s H E ds M d M' hr p, G, ⟨sh, start_rep r⟩, fun o ho => ?_⟩
  cases o with
  | ret d' M'' =>
    obtain ⟨rfl, hm⟩ := ho
    exact fun v G' H' g sh' r' => q v G' H' g (sh'.weak hm) r'
  | nx ρ M'' =>
    obtain ⟨rfl, hm⟩ := ho
    exact fun σ' G' H' g sa' => q .non G' H' g (sa'.sh.weak hm) (.val _)
  | bk _ _ => exact ho.elim
  | ct _ _ => exact ho.elim
theorem cal_of {P : Program} {w : World} {K : PySem.W.Frag} {mg : Str → Option Value} {base : Heap} {x qual : Str} {sd : Stmt} {f : Addr} {fd : FuncData} {N ps : List Str} {k : Nat} {Pr : List D → Mem → D → Mem → Prop} (F : Fun K x qual sd f fd) (S : FnScope N ps (defScope sd)) (hm : mg x = some (.ref f))
    (hbind : ∀ (kV doc pm : Value) (an : Option Addr) (cdv ct : Value) (us : List Value), us.length = ps.length → bindArgs (PySem.W.fnOf x qual (defArgs sd) (defBody sd) (defScope sd) .none kV doc pm an cdv ct) ⟨us, []⟩ = pure (ps.zip us))
    (len : ∀ ds M d M', Pr ds M d M' → ds.length = ps.length)
    (hb : ∀ (cdv : Value) (A : Around) (outer : List Env) (s : Shared) (H : Hp) (E : XK) (ds : List D) (M : Mem) (d : D) (M' : Mem), Room k (A.deeper (envOfC qual (defScope sd) s.heap.objs.size f cdv)) → Pr ds M d M' →
      BV (cxOf CX0 P w K mg base N qual (defScope sd) f cdv A outer s H E).nox (defBody sd) (startD N ds) M (Fin d M')) : Cal P w K mg base (k + 1) x (spD K Pr) :=
  ⟨f, fd, ps, hm, F.kp, F.binds hbind, fn_ok F S len hb⟩

/-! ### a list or a tuple -/
def sq (b : Bool) (ds : List D) : D := if b = true then .lst ds else .tup ds

/-! ### isinstance, is None, abs, texts of ints -/
theorem rs_eqI {i j : Int} : RS rEq (.int i) (.int j) (.bl (decide (i = j))) := fun H Q q => ⟨rfl, by
  have e : decide (V.int i = V.int j) = decide (i = j) := decide_eq_decide.mpr ⟨fun h => by cases h; rfl, fun h => by rw [h]⟩
  rw [e]; exact q⟩
theorem rs_neI {i j : Int} : RS rNe (.int i) (.int j) (.bl (!decide (i = j))) := fun H Q q => ⟨rfl, by
  have e : decide (V.int i = V.int j) = decide (i = j) := decide_eq_decide.mpr ⟨fun h => by cases h; rfl, fun h => by rw [h]⟩
  rw [e]; exact q⟩
theorem rs_eqS {i j : Str} : RS rEq (.str i) (.str j) (.bl (decide (i = j))) := fun H Q q => ⟨rfl, by
  have e : decide (V.str i = V.str j) = decide (i = j) := decide_eq_decide.mpr ⟨fun h => by cases h; rfl, fun h => by rw [h]⟩
  rw [e]; exact q⟩
theorem rs_neS {i j : Str} : RS rNe (.str i) (.str j) (.bl (!decide (i = j))) := fun H Q q => ⟨rfl, by
  have e : decide (V.str i = V.str j) = decide (i = j) := decide_eq_decide.mpr ⟨fun h => by cases h; rfl, fun h => by rw [h]⟩
  rw [e]; exact q⟩
theorem rs_eqB {i j : Bool} : RS rEq (.bl i) (.bl j) (.bl (decide (i = j))) := fun H Q q => ⟨rfl, by
  have e : decide (V.bl i = V.bl j) = decide (i = j) := decide_eq_decide.mpr ⟨fun h => by cases h; rfl, fun h => by rw [h]⟩
  rw [e]; exact q⟩
theorem ru_neg {i : Int} : RU (rU fun i => .int (-i)) (.int i) (.int (-i)) := fun H Q q => ⟨i, rfl, q⟩
theorem cm_l {i j : Int} (h1 : -(2 ^ 64) < i) (h2 : i < 2 ^ 64) : CMul i j := .inl ⟨h1, h2⟩
theorem cm_r {i j : Int} (h1 : -(2 ^ 64) < j) (h2 : j < 2 ^ 64) : CMul i j := .inr ⟨h1, h2⟩
/-- the kind of a tree: isinstance's left side -/
def tyD : D → Option String
  | .val .non => some "NoneType"
  | .val (.bl _) => some "bool"
  | .val (.int _) => some "int"
  | .val (.str _) => some "str"
  | .val _ => none
  | .tup _ => some "tuple"
  | .lst _ => some "list"
theorem tyx_of {K : PySem.W.Frag} {G H : Hp} {v : V} {d : D} {t : String} (e : Same G H) (r : Rep K G v d) (h : tyD d = some t) : TyX K H v (.type t) := by
  cases r with
  | val v =>
    cases v with
    | non => cases h; exact .base .non
    | bl b => cases h; exact .base (.bl b)
    | int i => cases h; exact .base (.int i)
    | str z => cases h; exact .base (.str z)
    | _ => cases h
  | tup q _ =>
    cases h
    rcases sqtUp e q with (q | ⟨o, q⟩) | ⟨o, its, n, q, c, _⟩
    · exact .base (.tup q)
    · exact .fTuple q
    · exact .kTuple q c
  | lst q _ =>
    cases h
    rcases sqlUp e q with (q | ⟨o, q⟩) | ⟨o, its, n, q, c, _⟩
    · exact .base (.lst q)
    · exact .base (.frz q)
    · exact .kList q c
/-- isinstance(a, T), T a built-in type -/
theorem ev_isi {x : Str} {T t : String} {r : Bool} {p p2 : Pos} (hm : X.mg "isinstance" = none) (hT : X.mg x = none) (hv : bootBuiltins x = some (.type T)) (ha : EV X a ρ M d M1) (ht : tyD d = some t) (hk : kitB t T = some r) (hg : Gl X "isinstance" := by rfl) (hgT : Gl X x := by rfl)
    (hn : x ≠ "__name__" := by decide) (hd : (x == ("__debug__" : Str)) = false := by decide)
    (h1 : starEach [a, .Name x p2] X.env = (false, eval a X.env) :: starEach [.Name x p2] X.env := by rfl) (h2 : starEach [.Name x p2] X.env = (false, eval (.Name x p2) X.env) :: starEach [] X.env := by rfl) (hpl : (backTo pos (starEach [.Name x p2] X.env)).any (·.1) = false := by rfl) :
    EV X (.Call (.Name "isinstance" p) [a, .Name x p2] [] pos) ρ M (dB r) M1 :=
  (pe_callB call_isi hg hm boot_isinstance (pa_cons ha (pa_cons (pe_bltn (v := .ty T) hgT hT hv rfl hn hd) pa_nil h2) h1) (hpl := hpl) (he := h1)).mono fun σ H Q ⟨G, sa, k⟩ => ⟨G, sa, fun v1 G1 H1 g1 sh1 r1 => 
    ⟨v1, .ty T, .type t, .type T, r, rfl, .ty T, tyx_of sh1.le r1 ht, kit_ty hk, k _ G1 H1 g1 sh1 (.val _)⟩⟩
theorem ev_isN {j} {v : V} {p2 : Pos} (ha : EV X a ρ M (.val v) M1) : EV X (.Compare a [.Is] [.Constant .none j p2] pos) ρ M (dB (decide (v = .non))) M1 :=
  (pe_cmp (pc_isN ha)).mono fun σ H Q ⟨G, sa, k⟩ => ⟨G, sa, fun v1 G1 H1 g1 sh1 r1 => by rw [r1.of_val]; exact k _ G1 H1 g1 sh1 (.val _)⟩
theorem tv_isN {j} {v : V} {p2 : Pos} (ha : EV X a ρ M (.val v) M1) : TV X (.Compare a [.Is] [.Constant .none j p2] pos) ρ M (decide (v = .non)) M1 :=
  (pt_cmp (pc_isN ha)).mono fun σ H Q ⟨G, sa, k⟩ => ⟨G, sa, fun v1 G1 H1 g1 sh1 r1 => by rw [r1.of_val]; exact ⟨_, rfl, k G1 H1 g1 sh1⟩⟩
theorem tv_isND {j} {b : Bool} {p2 : Pos} (ha : EV X a ρ M d M1) (h : ∀ v, d ≠ .val v) : TV X (.Compare a [.Is] [.Constant .none j p2] pos) ρ M false M1 :=
  (pt_cmp (pc_isN ha)).mono fun σ H Q ⟨G, sa, k⟩ => ⟨G, sa, fun v1 G1 H1 g1 sh1 r1 => by
    cases r1 with
    | val _ => exact absurd rfl (h _)
    | tup _ _ => exact ⟨_, rfl, k G1 H1 g1 sh1⟩
    | lst _ _ => exact ⟨_, rfl, k G1 H1 g1 sh1⟩⟩

/-! ### lists -/
/-- list(x) of a tree: a new list that stands as it is -/
theorem ev_listL {b : Bool} {p : Pos} (hm : X.mg "list" = none) (ha : EV X e ρ M (sq b ds) M1) (hg : Gl X "list" := by rfl) (hst : starEach [e] X.env = [(false, eval e X.env)] := by rfl) : EV X (.Call (.Name "list" p) [e] [] pos) ρ M (.lst ds) M1 :=
  (pe_callTy call_list_of hg hm boot_list (av_cons ha av_nil hst) (he := hst)).mono fun σ H Q ⟨G, sa, k⟩ => ⟨G, sa, fun vs' G1 H1 g1 sh1 r1 => by
    cases r1 with
    | cons h t =>
      cases t
      cases b with
      | true =>
        cases (show Rep X.K G1 _ (.lst ds) from h) with
        | lst q r => exact ⟨_, _, rfl, .inl (sqlUp sh1.le q), fun l hl => by
            obtain ⟨sh2, g2⟩ := sh1.new (o := .lst _) hl
            exact k _ _ _ (g1.trans g2) sh2 (.lst (.inl (.inl upd_same)) (r.up g2))⟩
      | false =>
        cases (show Rep X.K G1 _ (.tup ds) from h) with
        | tup q r => exact ⟨_, _, rfl, .inr (sqtUp sh1.le q), fun l hl => by
            obtain ⟨sh2, g2⟩ := sh1.new (o := .lst _) hl
            exact k _ _ _ (g1.trans g2) sh2 (.lst (.inl (.inl upd_same)) (r.up g2))⟩⟩
/-- tuple(x) of a tree -/
theorem ev_tupOf {b : Bool} {p : Pos} (hm : X.mg "tuple" = none) (ha : EV X e ρ M (sq b ds) M1) (hg : Gl X "tuple" := by rfl) (hst : starEach [e] X.env = [(false, eval e X.env)] := by rfl) : EV X (.Call (.Name "tuple" p) [e] [] pos) ρ M (.tup ds) M1 :=
  (pe_callTy call_tuple_of hg hm boot_tuple (av_cons ha av_nil hst) (he := hst)).mono fun σ H Q ⟨G, sa, k⟩ => ⟨G, sa, fun vs' G1 H1 g1 sh1 r1 => by
    cases r1 with
    | cons h t =>
      cases t
      cases b with
      | true =>
        cases (show Rep X.K G1 _ (.lst ds) from h) with
        | lst q r => exact ⟨_, _, rfl, .inl ⟨sqlUp sh1.le q, fun l hl => by
            obtain ⟨sh2, g2⟩ := sh1.new (o := .tup _) hl
            exact k _ _ _ (g1.trans g2) sh2 (.tup (.inl (.inl upd_same)) (r.up g2))⟩⟩
      | false =>
        cases (show Rep X.K G1 _ (.tup ds) from h) with
        | tup q r => exact ⟨_, _, rfl, .inr ⟨sqtUp sh1.le q, k _ G1 H1 g1 sh1 (.tup q r)⟩⟩⟩
theorem ev_ixQ {b' : Bool} {i : Int} (ha : EV X a ρ M (sq b' ds) M1) (hb : EV X b ρ M1 (dI i) M2) (h : atI ds i = some d) (hs : PlainIx b := by (intro _ _; rfl)) : EV X (.Subscript a b pos) ρ M d M2 := by
  cases b' with
  | true => exact ev_ixL ha hb h hs
  | false => exact ev_ixT ha hb h hs
theorem ev_lenQ {b' : Bool} {p : Pos} (hm : X.mg "len" = none) (ha : EV X e ρ M (sq b' ds) M1) (hg : Gl X "len" := by rfl) (hst : starEach [e] X.env = [(false, eval e X.env)] := by rfl) : EV X (.Call (.Name "len" p) [e] [] pos) ρ M (dI ds.length) M1 := by
  cases b' with
  | true => exact ev_lenL hm ha hg hst
  | false => exact ev_lenT hm ha hg hst
/-- all(x) of a list of bools -/
theorem ev_all {bs : List Bool} {p : Pos} (hc : X.calm = true) (hm : X.mg "all" = none) (ha : EV X e ρ M (.lst (bs.map dB)) M1) (hg : Gl X "all" := by rfl) (hst : starEach [e] X.env = [(false, eval e X.env)] := by rfl) : EV X (.Call (.Name "all" p) [e] [] pos) ρ M (dB (bs.all id)) M1 :=
  (pe_callB (cr_all hc) hg hm boot_all (av_cons ha av_nil hst) (he := hst)).mono fun σ H Q ⟨G, sa, k⟩ => ⟨G, sa, fun vs' G1 H1 g1 sh1 r1 => by
    cases r1 with
    | cons h t =>
      cases t
      cases h with
      | lst q r =>
        have e : bs.map dB = (bs.map V.bl).map D.val := by rw [List.map_map] <;> rfl
        rw [e] at r
        rw [RepL.of_vals r] at q
        exact ⟨_, bs, rfl, sqlUp sh1.le q, k _ G1 H1 g1 sh1 (.val _)⟩⟩
/-- tuple + tuple -/
theorem ev_catT {es : List D} (ha : EV X a ρ M (.tup ds) M1) (hb : EV X b ρ M1 (.tup es) M2) (hl : ds.length + es.length ≤ sizeLine) : EV X (.BinOp a .Add b pos) ρ M (.tup (ds ++ es)) M2 :=
  (pe_op op_catA ha hb).mono fun σ H Q ⟨G, sa, k⟩ => ⟨G, sa, fun v1 G1 H1 g1 sh1 r1 => ⟨G1, ⟨sh1, sa.sl.up g1⟩, fun v2 G2 H2 g2 sh2 r2 => by
    cases r1 with
    | tup q r =>
      cases r2 with
      | tup q2 r2 =>
        have rr := r.up g2
        refine ⟨_, _, _, _, rfl, rfl, sqtUp sh2.le (sqtUp g2 q), sqtUp sh2.le q2, by rw [r.len, r2.len]; exact hl, fun e => ?_, fun _ e => ?_, fun _ _ p hp => ?_⟩
        · subst e
          cases rr
          exact k _ G2 H2 (g1.trans g2) sh2 (.tup q2 r2)
        · subst e
          cases r2
          rw [List.append_nil] at k
          exact k _ G2 H2 (g1.trans g2) sh2 (.tup (sqtUp g2 q) rr)
        · obtain ⟨sh3, g3⟩ := sh2.new (o := .tup _) hp
          exact k _ _ _ ((g1.trans g2).trans g3) sh3 (.tup (.inl (.inl upd_same)) ((rr.append r2).up g3))⟩⟩
/-- xs.append(e), xs a list of the memory -/
theorem sv_append {p : Addr} {ap cp : Pos} (ho : EV X a ρ M (dP p) M1) (ha : EV X e ρ M1 d M2) (hm1 : ∃ es, M1 p = some (.lst es)) (hm : M2 p = some (.lst ds)) (hl : ds.length < sizeLine) (hΨ : Ψ (.nx ρ (M2.set p (.lst (ds ++ [d])))))
    (h1 : attributeBase a "append" X.env (eval a X.env) = eval a X.env := by rfl) (h3 : (ap.endLine == cp.line) = true := by decide) (h4 : starEach [e] X.env = (false, eval e X.env) :: starEach [] X.env := by rfl)
    (h2 : (((((backTo cp (starEach [e] X.env)).all fun x => !x.fst) && (backToKw cp (keywordEach [] X.env)).all fun x => x.fst.isSome) && decide (([e].length + ([] : List Keyword).length + if ([] : List Keyword).isEmpty = true then 0 else 1) < 30)) = true) := by rfl)
    (h5 : (((backTo cp (starEach [] X.env)).any fun x => x.fst) = false) := by rfl)
    (hs : swapsWith (.Call (.Attribute a "append" ap) [e] [] cp) none pos.line X.env = pure false := by rfl) : SV X (.Expr (.Call (.Attribute a "append" ap) [e] [] cp) pos) ρ M Ψ :=
  (ps_expr (pe_bm PySem.F.plainAttrs_list PySem.F.slot_list_append PySem.F.type_list_append mt_append ho (av_cons ha av_nil h4) h1 h2 h3 h4 h5) hs).mono fun E σ H ⟨G, sa, k⟩ => ⟨G, sa, fun v1 G1 H1 g1 sh1 r1 => by
    obtain ⟨es, hes⟩ := hm1
    obtain ⟨_, vs1, hv1, _⟩ := sh1.mem p _ hes
    rw [r1.of_val]
    refine ⟨.inl ⟨rfl, _, .inl (.inl hv1)⟩, G1, ⟨sh1, sa.sl.up g1⟩, fun vs G2 H2 g2 sh2 r2 => ?_⟩
    cases r2 with
    | cons r2 t =>
      cases t
      obtain ⟨_, vs2, hv2, rl⟩ := sh2.mem p _ hm
      exact ⟨p, vs2, _, rfl, rfl, hv2, by rw [rl.len]; exact hl, k _ hΨ σ G2 _ (g1.trans g2) ⟨sh2.put hm (rl.append (.cons r2 .nil)), (sa.sl.up g1).up g2⟩⟩⟩
/-- xs.pop(i) -/
theorem ev_pop {p : Addr} {i : Nat} {ap : Pos} (ho : EV X a ρ M (dP p) M1) (ha : EV X e ρ M1 (dI i) M2) (hm1 : ∃ es, M1 p = some (.lst es)) (hm : M2 p = some (.lst ds)) (hi : ds[i]? = some d)
    (h1 : attributeBase a "pop" X.env (eval a X.env) = eval a X.env := by rfl) (h3 : (ap.endLine == pos.line) = true := by decide) (h4 : starEach [e] X.env = (false, eval e X.env) :: starEach [] X.env := by rfl)
    (h2 : (((((backTo pos (starEach [e] X.env)).all fun x => !x.fst) && (backToKw pos (keywordEach [] X.env)).all fun x => x.fst.isSome) && decide (([e].length + ([] : List Keyword).length + if ([] : List Keyword).isEmpty = true then 0 else 1) < 30)) = true) := by rfl)
    (h5 : (((backTo pos (starEach [] X.env)).any fun x => x.fst) = false) := by rfl) (hz : ds.length < 2 ^ 62) : EV X (.Call (.Attribute a "pop" ap) [e] [] pos) ρ M d (M2.set p (.lst (ds.eraseIdx i))) :=
  (pe_bm PySem.F.plainAttrs_list PySem.F.slot_list_pop PySem.F.type_list_pop mt_popAt ho (av_cons ha av_nil h4) h1 h2 h3 h4 h5).mono fun σ H Q ⟨G, sa, k⟩ => ⟨G, sa, fun v1 G1 H1 g1 sh1 r1 => by
    obtain ⟨es, hes⟩ := hm1
    obtain ⟨_, vs1, hv1, _⟩ := sh1.mem p _ hes
    rw [r1.of_val]
    refine ⟨.inl ⟨rfl, _, .inl (.inl hv1)⟩, G1, ⟨sh1, sa.sl.up g1⟩, fun vs G2 H2 g2 sh2 r2 => ?_⟩
    rw [RepL.of_vals (xs := [.int i]) r2]
    obtain ⟨_, vs2, hv2, rl⟩ := sh2.mem p _ hm
    obtain ⟨v, hv, rv⟩ := rl.get hi
    have hlt : i < vs2.length := (List.getElem?_eq_some_iff.mp hv).1
    have hll := rl.len
    refine ⟨p, vs2, i, i, v, rfl, rfl, hv2, by omega, by omega, ?_, hv, k _ G2 _ (g1.trans g2) (sh2.put hm (rl.erase i)) rv⟩
    unfold seqIndex?
    have e1 : ¬ ((i : Int) < 0) := by omega
    simp only [e1, if_false]
    rw [if_pos (by simp only [Bool.and_eq_true, decide_eq_true_eq]; omega)]
    rfl⟩
/-- xs[i] = e -/
theorem sv_setItem {p : Addr} {i : Nat} {tp : Pos} (he : EV X e ρ M d M1) (ho : EV X a ρ M1 (dP p) M2) (hi : EV X b ρ M2 (dI i) M3) (hm : M3 p = some (.lst ds)) (hlt : i < ds.length) (hΨ : Ψ (.nx ρ (M3.set p (.lst (ds.set i d)))))
    (ha : ∀ v, assign (.Subscript a b tp) X.env v = (do
      let ov ← holding [v] (eval a X.env)
      let iv ← holding [v, ov] (eval b X.env)
      standAt tp
      holding [v, ov, iv] (setItem ov iv v)
      release [v, ov, iv] []) := by intro _; rfl)
    (hs : swapsWithSole [.Subscript a b tp] e pos.line X.env = pure false := by rfl) (hw : swappedStores [.Subscript a b tp] e X.env = pure none := by rfl)
    (h1 : (assignEach [.Subscript a b tp] X.env).map (·.2) = [assign (.Subscript a b tp) X.env] := by rfl) : SV X (.Assign [.Subscript a b tp] e pos) ρ M Ψ :=
  (ps_asg he (pg_sub ho hi set_list ha) hs hw h1).mono fun E σ H ⟨G, sa, k⟩ => ⟨G, sa, fun v G1 H1 g1 sh1 r1 => ⟨G1, ⟨sh1, sa.sl.up g1⟩, fun v2 G2 H2 g2 sh2 r2 => ⟨G2, ⟨sh2, (sa.sl.up g1).up g2⟩, fun v3 G3 H3 g3 sh3 r3 => by
    obtain ⟨_, vs, hv, rl⟩ := sh3.mem p _ hm
    refine ⟨p, vs, i, i, r2.of_val, r3.of_val, hv, ?_, k _ hΨ σ G3 _ ((g1.trans g2).trans g3) ⟨sh3.put hm (rl.set ((r1.up g2).up g3) i), ((sa.sl.up g1).up g2).up g3⟩⟩
    have hl := rl.len
    unfold ixN
    rw [if_pos (by omega), if_pos (by omega)]
    simp⟩⟩⟩

/-! ### targets -/
/-- g stores d: the slots are ρ' then -/
def TG1 (K : PySem.W.Frag) (g : TG) (ρ : Sl) (d : D) (ρ' : Sl) : Prop := ∀ v σ G H Q, Same G H → RepS K G σ ρ → Rep K G v d → (∀ σ', RepS K G σ' ρ' → Q σ' H) → g v σ H Q
def TG2 (K : PySem.W.Frag) (g : TGs) (ρ : Sl) (ds : List D) (ρ' : Sl) : Prop := ∀ vs σ G H Q, Same G H → RepS K G σ ρ → RepL K G vs ds → (∀ σ', RepS K G σ' ρ' → Q σ' H) → g vs σ H Q
variable {K : PySem.W.Frag} {ρ' ρ'' : Sl} {g : TG} {gs : TGs}
theorem tg_name {i : Nat} : TG1 K (gName i) ρ d (ρ.set i (some d)) := fun v σ G H Q e h r k => k _ (h.set i r)
theorem tg_nil : TG2 K gNil ρ [] ρ := fun vs σ G H Q e h r k => by
  cases r
  exact ⟨rfl, k σ h⟩
theorem tg_cons (h1 : TG1 K g ρ d ρ') (h2 : TG2 K gs ρ' ds ρ'') : TG2 K (gCons g gs) ρ (d :: ds) ρ'' := fun vs σ G H Q e h r k => by
  cases r with
  | cons r t => exact ⟨_, _, rfl, h1 _ σ G H _ e h r fun σ' h' => h2 _ σ' G H _ e h' t k⟩
theorem tg_tup {n : Nat} (h : TG2 K gs ρ ds ρ') (hl : ds.length = n := by rfl) : TG1 K (gTup K n gs) ρ (.tup ds) ρ' := fun v σ G H Q e h0 r k => by
  cases r with
  | tup q r => exact ⟨_, _, rfl, sqtUp e q, r.len.trans hl, h _ σ G H _ e h0 r k⟩
theorem tg_lst {n : Nat} (h : TG2 K gs ρ ds ρ') (hl : ds.length = n := by rfl) : TG1 K (gUnl K n gs) ρ (.lst ds) ρ' := fun v σ G H Q e h0 r k => by
  cases r with
  | lst q r => exact ⟨_, _, rfl, sqlUp e q, r.len.trans hl, h _ σ G H _ e h0 r k⟩
/-- target = e -/
theorem sv_asg {tg : Expr} (he : EV X e ρ M d M1) (hg : PG X tg g) (ht : TG1 X.K g ρ d ρ') (hΨ : Ψ (.nx ρ' M1)) (hs : swapsWithSole [tg] e pos.line X.env = pure false := by rfl) (hw : swappedStores [tg] e X.env = pure none := by rfl)
    (h1 : (assignEach [tg] X.env).map (·.2) = [assign tg X.env] := by rfl) : SV X (.Assign [tg] e pos) ρ M Ψ :=
  (ps_asg he hg hs hw h1).mono fun E σ H ⟨G, sa, k⟩ => ⟨G, sa, fun v G1 H1 g1 sh1 r1 => ht v σ G1 H1 _ sh1.le (sa.sl.up g1) r1 fun σ' h' => k _ hΨ σ' G1 H1 g1 ⟨sh1, h'⟩⟩

/-! ### what is walked -/
def JW (K : PySem.W.Frag) (J : It) (G : Hp) (ds : List D) : Prop := ∀ (i : Nat) H, Same G H → (∀ d, ds[i]? = some d → J.go i H ∧ ∀ x H', J.yld i H x H' → H' = H ∧ Rep K G x d) ∧ (ds.length ≤ i → J.stop i H)
def tI (K : PySem.W.Frag) (ρ : Sl) (M : Mem) (ds : List D) (M1 : Mem) : TI := fun σ H R => ∃ G, SA K G H σ ρ M ∧ ∀ J G' H', Same G G' → SH K G' H' M1 → JW K J G' ds → R J H'
abbrev IV (X : Cx) (tg iter : Expr) (ρ : Sl) (M : Mem) (ds : List D) (M1 : Mem) : Prop := PI X tg iter (tI X.K ρ M ds M1)
theorem _root_.L2.PI.mono {tg iter : Expr} {t t' : TI} (h : PI X tg iter t) (i : ∀ σ H R, t' σ H R → t σ H R) : PI X tg iter t' := ⟨fun pins s σ H R I q => h.run pins s σ H R I (i σ H R q)⟩
theorem JW.range {lo : Int} {n : Nat} {G : Hp} : JW K (Itr lo n) G ((List.range n).map fun i => dI (lo + (i : Nat))) := fun i H e => ⟨fun d h => by
    rw [List.getElem?_map] at h
    have hi : i < n := by
      rcases Nat.lt_or_ge i n with q | q
      · exact q
      · rw [List.getElem?_eq_none (by simpa using q)] at h; cases h
    rw [List.getElem?_range hi] at h
    cases h
    exact ⟨hi, fun x H' ⟨e1, e2⟩ => ⟨e1, by rw [e2]; exact .val _⟩⟩, fun h => by
    rw [List.length_map, List.length_range] at h
    exact h⟩
theorem JW.list {p : Addr} {vs : List V} {G : Hp} (q : SqL K G p vs) (r : RepL K G vs ds) : JW K (Itl K p) G ds := fun i H e => ⟨fun d h => by
    obtain ⟨v, hv, rv⟩ := r.get h
    exact ⟨⟨vs, v, sqlUp e q, hv⟩, fun x H' ⟨e1, e2⟩ => ⟨e1, by
      have := e2 vs (sqlUp e q)
      rw [hv] at this
      cases this
      exact rv⟩⟩, fun h => ⟨vs, sqlUp e q, by rw [r.len]; exact h⟩⟩
theorem JW.tup {p : Addr} {vs : List V} {G : Hp} (q : SqT K G p vs) (r : RepL K G vs ds) : JW K (Itt K p) G ds := fun i H e => ⟨fun d h => by
    obtain ⟨v, hv, rv⟩ := r.get h
    exact ⟨⟨vs, v, sqtUp e q, hv⟩, fun x H' ⟨e1, e2⟩ => ⟨e1, by
      have := e2 vs (sqtUp e q)
      rw [hv] at this
      cases this
      exact rv⟩⟩, fun h => ⟨vs, sqtUp e q, by rw [r.len]; exact h⟩⟩
theorem iv_list {tg : Expr} (h : EV X e ρ M (.lst ds) M1) : IV X tg e ρ M ds M1 :=
  (pi_list h).mono fun σ H R ⟨G, sa, k⟩ => ⟨G, sa, fun v G1 H1 g1 sh1 r1 => by
    cases r1 with
    | lst q r => exact ⟨_, rfl, ⟨_, sqlUp sh1.le q⟩, k _ G1 H1 g1 sh1 (JW.list q r)⟩⟩
theorem iv_tup {tg : Expr} (h : EV X e ρ M (.tup ds) M1) : IV X tg e ρ M ds M1 :=
  (pi_tup h).mono fun σ H R ⟨G, sa, k⟩ => ⟨G, sa, fun v G1 H1 g1 sh1 r1 => by
    cases r1 with
    | tup q r => exact ⟨_, rfl, ⟨_, sqtUp sh1.le q⟩, k _ G1 H1 g1 sh1 (JW.tup q r)⟩⟩
def rgD (lo : Int) (n : Nat) : List D := (List.range n).map fun i => dI (lo + (i : Nat))
theorem rgD_len {lo : Int} {n : Nat} : (rgD lo n).length = n := by unfold rgD; rw [List.length_map, List.length_range]
theorem rgD_get {lo : Int} {n i : Nat} {d : D} (h : (rgD lo n)[i]? = some d) : i < n ∧ d = dI (lo + (i : Nat)) := by
  have hi : i < n := by
    rcases Nat.lt_or_ge i n with q | q
    · exact q
    · rw [List.getElem?_eq_none (by rw [rgD_len]; exact q)] at h; cases h
  unfold rgD at h
  rw [List.getElem?_map, List.getElem?_range hi] at h
  cases h
  exact ⟨hi, rfl⟩
theorem iv_range1 {tg : Expr} {j : Int} {p : Pos} (hm : X.mg "range" = none) (h : EV X e ρ M (dI j) M1) (hj : -(2 ^ 62) ≤ j ∧ j < 2 ^ 62) (hg : Gl X "range" := by rfl) (hst : starEach [e] X.env = [(false, eval e X.env)] := by rfl) : IV X tg (.Call (.Name "range" p) [e] [] pos) ρ M (rgD 0 j.toNat) M1 :=
  (pi_range1 hg hm (av_cons h av_nil hst) hst).mono fun σ H R ⟨G, sa, k⟩ => ⟨G, sa, fun vs G1 H1 g1 sh1 r1 => by
    rw [RepL.of_vals (xs := [.int j]) r1]
    exact ⟨j, rfl, hj.1, hj.2, k _ G1 H1 g1 sh1 JW.range⟩⟩
theorem iv_range2 {tg : Expr} {i j : Int} {p : Pos} (hm : X.mg "range" = none) (ha : EV X a ρ M (dI i) M1) (hb : EV X b ρ M1 (dI j) M2) (hj : -(2 ^ 62) ≤ i ∧ i < 2 ^ 62 ∧ -(2 ^ 62) ≤ j ∧ j < 2 ^ 62) (hg : Gl X "range" := by rfl)
    (hst : starEach [a, b] X.env = [(false, eval a X.env), (false, eval b X.env)] := by rfl) (hs2 : starEach [b] X.env = [(false, eval b X.env)] := by rfl) : IV X tg (.Call (.Name "range" p) [a, b] [] pos) ρ M (rgD i (j - i).toNat) M2 :=
  (pi_range2 hg hm (av_cons ha (av_cons hb av_nil hs2) (by rw [hst, hs2])) hst hs2).mono fun σ H R ⟨G, sa, k⟩ => ⟨G, sa, fun vs G1 H1 g1 sh1 r1 => by
    rw [RepL.of_vals (xs := [.int i, .int j]) r1]
    exact ⟨i, j, rfl, hj, k _ G1 H1 g1 sh1 JW.range⟩⟩

/-! ### for -/
def loopR (Inv : Nat → Sl → Mem → Prop) (Ψ : Out → Prop) (i : Nat) : Out → Prop
  | .nx ρ M => Inv (i + 1) ρ M
  | .ct ρ M => Inv (i + 1) ρ M
  | .bk ρ M => Ψ (.nx ρ M)
  | .ret d M => Ψ (.ret d M)
theorem sv_for {tg iter : Expr} {body : List Stmt} (hc : X.calm = true) (hi : IV X tg iter ρ M ds M1) (hg : PG X tg g) (Iv : Nat → Sl → Mem → Prop) (start : Iv 0 ρ M1)
    (step : ∀ i d ρ' M', ds[i]? = some d → Iv i ρ' M' → ∃ ρ'', TG1 X.K g ρ' d ρ'' ∧ BV X body ρ'' M' (loopR Iv Ψ i)) (done : ∀ ρ' M', Iv ds.length ρ' M' → Ψ (.nx ρ' M'))
    (hp : PassesOwn (model X.prog X.w) X.A X.env X.xe := by exact PassesOwn.never) (hs : ∀ x, foldedSetIterable iter X.env x = pure x := by intro _; rfl) : SV X (.For tg iter body [] pos) ρ M Ψ := by
  refine (ps_for (tb := fun E σ H => ∃ ρ M Ψ', BV X body ρ M Ψ' ∧ tS X.K ρ M Ψ' E σ H) hp hc hi hg ⟨fun pins s σ H E I ⟨ρ', M', Ψ', hb, q⟩ => hb.run pins s σ H E I q⟩ hs).mono fun E σ H ⟨G, sa, k⟩ => ⟨G, sa, fun J G1 H1 g1 sh1 jw => ?_⟩
  refine ⟨fun i m σ H => m = ds.length - i ∧ i ≤ ds.length ∧ ∃ G ρ M, Same G1 G ∧ SA X.K G H σ ρ M ∧ Iv i ρ M, ⟨ds.length, by simp, Nat.zero_le _, G1, ρ, M1, Same.refl _, ⟨sh1, sa.sl.up g1⟩, start⟩, ?_⟩
  rintro i m σ2 H2 ⟨rfl, hi, G2, ρ2, M2, g2, sa2, iv⟩
  obtain ⟨j1, j2⟩ := jw i H2 (g2.trans sa2.sh.le)
  by_cases hlt : i < ds.length
  · have hd : ds[i]? = some ds[i] := List.getElem?_eq_getElem hlt
    obtain ⟨go, yl⟩ := j1 _ hd
    refine .inr ⟨go, fun σ3 H3 => ∃ G ρ M, Same G1 G ∧ SA X.K G H3 σ3 ρ M ∧ Iv (i + 1) ρ M, fun σ' H' p' => ⟨ds.length - (i + 1), by omega, rfl, hlt, p'⟩, fun x H' y => ?_⟩
    obtain ⟨e, rx⟩ := yl x H' y
    subst e
    obtain ⟨ρ3, tg3, bv⟩ := step i _ ρ2 M2 hd iv
    refine tg3 x σ2 G2 H' _ sa2.sh.le sa2.sl (rx.up g2) fun σ3 rs3 => ⟨ρ3, M2, _, bv, G2, ⟨sa2.sh, rs3⟩, fun o ho => ?_⟩
    cases o with
    | nx ρ4 M4 => exact fun σ4 G4 H4 g4 sa4 => ⟨G4, ρ4, M4, g2.trans g4, sa4, ho⟩
    | ct ρ4 M4 => exact fun σ4 G4 H4 g4 sa4 => ⟨G4, ρ4, M4, g2.trans g4, sa4, ho⟩
    | bk ρ4 M4 => exact fun σ4 G4 H4 g4 sa4 => k _ ho σ4 G4 H4 ((g1.trans g2).trans g4) sa4
    | ret d4 M4 => exact fun v G4 H4 g4 sh4 r4 => k _ ho v G4 H4 ((g1.trans g2).trans g4) sh4 r4
  · have e : i = ds.length := by omega
    subst e
    exact .inl ⟨j2 (Nat.le_refl _), k _ (done ρ2 M2 iv) σ2 G2 H2 (g1.trans g2) sa2⟩

/-! ### a list comprehension (one clause, no test) -/
def wipeD (ρ : Sl) : List Nat → Sl
  | [] => ρ
  | v :: vs => (wipeD ρ vs).set v none
theorem wipe_rep {G : Hp} {σ : L2.St} (h : RepS K G σ ρ) : ∀ vs, RepS K G (wipe σ vs) (wipeD ρ vs)
  | [] => h
  | v :: vs => (wipe_rep h vs).none v
/-- g stores d in slots that are the block's own -/
def TGb (K : PySem.W.Frag) (g : TG) (vs : List Nat) (ρ : Sl) (d : D) (ρ' : Sl) : Prop := ∀ v σ G H Q, Same G H → RepS K G (wipe σ vs) ρ → Rep K G v d → (∀ σ', RepS K G σ' ρ' → wipe σ' vs = wipe σ vs → Q σ' H) → g v (wipe σ vs) H Q
theorem tgb_name {i : Nat} : TGb K (gName i) [i] ρ d (ρ.set i (some d)) := fun v σ G H Q e h r k => k _ (h.set i r) (by
  show ((wipe σ [i]).set i (some v)).set i none = (wipe σ [i])
  show ((σ.set i none).set i (some v)).set i none = σ.set i none
  rw [List.set_set, List.set_set])
/-- the reading of a list comprehension -/
theorem lc_read {elt tg iter : Expr} {scope : Scope} {own : List (Str × Nat)}
    (f : Nat → D) (m : Nat → Mem) (h0 : m 0 = M1) (hm : ∀ i p, M1 p = none → m i p = none) (hlen : ds.length ≤ sizeLine)
    (step : ∀ i d, ds[i]? = some d → ∃ ρ', TGb X.K g (own.map (·.2)) (wipeD ρ (own.map (·.2))) d ρ' ∧ ∀ (p : Addr) (acc : List D), M1 p = none → ∀ (s : Shared) (H : Hp) (C : Addr) (cl : List (Str × Addr)) (fp : List Addr),
      EV (X.blk s H scope (compEnvC scope cl C X.env) fp) elt ρ' ((m i).set p (.lst acc)) (f i) ((m (i + 1)).set p (.lst acc))) (σ : L2.St) (H : Hp) (Q : VK) (h : tE X.K ρ M (.lst ((List.range ds.length).map f)) (m ds.length) σ H Q) :
    tLc (tI X.K ρ M ds M1) g tYes (fun σ H Q => ∃ ρ' M' d' M'', (∀ (s : Shared) (H : Hp) (C : Addr) (cl : List (Str × Addr)) (fp : List Addr), EV (X.blk s H scope (compEnvC scope cl C X.env) fp) elt ρ' M' d' M'') ∧ tE X.K ρ' M' d' M'' σ H Q) (own.map (·.2)) σ H Q := by
  obtain ⟨G, sa, k⟩ := h
  refine ⟨G, sa, fun J G1 H1 g1 sh1 jw => fun p hp => ?_⟩
  obtain ⟨shp, mp, gp⟩ := sh1.newM hp (RepL.nil (K := X.K) (G := G1))
  refine ⟨fun i mm H => mm = ds.length - i ∧ i ≤ ds.length ∧ ∃ G, Same G1 G ∧ SH X.K G H ((m i).set p (.lst ((List.range i).map f))), ⟨ds.length, by simp, Nat.zero_le _, G1, Same.refl _, by rw [h0]; exact shp⟩, ?_⟩
  rintro i mm H2 ⟨rfl, hi, G2, g2, sh2⟩
  obtain ⟨j1, j2⟩ := jw i H2 (g2.trans sh2.le)
  by_cases hlt : i < ds.length
  · have hd : ds[i]? = some ds[i] := List.getElem?_eq_getElem hlt
    obtain ⟨go, yl⟩ := j1 _ hd
    refine .inr ⟨go, fun H3 => ∃ G, Same G1 G ∧ SH X.K G H3 ((m (i + 1)).set p (.lst ((List.range (i + 1)).map f))), fun H' p' => ⟨ds.length - (i + 1), by omega, rfl, hlt, p'⟩, fun x H' y => ?_⟩
    obtain ⟨e, rx⟩ := yl x H' y
    subst e
    obtain ⟨ρ3, tg3, ev⟩ := step i _ hd
    refine tg3 x σ G2 H' _ sh2.le (wipe_rep ((sa.sl.up g1).up g2) _) (rx.up g2) fun σ3 rs3 hw => ⟨hw, ?_⟩
    show ∃ ρ' M' d' M'', _ ∧ tE X.K ρ' M' d' M'' σ3 H' _
    refine ⟨ρ3, _, _, _, ev p _ mp, G2, ⟨sh2, rs3⟩, fun v G4 H4 g4 sh4 r4 => ?_⟩
    obtain ⟨_, vs, hv, rl⟩ := sh4.mem p _ Mem.set_same
    refine ⟨vs, hv, ?_, G4, g2.trans g4, ?_⟩
    · rw [rl.len, List.length_map, List.length_range]
      exact Nat.lt_of_lt_of_le hlt hlen
    · have q := sh4.put (ds := (List.range i).map f ++ [f i]) Mem.set_same (rl.append (.cons r4 .nil))
      rw [Mem.set_set] at q
      rw [List.range_succ, List.map_append]
      exact q
  · have e : i = ds.length := by omega
    subst e
    obtain ⟨vs, sh3, g3, rl⟩ := sh2.freeze (hm _ p mp)
    exact .inl ⟨j2 (Nat.le_refl _), k _ _ H2 ((g1.trans g2).trans g3) sh3 (.lst (.inl (.inl upd_same)) (rl.up g3))⟩
theorem ev_lc {elt tg iter : Expr} {scope : Scope} {own : List (Str × Nat)} (hc : X.calm = true) (hN : X.N.Nodup) (hi : IV X tg iter ρ M ds M1) (ok : BlkOk X.N X.env.scope scope own)
    (hg : ∀ (s : Shared) (H : Hp) (C : Addr) (cl : List (Str × Addr)) (fp : List Addr), PG (X.blk s H scope (compEnvC scope cl C X.env) fp) tg g)
    (f : Nat → D) (m : Nat → Mem) (h0 : m 0 = M1) (hm : ∀ i p, M1 p = none → m i p = none) (hlen : ds.length ≤ sizeLine)
    (step : ∀ i d, ds[i]? = some d → ∃ ρ', TGb X.K g (own.map (·.2)) (wipeD ρ (own.map (·.2))) d ρ' ∧ ∀ (p : Addr) (acc : List D), M1 p = none → ∀ (s : Shared) (H : Hp) (C : Addr) (cl : List (Str × Addr)) (fp : List Addr),
      EV (X.blk s H scope (compEnvC scope cl C X.env) fp) elt ρ' ((m i).set p (.lst acc)) (f i) ((m (i + 1)).set p (.lst acc)))
    (hs : ∀ x, foldedSetIterable iter X.env x = pure x := by intro _; rfl) : EV X (.ListComp elt [⟨tg, iter, [], 0⟩] scope pos) ρ M (.lst ((List.range ds.length).map f)) (m ds.length) :=
  (pe_lc hc hN hi ok hg (fun _ _ _ _ _ => pts_nil) (fun s H C cl fp => ⟨fun pins s' σ H' Q I ⟨ρ', M', d', M'', hb, q⟩ => (hb s H C cl fp).run pins s' σ H' Q I q⟩) hs).mono (lc_read (tg := tg) (iter := iter) f m h0 hm hlen step)
/-- y = [e for x in ..] -/
theorem sv_setLc (i : Nat) {y : Str} {py : Pos} {elt tg iter : Expr} {scope : Scope} {own : List (Str × Nat)} {spos : Pos} (hc : X.calm = true) (hN : X.N.Nodup) (hy : X.N[i]? = some y) (hl : X.env.scope.names.lookup y = some .local)
    (hw : swapsWith (.ListComp elt [⟨tg, iter, [], 0⟩] scope pos) (some (.Name y py)) spos.line X.env = pure true) (hi : IV X tg iter ρ M ds M1) (ok : BlkOk X.N X.env.scope scope own)
    (hg : ∀ (s : Shared) (H : Hp) (C : Addr) (cl : List (Str × Addr)) (fp : List Addr), PG (X.blk s H scope (compEnvC scope cl C X.env) fp) tg g)
    (f : Nat → D) (m : Nat → Mem) (h0 : m 0 = M1) (hm : ∀ i p, M1 p = none → m i p = none) (hlen : ds.length ≤ sizeLine)
    (step : ∀ i d, ds[i]? = some d → ∃ ρ', TGb X.K g (own.map (·.2)) (wipeD ρ (own.map (·.2))) d ρ' ∧ ∀ (p : Addr) (acc : List D), M1 p = none → ∀ (s : Shared) (H : Hp) (C : Addr) (cl : List (Str × Addr)) (fp : List Addr),
      EV (X.blk s H scope (compEnvC scope cl C X.env) fp) elt ρ' ((m i).set p (.lst acc)) (f i) ((m (i + 1)).set p (.lst acc)))
    (hΨ : Ψ (.nx (ρ.set i (some (.lst ((List.range ds.length).map f)))) (m ds.length))) (hs : ∀ x, foldedSetIterable iter X.env x = pure x := by intro _; rfl) : SV X (.Assign [.Name y py] (.ListComp elt [⟨tg, iter, [], 0⟩] scope pos) spos) ρ M Ψ :=
  (ps_setLc hc hN hy hl hw hi ok hg (fun _ _ _ _ _ => pts_nil) (fun s H C cl fp => ⟨fun pins s' σ H' Q I ⟨ρ', M', d', M'', hb, q⟩ => (hb s H C cl fp).run pins s' σ H' Q I q⟩) hs).mono fun E σ H ⟨G, sa, k⟩ =>
    lc_read (tg := tg) (iter := iter) f m h0 hm hlen step σ H _ ⟨G, sa, fun v G1 H1 g1 sh1 r1 => k _ hΨ _ G1 H1 g1 ⟨sh1, (sa.sl.up g1).set i r1⟩⟩
end
end Vt
namespace Vt
open PySem PySem.Spec PyProof.Rows L2
/-! ### new lists that may be changed -/
def tN (K : PySem.W.Frag) (ρ : Sl) (M : Mem) (ds : List D) (M' : Mem) : TE := fun σ H Q => ∃ G, SA K G H σ ρ M ∧ ∀ p G' H', Same G G' → M' p = none → SH K G' H' (M'.set p (.lst ds)) → Q (.ref p) H'
abbrev EN (X : Cx) (e : Expr) (ρ : Sl) (M : Mem) (ds : List D) (M' : Mem) : Prop := PE X e (tN X.K ρ M ds M')
def spN (K : PySem.W.Frag) (Pr : List D → Mem → List D → Mem → Prop) : Sp := fun vs H Q _ => ∃ G ds M es M', SH K G H M ∧ RepL K G vs ds ∧ Pr ds M es M' ∧ ∀ p G' H', Same G G' → M' p = none → SH K G' H' (M'.set p (.lst es)) → Q (.ref p) H'
theorem Mem.set_comm {M : Mem} {a b : Addr} {o u : MO} (h : a ≠ b) : (M.set a o).set b u = (M.set b u).set a o := by
  funext c
  unfold Mem.set
  by_cases h1 : c = a
  · by_cases h2 : c = b
    · exact absurd (h1.symm.trans h2) h
    · rw [if_neg h2, if_pos h1, if_pos h1]
  · by_cases h2 : c = b
    · rw [if_pos h2, if_neg h1, if_pos h2]
    · rw [if_neg h2, if_neg h1, if_neg h1, if_neg h2]
theorem mle_new {M M' : Mem} {p : Addr} {o : MO} (h : Mle M M') (hp : M p = none) : Mle M (M'.set p o) := fun b u e => by
  rw [Mem.set_ne (fun q => by rw [q, hp] at e; cases e)]
  exact h b u e
/-- what a def that makes a list promises, by its body -/
def FinN (es : List D) (M' : Mem) : Out → Prop
  | .ret d M'' => ∃ p, d = dP p ∧ M' p = none ∧ Mle (M'.set p (.lst es)) M''
  | _ => False
section
variable {X : Cx} {ρ : Sl} {M M1 M2 M3 : Mem} {a b c e : Expr} {es : List Expr} {d d1 d2 : D} {ds : List D} {pos : Pos} {Ψ : Out → Prop}
theorem en_lst (h : AV X es ρ M ds M1) (hl : ds.length ≤ sizeLine := by first | (simp only [List.length_cons, List.length_nil]; decide) | decide) : EN X (.List es pos) ρ M ds M1 :=
  (pe_lst h).mono fun σ H Q ⟨G, sa, k⟩ => ⟨G, sa, fun vs G1 H1 g1 sh1 r1 => ⟨by rw [r1.len]; exact hl, fun p hp => by
    obtain ⟨sh2, mp, gp⟩ := sh1.newM hp r1
    exact k p _ _ g1 mp sh2⟩⟩
theorem en_listRg {n : Int} {p p2 pos2 : Pos} (hc : X.calm = true) (hm : X.mg "list" = none) (hm2 : X.mg "range" = none) (h : EV X e ρ M (dI n) M1) (hn : 0 ≤ n ∧ n ≤ 16777216) (hg : Gl X "list" := by rfl) (hg2 : Gl X "range" := by rfl)
    (n1 : starEach [e] X.env = (false, eval e X.env) :: starEach [] X.env := by rfl)
    (n2 : starEach [.Call (.Name "range" p2) [e] [] pos2] X.env = (false, eval (.Call (.Name "range" p2) [e] [] pos2) X.env) :: starEach [] X.env := by rfl) : EN X (.Call (.Name "list" p) [.Call (.Name "range" p2) [e] [] pos2] [] pos) ρ M (rgD 0 n.toNat) M1 :=
  (pe_listRg hc hg hm (prg_1 hg2 hm2 h n1) n2).mono fun σ H Q ⟨G, sa, k⟩ => ⟨G, sa, fun v G1 H1 g1 sh1 r1 => ⟨n, r1.of_val, RgOk.of_le (by omega) hn.2 (by omega) hn.1, fun p hp => by
    have r : RepL X.K G1 (rgV 0 n) (rgD 0 n.toNat) := by
      have q := RepL.vals (K := X.K) (G := G1) (rgV 0 n)
      have e : (rgV 0 n).map D.val = rgD 0 n.toNat := by
        unfold rgV rgD
        rw [List.map_map, Int.sub_zero]
        rfl
      rw [e] at q
      exact q
    obtain ⟨sh2, mp, gp⟩ := sh1.newM hp r
    exact k p _ _ g1 mp sh2⟩⟩
theorem sv_setN (i : Nat) {x : Str} {pos' : Pos} (hN : X.N.Nodup) (he : EN X e ρ M ds M1) (hΨ : ∀ p, M1 p = none → Ψ (.nx (ρ.set i (some (dP p))) (M1.set p (.lst ds)))) (hi : X.N[i]? = some x := by rfl) (hx : L2.Loc X.env.scope x := by first | exact Or.inl rfl | exact Or.inr rfl)
    (hs : swapsWith e (some (.Name x pos')) pos.line X.env = pure false := by rfl) (hf : X.fn x = true ∨ X.env.scope.names.lookup x = some .local := by first | exact .inl rfl | exact .inr rfl) : SV X (.Assign [.Name x pos'] e pos) ρ M Ψ :=
  (ps_set hN hi hx he hs hf).mono fun E σ H ⟨G, sa, k⟩ => ⟨G, sa, fun p G1 H1 g1 mp sh1 => k _ (hΨ p mp) _ G1 H1 g1 ⟨sh1, (sa.sl.up g1).set i (.val _)⟩⟩
theorem sv_retNew (he : EN X e ρ M ds M1) (hΨ : ∀ p, M1 p = none → Ψ (.ret (dP p) (M1.set p (.lst ds)))) : SV X (.Return (some e) pos) ρ M Ψ :=
  (ps_ret he).mono fun E σ H ⟨G, sa, k⟩ => ⟨G, sa, fun p G1 H1 g1 mp sh1 => k _ (hΨ p mp) _ G1 H1 g1 sh1 (.val _)⟩
theorem en_call {k : Nat} {x : Str} {Pr : List D → Mem → List D → Mem → Prop} {es' : List D} {p : Pos} (C : Cal X.prog X.w X.K X.mg X.base k x (spN X.K Pr)) (hr : Room k X.A) (ha : AV X (e :: es) ρ M ds M1) (hp : Pr ds M1 es' M2) (hg : Gl X x := by rfl)
    (hd : (x == ("__debug__" : Str)) = false := by decide) (hst : starEach (e :: es) X.env = (false, eval e X.env) :: starEach es X.env := by rfl) (hpl : (backTo pos (starEach es X.env)).any (·.1) = false := by rfl) : EN X (.Call (.Name x p) (e :: es) [] pos) ρ M es' M2 := by
  obtain ⟨f, fd, ps, hm, hk, hb, F⟩ := C.ex
  refine (pe_call F hr hg hm hk hb .nil pass0 ha (hdb := hd) (he := hst) (hpl := hpl)).mono fun σ H Q ⟨G, sa, k⟩ => ⟨G, sa, fun vs G1 H1 g1 sh1 r1 => ?_⟩
  show spN X.K Pr (vs ++ []) H1 Q E0
  rw [List.append_nil]
  exact ⟨G1, ds, M1, es', M2, sh1, r1, hp, fun q G' H' g mq sh => k q G' H' (g1.trans g) mq sh⟩
theorem calN_of {P : Program} {w : World} {K : PySem.W.Frag} {mg : Str → Option Value} {base : Heap} {x qual : Str} {sd : Stmt} {f : Addr} {fd : FuncData} {N ps : List Str} {k : Nat} {Pr : List D → Mem → List D → Mem → Prop} (F : Fun K x qual sd f fd) (S : FnScope N ps (defScope sd)) (hm : mg x = some (.ref f))
    (hbind : ∀ (kV doc pm : Value) (an : Option Addr) (cdv ct : Value) (us : List Value), us.length = ps.length → bindArgs (PySem.W.fnOf x qual (defArgs sd) (defBody sd) (defScope sd) .none kV doc pm an cdv ct) ⟨us, []⟩ = pure (ps.zip us))
    (len : ∀ ds M es M', Pr ds M es M' → ds.length = ps.length)
    (hb : ∀ (cdv : Value) (A : Around) (outer : List Env) (s : Shared) (H : Hp) (E : XK) (ds : List D) (M : Mem) (es : List D) (M' : Mem), Room k (A.deeper (envOfC qual (defScope sd) s.heap.objs.size f cdv)) → Pr ds M es M' →
      BV (cxOf CX0 P w K mg base N qual (defScope sd) f cdv A outer s H E).nox (defBody sd) (startD N ds) M (FinN es M')) : Cal P w K mg base (k + 1) x (spN K Pr) := by
  refine ⟨f, fd, ps, hm, F.kp, F.binds hbind, F.ok S (fun vs H Q E ⟨G, ds, M, es, M', sh, r, p, q⟩ => by rw [r.len]; exact len _ _ _ _ p) fun cdv A outer s H vs Q E hr ⟨G, ds, M, es, M', sh, r, p, q⟩ => ?_⟩
  refine ⟨_, hb cdv A outer s H E ds M es M' hr p, G, ⟨sh, start_rep r⟩, fun o ho => ?_⟩
  cases o with
  | ret d' M'' =>
    obtain ⟨p, rfl, mp, hm⟩ := ho
    exact fun v G' H' g sh' r' => by
      rw [r'.of_val]
      exact q p G' H' g mp (sh'.weak hm)
  | nx ρ M'' => exact ho.elim
  | bk _ _ => exact ho.elim
  | ct _ _ => exact ho.elim
/-- [F(x) for x in ..] that changes nothing -/
theorem range_getD {α β : Type} (x0 : α) (g : α → β) : ∀ (xs : List α), (List.range xs.length).map (fun i => g (xs.getD i x0)) = xs.map g := fun xs => by
  apply List.ext_getElem?
  intro i
  rw [List.getElem?_map, List.getElem?_map]
  rcases Nat.lt_or_ge i xs.length with h | h
  · rw [List.getElem?_range h, List.getElem?_eq_getElem h]
    show some (g (xs.getD i x0)) = some (g xs[i])
    rw [List.getD_eq_getElem?_getD, List.getElem?_eq_getElem h]
    rfl
  · rw [List.getElem?_eq_none (by simpa using h), List.getElem?_eq_none h]
    rfl
theorem getD_of {α : Type} {xs : List α} {i : Nat} {x x0 : α} (h : xs[i]? = some x) : xs.getD i x0 = x := by
  rw [List.getD_eq_getElem?_getD, h]
  rfl
theorem ev_lcM {elt tg iter : Expr} {scope : Scope} {own : List (Str × Nat)} {g : TG} (hc : X.calm = true) (hN : X.N.Nodup) (hi : IV X tg iter ρ M ds M1) (ok : BlkOk X.N X.env.scope scope own)
    (hg : ∀ (s : Shared) (H : Hp) (C : Addr) (cl : List (Str × Addr)) (fp : List Addr), PG (X.blk s H scope (compEnvC scope cl C X.env) fp) tg g) (F : D → D) (hlen : ds.length ≤ sizeLine)
    (step : ∀ (i : Nat) d, ds[i]? = some d → ∃ ρ', TGb X.K g (own.map (·.2)) (wipeD ρ (own.map (·.2))) d ρ' ∧ ∀ (M2 : Mem), ∀ (s : Shared) (H : Hp) (C : Addr) (cl : List (Str × Addr)) (fp : List Addr), EV (X.blk s H scope (compEnvC scope cl C X.env) fp) elt ρ' M2 (F d) M2)
    (hs : ∀ x, foldedSetIterable iter X.env x = pure x := by intro _; rfl) : EV X (.ListComp elt [⟨tg, iter, [], 0⟩] scope pos) ρ M (.lst (ds.map F)) M1 := by
  have q := ev_lc (f := fun i => F (ds.getD i dN)) (m := fun _ => M1) (pos := pos) hc hN hi ok hg rfl (fun _ _ h => h) hlen (fun i d h => by
    obtain ⟨ρ', h1, h2⟩ := step i d h
    refine ⟨ρ', h1, fun p acc _ s H C cl fp => ?_⟩
    show EV _ elt ρ' _ (F (ds.getD i dN)) _
    rw [getD_of h]
    exact h2 _ s H C cl fp) hs
  rw [range_getD dN F ds] at q
  exact q
end
end Vt
namespace Vt
open PySem PySem.Spec PyProof.Rows L2
/-! ### == and != of equal trees -/
mutual
def D.py : D → PyData
  | .val .non => .none
  | .val (.bl b) => .bool b
  | .val (.int i) => .int i
  | .val (.str x) => .str x
  | .val _ => .none
  | .tup ds => .tuple (D.pyL ds)
  | .lst ds => .list (D.pyL ds)
def D.pyL : List D → List PyData
  | [] => []
  | d :: ds => D.py d :: D.pyL ds
end

mutual
def D.plain : D → Bool
  | .val .non => true
  | .val (.bl _) => true
  | .val (.int _) => true
  | .val (.str _) => true
  | .val _ => false
  | .tup ds => D.plainL ds
  | .lst ds => D.plainL ds
def D.plainL : List D → Bool
  | [] => true
  | d :: ds => D.plain d && D.plainL ds
end
section
variable {K : PySem.W.Frag} {G H : Hp}
mutual
theorem dp_of (e : Same G H) : ∀ (v : V) (d : D), D.plain d = true → Rep K G v d → Dp K H v (D.py d)
  | v, .val u, hp, r => by
    have q := r.of_val
    subst q
    cases v with
    | non => exact .non
    | bl b => exact .bl b
    | int i => exact .int i
    | str x => exact .str x
    | _ => cases hp
  | _, .tup ds, hp, .tup q r => .tup (sqtUp e q) (dpL_of e _ ds hp r)
  | _, .lst ds, hp, .lst q r => .lst (sqlUp e q) (dpL_of e _ ds hp r)
theorem dpL_of (e : Same G H) : ∀ (vs : List V) (ds : List D), D.plainL ds = true → RepL K G vs ds → DpAll K H vs (D.pyL ds)
  | _, [], _, .nil => .nil
  | _, d :: ds, hp, .cons h t => by
    have q := (Bool.and_eq_true_iff.mp hp)
    exact .cons (dp_of e _ d q.1 h) (dpL_of e _ ds q.2 t)
end
end
section
variable {X : Cx} {ρ : Sl} {M M1 M2 M3 : Mem} {a b c e : Expr} {es : List Expr} {d d1 d2 : D} {ds : List D} {pos : Pos} {Ψ : Out → Prop}
theorem shaped_eqv {p : PyData} (h : SeqAt.shaped p = true) : PyData.eqv p p = true := SeqAt.eqv_refl p (SeqAt.canLay_of_shaped h)
theorem ev_eqD (hu : X.A.units + 64 < cLine) (ha : EV X a ρ M d1 M1) (hb : EV X b ρ M1 d2 M2) (p1 : D.plain d1 = true) (p2 : D.plain d2 = true) (s1 : SeqAt.shaped d1.py = true) (s2 : SeqAt.shaped d2.py = true) (hm : behindInMarks .Eq b = false) :
    EV X (.Compare a [.Eq] [b] pos) ρ M (dB (PyData.eqv d1.py d2.py)) M2 :=
  (pe_cmpR (op_eqD hu) ha hb hm).mono fun σ H Q ⟨G, sa, k⟩ => ⟨G, sa, fun v1 G1 H1 g1 sh1 r1 => ⟨G1, ⟨sh1, sa.sl.up g1⟩, fun v2 G2 H2 g2 sh2 r2 =>
    ⟨_, _, dp_of sh2.le _ _ p1 (r1.up g2), dp_of sh2.le _ _ p2 r2, s1, s2, k _ G2 H2 (g1.trans g2) sh2 (.val _)⟩⟩⟩
theorem tv_eqD (hu : X.A.units + 64 < cLine) (ha : EV X a ρ M d1 M1) (hb : EV X b ρ M1 d2 M2) (p1 : D.plain d1 = true) (p2 : D.plain d2 = true) (s1 : SeqAt.shaped d1.py = true) (s2 : SeqAt.shaped d2.py = true) (hm : behindInMarks .Eq b = false) :
    TV X (.Compare a [.Eq] [b] pos) ρ M (PyData.eqv d1.py d2.py) M2 :=
  (pt_cmpR (op_eqD hu) ha hb hm).mono fun σ H Q ⟨G, sa, k⟩ => ⟨G, sa, fun v1 G1 H1 g1 sh1 r1 => ⟨G1, ⟨sh1, sa.sl.up g1⟩, fun v2 G2 H2 g2 sh2 r2 =>
    ⟨_, _, dp_of sh2.le _ _ p1 (r1.up g2), dp_of sh2.le _ _ p2 r2, s1, s2, _, rfl, k G2 H2 (g1.trans g2) sh2⟩⟩⟩
theorem ev_neD (hu : X.A.units + 64 < cLine) (ha : EV X a ρ M d1 M1) (hb : EV X b ρ M1 d2 M2) (p1 : D.plain d1 = true) (p2 : D.plain d2 = true) (s1 : SeqAt.shaped d1.py = true) (s2 : SeqAt.shaped d2.py = true) (hm : behindInMarks .NotEq b = false) :
    EV X (.Compare a [.NotEq] [b] pos) ρ M (dB (!PyData.eqv d1.py d2.py)) M2 :=
  (pe_cmpR (op_neD hu) ha hb hm).mono fun σ H Q ⟨G, sa, k⟩ => ⟨G, sa, fun v1 G1 H1 g1 sh1 r1 => ⟨G1, ⟨sh1, sa.sl.up g1⟩, fun v2 G2 H2 g2 sh2 r2 =>
    ⟨_, _, dp_of sh2.le _ _ p1 (r1.up g2), dp_of sh2.le _ _ p2 r2, s1, s2, k _ G2 H2 (g1.trans g2) sh2 (.val _)⟩⟩⟩
theorem tv_neD (hu : X.A.units + 64 < cLine) (ha : EV X a ρ M d1 M1) (hb : EV X b ρ M1 d2 M2) (p1 : D.plain d1 = true) (p2 : D.plain d2 = true) (s1 : SeqAt.shaped d1.py = true) (s2 : SeqAt.shaped d2.py = true) (hm : behindInMarks .NotEq b = false) :
    TV X (.Compare a [.NotEq] [b] pos) ρ M (!PyData.eqv d1.py d2.py) M2 :=
  (pt_cmpR (op_neD hu) ha hb hm).mono fun σ H Q ⟨G, sa, k⟩ => ⟨G, sa, fun v1 G1 H1 g1 sh1 r1 => ⟨G1, ⟨sh1, sa.sl.up g1⟩, fun v2 G2 H2 g2 sh2 r2 =>
    ⟨_, _, dp_of sh2.le _ _ p1 (r1.up g2), dp_of sh2.le _ _ p2 r2, s1, s2, _, rfl, k G2 H2 (g1.trans g2) sh2⟩⟩⟩
/-- of one tree: != is false -/
theorem tv_neSame (hu : X.A.units + 64 < cLine) (ha : EV X a ρ M d M1) (hb : EV X b ρ M1 d M2) (p1 : D.plain d = true) (s1 : SeqAt.shaped d.py = true) (hm : behindInMarks .NotEq b = false) : TV X (.Compare a [.NotEq] [b] pos) ρ M false M2 := by
  have q := tv_neD (pos := pos) hu ha hb p1 p1 s1 s1 hm
  rw [shaped_eqv s1] at q
  exact q
theorem tv_eqSame (hu : X.A.units + 64 < cLine) (ha : EV X a ρ M d M1) (hb : EV X b ρ M1 d M2) (p1 : D.plain d = true) (s1 : SeqAt.shaped d.py = true) (hm : behindInMarks .Eq b = false) : TV X (.Compare a [.Eq] [b] pos) ρ M true M2 := by
  have q := tv_eqD (pos := pos) hu ha hb p1 p1 s1 s1 hm
  rw [shaped_eqv s1] at q
  exact q

/-! ### values that are known by what they meet alone -/
def tW (K : PySem.W.Frag) (ρ : Sl) (M : Mem) (Φ : D → Mem → Prop) : TE := fun σ H Q => ∃ G, SA K G H σ ρ M ∧ ∀ v G' H' d M', Φ d M' → Same G G' → SH K G' H' M' → Rep K G' v d → Q v H'
abbrev EW (X : Cx) (e : Expr) (ρ : Sl) (M : Mem) (Φ : D → Mem → Prop) : Prop := PE X e (tW X.K ρ M Φ)
def spW (K : PySem.W.Frag) (R : List D → Mem → (D → Mem → Prop) → Prop) : Sp := fun vs H Q _ => ∃ G ds M Φ, SH K G H M ∧ RepL K G vs ds ∧ R ds M Φ ∧ ∀ v G' H' d M', Φ d M' → Same G G' → SH K G' H' M' → Rep K G' v d → Q v H'
variable {Φ Φ' : D → Mem → Prop}
theorem ew_ev (h : EV X e ρ M d M1) (q : Φ d M1) : EW X e ρ M Φ := h.mono fun σ H Q ⟨G, sa, k⟩ => ⟨G, sa, fun v G1 H1 g1 sh1 r1 => k v G1 H1 d M1 q g1 sh1 r1⟩
theorem ew_to (h : EW X e ρ M Φ) (q : ∀ d M, Φ d M → Φ' d M) : EW X e ρ M Φ' := h.mono fun σ H Q ⟨G, sa, k⟩ => ⟨G, sa, fun v G1 H1 d M1 p => k v G1 H1 d M1 (q _ _ p)⟩
theorem ew_call {k : Nat} {x : Str} {R : List D → Mem → (D → Mem → Prop) → Prop} {p : Pos} (C : Cal X.prog X.w X.K X.mg X.base k x (spW X.K R)) (hr : Room k X.A) (ha : AV X (e :: es) ρ M ds M1) (hp : R ds M1 Φ) (hg : Gl X x := by rfl)
    (hd : (x == ("__debug__" : Str)) = false := by decide) (hst : starEach (e :: es) X.env = (false, eval e X.env) :: starEach es X.env := by rfl) (hpl : (backTo pos (starEach es X.env)).any (·.1) = false := by rfl) : EW X (.Call (.Name x p) (e :: es) [] pos) ρ M Φ := by
  obtain ⟨f, fd, ps, hm, hk, hb, F⟩ := C.ex
  refine (pe_call F hr hg hm hk hb .nil pass0 ha (hdb := hd) (he := hst) (hpl := hpl)).mono fun σ H Q ⟨G, sa, k⟩ => ⟨G, sa, fun vs G1 H1 g1 sh1 r1 => ?_⟩
  show spW X.K R (vs ++ []) H1 Q E0
  rw [List.append_nil]
  exact ⟨G1, ds, M1, Φ, sh1, r1, hp, fun v G' H' d M' q g sh r => k v G' H' d M' q (g1.trans g) sh r⟩
/-- x = e -/
theorem sv_setW (i : Nat) {x : Str} {pos' : Pos} (hN : X.N.Nodup) (he : EW X e ρ M Φ) (hΨ : ∀ d M1, Φ d M1 → Ψ (.nx (ρ.set i (some d)) M1)) (hi : X.N[i]? = some x := by rfl) (hx : L2.Loc X.env.scope x := by first | exact Or.inl rfl | exact Or.inr rfl) (hs : swapsWith e (some (.Name x pos')) pos.line X.env = pure false := by rfl)
    (hf : X.fn x = true ∨ X.env.scope.names.lookup x = some .local := by first | exact .inl rfl | exact .inr rfl) : SV X (.Assign [.Name x pos'] e pos) ρ M Ψ :=
  (ps_set hN hi hx he hs hf).mono fun E σ H ⟨G, sa, k⟩ => ⟨G, sa, fun v G1 H1 d M1 p g1 sh1 r1 => k _ (hΨ d M1 p) _ G1 H1 g1 ⟨sh1, (sa.sl.up g1).set i r1⟩⟩
theorem sv_retW (he : EW X e ρ M Φ) (hΨ : ∀ d M1, Φ d M1 → Ψ (.ret d M1)) : SV X (.Return (some e) pos) ρ M Ψ :=
  (ps_ret he).mono fun E σ H ⟨G, sa, k⟩ => ⟨G, sa, fun v G1 H1 d M1 p g1 sh1 r1 => k _ (hΨ d M1 p) v G1 H1 g1 sh1 r1⟩
/-- target = e -/
theorem sv_asgW {tg : Expr} {g : TG} (he : EW X e ρ M Φ) (hg : PG X tg g) (ht : ∀ d M1, Φ d M1 → ∃ ρ', TG1 X.K g ρ d ρ' ∧ Ψ (.nx ρ' M1)) (hs : swapsWithSole [tg] e pos.line X.env = pure false := by rfl) (hw : swappedStores [tg] e X.env = pure none := by rfl)
    (h1 : (assignEach [tg] X.env).map (·.2) = [assign tg X.env] := by rfl) : SV X (.Assign [tg] e pos) ρ M Ψ :=
  (ps_asg he hg hs hw h1).mono fun E σ H ⟨G, sa, k⟩ => ⟨G, sa, fun v G1 H1 d M1 p g1 sh1 r1 => by
    obtain ⟨ρ', t, q⟩ := ht d M1 p
    exact t v σ G1 H1 _ sh1.le (sa.sl.up g1) r1 fun σ' h' => k _ q σ' G1 H1 g1 ⟨sh1, h'⟩⟩
/-- a and b, a true -/
theorem ew_and {rest : List Expr} {Φ1 : Mem → Prop} (ha : EW X a ρ M (fun d M1 => d = dB true ∧ Φ1 M1)) (hb : ∀ M1, Φ1 M1 → EW X (.BoolOp .And (b :: rest) pos) ρ M1 Φ) : EW X (.BoolOp .And (a :: b :: rest) pos) ρ M Φ :=
  (pe_and (tb := fun σ H Q => ∃ M1, EW X (.BoolOp .And (b :: rest) pos) ρ M1 Φ ∧ tW X.K ρ M1 Φ σ H Q) ha ⟨fun pins s σ H Q I ⟨M1, hb, q⟩ => hb.run pins s σ H Q I q⟩).mono fun σ H Q ⟨G, sa, k⟩ => ⟨G, sa, fun v1 G1 H1 d M1 ⟨e, p⟩ g1 sh1 r1 => by
    subst e
    refine ⟨true, r1.of_val, ?_⟩
    show ∃ M1, EW X (.BoolOp .And (b :: rest) pos) ρ M1 Φ ∧ tW X.K ρ M1 Φ σ H1 Q
    exact ⟨M1, hb M1 p, G1, ⟨sh1, sa.sl.up g1⟩, fun v G2 H2 d2 M2 p2 g2 sh2 r2 => k v G2 H2 d2 M2 p2 (g1.trans g2) sh2 r2⟩⟩
theorem ew_one {op} (h : EW X e ρ M Φ) : EW X (.BoolOp op [e] pos) ρ M Φ := pe_one h
/-- a test of such a value: if e: as else: bs -/
theorem sv_ifW {as bs : List Stmt} (hc : EW X c ρ M Φ) (h : ∀ d M1, Φ d M1 → ∃ p, d = dB p ∧ (p = true → BV X as ρ M1 Ψ) ∧ (p = false → BV X bs ρ M1 Ψ)) (he : ∀ whole, isTrue c X.env whole = (do let v ← whole; standAt c.pos; holding [v] (truthy v)) := by intro _; rfl) : SV X (.If c as bs pos) ρ M Ψ :=
  (ps_if (t := fun E σ H => ∃ M1, BV X as ρ M1 Ψ ∧ tS X.K ρ M1 Ψ E σ H) (u := fun E σ H => ∃ M1, BV X bs ρ M1 Ψ ∧ tS X.K ρ M1 Ψ E σ H) (pt_val hc he) ⟨fun pins s σ H E I ⟨M1, hb, q⟩ => hb.run pins s σ H E I q⟩ ⟨fun pins s σ H E I ⟨M1, hb, q⟩ => hb.run pins s σ H E I q⟩).mono
    fun E σ H ⟨G, sa, k⟩ => ⟨G, sa, fun v G1 H1 d M1 p g1 sh1 r1 => by
      obtain ⟨b, rfl, h1, h2⟩ := h d M1 p
      refine ⟨b, r1.of_val, ?_⟩
      cases b with
      | true => exact ⟨M1, h1 rfl, G1, ⟨sh1, sa.sl.up g1⟩, fun o ho => (k o ho).up g1⟩
      | false => exact ⟨M1, h2 rfl, G1, ⟨sh1, sa.sl.up g1⟩, fun o ho => (k o ho).up g1⟩⟩
def FinW (Φ : D → Mem → Prop) : Out → Prop
  | .ret d M'' => ∃ M', Φ d M' ∧ Mle M' M''
  | .nx _ M'' => ∃ M', Φ dN M' ∧ Mle M' M''
  | _ => False
theorem calW_of {P : Program} {w : World} {K : PySem.W.Frag} {mg : Str → Option Value} {base : Heap} {x qual : Str} {sd : Stmt} {f : Addr} {fd : FuncData} {N ps : List Str} {k : Nat} {R : List D → Mem → (D → Mem → Prop) → Prop} (F : Fun K x qual sd f fd) (S : FnScope N ps (defScope sd)) (hm : mg x = some (.ref f))
    (hbind : ∀ (kV doc pm : Value) (an : Option Addr) (cdv ct : Value) (us : List Value), us.length = ps.length → bindArgs (PySem.W.fnOf x qual (defArgs sd) (defBody sd) (defScope sd) .none kV doc pm an cdv ct) ⟨us, []⟩ = pure (ps.zip us))
    (len : ∀ ds M Φ, R ds M Φ → ds.length = ps.length)
    (hb : ∀ (cdv : Value) (A : Around) (outer : List Env) (s : Shared) (H : Hp) (E : XK) (ds : List D) (M : Mem) (Φ : D → Mem → Prop), Room k (A.deeper (envOfC qual (defScope sd) s.heap.objs.size f cdv)) → R ds M Φ →
      BV (cxOf CX0 P w K mg base N qual (defScope sd) f cdv A outer s H E).nox (defBody sd) (startD N ds) M (FinW Φ)) : Cal P w K mg base (k + 1) x (spW K R) := by
  refine ⟨f, fd, ps, hm, F.kp, F.binds hbind, F.ok S (fun vs H Q E ⟨G, ds, M, Φ, sh, r, p, q⟩ => by rw [r.len]; exact len _ _ _ p) fun cdv A outer s H vs Q E hr ⟨G, ds, M, Φ, sh, r, p, q⟩ => ?_⟩
  refine ⟨_, hb cdv A outer s H E ds M Φ hr p, G, ⟨sh, start_rep r⟩, fun o ho => ?_⟩
  cases o with
  | ret d' M'' =>
    obtain ⟨M', hp, hm⟩ := ho
    exact fun v G' H' g sh' r' => q v G' H' d' M' hp g (sh'.weak hm) r'
  | nx ρ M'' =>
    obtain ⟨M', hp, hm⟩ := ho
    exact fun σ' G' H' g sa' => q .non G' H' dN M' hp g (sa'.sh.weak hm) (.val _)
  | bk _ _ => exact ho.elim
  | ct _ _ => exact ho.elim
/-- the law's own promise: of a list of at most 63 ints it hands back True -/
def spLaw (K : PySem.W.Frag) : Sp := fun vs H Q _ => ∃ (a : Addr) (ns : List Int), vs = [.ref a] ∧ SqL K H a (ns.map V.int) ∧ ns.length ≤ 63 ∧ ∀ H', Q (.bl true) H'
def FinL : Out → Prop
  | .ret d _ => d = dB true
  | _ => False
theorem law_of {P : Program} {w : World} {K : PySem.W.Frag} {mg : Str → Option Value} {base : Heap} {sd : Stmt} {f : Addr} {fd : FuncData} {N : List Str} {k : Nat} (F : Fun K "law" "law" sd f fd) (S : FnScope N ["script"] (defScope sd))
    (hb : ∀ (cdv : Value) (A : Around) (outer : List Env) (s : Shared) (H : Hp) (E : XK) (ns : List Int), Room k (A.deeper (envOfC "law" (defScope sd) s.heap.objs.size f cdv)) → ns.length ≤ 63 →
      BV (cxOf CX0 P w K mg base N "law" (defScope sd) f cdv A outer s H E).nox (defBody sd) (startD N [.lst (ns.map dI)]) (fun _ => none) FinL) : FnOk P w K mg base CX0 (k + 1) f fd ["script"] (spLaw K) := by
  refine F.ok S (fun vs H Q E ⟨a, ns, e, _⟩ => by rw [e]; rfl) fun cdv A outer s H vs Q E hr ⟨a, ns, e, hs, hl, q⟩ => ?_
  subst e
  have r : RepL K H [V.ref a] [.lst (ns.map dI)] := by
    refine .cons (.lst hs ?_) .nil
    have e := RepL.vals (K := K) (G := H) (ns.map V.int)
    rw [List.map_map] at e
    exact e
  refine ⟨_, hb cdv A outer s H E ns hr hl, H, ⟨⟨Same.refl _, fun b mo e => by cases e⟩, start_rep r⟩, fun o ho => ?_⟩
  cases o with
  | ret d M'' =>
    have e : d = dB true := ho
    subst e
    exact fun v G' H' g sh' r' => by
      rw [r'.of_val]
      exact q H'
  | nx ρ M'' => exact ho.elim
  | bk _ _ => exact ho.elim
  | ct _ _ => exact ho.elim
theorem walk {l : PySem.W.OpenLaw} {q : Program} {loose : List Str} {XP : (Str → Option Value) → Heap → Prop} {YP : World → Heap → Prop} {d : DefRec} {K : Params → PySem.W.Frag} {k : Nat} (hk : Room k callerA) (hn : l.most = some 63) (hdf : d.params.defaults = [])
    (hY : ∀ (w : World) (h : Heap), YP w h → (K w.params).In h)
    (F : ∀ (w : World) (mg : Str → Option Value) (fa : Addr) (h : Heap), (K w.params).In h → h.Ns mainGlobals mg → mg d.name = some (.ref fa) →
      ∃ fd : FuncData, (∀ (s : Shared) (u : Value), BindsTo s fd ⟨[u], []⟩ [("script", u)]) ∧ ∀ base : Heap, (K w.params).In base → base.Ns mainGlobals mg → FnOk l.prog w (K w.params) mg base CX0 k fa fd ["script"] (spLaw (K w.params))) :
    PySem.W.WalkO q loose XP YP l.row.toRowW d [] (fun f vs => PySem.call f vs) :=
  L2.walk_of (n := 63) (k := k) (x := "script") (CX := fun _ => CX0) (sp := fun w => spLaw (K w.params)) hn (by decide) hdf hk hY F (fun _ _ a ns hl _ hS => ⟨a, ns, rfl, hS, hl, fun _ => rfl⟩) fun _ _ _ _ _ z => z
end
end Vt
namespace Vt
open PySem PySem.Spec PyProof.Rows L2
/-! ### sorted of pairs of ints -/
def kOf (h : Heap) : Value → Int × Int
  | .ref t => match h.get? t with
    | some o => match o.data with
      | .seq arr _ => match arr.toList with
        | [.int i _, .int j _] => (i, j)
        | _ => (0, 0)
      | _ => (0, 0)
    | none => (0, 0)
  | _ => (0, 0)
def IsPr (K : PySem.W.Frag) (H : Hp) (x : V) (pr : Int × Int) : Prop := ∃ t, x = V.ref t ∧ SqT K H t [.int pr.1, .int pr.2]
def rSq (K : PySem.W.Frag) : List V → Hp → VK → Prop := fun vs H Q => ∃ (a : Addr) (xs : List V) (prs : List (Int × Int)) (G : Hp), vs = [V.ref a] ∧ SqL K H a xs ∧ Same G H ∧ Paired (IsPr K G) xs prs ∧
  ∀ ys qs p, Paired (IsPr K G) ys qs → qs.Perm prs → qs.Pairwise (fun a b => SrtO.lexB b a = false) → H p = none → Q (.ref p) (upd H p (.lst ys))
section
variable {X : Cx} {pins : List (Addr × Obj)} {s : Shared} {σ : L2.St} {G H : Hp}
theorem pr_val (I : Inv X pins σ H s) (g : Same G H) {x : V} {pr : Int × Int} {u : Value} (h : IsPr X.K G x pr) (r : RelV x u) : kOf s.heap u = pr ∧ Srt.IsPair s.heap u pr.1 pr.2 ∧ ∃ t, u = Value.ref t ∧ x = V.ref t := by
  obtain ⟨t, rfl, q⟩ := h
  obtain rfl : u = Value.ref t := r
  obtain ⟨its, rv, ⟨o, ho, hc, n, hd⟩, _⟩ := I.tuple (sqtUp g q)
  obtain ⟨u1, u2, rfl, ri, rj⟩ := vals2 rv
  obtain ⟨t1, rfl⟩ := ri
  obtain ⟨t2, rfl⟩ := rj
  refine ⟨?_, ⟨t, o, t1, t2, n, rfl, ho, hc, hd⟩, t, rfl, rfl⟩
  unfold kOf
  simp only [ho, hd]
theorem prs_val (I : Inv X pins σ H s) (g : Same G H) : ∀ {xs : List V} {prs : List (Int × Int)} {us : List Value}, Paired (IsPr X.K G) xs prs → Vals xs us →
    us.map (kOf s.heap) = prs ∧ ∀ u ∈ us, Srt.IsPair s.heap u (kOf s.heap u).1 (kOf s.heap u).2 ∧ ∃ t, u = Value.ref t ∧ IsPr X.K G (.ref t) (kOf s.heap u)
  | _, _, _, .nil, .nil => ⟨rfl, fun u hu => absurd hu (by simp)⟩
  | _, _, _, .cons h t, .cons r rr => by
    obtain ⟨e1, e2⟩ := prs_val I g t rr
    obtain ⟨k1, k2, t', k3, k4⟩ := pr_val I g h r
    refine ⟨by rw [List.map_cons, k1, e1], fun u hu => ?_⟩
    rcases List.mem_cons.mp hu with e | hu
    · subst e
      rw [k1]
      refine ⟨k2, t', k3, ?_⟩
      rw [← k4]
      exact h
    · exact e2 u hu
theorem paired_map {α β γ : Type} {F : β → γ → Prop} {f : α → β} {g : α → γ} : ∀ (l : List α), (∀ x ∈ l, F (f x) (g x)) → Paired F (l.map f) (l.map g)
  | [], _ => .nil
  | x :: l, h => .cons (h x List.mem_cons_self) (paired_map l fun y hy => h y (List.mem_cons_of_mem _ hy))
theorem cr_sq : CallR X (.builtin "sorted") (rSq X.K) := by
  intro pins s σ H vs us Q I r h
  obtain ⟨a, xs, prs, G, rfl, hs, g, hp, q⟩ := h
  obtain ⟨its, rv, hl, hz⟩ := I.list hs
  obtain ⟨u, rfl, ru⟩ := vals1 r
  obtain rfl : u = Value.ref a := ru
  obtain ⟨e1, e2⟩ := prs_val I g hp rv
  have hzz : its.length ≤ sizeLine := by
    have := rv.length
    omega
  refine SrtO.sorted_pairsO (k := kOf s.heap) hl.isList hzz (fun v hv => (e2 v hv).1) fun h' d out h1 h2 kp hd hn => ?_
  obtain ⟨n, hn⟩ := hn
  have hmem : ∀ u ∈ out, u ∈ its := fun u hu => h2.perm.mem_iff.mp hu
  have hv : Vals (out.map backV) out := by
    have : ∀ l : List Value, (∀ u ∈ l, u ∈ its) → Vals (l.map backV) l := fun l => by
      induction l with
      | nil => exact fun _ => .nil
      | cons u l ih =>
        intro hl
        obtain ⟨t, e, _⟩ := (e2 u (hl u List.mem_cons_self)).2
        refine .cons ?_ (ih fun v hv => hl v (List.mem_cons_of_mem _ hv))
        subst e
        rfl
    exact this out hmem
  refine ⟨.ref d, upd H d (.lst (out.map backV)), I.laid (t' := s.toks) kp hd (show ObjOk X.prog X.w _ _ _ (.lst (out.map backV)) from ⟨?_, out, n, hv, hn⟩), rfl, q _ (out.map (kOf s.heap)) d (paired_map out fun u hu => ?_) ?_ ?_ (I.hok.fresh hd)⟩
  · rw [List.length_map, h2.perm.length_eq]
    exact hzz
  · obtain ⟨t, e, h3⟩ := (e2 u (hmem u hu)).2
    subst e
    exact h3
  · rw [← e1]
    exact h2.perm.map _
  · exact List.pairwise_map.mpr h1
end
abbrev pD (pr : Int × Int) : D := .tup [dI pr.1, dI pr.2]
theorem pr_rep {K : PySem.W.Frag} {G : Hp} : ∀ {vs : List V} {prs : List (Int × Int)}, RepL K G vs (prs.map pD) → Paired (IsPr K G) vs prs
  | [], [], .nil => .nil
  | _ :: _, pr :: prs, .cons h t => by
    refine .cons ?_ (pr_rep t)
    cases h with
    | tup q r =>
      refine ⟨_, rfl, ?_⟩
      have e2 := RepL.of_vals (xs := [.int pr.1, .int pr.2]) r
      rw [e2] at q
      exact q
theorem rep_pr {K : PySem.W.Frag} {G : Hp} : ∀ {vs : List V} {prs : List (Int × Int)}, Paired (IsPr K G) vs prs → RepL K G vs (prs.map pD)
  | _, _, .nil => .nil
  | _, _, .cons h t => by
    obtain ⟨a, rfl, q⟩ := h
    exact .cons (.tup q (RepL.vals (K := K) (G := G) [.int _, .int _])) (rep_pr t)
/-- what is sorted and has the same items is the same -/
theorem lex_uniq : ∀ {l m : List (Int × Int)}, l.Pairwise (fun a b => SrtO.lexB b a = false) → m.Pairwise (fun a b => SrtO.lexB b a = false) → l.Perm m → l = m
  | [], m, _, _, h => (List.Perm.eq_nil h.symm).symm
  | x :: l, [], _, _, h => absurd h.length_eq (by simp)
  | x :: l, y :: m, hl, hm, h => by
    have hx : x ∈ y :: m := h.mem_iff.mp List.mem_cons_self
    have hy : y ∈ x :: l := h.mem_iff.mpr List.mem_cons_self
    have e : x = y := by
      rcases List.mem_cons.mp hx with e | hx
      · exact e
      · rcases List.mem_cons.mp hy with e | hy
        · exact e.symm
        · have h1 := (List.pairwise_cons.mp hm).1 x hx
          have h2 := (List.pairwise_cons.mp hl).1 y hy
          have q1 := SrtO.lexB_no.mp h1
          have q2 := SrtO.lexB_no.mp h2
          apply Prod.ext <;> omega
    subst e
    rw [lex_uniq (List.pairwise_cons.mp hl).2 (List.pairwise_cons.mp hm).2 h.cons_inv]
section
variable {X : Cx} {ρ : Sl} {M M1 M2 M3 : Mem} {a b c e : Expr} {es : List Expr} {d d1 d2 : D} {ds : List D} {pos : Pos} {Ψ : Out → Prop}
theorem ev_sortedM {q : Addr} {prs qs : List (Int × Int)} {p : Pos} (hm : X.mg "sorted" = none) (ha : EV X e ρ M (dP q) M1) (h : M1 q = some (.lst (prs.map pD))) (hq : qs.Pairwise (fun a b => SrtO.lexB b a = false)) (hp : qs.Perm prs) (hg : Gl X "sorted" := by rfl)
    (hst : starEach [e] X.env = [(false, eval e X.env)] := by rfl) : EV X (.Call (.Name "sorted" p) [e] [] pos) ρ M (.lst (qs.map pD)) M1 :=
  (pe_callB cr_sq hg hm boot_sorted (av_cons ha av_nil hst) (he := hst)).mono fun σ H Q ⟨G, sa, k⟩ => ⟨G, sa, fun vs' G1 H1 g1 sh1 r1 => by
    obtain ⟨gq, vs, hv, r⟩ := sh1.mem q _ h
    rw [RepL.of_vals (xs := [.ref q]) r1]
    refine ⟨q, vs, prs, G1, rfl, .inl (.inl hv), sh1.le, pr_rep r, fun ys qs' l hys hperm hsort hl => ?_⟩
    have e : qs' = qs := lex_uniq hsort hq (hperm.trans hp.symm)
    subst e
    obtain ⟨sh2, g2⟩ := sh1.new (o := .lst ys) hl
    exact k _ _ _ (g1.trans g2) sh2 (.lst (.inl (.inl upd_same)) ((rep_pr hys).up g2))⟩
theorem ev_abs {i : Int} {p : Pos} (hm : X.mg "abs" = none) (ha : EV X e ρ M (dI i) M1) (hg : Gl X "abs" := by rfl) (hst : starEach [e] X.env = [(false, eval e X.env)] := by rfl) : EV X (.Call (.Name "abs" p) [e] [] pos) ρ M (dI (if i < 0 then -i else i)) M1 :=
  (pe_callB call_abs hg hm boot_abs (av_cons ha av_nil hst) (he := hst)).mono fun σ H Q ⟨G, sa, k⟩ => ⟨G, sa, fun vs' G1 H1 g1 sh1 r1 => by
    rw [RepL.of_vals (xs := [.int i]) r1]
    exact ⟨i, rfl, k _ G1 H1 g1 sh1 (.val _)⟩⟩
theorem JW.rangeC {K : PySem.W.Frag} {lo c : Int} {n : Nat} {G : Hp} : JW K (Itc lo c n) G ((List.range n).map fun i => dI (lo + (i : Nat) * c)) := fun i H e => ⟨fun d h => by
    rw [List.getElem?_map] at h
    have hi : i < n := by
      rcases Nat.lt_or_ge i n with q | q
      · exact q
      · rw [List.getElem?_eq_none (by simpa using q)] at h; cases h
    rw [List.getElem?_range hi] at h
    cases h
    exact ⟨hi, fun x H' ⟨e1, e2⟩ => ⟨e1, by rw [e2]; exact .val _⟩⟩, fun h => by
    rw [List.length_map, List.length_range] at h
    exact h⟩
theorem iv_range3 {tg : Expr} {i j k : Int} {n : Nat} {p : Pos} (hm : X.mg "range" = none) (ha : EV X a ρ M (dI i) M1) (hb : EV X b ρ M1 (dI j) M2) (hc : EV X c ρ M2 (dI k) M3) (hr : RgC i j k n) (hg : Gl X "range" := by rfl)
    (h1 : starEach [a, b, c] X.env = (false, eval a X.env) :: starEach [b, c] X.env := by rfl) (h2 : starEach [b, c] X.env = (false, eval b X.env) :: starEach [c] X.env := by rfl) (h3 : starEach [c] X.env = (false, eval c X.env) :: starEach [] X.env := by rfl)
    (hpl : (backTo pos (starEach [b, c] X.env)).any (·.1) = false := by rfl) : IV X tg (.Call (.Name "range" p) [a, b, c] [] pos) ρ M ((List.range n).map fun m => dI (i + (m : Nat) * k)) M3 :=
  (pi_range3 hg hm (av_cons ha (av_cons hb (av_cons hc av_nil h3) h2) h1) h1 hpl).mono fun σ H R ⟨G, sa, kk⟩ => ⟨G, sa, fun vs G1 H1 g1 sh1 r1 => by
    rw [RepL.of_vals (xs := [.int i, .int j, .int k]) r1]
    exact ⟨i, j, k, n, rfl, hr, kk _ G1 H1 g1 sh1 JW.rangeC⟩⟩
theorem rgC_up {i j k : Int} {n : Nat} (h1 : -1000000000 < i ∧ i < 1000000000) (h2 : -1000000000 < j ∧ j < 1000000000) (h3 : 0 < k ∧ k < 1000000000) (hn : Builtin.Range.rangeSize i j k = n) (hs : Builtin.Range.small i j k = true) : RgC i j k n :=
  ⟨by omega, by omega, hs, hn⟩
end
end Vt
namespace Vt
open PySem PySem.Spec PyProof.Rows L2
/-! ### texts by their signs -/
def S (l : List Nat) : Str := ⟨l.toArray⟩
theorem S_list (l : List Nat) : (S l).cps.toList = l := by show l.toArray.toList = l; simp
theorem S_len (l : List Nat) : (S l).length = l.length := by show l.toArray.size = _; simp
theorem S_of (z : Str) : S z.cps.toList = z := by
  cases z with
  | mk c => show (⟨c.toList.toArray⟩ : Str) = ⟨c⟩; simp
theorem S_app (l m : List Nat) : S l ++ S m = S (l ++ m) := by
  show (⟨l.toArray ++ m.toArray⟩ : Str) = ⟨(l ++ m).toArray⟩
  simp
theorem S_one (c : Nat) : (⟨#[c]⟩ : Str) = S [c] := rfl
theorem S_inj {l m : List Nat} (h : S l = S m) : l = m := by
  have := congrArg (fun z : Str => z.cps.toList) h
  simpa [S] using this
theorem fold_app : ∀ (n : Nat) (c : Nat) (acc : Array Nat), (List.replicate n #[c]).foldl (· ++ ·) acc = acc ++ (List.replicate n c).toArray
  | 0, c, acc => by simp
  | n + 1, c, acc => by
    rw [List.replicate_succ, List.foldl_cons, fold_app n c, List.replicate_succ]
    apply Array.ext'
    simp
/-- one sign, so many times -/
def rRepS : R2 := fun x y H Q => ∃ (c : Nat) (n : Int), x = .str (S [c]) ∧ y = .int n ∧ (-1000000 ≤ n ∧ n ≤ 1000000) ∧ Q (.str (S (List.replicate n.toNat c))) H
section
variable {X : Cx}
theorem op_repS : OpR X (binaryOp .Mult) rRepS := by
  intro pins s σ H x y v u Q I rx ry h
  obtain ⟨c, n, rfl, rfl, hn, q⟩ := h
  obtain ⟨t, rfl⟩ := rx
  obtain ⟨t', rfl⟩ := ry
  refine P.mul_str (x := S [c]) ?_ (fun h1 _ => ?_) (fun h1 _ => ?_) ?_
  · rw [decide_eq_false (by omega), decide_eq_false (by omega)]
    rfl
  · show ¬ (((1 : Nat) : Int) > (2 ^ 63 - 1) / n)
    have : (1 : Int) ≤ (2 ^ 63 - 1) / n := by
      rw [Int.le_ediv_iff_mul_le (by omega)]
      omega
    omega
  · have : (S [c]).length * n.toNat ≤ 1000000 := by
      rw [S_len]
      show 1 * n.toNat ≤ 1000000
      omega
    show decide _ = false
    refine decide_eq_false ?_
    have e : (1000000 : Nat) ≤ sizeLine := by decide
    omega
  · by_cases h1 : n < 1
    · rw [if_pos h1]
      have e : n.toNat = 0 := by omega
      rw [e] at q
      exact ⟨by decide, .str _, H, I.tok _, ⟨_, rfl⟩, q⟩
    · rw [if_neg h1]
      by_cases h2 : (n == 1 || (S [c]).length == 0) = true
      · rw [if_pos h2]
        have e : n = 1 := by
          rw [Bool.or_eq_true, beq_iff_eq, beq_iff_eq, S_len] at h2
          rcases h2 with h2 | h2
          · exact h2
          · cases h2
        subst e
        exact ⟨.str (S [c]), H, I, ⟨_, rfl⟩, q⟩
      · rw [if_neg h2]
        have e : (⟨(List.replicate n.toNat (S [c]).cps).foldl (· ++ ·) #[]⟩ : Str) = S (List.replicate n.toNat c) := by
          have e2 := fold_app n.toNat c #[]
          show (⟨(List.replicate n.toNat #[c]).foldl (· ++ ·) #[]⟩ : Str) = ⟨_⟩
          rw [e2]
          simp
        rw [e]
        refine ⟨?_, .str _, H, I.tok _, ⟨_, rfl⟩, q⟩
        rw [S_len, List.length_replicate]
        exact Nat.le_trans (show n.toNat ≤ 1000000 by omega) (by decide)
end
section
variable {X : Cx} {ρ : Sl} {M M1 M2 M3 : Mem} {a b c e : Expr} {es : List Expr} {d d1 d2 : D} {ds : List D} {pos : Pos} {Ψ : Out → Prop}
theorem ev_repS {ch : Nat} {n : Int} (ha : EV X a ρ M (dS (S [ch])) M1) (hb : EV X b ρ M1 (dI n) M2) (hn : -1000000 ≤ n ∧ n ≤ 1000000) : EV X (.BinOp a .Mult b pos) ρ M (dS (S (List.replicate n.toNat ch))) M2 :=
  ev_op op_repS ha hb fun H Q q => ⟨ch, n, rfl, rfl, hn, q⟩
theorem ev_catS {l m : List Nat} (ha : EV X a ρ M (dS (S l)) M1) (hb : EV X b ρ M1 (dS (S m)) M2) (hn : l.length + m.length ≤ 1000000) : EV X (.BinOp a .Add b pos) ρ M (dS (S (l ++ m))) M2 :=
  ev_op op_add_str ha hb fun H Q q => ⟨S l, S m, rfl, rfl, by rw [S_len, S_len]; exact Nat.le_trans hn (by decide), by rw [S_app]; exact q⟩
theorem ev_strI {i : Int} {p : Pos} (hm : X.mg "str" = none) (ha : EV X e ρ M (dI i) M1) (hi : -1000000000 < i ∧ i < 1000000000) (hg : Gl X "str" := by rfl) (hst : starEach [e] X.env = [(false, eval e X.env)] := by rfl) : EV X (.Call (.Name "str" p) [e] [] pos) ρ M (dS (toString i : String)) M1 :=
  (pe_callTy call_str_int hg hm boot_str (av_cons ha av_nil hst) (he := hst)).mono fun σ H Q ⟨G, sa, k⟩ => ⟨G, sa, fun vs' G1 H1 g1 sh1 r1 => by
    rw [RepL.of_vals (xs := [.int i]) r1]
    refine ⟨i, rfl, ?_, k _ G1 H1 g1 sh1 (.val _)⟩
    have h1 : i.natAbs < 1000000000 := by omega
    have h2 : i.natAbs < 2 ^ 30 := by omega
    rcases Nat.eq_zero_or_pos i.natAbs with h0 | h0
    · rw [h0]; decide
    · exact Nat.lt_trans ((Nat.log2_lt (by omega)).mpr h2) (by decide)⟩
theorem ev_intS {z : Str} {n : Int} {p : Pos} (hm : X.mg "int" = none) (ha : EV X e ρ M (dS z) M1) (hz : PySem.intText? z = some n) (hl : z.length ≤ 640) (hg : Gl X "int" := by rfl) (hst : starEach [e] X.env = [(false, eval e X.env)] := by rfl) : EV X (.Call (.Name "int" p) [e] [] pos) ρ M (dI n) M1 :=
  (pe_callTy call_int_str hg hm (by decide +kernel) (av_cons ha av_nil hst) (he := hst)).mono fun σ H Q ⟨G, sa, k⟩ => ⟨G, sa, fun vs' G1 H1 g1 sh1 r1 => by
    rw [RepL.of_vals (xs := [.str z]) r1]
    exact ⟨z, n, rfl, hz, hl, k _ G1 H1 g1 sh1 (.val _)⟩⟩
/-- c in z -/
theorem rs_inC {ch : Nat} {z : Str} : RS (fun x y H Q => ∃ (c : Nat) (z : Str), x = .str ⟨#[c]⟩ ∧ y = .str z ∧ Q (.bl (decide (c ∈ z.cps.toList))) H) (.str (S [ch])) (.str z) (.bl (decide (ch ∈ z.cps.toList))) := fun H Q q => ⟨ch, z, rfl, rfl, q⟩
theorem ov_none : OV X none ρ M none M := po_none.mono fun σ H Q ⟨G, sa, k⟩ => k G H (Same.refl G) sa.sh
theorem ov_some {i : Int} (h : EV X e ρ M (dI i) M1) : OV X (some e) ρ M (some i) M1 := (po_some h).mono fun σ H Q ⟨G, sa, k⟩ => ⟨G, sa, fun v G1 H1 g1 sh1 r1 => ⟨i, r1.of_val, k G1 H1 g1 sh1⟩⟩
theorem ev_sliceS {lo hi : Option Expr} {l : List Nat} {o1 o2 : Option Int} {p2 : Pos} (ha : EV X a ρ M (dS (S l)) M1) (h1 : OV X lo ρ M1 o1 M2) (h2 : OV X hi ρ M2 o2 M3) (hl : l.length ≤ 1000000) :
    EV X (.Subscript a (.Slice lo hi none p2) pos) ρ M (dS (S ((l.drop (HT.sIx l.length 0 o1)).take (HT.sIx l.length l.length o2 - HT.sIx l.length 0 o1)))) M3 :=
  (pe_slice sl_str ha h1 h2).mono fun σ H Q ⟨G, sa, k⟩ => ⟨G, sa, fun v G1 H1 g1 sh1 r1 => ⟨G1, ⟨sh1, sa.sl.up g1⟩, fun G2 H2 g2 sh2 => ⟨G2, ⟨sh2, (sa.sl.up g1).up g2⟩, fun G3 H3 g3 sh3 => by
    rw [r1.of_val]
    refine ⟨S l, rfl, by rw [S_len]; exact Nat.le_trans hl (by decide), ?_⟩
    have e : cutS (S l) o1 o2 = S ((l.drop (HT.sIx l.length 0 o1)).take (HT.sIx l.length l.length o2 - HT.sIx l.length 0 o1)) := by
      unfold cutS
      rw [S_list, S_len]
      rfl
    rw [e]
    exact k _ G3 H3 ((g1.trans g2).trans g3) sh3 (.val _)⟩⟩⟩
/-- a method of a text with texts as arguments -/
theorem ev_bmS {name : Str} {id : String} {r : V → List V → Hp → VK → Prop} {z : Str} {vs : List V} {y : V} {ap : Pos} (pa : PlainAttrs "str") (slot : Slot "str" name id) (hty : typeOf (.builtin id) = pure (.type "method_descriptor")) (hm : MtR X id r) (ho : EV X a ρ M (dS z) M1) (ha : AV X (e :: es) ρ M1 (vs.map D.val) M2)
    (hr : ∀ H Q, Q y H → r (.str z) vs H Q) (h1 : attributeBase a name X.env (eval a X.env) = eval a X.env := by rfl) (h3 : (ap.endLine == pos.line) = true := by decide) (h4 : starEach (e :: es) X.env = (false, eval e X.env) :: starEach es X.env := by rfl)
    (h2 : (((((backTo pos (starEach (e :: es) X.env)).all fun x => !x.fst) && (backToKw pos (keywordEach [] X.env)).all fun x => x.fst.isSome) && decide (((e :: es).length + ([] : List Keyword).length + if ([] : List Keyword).isEmpty = true then 0 else 1) < 30)) = true) := by rfl)
    (h5 : (((backTo pos (starEach es X.env)).any fun x => x.fst) = false) := by rfl) : EV X (.Call (.Attribute a name ap) (e :: es) [] pos) ρ M (.val y) M2 :=
  (pe_bm pa slot hty hm ho ha h1 h2 h3 h4 h5).mono fun σ H Q ⟨G, sa, k⟩ => ⟨G, sa, fun v1 G1 H1 g1 sh1 r1 => by
    rw [r1.of_val]
    refine ⟨(show tyV X.K "str" (.str z) H1 from rfl), G1, ⟨sh1, sa.sl.up g1⟩, fun vs' G2 H2 g2 sh2 r2 => ?_⟩
    rw [RepL.of_vals r2]
    exact hr H2 Q (k _ G2 H2 (g1.trans g2) sh2 (.val _))⟩
theorem drop_while (p : Nat → Bool) : ∀ l : List Nat, l.drop (l.takeWhile p).length = l.dropWhile p
  | [] => rfl
  | x :: l => by
    by_cases h : p x = true
    · rw [List.takeWhile_cons_of_pos h, List.dropWhile_cons_of_pos h]
      exact drop_while p l
    · rw [List.takeWhile_cons_of_neg h, List.dropWhile_cons_of_neg h]
      rfl
theorem lstripS (l m : List Nat) : Txt.lstripChars (S l) (S m) = S (l.dropWhile fun c => m.contains c) := by
  unfold Txt.lstripChars
  rw [PyProof.Rows.stripBy_eq]
  show (⟨(S l).cps.extract _ _⟩ : Str) = ⟨_⟩
  have e1 : (fun c => (S m).cps.contains c) = fun c => m.contains c := by
    funext c
    show m.toArray.contains c = _
    simp
  have e2 : stripLo (S m).cps.contains true (S l) = (l.takeWhile fun c => m.contains c).length := by
    simp only [stripLo, if_true]
    rw [show (S m).cps.contains = fun c => m.contains c from e1, S_list]
  have e3 : ∀ k, stripHi (S m).cps.contains false (S l) k = l.length := fun k => by
    simp only [stripHi, Bool.false_eq_true, if_false]
    exact S_len l
  rw [e2, e3]
  refine congrArg Str.mk ?_
  rw [← drop_while]
  show l.toArray.extract _ l.length = _
  rw [List.extract_toArray]
  simp [List.extract]
  exact List.take_of_length_le (by rw [List.length_drop]; exact Nat.le_refl _)
/-- z.lstrip(chars) -/
theorem ev_lstrip {l m : List Nat} {ap : Pos} (ho : EV X a ρ M (dS (S l)) M1) (ha : EV X e ρ M1 (dS (S m)) M2) (hl : l.length ≤ 1000000) (h1 : attributeBase a "lstrip" X.env (eval a X.env) = eval a X.env := by rfl) (h3 : (ap.endLine == pos.line) = true := by decide) (h4 : starEach [e] X.env = (false, eval e X.env) :: starEach [] X.env := by rfl)
    (h2 : (((((backTo pos (starEach [e] X.env)).all fun x => !x.fst) && (backToKw pos (keywordEach [] X.env)).all fun x => x.fst.isSome) && decide (([e].length + ([] : List Keyword).length + if ([] : List Keyword).isEmpty = true then 0 else 1) < 30)) = true) := by rfl)
    (h5 : (((backTo pos (starEach [] X.env)).any fun x => x.fst) = false) := by rfl) : EV X (.Call (.Attribute a "lstrip" ap) [e] [] pos) ρ M (dS (S (l.dropWhile fun c => m.contains c))) M2 :=
  ev_bmS (vs := [.str (S m)]) PySem.F.plainAttrs_str PySem.F.slot_str_lstrip PySem.F.type_str_lstrip mt_lstripChars ho (av_cons ha av_nil h4) (fun H Q q => ⟨S l, S m, rfl, rfl, by rw [S_len]; exact Nat.le_trans hl (by decide), by rw [lstripS]; exact q⟩) h1 h3 h4 h2 h5
theorem ev_find {z y : Str} {i : Int} {ap : Pos} (ho : EV X a ρ M (dS z) M1) (ha : EV X e ρ M1 (dS y) M2) (hi : Txt.find z y = i) (h1 : attributeBase a "find" X.env (eval a X.env) = eval a X.env := by rfl) (h3 : (ap.endLine == pos.line) = true := by decide) (h4 : starEach [e] X.env = (false, eval e X.env) :: starEach [] X.env := by rfl)
    (h2 : (((((backTo pos (starEach [e] X.env)).all fun x => !x.fst) && (backToKw pos (keywordEach [] X.env)).all fun x => x.fst.isSome) && decide (([e].length + ([] : List Keyword).length + if ([] : List Keyword).isEmpty = true then 0 else 1) < 30)) = true) := by rfl)
    (h5 : (((backTo pos (starEach [] X.env)).any fun x => x.fst) = false) := by rfl) : EV X (.Call (.Attribute a "find" ap) [e] [] pos) ρ M (dI i) M2 :=
  ev_bmS (vs := [.str y]) PySem.F.plainAttrs_str PySem.F.slot_str_find PySem.F.type_str_find mt_find ho (av_cons ha av_nil h4) (fun H Q q => ⟨z, y, rfl, rfl, by rw [hi]; exact q⟩) h1 h3 h4 h2 h5
theorem ev_count {z y : Str} {i : Int} {ap : Pos} (ho : EV X a ρ M (dS z) M1) (ha : EV X e ρ M1 (dS y) M2) (hi : Txt.count z y = i) (h1 : attributeBase a "count" X.env (eval a X.env) = eval a X.env := by rfl) (h3 : (ap.endLine == pos.line) = true := by decide) (h4 : starEach [e] X.env = (false, eval e X.env) :: starEach [] X.env := by rfl)
    (h2 : (((((backTo pos (starEach [e] X.env)).all fun x => !x.fst) && (backToKw pos (keywordEach [] X.env)).all fun x => x.fst.isSome) && decide (([e].length + ([] : List Keyword).length + if ([] : List Keyword).isEmpty = true then 0 else 1) < 30)) = true) := by rfl)
    (h5 : (((backTo pos (starEach [] X.env)).any fun x => x.fst) = false) := by rfl) : EV X (.Call (.Attribute a "count" ap) [e] [] pos) ρ M (dI i) M2 :=
  ev_bmS (vs := [.str y]) PySem.F.plainAttrs_str PySem.F.slot_str_count PySem.F.type_str_count mt_count ho (av_cons ha av_nil h4) (fun H Q q => ⟨z, y, rfl, rfl, by rw [hi]; exact q⟩) h1 h3 h4 h2 h5
theorem JW.str {K : PySem.W.Frag} {l : List Nat} {G : Hp} : JW K (Its (S l)) G (l.map fun c => dS (S [c])) := fun i H e => ⟨fun d h => by
    rw [List.getElem?_map] at h
    cases q : l[i]? with
    | none => rw [q] at h; cases h
    | some c =>
      rw [q] at h
      cases h
      refine ⟨?_, fun x H' ⟨e1, c', e2, e3⟩ => ⟨e1, ?_⟩⟩
      · show i < l.toArray.size
        have := (List.getElem?_eq_some_iff.mp q).1
        simpa using this
      · have e4 : l.toArray[i]? = some c' := e2
        rw [List.getElem?_toArray, q] at e4
        cases e4
        rw [e3]
        exact .val _, fun h => by
    show l.toArray.size ≤ i
    rw [List.length_map] at h
    simpa using h⟩
theorem iv_str {tg : Expr} {l : List Nat} (h : EV X e ρ M (dS (S l)) M1) : IV X tg e ρ M (l.map fun c => dS (S [c])) M1 :=
  (pi_str h).mono fun σ H R ⟨G, sa, k⟩ => ⟨G, sa, fun v G1 H1 g1 sh1 r1 => ⟨S l, r1.of_val, k _ G1 H1 g1 sh1 JW.str⟩⟩
/-- a <= b <= c of ints -/
theorem tv_chain {op op' : CmpOp} {g g' : Int → Int → Bool} {i j k : Int} (ho : OpR X (compareOp op) (rI0 fun i j => .bl (g i j))) (ho' : OpR X (compareOp op') (rI0 fun i j => .bl (g' i j))) (ha : EV X a ρ M (dI i) M1) (hb : EV X b ρ M1 (dI j) M2) (hc : EV X c ρ M2 (dI k) M2) (hm : lastMarks [op, op'] [b, c] = false := by rfl) :
    TV X (.Compare a [op, op'] [b, c] pos) ρ M (g i j && g' j k) M2 :=
  (pt_chain ho ho' ha hb hc hm).mono fun σ H Q ⟨G, sa, kk⟩ => ⟨G, sa, fun v1 G1 H1 g1 sh1 r1 => ⟨G1, ⟨sh1, sa.sl.up g1⟩, fun v2 G2 H2 g2 sh2 r2 => by
    rw [r1.of_val, r2.of_val]
    refine ⟨i, j, rfl, rfl, g i j, rfl, ?_⟩
    cases q : g i j with
    | true =>
      rw [if_pos rfl]
      refine ⟨G2, ⟨sh2, (sa.sl.up g1).up g2⟩, fun v3 G3 H3 g3 sh3 r3 => ?_⟩
      rw [r3.of_val]
      rw [q] at kk
      exact ⟨j, k, rfl, rfl, _, rfl, kk G3 H3 ((g1.trans g2).trans g3) sh3⟩
    | false =>
      rw [if_neg Bool.false_ne_true]
      rw [q] at kk
      exact ⟨_, rfl, kk G2 H2 (g1.trans g2) sh2⟩⟩⟩
theorem ev_chain {op op' : CmpOp} {g g' : Int → Int → Bool} {i j k : Int} (ho : OpR X (compareOp op) (rI0 fun i j => .bl (g i j))) (ho' : OpR X (compareOp op') (rI0 fun i j => .bl (g' i j))) (ha : EV X a ρ M (dI i) M1) (hb : EV X b ρ M1 (dI j) M2) (hc : EV X c ρ M2 (dI k) M2) (hm : lastMarks [op, op'] [b, c] = false := by rfl) :
    EV X (.Compare a [op, op'] [b, c] pos) ρ M (dB (g i j && g' j k)) M2 :=
  (pe_chain ho ho' ha hb hc hm).mono fun σ H Q ⟨G, sa, kk⟩ => ⟨G, sa, fun v1 G1 H1 g1 sh1 r1 => ⟨G1, ⟨sh1, sa.sl.up g1⟩, fun v2 G2 H2 g2 sh2 r2 => by
    rw [r1.of_val, r2.of_val]
    refine ⟨i, j, rfl, rfl, g i j, rfl, ?_⟩
    cases q : g i j with
    | true =>
      rw [if_pos rfl]
      refine ⟨G2, ⟨sh2, (sa.sl.up g1).up g2⟩, fun v3 G3 H3 g3 sh3 r3 => ?_⟩
      rw [r3.of_val]
      rw [q] at kk
      exact ⟨j, k, rfl, rfl, kk _ G3 H3 ((g1.trans g2).trans g3) sh3 (.val _)⟩
    | false =>
      rw [if_neg Bool.false_ne_true]
      rw [q] at kk
      exact kk _ G2 H2 (g1.trans g2) sh2 (.val _)⟩⟩
/-- isinstance(a, (list, tuple)) -/
theorem ev_isi2 {x y : Str} {T1 T2 t : String} {r1 r2 : Bool} {p p2 p3 p4 : Pos} {k1 : Nat} (hm : X.mg "isinstance" = none) (hT1 : X.mg x = none) (hv1 : bootBuiltins x = some (.type T1)) (hT2 : X.mg y = none) (hv2 : bootBuiltins y = some (.type T2)) (ha : EV X a ρ M d M1) (ht : tyD d = some t) (hk1 : kitB t T1 = some r1) (hk2 : kitB t T2 = some r2)
    (hg : Gl X "isinstance" := by rfl) (hg1 : Gl X x := by rfl) (hg2 : Gl X y := by rfl) (hn1 : x ≠ "__name__" := by decide) (hd1 : (x == ("__debug__" : Str)) = false := by decide) (hn2 : y ≠ "__name__" := by decide) (hd2 : (y == ("__debug__" : Str)) = false := by decide)
    (s1 : starEach [a, .Tuple [.Name x p2, .Name y p3] k1 p4] X.env = (false, eval a X.env) :: starEach [.Tuple [.Name x p2, .Name y p3] k1 p4] X.env := by rfl) (s2 : starEach [.Tuple [.Name x p2, .Name y p3] k1 p4] X.env = (false, eval (.Tuple [.Name x p2, .Name y p3] k1 p4) X.env) :: starEach [] X.env := by rfl)
    (s3 : starEach [.Name x p2, .Name y p3] X.env = (false, eval (.Name x p2) X.env) :: starEach [.Name y p3] X.env := by rfl) (s4 : starEach [.Name y p3] X.env = (false, eval (.Name y p3) X.env) :: starEach [] X.env := by rfl)
    (hpl : (backTo pos (starEach [.Tuple [.Name x p2, .Name y p3] k1 p4] X.env)).any (·.1) = false := by rfl) :
    EV X (.Call (.Name "isinstance" p) [a, .Tuple [.Name x p2, .Name y p3] k1 p4] [] pos) ρ M (dB (r1 || r2)) M1 :=
  (pe_callB call_isiT hg hm boot_isinstance (pa_cons ha (pa_cons (pe_tup (pa_cons (pe_bltn (v := .ty T1) hg1 hT1 hv1 rfl hn1 hd1) (pa_cons (pe_bltn (v := .ty T2) hg2 hT2 hv2 rfl hn2 hd2) pa_nil s4) s3)) pa_nil s2) s1) (hpl := hpl) (he := s1)).mono fun σ H Q ⟨G, sa, k⟩ => ⟨G, sa, fun v1 G1 H1 g1 sh1 rr => ⟨by show 2 ≤ sizeLine; decide, fun q hq => by
    obtain ⟨sh2, g2⟩ := sh1.new (o := .tup [.ty T1, .ty T2]) hq
    refine ⟨v1, q, _, .type t, [.type T1, .type T2], r1 || r2, rfl, upd_same, .cons (.ty T1) (.cons (.ty T2) .nil), tyx_of sh2.le (rr.up g2) ht, kitAny_cons (kit_ty hk1) (fun e => ?_) (fun e => ?_), k _ _ _ (g1.trans g2) sh2 (.val _)⟩
    · subst e
      exact kitAny_cons (kit_ty hk2) (fun e => by subst e; exact kitAny_nil) (fun e => by rw [e]; rfl)
    · rw [e]; rfl⟩⟩
/-- code that is not come to -/
theorem sv_never {st : Stmt} (h : False) : SV X st ρ M Ψ := h.elim
end
/-! ### tuples of ints that stand at the top -/
theorem kVals {ns : List Int} {its : List Value} (h : Vals (ns.map V.int) its) : Vals (ns.map V.int) its := h
theorem rep_kT {K : PySem.W.Frag} {G : Hp} {a : Addr} {o : Obj} {its : Array Value} {n : Nat} {ns : List Int} (hk : K.lookup a = some o) (hc : o.cls = .type "tuple") (hd : o.data = .seq its n) (hz : its.size ≤ sizeLine) (hv : Vals (ns.map V.int) its.toList) : Rep K G (.ref a) (.tup (ns.map dI)) := by
  refine .tup (.inr ⟨o, its, n, hk, hc, hd, hz, hv⟩) ?_
  have e := RepL.vals (K := K) (G := G) (ns.map V.int)
  rw [List.map_map] at e
  exact e
/-! ### further rules: in, is not None, truth of a list, += -/
section
variable {X : Cx} {ρ : Sl} {M M1 M2 M3 : Mem} {a b c e : Expr} {es : List Expr} {d d1 d2 : D} {ds : List D} {pos : Pos} {Ψ : Out → Prop}
theorem ev_inT {x : V} {xs : List V} (ha : EV X a ρ M (.val x) M1) (hb : EV X b ρ M1 (.tup (xs.map D.val)) M2) (fx : flatV x = true) (fs : xs.all flatV = true) (hm : behindInMarks .In b = false) : EV X (.Compare a [.In] [b] pos) ρ M (dB (inV x xs)) M2 :=
  (pe_cmpR op_in_seq ha hb hm).mono fun σ H Q ⟨G, sa, k⟩ => ⟨G, sa, fun v1 G1 H1 g1 sh1 r1 => ⟨G1, ⟨sh1, sa.sl.up g1⟩, fun v2 G2 H2 g2 sh2 r2 => by
    rw [r1.of_val]
    cases r2 with
    | tup q r =>
      rw [RepL.of_vals r] at q
      exact ⟨_, xs, rfl, .inr (sqtUp sh2.le q), fx, fs, k _ G2 H2 (g1.trans g2) sh2 (.val _)⟩⟩⟩
theorem tv_lstM {p : Addr} (ha : EV X e ρ M (dP p) M1) (h : M1 p = some (.lst ds)) (he : ∀ whole, isTrue e X.env whole = (do let v ← whole; standAt e.pos; holding [v] (truthy v)) := by intro _; rfl) : TV X e ρ M (!ds.isEmpty) M1 :=
  (pt_truth ha he).mono fun σ H Q ⟨G, sa, k⟩ => ⟨G, sa, fun v1 G1 H1 g1 sh1 r1 => by
    obtain ⟨_, vs, hv, r⟩ := sh1.mem p _ h
    rw [r1.of_val]
    refine ⟨_, .inl ⟨vs, .inl (.inl hv), rfl⟩, ?_⟩
    have e1 : (!vs.isEmpty) = !ds.isEmpty := by
      have := r.len
      cases vs <;> cases ds <;> first | rfl | cases this
    rw [e1]
    exact k G1 H1 g1 sh1⟩
theorem tv_notN {j} {v : V} {p2 : Pos} (ha : EV X a ρ M (.val v) M1) : TV X (.Compare a [.IsNot] [.Constant .none j p2] pos) ρ M (!decide (v = .non)) M1 :=
  (pt_cmp (pc_notN ha)).mono fun σ H Q ⟨G, sa, k⟩ => ⟨G, sa, fun v1 G1 H1 g1 sh1 r1 => by rw [r1.of_val]; exact ⟨_, rfl, k G1 H1 g1 sh1⟩⟩
theorem tv_notND {j} {p2 : Pos} (ha : EV X a ρ M (.tup ds) M1) : TV X (.Compare a [.IsNot] [.Constant .none j p2] pos) ρ M true M1 :=
  (pt_cmp (pc_notN ha)).mono fun σ H Q ⟨G, sa, k⟩ => ⟨G, sa, fun v1 G1 H1 g1 sh1 r1 => by
    cases r1 with
    | tup q r => exact ⟨_, by rw [decide_eq_false (fun h => V.noConfusion h)]; rfl, k G1 H1 g1 sh1⟩⟩
theorem sv_augI (i : Nat) {x : Str} {n m : Int} {pos' : Pos} (hN : X.N.Nodup) (h0 : ρ[i]? = some (some (dI n))) (he : EV X e ρ M (dI m) M1) (hΨ : Ψ (.nx (ρ.set i (some (dI (n + m)))) M1)) (hi : X.N[i]? = some x := by rfl) (hx : L2.Loc X.env.scope x := by first | exact Or.inl rfl | exact Or.inr rfl)
    (hf : X.fn x = true ∨ X.env.scope.names.lookup x = some .local := by first | exact .inl rfl | exact .inr rfl) : SV X (.AugAssign (.Name x pos') .Add e pos) ρ M Ψ :=
  (ps_aug hN hi hx he ip_add hf).mono fun E σ H ⟨G, sa, k⟩ => by
    obtain ⟨v, e1, r⟩ := sa.sl.2 i _ h0
    refine ⟨v, e1, G, sa, fun y G1 H1 g1 sh1 r1 => ?_⟩
    rw [r.of_val, r1.of_val]
    exact ⟨n, m, rfl, rfl, k _ hΨ _ G1 H1 g1 ⟨sh1, (sa.sl.up g1).set i (.val _)⟩⟩
end
/-! ### try with clauses of all forms that the laws have: tuples of classes that do not match, a class as a name -/
inductive HD where
  | skip (cs : List Value)
  | as (c : Value) (i : Nat) (ts : Addr → Value → Option Addr → TS)
def wG (K : PySem.W.Frag) (Wout : WX) (D : Ends) : List HD → WX
  | [] => Wout
  | .skip cs :: r => fun cls d σ H => PySem.W.exmAny K cls cs = some false ∧ wG K Wout D r cls d σ H
  | .as c i ts :: r => fun cls d σ H => ∃ b, PySem.W.exmOne K cls c = some b ∧ (b = true → ∀ a, H a = none → ts a cls d { nx := fun σ' H' => D.nx (σ'.set i none) H', rt := D.rt, bk := fun σ' H' => D.bk (σ'.set i none) H', ct := fun σ' H' => D.ct (σ'.set i none) H' } (σ.set i (some (.ref a))) H) ∧
      (b = false → wG K Wout D r cls d σ H)
inductive HdsG (X : Cx) : List ExceptHandler → List HD → Prop
  | nil : HdsG X [] []
  | skip2 {x y : Str} {c1 c2 : Value} {b₀ : Stmt} {suite : List Stmt} {p1 p2 p3 pos' : Pos} {kk : Nat} {nm : Option Str} {hds : List ExceptHandler} {l : List HD} (h1 : Names X x c1) (h2 : Names X y c2) (r : HdsG X hds l) :
      HdsG X (.ExceptHandler (some (.Tuple [.Name x p1, .Name y p2] kk p3)) nm (b₀ :: suite) pos' :: hds) (.skip [c1, c2] :: l)
  | as {x n : Str} {c : Value} {i : Nat} {ts : Addr → Value → Option Addr → TS} {b₀ : Stmt} {suite : List Stmt} {np pos' : Pos} {hds : List ExceptHandler} {l : List HD} (hc : Names X x c) (hN : X.N.Nodup) (hi : X.N[i]? = some n) (hln : X.env.kindOf n = some .local)
      (hsu : ∀ (a : Addr) (oe : Obj) (cls : Value) (d : Option Addr) (pn : List (Addr × Obj)), Zc cls d oe → (∃ vs, oe.data = .fields vs) → PSs (X.suite a ((a, oe) :: pn)) (b₀ :: suite) (ts a cls d)) (r : HdsG X hds l) :
      HdsG X (.ExceptHandler (some (.Name x np)) (some n) (b₀ :: suite) pos' :: hds) (.as c i ts :: l)
theorem fly_keeps {base h h' : Heap} {l : List Env} {e : Addr} {Z : Obj → Prop} (R : HandSPX.FlyingZ base l e Z h) (k : ∀ b o, h.get? b = some o → h'.get? b = some o) : HandSPX.FlyingZ base l e Z h' := by
  obtain ⟨f1, f2, f3, oe, ws, T, oT, ts, he, hz, hd, h1, hn, hne, hT, hdT, h3⟩ := R
  exact ⟨fun b o q => k b o (f1 b o q), f2, f3.of_keeps fun b o q _ => ⟨o, k b o q, rfl⟩, oe, ws, T, oT, ts, k _ _ he, hz, hd, h1, hn, hne, k _ _ hT, hdT, h3⟩
section
variable {X : Cx} {body : List Stmt} {h₀ : ExceptHandler} {hds : List ExceptHandler} {l : List HD} {pos : Pos} {tb : WX → TS} {Wout : WX}
theorem ps_try_g (hs : X.stack = X.env :: X.outer) (hf : X.env.frame = some X.env.locals) (tk : Takes X Wout)
    (hb : ∀ (W : WX) (pn : List (Addr × Obj)) (xe : Value → Shared → Prop), Takes (X.tr pn xe) W → PassesOwn (model X.prog X.w) X.A X.env xe → PSs (X.tr pn xe) body (tb W))
    (hh : HdsG X (h₀ :: hds) l) : PS X (.Try body (h₀ :: hds) [] [] pos) (fun D σ H => tb (wG X.K Wout D l) D σ H) := by
  refine ⟨fun pins s σ H D I h => ?_⟩
  have ok := I.ok
  have hfr : X.A.frames = some (X.env :: X.outer) := by rw [ok.frames, hs]
  refine wpAny_Try_except ?_
  refine wpAny_mono ((hb (wG X.K Wout D l) (X.pn ++ pins) (fun e s₁ => wpAny (model X.prog X.w) X.A (noteFrame e X.env) (fun _ s₂ => wpAny (model X.prog X.w) X.A (setFlight e none) (fun _ s₃ =>
    wpAny (model X.prog X.w) X.A (handleBy e X.env (h₀ :: hds)) (SP X pins D) X.xe s₃) X.xe s₂) X.xe s₁) (fun u s' xx => ?_) PassesOwn.looking).run [] s σ H D (I.toTry _) h) (fun f s1 hsp => ?_) (fun e s1 he => he)
  · obtain ⟨a, B, sI, pins', σ', H', cls, d, rfl, J', nb, up, sky, na, os, ag, w⟩ := xx
    have J : Inv X pins σ' H' sI := J'.ofTry ok
    have sky' : Sky B (X.env :: X.outer) a (Zc cls d) X.env.locals s'.heap := by rw [← hs]; exact sky
    show wpAny (model X.prog X.w) X.A (noteFrame (.ref a) X.env) _ _ _
    refine Sky.land Zc.steady hfr hf sky' fun h3 fl3 up3 => ?_
    have go : ∀ {hds' : List ExceptHandler} {l' : List HD}, HdsG X hds' l' → wG X.K Wout D l' cls d σ' H' → ∀ h3, HandSPX.FlyingZ B (X.env :: X.outer) a (Zc cls d) h3 → s'.heap.UpToSlots h3 →
        wpAny (model X.prog X.w) X.A (handleBy (.ref a) X.env hds') (SP X pins D) X.xe { s' with heap := h3 } := by
      intro hds' l' hk
      have notFr : ∀ {h : Heap} {o : Obj} {vs : Array Value}, h.FunFrames B (X.env :: X.outer) → h.get? a = some o → o.data = .fields vs → a ∉ frs (X.env :: X.outer) := fun {h o vs} ff e dd hm => by
        obtain ⟨_, o', e', hnf⟩ := ff.mem hm
        rw [e] at e'; cases e'
        exact hnf _ dd
      have pre : ∀ h3, HandSPX.FlyingZ B (X.env :: X.outer) a (Zc cls d) h3 → s'.heap.UpToSlots h3 → ∃ oe3 vs3, h3.get? a = some oe3 ∧ Zc cls d oe3 ∧ oe3.data = .fields vs3 ∧ a ≠ X.env.locals ∧ a ∉ X.fs ∧ Inv X pins σ' H' { s' with heap := h3 } := fun h3 fl3 up3 => by
        have J3 : Inv X pins σ' H' { s' with heap := h3 } := J.landed nb fl3.1 (up.trans up3) os ag
        obtain ⟨oe3, vs3, he3, hz3, hd3⟩ := fl3.there
        have nfr := notFr fl3.2.2.1 he3 hd3
        refine ⟨oe3, vs3, he3, hz3, hd3, fun z => nfr (List.mem_filterMap.mpr ⟨X.env, List.mem_cons_self, by rw [hf, z]⟩), fun hm => ?_, J3⟩
        obtain ⟨e, he, q⟩ := List.mem_filterMap.mp hm
        exact nfr (List.mem_filterMap.mpr ⟨e, List.mem_cons_of_mem _ he, q⟩)
      have test : ∀ {x : Str} {c : Value} {np : Pos}, Names X x c → ∀ h3, HandSPX.FlyingZ B (X.env :: X.outer) a (Zc cls d) h3 → s'.heap.UpToSlots h3 → ∀ {Q : Value → Shared → Prop} {E : Value → Shared → Prop}, Q c { s' with heap := h3 } → wpAny (model X.prog X.w) (X.A.mark (some (.ref a))) (eval (.Name x np) X.env) Q E { s' with heap := h3 } := fun {x c np} hc h3 fl3 up3 {Q E} q => by
        obtain ⟨oe3, vs3, he3, hz3, hd3, nL, nF, J3⟩ := pre h3 fl3 up3
        have S3 := J3.suite he3 hd3 na nL nF
        obtain ⟨hg, hdbg, hm | ⟨hm, hv, hnn⟩⟩ := hc
        · exact ld_glob (X := X.suite a ((a, oe3) :: (X.pn ++ pins))) S3 hg hm q hdbg
        · exact ld_blt (X := X.suite a ((a, oe3) :: (X.pn ++ pins))) S3 hg hm hv q hnn hdbg
      induction hk with
      | nil =>
        intro w h3 fl3 up3
        obtain ⟨oe3, vs3, he3, hz3, hd3, nL, nF, J3⟩ := pre h3 fl3 up3
        refine wpAny_handleBy_nil ?_
        obtain ⟨k1, k2, k3, oe, vs, T, oT, ts', he, hz, hd, h1, hr⟩ := id fl3
        unfold PySem.passOn
        refine wpAny_bind (wpAny_field he hd h1 ?_)
        rw [if_neg (show ¬ ((Value.ref T == Value.none) = true) from by simp)]
        have fin : wpAny (model X.prog X.w) X.A (setFlight (.ref a) X.env.frame) (fun _ s4 => wpAny (model X.prog X.w) X.A (throw (.ref a) : Sem Flow) (SP X pins D) X.xe s4) X.xe { s' with heap := h3 } := by
          rw [hf]
          refine HandSPX.setFlight_upZ fl3 fun h4 hh4 up4 => wpAny_throw (tk _ _ ?_)
          exact ⟨a, B, sI, pins, σ', H', cls, d, rfl, J, nb, (up.trans up3).trans up4, .inr (.inr (by rw [hs]; exact hh4)), na, os, ag, w⟩
        first
          | exact wpAny_bind (wpAny_pure (wpAny_bind fin))
          | exact wpAny_bind fin
      | skip2 h1 h2 r ih =>
        intro w h3 fl3 up3
        obtain ⟨he, w⟩ := w
        obtain ⟨oe3, vs3, he3, hz3, hd3, nL, nF, J3⟩ := pre h3 fl3 up3
        have LT : PySem.W.Looks (model X.prog X.w) h3 (typeOf (.ref a)) cls := fun A Q E s k q => wpAny_typeOf_ref (k _ _ he3) (by rw [hz3.1]; exact q)
        refine wpAny_handleBy_cons (codeAny_handlers_test ?_) (by intro q; cases q)
        refine wpAny_Tuple ?_
        refine wpAny_items_cons (test h1 h3 fl3 up3 ?_)
        refine wpAny_items_cons (test h2 h3 fl3 up3 ?_)
        refine wpAny_items_nil ⟨by size_fits, ?_⟩
        rename_i c1 c2 _ _ _ _ _ _ _ _ _ _
        have kp : ∀ q o, h3.get? q = some o → (h3.push { cls := .type "tuple", data := .seq [c1, c2].toArray }).get? q = some o := fun _ _ z => Heap.get?_push_of_some _ z
        exact (PySem.W.exm_tup2 (M := model X.prog X.w) ((J3.kIn).keeps kp) (LT.keeps kp) (Heap.get?_push_size h3 rfl) he).here (ih w _ (fly_keeps fl3 kp) (up3.trans (Heap.UpToSlots.of_keeps kp)))
      | @as x n c i ts b₀ suite np pos' hds2 l2 hc hN hi hln hsu r ih =>
        intro w h3 fl3 up3
        obtain ⟨b, hb1, hyes, hno⟩ := w
        obtain ⟨oe3, vs3, he3, hz3, hd3, nL, nF, J3⟩ := pre h3 fl3 up3
        have LT : PySem.W.Looks (model X.prog X.w) h3 (typeOf (.ref a)) cls := fun A Q E s k q => wpAny_typeOf_ref (k _ _ he3) (by rw [hz3.1]; exact q)
        refine wpAny_handleBy_cons (codeAny_handlers_test ?_) (by intro q; cases q)
        have LM := PySem.W.exm_one (M := model X.prog X.w) (J3.kIn) LT hb1
        refine test hc h3 fl3 up3 (LM.here ?_)
        cases b with
        | true =>
          refine codeAny_handlers_suite_as ?_
          refine HandSPX.lands_againZ fl3 fun h4 fl4 up4 => ?_
          have J4 : Inv X pins σ' H' { s' with heap := h4 } := J.landed nb fl4.1 ((up.trans up3).trans up4) os ag
          obtain ⟨oe4, vs4, he4, hz4, hd4⟩ := fl4.there
          have S4 := J4.suite he4 hd4 na nL nF
          refine store_ok (X := X.suite a ((a, oe4) :: (X.pn ++ pins))) (v := .ref a) S4 hN hi (.inl hln) rfl (fun s5 S5 => ?_) (.inr hln)
          refine wpAny_mono ((hsu a oe4 cls d (X.pn ++ pins) hz4 ⟨_, hd4⟩).run [] s5 _ H' _ S5 (hyes rfl a na)) (fun f s6 hsp => ?_) (fun _ _ z => False.elim z)
          have end_ : ∀ {σ6 : L2.St} {H6 : Hp} {Q : Shared → Prop}, Inv (X.suite a ((a, oe4) :: (X.pn ++ pins))) [] σ6 H6 s6 → (∀ s7, Inv X pins (σ6.set i none) H6 s7 → Q s7) →
              wpAny (model X.prog X.w) X.A (do bindName X.env n .none; unbindBehindTheSuite X.env n pos') (fun _ s7 => Q s7) X.xe s6 := fun {σ6 H6 Q} S6 hq => gone_ok (S6.unsuite ok) hN hi hln hq
          cases f with
          | next =>
            obtain ⟨σ6, H6, S6, q6⟩ := hsp
            exact end_ S6 fun s7 J7 => ⟨_, _, J7, q6⟩
          | brk =>
            obtain ⟨σ6, H6, S6, q6⟩ := hsp
            exact end_ S6 fun s7 J7 => ⟨_, _, J7, q6⟩
          | cont =>
            obtain ⟨σ6, H6, S6, q6⟩ := hsp
            exact end_ S6 fun s7 J7 => ⟨_, _, J7, q6⟩
          | ret u =>
            obtain ⟨v6, σ6, H6, S6, r6, q6⟩ := hsp
            exact end_ S6 fun s7 J7 => ⟨_, _, _, J7, r6, q6⟩
        | false =>
          show wpAny _ X.A (handleBy (.ref a) X.env hds2) _ _ _
          exact ih (hno rfl) h3 fl3 up3
    exact go hh w h3 fl3 up3
  · cases f with
    | next =>
      obtain ⟨σ', H', J', q⟩ := hsp
      exact wpAny_execs_nil ⟨σ', H', J'.ofTry ok, q⟩
    | brk =>
      obtain ⟨σ', H', J', q⟩ := hsp
      exact ⟨σ', H', J'.ofTry ok, q⟩
    | cont =>
      obtain ⟨σ', H', J', q⟩ := hsp
      exact ⟨σ', H', J'.ofTry ok, q⟩
    | ret u =>
      obtain ⟨v, σ', H', J', r, q⟩ := hsp
      exact ⟨v, σ', H', J'.ofTry ok, r, q⟩
end
/-! ### what raises: an exception of a class of the program, made without a dict -/
def tX (K : PySem.W.Frag) (W : WX) (ρ : Sl) (M : Mem) (cls : Value) (ρ' : Sl) (M' : Mem) : L2.St → Hp → Prop := fun σ H => ∃ G, SA K G H σ ρ M ∧ ∀ G' H' σ', Same G G' → SA K G' H' σ' ρ' M' → W cls none σ' H'
abbrev EX (X : Cx) (W : WX) (e : Expr) (ρ : Sl) (M : Mem) (cls : Value) (M' : Mem) : Prop := PE X e (fun σ H _ => tX X.K W ρ M cls ρ M' σ H)
abbrev SX (X : Cx) (W : WX) (st : Stmt) (ρ : Sl) (M : Mem) (cls : Value) (ρ' : Sl) (M' : Mem) : Prop := PS X st (fun _ σ H => tX X.K W ρ M cls ρ' M' σ H)
abbrev BX (X : Cx) (W : WX) (sts : List Stmt) (ρ : Sl) (M : Mem) (cls : Value) (ρ' : Sl) (M' : Mem) : Prop := PSs X sts (fun _ σ H => tX X.K W ρ M cls ρ' M' σ H)
def spX (K : PySem.W.Frag) (R : List D → Mem → Value → Mem → Prop) : Sp := fun vs H _ E => ∃ G ds M cls M', SH K G H M ∧ RepL K G vs ds ∧ R ds M cls M' ∧ ∀ G' H', Same G G' → SH K G' H' M' → E cls none H'
structure CalX (P : Program) (w : World) (K : PySem.W.Frag) (mg : Str → Option Value) (base : Heap) (k : Nat) (x : Str) (sp : Sp) : Prop where
  ex : ∃ f fd ps, mg x = some (.ref f) ∧ PySem.W.keepIn K (.ref f) = true ∧ Binds K fd ps [] ∧ FnOk P w K mg base (L2.CX P w) k f fd ps sp
section
variable {X : Cx} {W : WX} {ρ ρ1 ρ' : Sl} {M M1 M2 M' : Mem} {a b c e : Expr} {es : List Expr} {d : D} {ds : List D} {pos : Pos} {cls : Value} {st : Stmt} {rest : List Stmt} {Ψ : Out → Prop}
theorem ex_call {k : Nat} {x : Str} {R : List D → Mem → Value → Mem → Prop} {p : Pos} (C : CalX X.prog X.w X.K X.mg X.base k x (spX X.K R)) (tk : Takes X W) (hr : Room k X.A) (ha : AV X (e :: es) ρ M ds M1) (hp : R ds M1 cls M2) (hg : Gl X x := by rfl)
    (hd : (x == ("__debug__" : Str)) = false := by decide) (hst : starEach (e :: es) X.env = (false, eval e X.env) :: starEach es X.env := by rfl) (hpl : (backTo pos (starEach es X.env)).any (·.1) = false := by rfl) : EX X W (.Call (.Name x p) (e :: es) [] pos) ρ M cls M2 := by
  obtain ⟨f, fd, ps, hm, hk, hb, F⟩ := C.ex
  refine (pe_callS (E := WE W) F hr hg hm hk hb (passAt tk) ha (hdb := hd) (he := hst) (hpl := hpl)).mono fun σ H Q ⟨G, sa, k⟩ => ⟨G, sa, fun vs G1 H1 g1 sh1 r1 => ?_⟩
  exact ⟨G1, ds, M1, cls, M2, sh1, r1, hp, fun G' H' g sh => k G' H' σ (g1.trans g) ⟨sh, (sa.sl.up g1).up g⟩⟩
/-- a op b, a raises -/
theorem ex_opL {op : Operator} {r : R2} (ho : OpR X (binaryOp op) r) (ha : EX X W a ρ M cls M') : EX X W (.BinOp a op b pos) ρ M cls M' :=
  (pe_op (tb := fun _ _ _ => False) ho ha ⟨fun _ _ _ _ _ _ h => h.elim⟩).mono fun _ _ _ h => h
/-- f(a), a raises, f a def of the program -/
theorem ex_arg {k : Nat} {x : Str} {sp : Sp} {p : Pos} (C : Cal X.prog X.w X.K X.mg X.base k x sp) (hr : Room k X.A) (ha : EX X W e ρ M cls M') (hg : Gl X x := by rfl)
    (hd : (x == ("__debug__" : Str)) = false := by decide) (hst : starEach [e] X.env = (false, eval e X.env) :: starEach [] X.env := by rfl) (hpl : (backTo pos (starEach [] X.env)).any (·.1) = false := by rfl) : EX X W (.Call (.Name x p) [e] [] pos) ρ M cls M' := by
  obtain ⟨f, fd, ps, hm, hk, hb, F⟩ := C.ex
  exact (pe_call F hr hg hm hk hb .nil pass0 (pa_cons ha pa_nil hst) (hdb := hd) (he := hst) (hpl := hpl)).mono fun σ H Q h => h
theorem sx_set (i : Nat) {x : Str} {pos' : Pos} (hN : X.N.Nodup) (he : EX X W e ρ M cls M') (hi : X.N[i]? = some x := by rfl) (hx : L2.Loc X.env.scope x := by first | exact Or.inl rfl | exact Or.inr rfl) (hs : swapsWith e (some (.Name x pos')) pos.line X.env = pure false := by rfl)
    (hf : X.fn x = true ∨ X.env.scope.names.lookup x = some .local := by first | exact .inl rfl | exact .inr rfl) : SX X W (.Assign [.Name x pos'] e pos) ρ M cls ρ M' :=
  (ps_set hN hi hx he hs hf).mono fun _ _ _ h => h
theorem sx_ret (he : EX X W e ρ M cls M') : SX X W (.Return (some e) pos) ρ M cls ρ M' := (ps_ret he).mono fun _ _ _ h => h
theorem sx_ifT {as bs : List Stmt} (hc : TV X c ρ M true M1) (ha : BX X W as ρ M1 cls ρ' M') : SX X W (.If c as bs pos) ρ M cls ρ' M' :=
  (ps_if (u := fun _ _ _ => False) hc ha ⟨fun _ _ _ _ _ _ h => h.elim⟩).mono fun E σ H ⟨G, sa, k⟩ => ⟨G, sa, fun G1 H1 g1 sh1 => (⟨G1, ⟨sh1, sa.sl.up g1⟩, fun G' H' σ' g q => k G' H' σ' (g1.trans g) q⟩ : tX _ _ _ _ _ _ _ σ H1)⟩
theorem sx_ifF {as bs : List Stmt} (hc : TV X c ρ M false M1) (hb : BX X W bs ρ M1 cls ρ' M') : SX X W (.If c as bs pos) ρ M cls ρ' M' :=
  (ps_if (t := fun _ _ _ => False) hc ⟨fun _ _ _ _ _ _ h => h.elim⟩ hb).mono fun E σ H ⟨G, sa, k⟩ => ⟨G, sa, fun G1 H1 g1 sh1 => (⟨G1, ⟨sh1, sa.sl.up g1⟩, fun G' H' σ' g q => k G' H' σ' (g1.trans g) q⟩ : tX _ _ _ _ _ _ _ σ H1)⟩
theorem bx_head (h : SX X W st ρ M cls ρ' M') : BX X W (st :: rest) ρ M cls ρ' M' :=
  (pss_cons (u := fun _ _ _ => False) h ⟨fun _ _ _ _ _ _ h => h.elim⟩).mono fun _ _ _ h => h
theorem bx_cons (h : SV X st ρ M (fun o => match o with | .nx ρ1 M1 => BX X W rest ρ1 M1 cls ρ' M' | _ => False)) : BX X W (st :: rest) ρ M cls ρ' M' := by
  refine (pss_cons (u := fun E σ H => ∃ ρ1 M1, BX X W rest ρ1 M1 cls ρ' M' ∧ tX X.K W ρ1 M1 cls ρ' M' σ H) h ⟨fun pins s σ H E I ⟨ρ1, M1, hb, q⟩ => hb.run pins s σ H E I q⟩).mono fun E σ H ⟨G, sa, k⟩ => ⟨G, sa, fun o ho => ?_⟩
  cases o with
  | nx ρ1 M1 => exact fun σ1 G1 H1 g sa1 => ⟨ρ1, M1, ho, G1, sa1, fun G' H' σ' g' q => k G' H' σ' (g.trans g') q⟩
  | ret d M1 => exact ho.elim
  | bk ρ1 M1 => exact ho.elim
  | ct ρ1 M1 => exact ho.elim
/-- raise C('m'), C a class of the program without own __init__ -/
theorem sx_raise {x m : Str} {j : Nat} {p p2 pos' : Pos} {C : Addr} {bmB : List Value} {B newId initId : String} (hc : X.calm = true) (tk : Takes X W) (F : ExcBaseFacts B newId initId bmB) (q : PySem.W.excIn X.K C bmB newId = true) (gC : X.mg x = some (.ref C)) (kC : PySem.W.keepIn X.K (.ref C) = true)
    (h1 : PySem.W.subIn X.K (.ref C) (.type "BaseException") = some true) (h2 : PySem.W.typeIn X.K (.ref C) = some (.type "type")) (hg : Gl X x := by rfl) (hdb : (x == ("__debug__" : Str)) = false := by decide) :
    SX X W (.Raise (some (.Call (.Name x p) [.Constant (.str m) j p2] [] pos)) none pos') ρ M (.ref C) ρ M :=
  (L2.ps_raise hc tk (L2.pmk_own F q gC kC (raises_own h1 h2) hg hdb)).mono fun E σ H ⟨G, sa, k⟩ => k G H σ (Same.refl G) sa
/-- a try whose body raises nothing -/
theorem sv_tryThru {body : List Stmt} {h₀ : ExceptHandler} {hs : List ExceptHandler} (hb : BV X.nox body ρ M Ψ) : SV X (.Try body (h₀ :: hs) [] [] pos) ρ M Ψ := ps_try_thru0 hb
/-- a try whose body raises: two clauses, the first a tuple of two other classes, the second one takes it and returns -/
theorem sv_try2 {body suite : List Stmt} {b₀ : Stmt} {x y z n : Str} {p1 p2 p3 p4 p5 p6 : Pos} {kk i : Nat} {nm : Option Str} {c0 : Stmt} {cr : List Stmt} {c1 c2 : Value} {C : Addr} (hs : X.stack = X.env :: X.outer) (hf : X.env.frame = some X.env.locals) (tk : Takes X (fun _ _ _ _ => False))
    (hb : ∀ (W : WX) (pn : List (Addr × Obj)) (xe : Value → Shared → Prop), Takes (X.tr pn xe) W → BX (X.tr pn xe) W body ρ M (.ref C) ρ' M')
    (h1 : Names X x c1) (h2 : Names X y c2) (h3 : Names X z (.ref C)) (hno : PySem.W.exmAny X.K (.ref C) [c1, c2] = some false) (hyes : PySem.W.exmOne X.K (.ref C) (.ref C) = some true) (hN : X.N.Nodup) (hi : X.N[i]? = some n) (hln : X.env.kindOf n = some .local)
    (hsu : ∀ (a : Addr) (oe : Obj) (pn : List (Addr × Obj)), Zc (.ref C) none oe → (∃ vs, oe.data = .fields vs) → BV (X.suite a ((a, oe) :: pn)) (b₀ :: suite) (ρ'.set i (some (dP a))) M' (fun o => match o with | .ret d M2 => Ψ (.ret d M2) | _ => False)) :
    SV X (.Try body [.ExceptHandler (some (.Tuple [.Name x p1, .Name y p2] kk p3)) nm (c0 :: cr) p4, .ExceptHandler (some (.Name z p5)) (some n) (b₀ :: suite) p6] [] [] pos) ρ M Ψ := by
  refine (ps_try_g (tb := fun W _ σ H => tX X.K W ρ M (.ref C) ρ' M' σ H) (Wout := fun _ _ _ _ => False) (l := [.skip [c1, c2], .as (.ref C) i (fun a cls d D σ H => cls = .ref C ∧ d = none ∧ tS X.K (ρ'.set i (some (dP a))) M' (fun o => match o with | .ret d M2 => Ψ (.ret d M2) | _ => False) D σ H)])
    hs hf tk (fun W pn xe tk' _ => hb W pn xe tk') (.skip2 h1 h2 (.as h3 hN hi hln (fun a oe cls d pn hz hd => ⟨fun pins s σ H D I ⟨e1, e2, h⟩ => ?_⟩) .nil))).mono fun E σ H ⟨G, sa, k⟩ => ⟨G, sa, fun G' H' σ' g q => ⟨hno, true, hyes, fun _ a na => ⟨rfl, rfl, G', ⟨q.sh, q.sl.set i (.val _)⟩, fun o ho => ?_⟩, fun h => nomatch h⟩⟩
  · subst e1 e2
    exact (hsu a oe pn hz hd).run pins s σ H D I h
  · cases o with
    | ret d M2 => exact (k _ ho).up g
    | nx _ _ => exact ho.elim
    | bk _ _ => exact ho.elim
    | ct _ _ => exact ho.elim
/-- isinstance(e, c) in an except suite -/
theorem ev_isE {n x : Str} {a C : Addr} {oe : Obj} {pn : List (Addr × Obj)} {cv : Value} {vc : V} {r : Bool} {p p2 p3 : Pos} {i : Nat} (hm : X.mg "isinstance" = none) (EC : ExcC X.K C) (hz : Zc (.ref C) none oe) (hf : ∃ vs, oe.data = .fields vs)
    (hv : ∀ u, RelV vc u → u = cv) (hk : PySem.W.kitOne X.K (.ref C) cv = some r) (ha : AV (X.suite a ((a, oe) :: pn)) [e, .Name x p2] ρ M [dP a, .val vc] M) (hg : Gl (X.suite a ((a, oe) :: pn)) "isinstance" := by rfl)
    (h1 : starEach [e, .Name x p2] X.env = (false, eval e X.env) :: starEach [.Name x p2] X.env := by rfl) (hpl : (backTo pos (starEach [.Name x p2] X.env)).any (·.1) = false := by rfl) :
    EV (X.suite a ((a, oe) :: pn)) (.Call (.Name "isinstance" p) [e, .Name x p2] [] pos) ρ M (dB r) M :=
  (pe_callB (call_isE EC hz hf) hg hm boot_isinstance ha (hpl := hpl) (he := h1)).mono fun σ H Q ⟨G, sa, k⟩ => ⟨G, sa, fun vs G1 H1 g1 sh1 r1 => by
    rw [RepL.of_vals (xs := [.ref a, vc]) r1]
    exact ⟨vc, cv, r, rfl, hv, hk, k _ G1 H1 g1 sh1 (.val _)⟩⟩
end
theorem calX_of {P : Program} {w : World} {K : PySem.W.Frag} {mg : Str → Option Value} {base : Heap} {x qual : Str} {sd : Stmt} {f : Addr} {fd : FuncData} {N ps : List Str} {k : Nat} {R : List D → Mem → Value → Mem → Prop} (F : Fun K x qual sd f fd) (S : FnScope N ps (defScope sd)) (hm : mg x = some (.ref f))
    (hbind : ∀ (kV doc pm : Value) (an : Option Addr) (cdv ct : Value) (us : List Value), us.length = ps.length → bindArgs (PySem.W.fnOf x qual (defArgs sd) (defBody sd) (defScope sd) .none kV doc pm an cdv ct) ⟨us, []⟩ = pure (ps.zip us))
    (len : ∀ ds M cls M', R ds M cls M' → ds.length = ps.length)
    (hb : ∀ (cdv : Value) (A : Around) (outer : List Env) (s : Shared) (H : Hp) (E : XK) (ds : List D) (M : Mem) (cls : Value) (M' : Mem), Room k (A.deeper (envOfC qual (defScope sd) s.heap.objs.size f cdv)) → R ds M cls M' →
      ∀ W, W = (fun cls d _ H' => E cls d H' : WX) → Takes (cxOf (L2.CX P w) P w K mg base N qual (defScope sd) f cdv A outer s H E) W →
      ∃ ρ', BX (cxOf (L2.CX P w) P w K mg base N qual (defScope sd) f cdv A outer s H E) W (defBody sd) (startD N ds) M cls ρ' M') : CalX P w K mg base (k + 1) x (spX K R) :=
  ⟨f, fd, ps, hm, F.kp, F.binds hbind, F.okX S (fun vs H Q E ⟨G, ds, M, cls, M', sh, r, p, q⟩ => by rw [r.len]; exact len _ _ _ _ p) fun cdv A outer s H vs Q E hr ⟨G, ds, M, cls, M', sh, r, p, q⟩ => by
    obtain ⟨ρ', h⟩ := hb cdv A outer s H E ds M cls M' hr p _ rfl (takes_of (E := E) rfl rfl rfl rfl)
    exact ⟨_, h, G, ⟨sh, start_rep r⟩, fun G' H' σ' g sa => q G' H' g sa.sh⟩⟩
section
variable {X : Cx} {ρ : Sl} {M M1 M2 : Mem} {a e : Expr} {pos : Pos}
theorem ev_sindex {z y : Str} {i : Nat} {rest : List Nat} {ap : Pos} (ho : EV X a ρ M (dS z) M1) (ha : EV X e ρ M1 (dS y) M2) (hi : Builtin.Str.occurrences z y 0 z.length 1 = i :: rest) (h1 : attributeBase a "index" X.env (eval a X.env) = eval a X.env := by rfl) (h3 : (ap.endLine == pos.line) = true := by decide) (h4 : starEach [e] X.env = (false, eval e X.env) :: starEach [] X.env := by rfl)
    (h2 : (((((backTo pos (starEach [e] X.env)).all fun x => !x.fst) && (backToKw pos (keywordEach [] X.env)).all fun x => x.fst.isSome) && decide (([e].length + ([] : List Keyword).length + if ([] : List Keyword).isEmpty = true then 0 else 1) < 30)) = true) := by rfl)
    (h5 : (((backTo pos (starEach [] X.env)).any fun x => x.fst) = false) := by rfl) : EV X (.Call (.Attribute a "index" ap) [e] [] pos) ρ M (dI (i : Int)) M2 :=
  ev_bmS (vs := [.str y]) PySem.F.plainAttrs_str PySem.F.slot_str_index PySem.F.type_str_index mt_sindex ho (av_cons ha av_nil h4) (fun H Q q => ⟨z, y, i, rest, rfl, rfl, hi, q⟩) h1 h3 h4 h2 h5
end
end Vt
namespace Vt
open PySem PySem.Spec PyProof.Rows L2
/-! ### defs that run where no guard is up: repr of trees -/
structure FnG (P : Program) (w : World) (K : PySem.W.Frag) (mg : Str → Option Value) (base : Heap) (k : Nat) (f : Addr) (fd : FuncData) (ps : List Str) (sp : Sp) : Prop where
  size : ∀ vs H Q E, sp vs H Q E → vs.length = ps.length
  goes : ∀ (A : Around) (out : List Env) (s : Shared) (H : Hp) (args : Args) (us : List Value) (vs : List V) (Q : VK) (E : XK), A.guards = some [] → Room k A → Env0 P w K mg base A out s H → BindsTo s fd args (ps.zip us) → Vals vs us → sp vs H Q E → codeAny (model P w) A (.call (.ref f) args) (CR CX0 out P w H s Q E) s
def bodyEnds (Q : VK) : Ends := { nx := fun _ H' => Q .non H', rt := Q }
theorem okG {P : Program} {w : World} {K : PySem.W.Frag} {mg : Str → Option Value} {base : Heap} {x qual : Str} {sd : Stmt} {f : Addr} {fd : FuncData} {N ps : List Str} {k : Nat} {sp : Sp} (F : Fun K x qual sd f fd) (S : FnScope N ps (defScope sd)) (size : ∀ vs H Q E, sp vs H Q E → vs.length = ps.length)
    (body : ∀ (cdv : Value) (A : Around) (out : List Env) (s : Shared) (H : Hp) (vs : List V) (Q : VK) (E : XK), (A.deeper (envOfC qual (defScope sd) s.heap.objs.size f cdv)).guards = some [] → Room k (A.deeper (envOfC qual (defScope sd) s.heap.objs.size f cdv)) → sp vs H Q E →
      ∃ t, PSs (cxOf CX0 P w K mg base N qual (defScope sd) f cdv A out s H E).nox (defBody sd) t ∧ t (bodyEnds Q) (L2.start N vs) H) : FnG P w K mg base (k + 1) f fd ps sp := by
  obtain ⟨_, _, _, _, _, _, cdv, _, _, rfl, found, code⟩ := F.ex
  refine ⟨size, fun A out s H args us vs Q E g room env bind rel want => ?_⟩
  have same := size _ _ _ _ want
  have up : ∀ b o, base.get? b = some o → s.heap.get? b = some o := fun b o z => (env.bs b o z).1
  have Kin : K.In s.heap := env.mod.kin.keeps up
  have noL : s.heap.NoLimit := env.mod.nolimit.keeps up
  have kinds : ∀ y ∈ ps.zip us, (defScope sd).names.lookup y.1 = some .local ∨ ((defScope sd).names.lookup y.1 = some .cell ∧ ((cellsFrom (s.heap.objs.size + 1) (defScope sd).names []).lookup y.1).isSome = true) := by
    rintro ⟨n, v⟩ hy
    exact (S.par n (List.of_mem_zip hy).1).imp id fun q => ⟨q, PySem.W.cellsFrom_some _ _ _ (.inl q)⟩
  apply codeAny_call_function room.depth (Kin _ _ found) rfl S.co S.gen rfl (PySem.W.codeRec_of Kin code)
  apply bind
  apply wpAny_newFunctionEnv_cells S.kind kinds
  rintro env1 rfl s1 x
  refine ⟨noL.keeps x.toInCall.keep, codeAny_func ?_⟩
  obtain ⟨t, ht0, atStart⟩ := body cdv A out s H vs Q E g (room.deeper _) want
  have ht := ht0.nox
  have J0 : Inv (cxOf CX0 P w K mg base N qual (defScope sd) f cdv A out s H E) [] (L2.start N vs) H s1 := inv_start S room.hd env same rel x
  refine wpAny_mono (ht.run [] s1 (L2.start N vs) H _ J0 atStart) ?_ (fun _ _ z => z)
  rintro fl s' end_
  match fl, end_ with
  | .ret u, ⟨v, _, H', J, rv, q⟩ => exact ⟨v, H', J.os, J.bare, J.base, J.hok, rv, q⟩
  | .next, ⟨_, H', J, q⟩ => exact ⟨.non, H', J.os, J.bare, J.base, J.hok, rfl, q⟩
  | .brk, ⟨_, _, _, q⟩ => exact q.elim
  | .cont, ⟨_, _, _, q⟩ => exact q.elim
section
variable {X : Cx} {ρ : Sl} {M M1 M2 M3 : Mem} {a b c e : Expr} {es : List Expr} {d d1 d2 : D} {ds : List D} {pos : Pos} {Ψ : Out → Prop}
theorem run_g {k : Nat} {f : Addr} {fd : FuncData} {ps : List Str} {sp : Sp} {pins : List (Addr × Obj)} {σ : L2.St} {H : Hp} {s : Shared} {Q : VK} {us : List Value} {vs : List V} (F : FnG X.prog X.w X.K X.mg X.base k f fd ps sp) (g : X.A.guards = some []) (hr : Room k X.A) (hb : L2.Binds X.K fd ps [])
    (I : Inv X pins σ H s) (r : Vals vs us) (h : sp vs H Q E0) : wpAny (model X.prog X.w) X.A (call (.ref f) us) (EP X pins σ Q) X.xe s := by
  have n : (us ++ []).length = ps.length := by rw [List.append_nil, ← r.length]; exact F.size _ _ _ _ h
  have b := hb s us I.kIn n
  rw [List.append_nil] at b
  refine wpAny_call (codeAny_mono (F.goes X.A X.stack s H ⟨us, []⟩ us vs Q E0 g hr I.env0 b r h) ?_)
  rintro (e | fl) s' hq
  · exact pass0 pins σ H s e s' I hq
  · match fl, hq with
    | .ret u, hq => exact I.after hq
    | .next, hq => exact hq.elim
    | .brk, hq => exact hq.elim
    | .cont, hq => exact hq.elim
structure CalG (P : Program) (w : World) (K : PySem.W.Frag) (mg : Str → Option Value) (base : Heap) (k : Nat) (x : Str) (sp : Sp) : Prop where
  ex : ∃ (f : Addr) (fd : FuncData) (ps : List Str), mg x = some (.ref f) ∧ PySem.W.keepIn K (.ref f) = true ∧ L2.Binds K fd ps [] ∧ FnG P w K mg base k f fd ps sp
theorem pe_callG {k : Nat} {f : Addr} {fd : FuncData} {ps : List Str} {sp : Sp} {x : Str} {p : Pos} {t : TA} (F : FnG X.prog X.w X.K X.mg X.base k f fd ps sp) (g : X.A.guards = some []) (hr : Room k X.A) (hg : Gl X x) (hm : X.mg x = some (.ref f)) (hk : PySem.W.keepIn X.K (.ref f) = true) (hb : L2.Binds X.K fd ps [])
    (ha : PA X (e :: es) t) (hdb : (x == ("__debug__" : Str)) = false) (he : starEach (e :: es) X.env = (false, eval e X.env) :: starEach es X.env) (hpl : (backTo pos (starEach es X.env)).any (·.1) = false) :
    PE X (.Call (.Name x p) (e :: es) [] pos) (fun σ H Q => t σ H fun vs H1 => sp vs H1 Q E0) :=
  ⟨fun pins s σ H Q I h => wpAny_Call_Name_kw (ld_glob I hg hm (PySem.W.callWith_K (h₀ := X.base) I.ok.mod.kin hk (thn (ha.run pos pins s σ H _ I h) fun _ _ ⟨_, _, J, r, q⟩ => ⟨J.kIn, run_g F g hr hb J r q⟩) he hpl) hdb)⟩
theorem ev_callG {k : Nat} {x : Str} {Pr : List D → Mem → D → Mem → Prop} {p : Pos} (C : CalG X.prog X.w X.K X.mg X.base k x (spD X.K Pr)) (g : X.A.guards = some []) (hr : Room k X.A) (ha : AV X (e :: es) ρ M ds M1) (hp : Pr ds M1 d M2) (hg : Gl X x := by rfl)
    (hd : (x == ("__debug__" : Str)) = false := by decide) (hst : starEach (e :: es) X.env = (false, eval e X.env) :: starEach es X.env := by rfl) (hpl : (backTo pos (starEach es X.env)).any (·.1) = false := by rfl) : EV X (.Call (.Name x p) (e :: es) [] pos) ρ M d M2 := by
  obtain ⟨f, fd, ps, hm, hk, hb, F⟩ := C.ex
  exact (pe_callG F g hr hg hm hk hb ha hd hst hpl).mono fun σ H Q ⟨G, sa, k⟩ => ⟨G, sa, fun vs G1 H1 g1 sh1 r1 => ⟨G1, ds, M1, d, M2, sh1, r1, hp, fun v G' H' g2 sh r => k v G' H' (g1.trans g2) sh r⟩⟩
/-- repr(x) of a tree -/
theorem ev_repr {p : Pos} (g : X.A.guards = some []) (hu : X.A.units + 64 < cLine) (hm : X.mg "repr" = none) (ha : EV X e ρ M d M1) (pl : D.plain d = true) (nv : ∀ v, d ≠ .val v) (nd : d.py.hasDict = false) (ss : d.py.showable = true) (dd : d.py.depth < 60) (sz : d.py.shown.length ≤ sizeLine) (hg : Gl X "repr" := by rfl) (hst : starEach [e] X.env = [(false, eval e X.env)] := by rfl) :
    EV X (.Call (.Name "repr" p) [e] [] pos) ρ M (dS d.py.shown) M1 := by
  have cr : CallR X (.builtin "repr") (fun vs H Q => ∃ a, vs = [V.ref a] ∧ Dp X.K H (.ref a) d.py ∧ Q (.str d.py.shown) H) := by
    intro pins s σ H vs us Q I r h
    obtain ⟨a, rfl, dp, q⟩ := h
    obtain ⟨u, rfl, ru⟩ := vals1 r
    obtain rfl : u = Value.ref a := ru
    obtain ⟨as, rd⟩ := Dp.reads I _ _ _ dp rfl
    refine repr_of_reads' rd ss (fun z => by rw [nd] at z; cases z) g (by omega) (fun _ _ z => z) (fun h' u tk hk => ?_) sz
    exact ⟨.str d.py.shown, H, I.kept hk, ⟨_, rfl⟩, q⟩
  refine (pe_callB cr hg hm boot_repr (av_cons ha av_nil hst) (he := hst) (hpl := by rfl)).mono fun σ H Q ⟨G, sa, k⟩ => ⟨G, sa, fun vs G1 H1 g1 sh1 r1 => ?_⟩
  cases r1 with
  | cons h t =>
    cases t
    have dp := dp_of sh1.le _ _ pl h
    cases h with
    | val => exact absurd rfl (nv _)
    | tup q r => exact ⟨_, rfl, dp, k _ G1 H1 g1 sh1 (.val _)⟩
    | lst q r => exact ⟨_, rfl, dp, k _ G1 H1 g1 sh1 (.val _)⟩
end
end Vt
namespace Vt
open PySem PySem.Spec PyProof.Rows L2
/-! ### the end of a law whose body asks repr -/
/-- what may be tracked at the entry: the script alone -/
def soleH (K : PySem.W.Frag) (a : Addr) (o : Obj) (xs : List V) : Hp := fun b => if b = a ∧ (K.lookup a).isNone = true then some (.frz o (.lst xs)) else none
theorem soleH_of {K : PySem.W.Frag} {a b : Addr} {o : Obj} {xs : List V} {u : HO} (h : soleH K a o xs b = some u) : b = a ∧ K.lookup a = none ∧ u = .frz o (.lst xs) := by
  unfold soleH at h
  by_cases c : b = a ∧ (K.lookup a).isNone = true
  · rw [if_pos c] at h
    exact ⟨c.1, Option.isNone_iff_eq_none.mp c.2, (Option.some.inj h).symm⟩
  · rw [if_neg c] at h
    cases h
theorem law_runG {P : Program} {w : World} {K : PySem.W.Frag} {mg mb : Str → Option Value} {k : Nat} {fa a : Addr} {fd : FuncData} {x : Str} {s : Shared} {vs : List Value} {ns : List Int}
    (kin : K.In s.heap) (glob : s.heap.Ns mainGlobals mg) (blt : s.heap.Ns builtinsNs mb) (bltE : ∀ z : Str, z ≠ "__name__" → mb z = bootBuiltins z) (noL : s.heap.NoLimit) (gens : s.gens = #[])
    (at_ : s.heap.get? a = some { cls := .type "list", data := .seq vs.toArray }) (are : IntsAre vs ns) (short : ns.length ≤ 63) (room : Room k callerA)
    (F : ∀ base : Heap, K.In base → base.Ns mainGlobals mg → FnG P w K mg base k fa fd [x] (spLaw K)) (binds : ∀ (s : Shared) (u : Value), BindsTo s fd ⟨[u], []⟩ [(x, u)]) :
    codeAny (model P w) callerA (.call (.ref fa) ⟨[.ref a], []⟩) (fun r s' => r = .ok (.ret (.bool true)) ∧ OldK s.heap s'.heap ∧ s'.os = s.os ∧ AllBare s'.gens) s := by
  have rv := vals_ints are
  have size : ns.length ≤ sizeLine := Nat.le_trans short (by decide)
  let o : Obj := { cls := .type "list", data := .seq vs.toArray }
  let H : Hp := soleH K a o (ns.map V.int)
  have only : ∀ {b : Addr} {u : HO}, H b = some u → b = a ∧ K.lookup a = none ∧ u = .frz o (.lst (ns.map V.int)) := fun h => soleH_of h
  have apart : ∀ {b : Addr} {ob : Obj}, s.heap.get? b = some ob → (b = a → K.lookup a = none → False) → (hidT s.heap H).get? b = some ob := fun {b ob} e no => hidT_get e (by
    cases q : H b with
    | none => rfl
    | some u => exact (no (only q).1 (only q).2.1).elim)
  have names : ∀ {b : Addr} {m : Str → Option Value}, s.heap.Ns b m → (hidT s.heap H).Ns b m := by
    rintro b m ⟨ob, es, ep, e, d, r⟩
    refine ⟨ob, es, ep, apart e (fun z _ => ?_), d, r⟩
    rw [z, at_] at e
    cases e
    cases d
  have kin' : K.In (hidT s.heap H) := fun b ob e => apart (kin b ob e) fun z n => by
    rw [z, n] at e
    cases e
  have lst : SqL K H a (ns.map V.int) := by
    cases q : K.lookup a with
    | none => exact .inl (.inr ⟨o, if_pos ⟨rfl, by rw [q]; rfl⟩⟩)
    | some oa =>
      have e := kin a oa q
      rw [at_] at e
      cases e
      refine .inr ⟨_, vs.toArray, _, q, rfl, rfl, rfl, ?_, by simpa using rv⟩
      rw [List.size_toArray, are.length]
      exact size
  have hok : HOk P w H s.heap := fun b u e => by
    obtain ⟨rfl, _, rfl⟩ := only e
    exact ⟨at_, by rw [List.length_map]; exact size, vs, _, rv, at_⟩
  have env : Env0 P w K mg (hidT s.heap H) callerA [] s H :=
    ⟨rfl, ⟨kin', names glob, ⟨mb, names blt, bltE⟩, let ⟨mc, h1, h2⟩ := noL; ⟨mc, names h1, h2⟩⟩, fun b ob e => of_hidT e, Nat.le_of_eq (hidT_size _ _), trivial, fun b hb => absurd hb List.not_mem_nil, hok, .of_eq gens⟩
  refine codeAny_mono ((F _ kin' (names glob)).goes callerA [] s H ⟨[.ref a], []⟩ [.ref a] [.ref a] (fun v _ => v = .bl true) (fun _ _ _ => False) rfl room env (binds s (.ref a)) (.cons rfl .nil) ⟨a, ns, rfl, lst, short, fun _ => rfl⟩) ?_
  rintro (e | fl) s' end_
  · exact (end_ : False).elim
  · match fl, end_ with
    | .next, z => exact z.elim
    | .brk, z => exact z.elim
    | .cont, z => exact z.elim
    | .ret u, ⟨v, H', os, bare, un, hok', ru, q⟩ =>
      have q : v = .bl true := q
      subst q
      obtain rfl : u = Value.bool true := ru
      have old : ∀ b ob, s.heap.get? b = some ob → s'.heap.get? b = some ob := fun b ob e => by
        cases q : H b with
        | none => exact un.keep b ob e q (fun z => absurd z List.not_mem_nil) (fun z => absurd z List.not_mem_nil)
        | some u =>
          obtain ⟨rfl, _, rfl⟩ := only q
          obtain ⟨e1, _⟩ := hok b _ q
          obtain ⟨e2, _⟩ := hok' b _ (un.frzs b o _ q)
          rw [e] at e1
          cases e1
          exact e2
      exact ⟨rfl, ⟨fun b ob e => .inl (old b ob e), fun b ob e => ⟨ob, old b ob e⟩⟩, os, bare⟩
theorem walkG {l : PySem.W.OpenLaw} {q : Program} {loose : List Str} {XP : (Str → Option Value) → Heap → Prop} {YP : World → Heap → Prop} {d : DefRec} {K : Params → PySem.W.Frag} {k : Nat} (hk : Room k callerA) (hn : l.most = some 63) (hdf : d.params.defaults = [])
    (hY : ∀ (w : World) (h : Heap), YP w h → (K w.params).In h)
    (F : ∀ (w : World) (mg : Str → Option Value) (fa : Addr) (h : Heap), (K w.params).In h → h.Ns mainGlobals mg → mg d.name = some (.ref fa) →
      ∃ fd : FuncData, (∀ (s : Shared) (u : Value), BindsTo s fd ⟨[u], []⟩ [("script", u)]) ∧ ∀ base : Heap, (K w.params).In base → base.Ns mainGlobals mg → FnG l.prog w (K w.params) mg base k fa fd ["script"] (spLaw (K w.params))) :
    PySem.W.WalkO q loose XP YP l.row.toRowW d [] (fun f vs => PySem.call f vs) := by
  refine Att.attach_call hn hdf fun w s₀ s₁ mg mb fa o pm cd doc a vs ns G Y ho hd hcd hmg hobj hints hlen hg => ?_
  obtain ⟨fd, hb, hF⟩ := F w mg fa _ (hY w _ Y) G.T.g hmg
  exact law_runG (hY w _ Y) G.T.g G.T.b G.T.builtins G.T.nolimit hg hobj hints hlen hk hF hb
theorem law_ofG {P : Program} {w : World} {K : PySem.W.Frag} {mg : Str → Option Value} {base : Heap} {sd : Stmt} {f : Addr} {fd : FuncData} {N : List Str} {k : Nat} (F : Fun K "law" "law" sd f fd) (S : FnScope N ["script"] (defScope sd))
    (hb : ∀ (cdv : Value) (A : Around) (outer : List Env) (s : Shared) (H : Hp) (E : XK) (ns : List Int), (A.deeper (envOfC "law" (defScope sd) s.heap.objs.size f cdv)).guards = some [] → Room k (A.deeper (envOfC "law" (defScope sd) s.heap.objs.size f cdv)) → ns.length ≤ 63 →
      BV (cxOf CX0 P w K mg base N "law" (defScope sd) f cdv A outer s H E).nox (defBody sd) (startD N [.lst (ns.map dI)]) (fun _ => none) FinL) : FnG P w K mg base (k + 1) f fd ["script"] (spLaw K) := by
  refine okG F S (fun vs H Q E ⟨a, ns, e, _⟩ => by rw [e]; rfl) fun cdv A outer s H vs Q E g hr ⟨a, ns, e, hs, hl, q⟩ => ?_
  subst e
  have rl : ∀ xs : List Int, RepL K H (xs.map V.int) (xs.map dI) := fun xs => by
    have e := RepL.vals (K := K) (G := H) (xs.map V.int)
    rwa [List.map_map] at e
  have r : RepL K H [V.ref a] [.lst (ns.map dI)] := .cons (.lst hs (rl ns)) .nil
  refine ⟨_, hb cdv A outer s H E ns g hr hl, H, ⟨⟨Same.refl _, fun b mo e => nomatch e⟩, start_rep r⟩, fun o ho => ?_⟩
  cases o with
  | ret d M =>
    have ho : d = dB true := ho
    subst ho
    exact fun v G' H' g sh r => by
      rw [r.of_val]
      exact q H'
  | nx ρ M => exact (show False from ho).elim
  | bk _ _ => exact (show False from ho).elim
  | ct _ _ => exact (show False from ho).elim
end Vt
namespace Vt
open PySem PySem.Spec PyProof.Rows L2
/-! ### the relational calculus: what follows is told in the place of the answer -/
def tAW (K : PySem.W.Frag) (ρ : Sl) (M : Mem) (Φ : List D → Mem → Prop) : TA := fun σ H Q => ∃ G, SA K G H σ ρ M ∧ ∀ vs G' H' ds M', Φ ds M' → Same G G' → SH K G' H' M' → RepL K G' vs ds → Q vs H'
def tTW (K : PySem.W.Frag) (ρ : Sl) (M : Mem) (Φ : Bool → Mem → Prop) : TT := fun σ H Q => ∃ G, SA K G H σ ρ M ∧ ∀ b G' H' M', Φ b M' → Same G G' → SH K G' H' M' → Q b H'
abbrev AW (X : Cx) (es : List Expr) (ρ : Sl) (M : Mem) (Φ : List D → Mem → Prop) : Prop := PA X es (tAW X.K ρ M Φ)
abbrev TW (X : Cx) (e : Expr) (ρ : Sl) (M : Mem) (Φ : Bool → Mem → Prop) : Prop := PT X e (tTW X.K ρ M Φ)
abbrev WW (X : Cx) (e : Expr) (ρ : Sl) (M : Mem) (Φ : Bool → Mem → Prop) : Prop := PW X e (tTW X.K ρ M Φ)
def pkE (X : Cx) (e : Expr) (ρ : Sl) : TE := fun σ H Q => ∃ M Φ, EW X e ρ M Φ ∧ tW X.K ρ M Φ σ H Q
theorem pk_e {X : Cx} {e : Expr} {ρ : Sl} : PE X e (pkE X e ρ) := ⟨fun pins s σ H Q I ⟨_, _, h, q⟩ => h.run pins s σ H Q I q⟩
def pkA (X : Cx) (es : List Expr) (ρ : Sl) : TA := fun σ H Q => ∃ M Φ, AW X es ρ M Φ ∧ tAW X.K ρ M Φ σ H Q
theorem pk_a {X : Cx} {es : List Expr} {ρ : Sl} : PA X es (pkA X es ρ) := ⟨fun pos pins s σ H Q I ⟨_, _, h, q⟩ => h.run pos pins s σ H Q I q⟩
def pkT (X : Cx) (e : Expr) (ρ : Sl) : TT := fun σ H Q => ∃ M Φ, TW X e ρ M Φ ∧ tTW X.K ρ M Φ σ H Q
theorem pk_t {X : Cx} {e : Expr} {ρ : Sl} : PT X e (pkT X e ρ) := ⟨fun pins s σ H Q I ⟨_, _, h, q⟩ => h.run pins s σ H Q I q⟩
def pkW (X : Cx) (e : Expr) (ρ : Sl) : TT := fun σ H Q => ∃ M Φ, WW X e ρ M Φ ∧ tTW X.K ρ M Φ σ H Q
theorem pk_w {X : Cx} {e : Expr} {ρ : Sl} : PW X e (pkW X e ρ) := ⟨fun wh pins s σ H Q I ⟨_, _, h, q⟩ => h.run wh pins s σ H Q I q⟩
def pkB (X : Cx) (sts : List Stmt) (ρ : Sl) (Ψ : Out → Prop) : TS := fun E σ H => ∃ M, BV X sts ρ M Ψ ∧ tS X.K ρ M Ψ E σ H
theorem pk_b {X : Cx} {sts : List Stmt} {ρ : Sl} {Ψ : Out → Prop} : PSs X sts (pkB X sts ρ Ψ) := ⟨fun pins s σ H E I ⟨_, h, q⟩ => h.run pins s σ H E I q⟩
section
variable {X : Cx} {ρ : Sl} {M M1 M2 M3 : Mem} {a b c e : Expr} {es : List Expr} {d d1 d2 : D} {ds : List D} {pos : Pos} {Ψ : Out → Prop} {Φ : D → Mem → Prop} {ΦA : List D → Mem → Prop} {ΦT : Bool → Mem → Prop}
theorem aw_av (h : AV X es ρ M ds M1) (q : ΦA ds M1) : AW X es ρ M ΦA := h.mono fun σ H Q ⟨G, sa, k⟩ => ⟨G, sa, fun vs G1 H1 g1 sh1 r1 => k vs G1 H1 ds M1 q g1 sh1 r1⟩
theorem tw_tv {p : Bool} (h : TV X e ρ M p M1) (q : ΦT p M1) : TW X e ρ M ΦT := h.mono fun σ H Q ⟨G, sa, k⟩ => ⟨G, sa, fun G1 H1 g1 sh1 => k p G1 H1 M1 q g1 sh1⟩
theorem ww_wv {p : Bool} (h : WV X e ρ M p M1) (q : ΦT p M1) : WW X e ρ M ΦT := h.mono fun σ H Q ⟨G, sa, k⟩ => ⟨G, sa, fun G1 H1 g1 sh1 => k p G1 H1 M1 q g1 sh1⟩
theorem aw_nil (q : ΦA [] M) : AW X [] ρ M ΦA := aw_av av_nil q
theorem aw_cons (h : EW X e ρ M (fun d M1 => AW X es ρ M1 (fun ds M2 => ΦA (d :: ds) M2))) (hs : starEach (e :: es) X.env = (false, eval e X.env) :: starEach es X.env := by rfl) : AW X (e :: es) ρ M ΦA :=
  (pa_cons h pk_a hs).mono fun σ H Q ⟨G, sa, k⟩ => ⟨G, sa, fun v1 G1 H1 d M1 h g1 sh1 r1 => ⟨M1, _, h, G1, ⟨sh1, sa.sl.up g1⟩, fun vs G2 H2 ds M2 p g2 sh2 r2 => k _ G2 H2 _ M2 p (g1.trans g2) sh2 (.cons (r1.up g2) r2)⟩⟩
theorem ew_op {op : Operator} {r : R2} (ho : OpR X (binaryOp op) r) (h : EW X a ρ M (fun d1 M1 => ∃ x, d1 = .val x ∧ EW X b ρ M1 (fun d2 M2 => ∃ y z, d2 = .val y ∧ RS r x y z ∧ Φ (.val z) M2))) : EW X (.BinOp a op b pos) ρ M Φ :=
  (pe_op ho h pk_e).mono fun σ H Q ⟨G, sa, k⟩ => ⟨G, sa, fun v1 G1 H1 d1 M1 ⟨x, e1, h⟩ g1 sh1 r1 => ⟨M1, _, h, G1, ⟨sh1, sa.sl.up g1⟩, fun v2 G2 H2 d2 M2 ⟨y, z, e2, hr, p⟩ g2 sh2 r2 => by
    subst e1 e2
    rw [r1.of_val, r2.of_val]
    exact hr H2 Q (k _ G2 H2 _ M2 p (g1.trans g2) sh2 (.val _))⟩⟩
theorem ew_un {op : UnaryOp} {r : V → Hp → VK → Prop} (ho : UnR X (unaryOp op) r) (h : EW X a ρ M (fun d1 M1 => ∃ x z, d1 = .val x ∧ RU r x z ∧ Φ (.val z) M1)) : EW X (.UnaryOp op a pos) ρ M Φ :=
  (pe_un ho h).mono fun σ H Q ⟨G, sa, k⟩ => ⟨G, sa, fun v1 G1 H1 d1 M1 ⟨x, z, e1, hr, p⟩ g1 sh1 r1 => by
    subst e1
    rw [r1.of_val]
    exact hr H1 Q (k _ G1 H1 _ M1 p g1 sh1 (.val _))⟩
theorem ew_cmp {op : CmpOp} {r : R2} (ho : OpR X (compareOp op) r) (h : EW X a ρ M (fun d1 M1 => ∃ x, d1 = .val x ∧ EW X b ρ M1 (fun d2 M2 => ∃ y z, d2 = .val y ∧ RS r x y z ∧ Φ (.val z) M2))) (hm : behindInMarks op b = false) : EW X (.Compare a [op] [b] pos) ρ M Φ :=
  (pe_cmpR ho h pk_e hm).mono fun σ H Q ⟨G, sa, k⟩ => ⟨G, sa, fun v1 G1 H1 d1 M1 ⟨x, e1, h⟩ g1 sh1 r1 => ⟨M1, _, h, G1, ⟨sh1, sa.sl.up g1⟩, fun v2 G2 H2 d2 M2 ⟨y, z, e2, hr, p⟩ g2 sh2 r2 => by
    subst e1 e2
    rw [r1.of_val, r2.of_val]
    exact hr H2 Q (k _ G2 H2 _ M2 p (g1.trans g2) sh2 (.val _))⟩⟩
theorem tw_cmp {op : CmpOp} {r : R2} (ho : OpR X (compareOp op) r) (h : EW X a ρ M (fun d1 M1 => ∃ x, d1 = .val x ∧ EW X b ρ M1 (fun d2 M2 => ∃ y z, d2 = .val y ∧ RS r x y (.bl z) ∧ ΦT z M2))) (hm : behindInMarks op b = false) : TW X (.Compare a [op] [b] pos) ρ M ΦT :=
  (pt_cmpR ho h pk_e hm).mono fun σ H Q ⟨G, sa, k⟩ => ⟨G, sa, fun v1 G1 H1 d1 M1 ⟨x, e1, h⟩ g1 sh1 r1 => ⟨M1, _, h, G1, ⟨sh1, sa.sl.up g1⟩, fun v2 G2 H2 d2 M2 ⟨y, z, e2, hr, p⟩ g2 sh2 r2 => by
    subst e1 e2
    rw [r1.of_val, r2.of_val]
    exact hr H2 _ ⟨z, rfl, k z G2 H2 M2 p (g1.trans g2) sh2⟩⟩⟩
theorem tw_val (h : EW X e ρ M (fun d M1 => ∃ p, d = dB p ∧ ΦT p M1)) (he : ∀ whole, isTrue e X.env whole = (do let v ← whole; standAt e.pos; holding [v] (truthy v)) := by intro _; rfl) : TW X e ρ M ΦT :=
  (pt_val h he).mono fun σ H Q ⟨G, sa, k⟩ => ⟨G, sa, fun v1 G1 H1 d M1 ⟨p, e1, q⟩ g1 sh1 r1 => by
    subst e1
    exact ⟨p, r1.of_val, k p G1 H1 M1 q g1 sh1⟩⟩
theorem tw_not (h : TW X e ρ M (fun p M1 => ΦT (!p) M1)) : TW X (.UnaryOp .Not e pos) ρ M ΦT :=
  (pt_not h).mono fun σ H Q ⟨G, sa, k⟩ => ⟨G, sa, fun p G1 H1 M1 q g1 sh1 => k _ G1 H1 M1 q g1 sh1⟩
theorem ww_one_and (h : TW X e ρ M ΦT) : WW X (.BoolOp .And [e] pos) ρ M ΦT := pw_and1 h
theorem ww_one_or (h : TW X e ρ M ΦT) : WW X (.BoolOp .Or [e] pos) ρ M ΦT := pw_or1 h
theorem ww_and {rest : List Expr} (h : TW X a ρ M (fun p M1 => (p = true → WW X (.BoolOp .And (b :: rest) pos) ρ M1 ΦT) ∧ (p = false → ΦT false M1))) : WW X (.BoolOp .And (a :: b :: rest) pos) ρ M ΦT :=
  (pw_and h pk_w).mono fun σ H Q ⟨G, sa, k⟩ => ⟨G, sa, fun p G1 H1 M1 ⟨h1, h2⟩ g1 sh1 => by
    cases p with
    | true => exact (⟨M1, _, h1 rfl, G1, ⟨sh1, sa.sl.up g1⟩, fun p G2 H2 M2 q g2 sh2 => k p G2 H2 M2 q (g1.trans g2) sh2⟩ : pkW X _ ρ σ H1 Q)
    | false => exact (k false G1 H1 M1 (h2 rfl) g1 sh1 : Q false H1)⟩
theorem ww_or {rest : List Expr} (h : TW X a ρ M (fun p M1 => (p = false → WW X (.BoolOp .Or (b :: rest) pos) ρ M1 ΦT) ∧ (p = true → ΦT true M1))) : WW X (.BoolOp .Or (a :: b :: rest) pos) ρ M ΦT :=
  (pw_or h pk_w).mono fun σ H Q ⟨G, sa, k⟩ => ⟨G, sa, fun p G1 H1 M1 ⟨h1, h2⟩ g1 sh1 => by
    cases p with
    | false => exact (⟨M1, _, h1 rfl, G1, ⟨sh1, sa.sl.up g1⟩, fun p G2 H2 M2 q g2 sh2 => k p G2 H2 M2 q (g1.trans g2) sh2⟩ : pkW X _ ρ σ H1 Q)
    | true => exact (k true G1 H1 M1 (h2 rfl) g1 sh1 : Q true H1)⟩
/-- a and b as values: bools -/
theorem ew_andB {rest : List Expr} (h : EW X a ρ M (fun d M1 => ∃ p, d = dB p ∧ (p = true → EW X (.BoolOp .And (b :: rest) pos) ρ M1 Φ) ∧ (p = false → Φ (dB false) M1))) : EW X (.BoolOp .And (a :: b :: rest) pos) ρ M Φ :=
  (pe_and h pk_e).mono fun σ H Q ⟨G, sa, k⟩ => ⟨G, sa, fun v1 G1 H1 d M1 ⟨p, e1, h1, h2⟩ g1 sh1 r1 => by
    subst e1
    refine ⟨p, r1.of_val, ?_⟩
    cases p with
    | true => exact (⟨M1, _, h1 rfl, G1, ⟨sh1, sa.sl.up g1⟩, fun v G2 H2 d2 M2 q g2 sh2 r2 => k v G2 H2 d2 M2 q (g1.trans g2) sh2 r2⟩ : pkE X _ ρ σ H1 Q)
    | false => exact (k _ G1 H1 _ M1 (h2 rfl) g1 sh1 (.val _) : Q (.bl false) H1)⟩
theorem ew_orB {rest : List Expr} (h : EW X a ρ M (fun d M1 => ∃ p, d = dB p ∧ (p = false → EW X (.BoolOp .Or (b :: rest) pos) ρ M1 Φ) ∧ (p = true → Φ (dB true) M1))) : EW X (.BoolOp .Or (a :: b :: rest) pos) ρ M Φ :=
  (pe_or h pk_e).mono fun σ H Q ⟨G, sa, k⟩ => ⟨G, sa, fun v1 G1 H1 d M1 ⟨p, e1, h1, h2⟩ g1 sh1 r1 => by
    subst e1
    refine ⟨p, r1.of_val, ?_⟩
    cases p with
    | false => exact (⟨M1, _, h1 rfl, G1, ⟨sh1, sa.sl.up g1⟩, fun v G2 H2 d2 M2 q g2 sh2 r2 => k v G2 H2 d2 M2 q (g1.trans g2) sh2 r2⟩ : pkE X _ ρ σ H1 Q)
    | true => exact (k _ G1 H1 _ M1 (h2 rfl) g1 sh1 (.val _) : Q (.bl true) H1)⟩
theorem ew_notB (h : EW X e ρ M (fun d M1 => ∃ p, d = dB p ∧ Φ (dB (!p)) M1)) : EW X (.UnaryOp .Not e pos) ρ M Φ :=
  (pe_not h).mono fun σ H Q ⟨G, sa, k⟩ => ⟨G, sa, fun v1 G1 H1 d M1 ⟨p, e1, q⟩ g1 sh1 r1 => by
    subst e1
    exact ⟨p, r1.of_val, k _ G1 H1 _ M1 q g1 sh1 (.val _)⟩⟩
theorem ew_if (h : TW X c ρ M (fun p M1 => (p = true → EW X a ρ M1 Φ) ∧ (p = false → EW X b ρ M1 Φ))) : EW X (.IfExp c a b pos) ρ M Φ :=
  (pe_ifExp h pk_e pk_e).mono fun σ H Q ⟨G, sa, k⟩ => ⟨G, sa, fun p G1 H1 M1 ⟨h1, h2⟩ g1 sh1 => by
    cases p with
    | true => exact (⟨M1, _, h1 rfl, G1, ⟨sh1, sa.sl.up g1⟩, fun v G2 H2 d2 M2 q g2 sh2 r2 => k v G2 H2 d2 M2 q (g1.trans g2) sh2 r2⟩ : pkE X _ ρ σ H1 Q)
    | false => exact (⟨M1, _, h2 rfl, G1, ⟨sh1, sa.sl.up g1⟩, fun v G2 H2 d2 M2 q g2 sh2 r2 => k v G2 H2 d2 M2 q (g1.trans g2) sh2 r2⟩ : pkE X _ ρ σ H1 Q)⟩
theorem ew_tup {x1} (h : AW X es ρ M (fun ds M1 => ds.length ≤ sizeLine ∧ Φ (.tup ds) M1)) : EW X (.Tuple es x1 pos) ρ M Φ :=
  (pe_tup h).mono fun σ H Q ⟨G, sa, k⟩ => ⟨G, sa, fun vs G1 H1 ds M1 ⟨hl, q⟩ g1 sh1 r1 => ⟨by rw [r1.len]; exact hl, fun p hp => by
    obtain ⟨sh2, g2⟩ := sh1.new (o := .tup vs) hp
    exact k _ _ _ _ M1 q (g1.trans g2) sh2 (.tup (.inl (.inl upd_same)) (r1.up g2))⟩⟩
theorem ew_lst (h : AW X es ρ M (fun ds M1 => ds.length ≤ sizeLine ∧ Φ (.lst ds) M1)) : EW X (.List es pos) ρ M Φ :=
  (pe_lst h).mono fun σ H Q ⟨G, sa, k⟩ => ⟨G, sa, fun vs G1 H1 ds M1 ⟨hl, q⟩ g1 sh1 r1 => ⟨by rw [r1.len]; exact hl, fun p hp => by
    obtain ⟨sh2, g2⟩ := sh1.new (o := .lst vs) hp
    exact k _ _ _ _ M1 q (g1.trans g2) sh2 (.lst (.inl (.inl upd_same)) (r1.up g2))⟩⟩
theorem ew_ixQ (h : EW X a ρ M (fun d1 M1 => ∃ q ds, d1 = sq q ds ∧ EW X b ρ M1 (fun d2 M2 => ∃ i d, d2 = dI i ∧ atI ds i = some d ∧ Φ d M2))) (hs : PlainIx b := by (intro _ _; rfl)) : EW X (.Subscript a b pos) ρ M Φ :=
  (pe_ix ix_seq h pk_e hs).mono fun σ H Q ⟨G, sa, k⟩ => ⟨G, sa, fun v1 G1 H1 d1 M1 ⟨q, ds, e1, h2⟩ g1 sh1 r1 => ⟨M1, _, h2, G1, ⟨sh1, sa.sl.up g1⟩, fun v2 G2 H2 d2 M2 ⟨i, d, e2, hat, p⟩ g2 sh2 r2 => by
    subst e1 e2
    cases q with
    | true =>
      cases (show Rep X.K G1 v1 (.lst ds) from r1) with
      | lst q r =>
        obtain ⟨v, e, rv⟩ := atI_up (r.up g2) hat
        exact .inl ⟨_, _, i, v, rfl, r2.of_val, sqlUp sh2.le (sqlUp g2 q), e, k _ G2 H2 _ M2 p (g1.trans g2) sh2 rv⟩
    | false =>
      cases (show Rep X.K G1 v1 (.tup ds) from r1) with
      | tup q r =>
        obtain ⟨v, e, rv⟩ := atI_up (r.up g2) hat
        exact .inr (.inl ⟨_, _, i, v, rfl, r2.of_val, sqtUp sh2.le (sqtUp g2 q), e, k _ G2 H2 _ M2 p (g1.trans g2) sh2 rv⟩)⟩⟩
end
end Vt
namespace Vt
open PySem PySem.Spec PyProof.Rows L2
section
variable {X : Cx} {ρ : Sl} {M M1 M2 M3 : Mem} {a b c e : Expr} {es : List Expr} {d d1 d2 : D} {ds : List D} {pos : Pos} {Ψ : Out → Prop} {Φ : D → Mem → Prop} {ΦA : List D → Mem → Prop} {ΦT : Bool → Mem → Prop}
/-! calls -/
theorem ew_callD {k : Nat} {x : Str} {Pr : List D → Mem → D → Mem → Prop} {p : Pos} (C : Cal X.prog X.w X.K X.mg X.base k x (spD X.K Pr)) (hr : Room k X.A) (h : AW X (e :: es) ρ M (fun ds M1 => ∃ d M2, Pr ds M1 d M2 ∧ Φ d M2)) (hg : Gl X x := by rfl)
    (hd : (x == ("__debug__" : Str)) = false := by decide) (hst : starEach (e :: es) X.env = (false, eval e X.env) :: starEach es X.env := by rfl) (hpl : (backTo pos (starEach es X.env)).any (·.1) = false := by rfl) : EW X (.Call (.Name x p) (e :: es) [] pos) ρ M Φ := by
  obtain ⟨f, fd, ps, hm, hk, hb, F⟩ := C.ex
  refine (pe_call F hr hg hm hk hb .nil pass0 h (hdb := hd) (he := hst) (hpl := hpl)).mono fun σ H Q ⟨G, sa, k⟩ => ⟨G, sa, fun vs G1 H1 ds M1 ⟨d, M2, hp, q⟩ g1 sh1 r1 => ?_⟩
  show spD X.K Pr (vs ++ []) H1 Q E0
  rw [List.append_nil]
  exact ⟨G1, ds, M1, d, M2, sh1, r1, hp, fun v G' H' g sh r => k v G' H' d M2 q (g1.trans g) sh r⟩
theorem ew_callW {k : Nat} {x : Str} {R : List D → Mem → (D → Mem → Prop) → Prop} {p : Pos} (C : Cal X.prog X.w X.K X.mg X.base k x (spW X.K R)) (hr : Room k X.A) (h : AW X (e :: es) ρ M (fun ds M1 => R ds M1 Φ)) (hg : Gl X x := by rfl)
    (hd : (x == ("__debug__" : Str)) = false := by decide) (hst : starEach (e :: es) X.env = (false, eval e X.env) :: starEach es X.env := by rfl) (hpl : (backTo pos (starEach es X.env)).any (·.1) = false := by rfl) : EW X (.Call (.Name x p) (e :: es) [] pos) ρ M Φ := by
  obtain ⟨f, fd, ps, hm, hk, hb, F⟩ := C.ex
  refine (pe_call F hr hg hm hk hb .nil pass0 h (hdb := hd) (he := hst) (hpl := hpl)).mono fun σ H Q ⟨G, sa, k⟩ => ⟨G, sa, fun vs G1 H1 ds M1 hp g1 sh1 r1 => ?_⟩
  show spW X.K R (vs ++ []) H1 Q E0
  rw [List.append_nil]
  exact ⟨G1, ds, M1, Φ, sh1, r1, hp, fun v G' H' d M' q g sh r => k v G' H' d M' q (g1.trans g) sh r⟩
theorem ew_callN {k : Nat} {x : Str} {Pr : List D → Mem → List D → Mem → Prop} {p : Pos} (C : Cal X.prog X.w X.K X.mg X.base k x (spN X.K Pr)) (hr : Room k X.A) (h : AW X (e :: es) ρ M (fun ds M1 => ∃ es' M2, Pr ds M1 es' M2 ∧ ∀ q, M2 q = none → Φ (dP q) (M2.set q (.lst es')))) (hg : Gl X x := by rfl)
    (hd : (x == ("__debug__" : Str)) = false := by decide) (hst : starEach (e :: es) X.env = (false, eval e X.env) :: starEach es X.env := by rfl) (hpl : (backTo pos (starEach es X.env)).any (·.1) = false := by rfl) : EW X (.Call (.Name x p) (e :: es) [] pos) ρ M Φ := by
  obtain ⟨f, fd, ps, hm, hk, hb, F⟩ := C.ex
  refine (pe_call F hr hg hm hk hb .nil pass0 h (hdb := hd) (he := hst) (hpl := hpl)).mono fun σ H Q ⟨G, sa, k⟩ => ⟨G, sa, fun vs G1 H1 ds M1 ⟨es', M2, hp, q⟩ g1 sh1 r1 => ?_⟩
  show spN X.K Pr (vs ++ []) H1 Q E0
  rw [List.append_nil]
  exact ⟨G1, ds, M1, es', M2, sh1, r1, hp, fun p G' H' g mp sh => k _ G' H' _ _ (q p mp) (g1.trans g) sh (.val _)⟩
/-- a new list that is going to be changed -/
theorem ew_lstN (h : AW X es ρ M (fun ds M1 => ds.length ≤ sizeLine ∧ ∀ p, M1 p = none → Φ (dP p) (M1.set p (.lst ds)))) : EW X (.List es pos) ρ M Φ :=
  (pe_lst h).mono fun σ H Q ⟨G, sa, k⟩ => ⟨G, sa, fun vs G1 H1 ds M1 ⟨hl, q⟩ g1 sh1 r1 => ⟨by rw [r1.len]; exact hl, fun p hp => by
    obtain ⟨sh2, mp, gp⟩ := sh1.newM hp r1
    exact k _ _ _ _ _ (q p mp) g1 sh2 (.val _)⟩⟩
/-! built-ins -/
theorem aw_one (h : EW X e ρ M (fun d M1 => ΦA [d] M1)) (hs : starEach [e] X.env = (false, eval e X.env) :: starEach [] X.env := by rfl) : AW X [e] ρ M ΦA := aw_cons (ew_to h fun _ _ q => aw_nil q) hs
theorem ew_intI {p : Pos} (hm : X.mg "int" = none) (h : EW X e ρ M (fun d M1 => ∃ i, d = dI i ∧ Φ (dI i) M1)) (hg : Gl X "int" := by rfl) (hst : starEach [e] X.env = [(false, eval e X.env)] := by rfl) : EW X (.Call (.Name "int" p) [e] [] pos) ρ M Φ :=
  (pe_callTy call_int1 hg hm (by decide +kernel) (aw_one (ΦA := fun ds M1 => ∃ i, ds = [dI i] ∧ Φ (dI i) M1) (ew_to h fun d M1 ⟨i, e, q⟩ => ⟨i, by rw [e], q⟩) hst) (he := hst)).mono fun σ H Q ⟨G, sa, k⟩ => ⟨G, sa, fun vs G1 H1 ds M1 ⟨i, e, q⟩ g1 sh1 r1 => by
    subst e
    rw [RepL.of_vals (xs := [.int i]) r1]
    exact .inl ⟨i, rfl, k _ G1 H1 _ M1 q g1 sh1 (.val _)⟩⟩
theorem ew_lenQ {p : Pos} (hm : X.mg "len" = none) (h : EW X e ρ M (fun d M1 => ∃ q ds, d = sq q ds ∧ Φ (dI ds.length) M1)) (hg : Gl X "len" := by rfl) (hst : starEach [e] X.env = [(false, eval e X.env)] := by rfl) : EW X (.Call (.Name "len" p) [e] [] pos) ρ M Φ :=
  (pe_callB call_len_seq hg hm PySem.boot_len (aw_one (ΦA := fun ds M1 => ∃ q es, ds = [sq q es] ∧ Φ (dI es.length) M1) (ew_to h fun d M1 ⟨i, es, e, q⟩ => ⟨i, es, by rw [e], q⟩) hst) (he := hst)).mono fun σ H Q ⟨G, sa, k⟩ => ⟨G, sa, fun vs G1 H1 ds M1 ⟨q, es, e, p⟩ g1 sh1 r1 => by
    subst e
    cases r1 with
    | cons h t =>
      cases t
      cases q with
      | true =>
        cases (show Rep X.K G1 _ (.lst es) from h) with
        | lst q r => exact ⟨_, _, rfl, .inl (sqlUp sh1.le q), by rw [r.len]; exact k _ G1 H1 _ M1 p g1 sh1 (.val _)⟩
      | false =>
        cases (show Rep X.K G1 _ (.tup es) from h) with
        | tup q r => exact ⟨_, _, rfl, .inr (sqtUp sh1.le q), by rw [r.len]; exact k _ G1 H1 _ M1 p g1 sh1 (.val _)⟩⟩
theorem ew_tupOf {p : Pos} (hm : X.mg "tuple" = none) (h : EW X e ρ M (fun d M1 => ∃ q ds, d = sq q ds ∧ Φ (.tup ds) M1)) (hg : Gl X "tuple" := by rfl) (hst : starEach [e] X.env = [(false, eval e X.env)] := by rfl) : EW X (.Call (.Name "tuple" p) [e] [] pos) ρ M Φ :=
  (pe_callTy call_tuple_of hg hm boot_tuple (aw_one (ΦA := fun ds M1 => ∃ q es, ds = [sq q es] ∧ Φ (.tup es) M1) (ew_to h fun d M1 ⟨i, es, e, q⟩ => ⟨i, es, by rw [e], q⟩) hst) (he := hst)).mono fun σ H Q ⟨G, sa, k⟩ => ⟨G, sa, fun vs' G1 H1 ds M1 ⟨b, es, e, p⟩ g1 sh1 r1 => by
    subst e
    cases r1 with
    | cons h t =>
      cases t
      cases b with
      | true =>
        cases (show Rep X.K G1 _ (.lst es) from h) with
        | lst q r => exact ⟨_, _, rfl, .inl ⟨sqlUp sh1.le q, fun l hl => by
            obtain ⟨sh2, g2⟩ := sh1.new (o := .tup _) hl
            exact k _ _ _ _ M1 p (g1.trans g2) sh2 (.tup (.inl (.inl upd_same)) (r.up g2))⟩⟩
      | false =>
        cases (show Rep X.K G1 _ (.tup es) from h) with
        | tup q r => exact ⟨_, _, rfl, .inr ⟨sqtUp sh1.le q, k _ G1 H1 _ M1 p g1 sh1 (.tup q r)⟩⟩⟩
theorem ew_listL {p : Pos} (hm : X.mg "list" = none) (h : EW X e ρ M (fun d M1 => ∃ q ds, d = sq q ds ∧ Φ (.lst ds) M1)) (hg : Gl X "list" := by rfl) (hst : starEach [e] X.env = [(false, eval e X.env)] := by rfl) : EW X (.Call (.Name "list" p) [e] [] pos) ρ M Φ :=
  (pe_callTy call_list_of hg hm boot_list (aw_one (ΦA := fun ds M1 => ∃ q es, ds = [sq q es] ∧ Φ (.lst es) M1) (ew_to h fun d M1 ⟨i, es, e, q⟩ => ⟨i, es, by rw [e], q⟩) hst) (he := hst)).mono fun σ H Q ⟨G, sa, k⟩ => ⟨G, sa, fun vs' G1 H1 ds M1 ⟨b, es, e, p⟩ g1 sh1 r1 => by
    subst e
    cases r1 with
    | cons h t =>
      cases t
      cases b with
      | true =>
        cases (show Rep X.K G1 _ (.lst es) from h) with
        | lst q r => exact ⟨_, _, rfl, .inl (sqlUp sh1.le q), fun l hl => by
            obtain ⟨sh2, g2⟩ := sh1.new (o := .lst _) hl
            exact k _ _ _ _ M1 p (g1.trans g2) sh2 (.lst (.inl (.inl upd_same)) (r.up g2))⟩
      | false =>
        cases (show Rep X.K G1 _ (.tup es) from h) with
        | tup q r => exact ⟨_, _, rfl, .inr (sqtUp sh1.le q), fun l hl => by
            obtain ⟨sh2, g2⟩ := sh1.new (o := .lst _) hl
            exact k _ _ _ _ M1 p (g1.trans g2) sh2 (.lst (.inl (.inl upd_same)) (r.up g2))⟩⟩
theorem ew_all {p : Pos} (hc : X.calm = true) (hm : X.mg "all" = none) (h : EW X e ρ M (fun d M1 => ∃ bs : List Bool, d = .lst (bs.map dB) ∧ Φ (dB (bs.all id)) M1)) (hg : Gl X "all" := by rfl) (hst : starEach [e] X.env = [(false, eval e X.env)] := by rfl) : EW X (.Call (.Name "all" p) [e] [] pos) ρ M Φ :=
  (pe_callB (cr_all hc) hg hm boot_all (aw_one (ΦA := fun ds M1 => ∃ bs : List Bool, ds = [.lst (bs.map dB)] ∧ Φ (dB (bs.all id)) M1) (ew_to h fun d M1 ⟨bs, e, q⟩ => ⟨bs, by rw [e], q⟩) hst) (he := hst)).mono fun σ H Q ⟨G, sa, k⟩ => ⟨G, sa, fun vs' G1 H1 ds M1 ⟨bs, e, p⟩ g1 sh1 r1 => by
    subst e
    cases r1 with
    | cons h t =>
      cases t
      cases h with
      | lst q r =>
        have e : bs.map dB = (bs.map V.bl).map D.val := by rw [List.map_map] <;> rfl
        rw [e] at r
        rw [RepL.of_vals r] at q
        exact ⟨_, bs, rfl, sqlUp sh1.le q, k _ G1 H1 _ M1 p g1 sh1 (.val _)⟩⟩
end
end Vt
namespace Vt
open PySem PySem.Spec PyProof.Rows L2
/-! statements -/
section
variable {X : Cx} {ρ ρ' : Sl} {M M1 M2 M3 : Mem} {a b c e : Expr} {es : List Expr} {d d1 d2 : D} {ds : List D} {pos : Pos} {Ψ : Out → Prop} {Φ : D → Mem → Prop} {g : TG}
theorem sw_set (i : Nat) {x : Str} {pos' : Pos} (hN : X.N.Nodup) (he : EW X e ρ M (fun d M1 => Ψ (.nx (ρ.set i (some d)) M1))) (hi : X.N[i]? = some x := by rfl) (hx : L2.Loc X.env.scope x := by first | exact Or.inl rfl | exact Or.inr rfl) (hs : swapsWith e (some (.Name x pos')) pos.line X.env = pure false := by rfl)
    (hf : X.fn x = true ∨ X.env.scope.names.lookup x = some .local := by first | exact .inl rfl | exact .inr rfl) : SV X (.Assign [.Name x pos'] e pos) ρ M Ψ := sv_setW i hN he (fun _ _ h => h) hi hx hs hf
theorem sw_ret (he : EW X e ρ M (fun d M1 => Ψ (.ret d M1))) : SV X (.Return (some e) pos) ρ M Ψ := sv_retW he fun _ _ h => h
theorem sw_expr (h : EW X e ρ M (fun _ M1 => Ψ (.nx ρ M1))) (hs : swapsWith e none pos.line X.env = pure false := by rfl) : SV X (.Expr e pos) ρ M Ψ :=
  (ps_expr h hs).mono fun E σ H ⟨G, sa, k⟩ => ⟨G, sa, fun v G1 H1 d M1 q g1 sh1 r1 => k _ q σ G1 H1 g1 ⟨sh1, sa.sl.up g1⟩⟩
theorem sw_if {as bs : List Stmt} (hc : TW X c ρ M (fun p M1 => (p = true → BV X as ρ M1 Ψ) ∧ (p = false → BV X bs ρ M1 Ψ))) : SV X (.If c as bs pos) ρ M Ψ :=
  (ps_if hc pk_b pk_b).mono fun E σ H ⟨G, sa, k⟩ => ⟨G, sa, fun p G1 H1 M1 ⟨h1, h2⟩ g1 sh1 => by
    cases p with
    | true => exact (⟨M1, h1 rfl, G1, ⟨sh1, sa.sl.up g1⟩, fun o ho => (k o ho).up g1⟩ : pkB X as ρ Ψ E σ H1)
    | false => exact (⟨M1, h2 rfl, G1, ⟨sh1, sa.sl.up g1⟩, fun o ho => (k o ho).up g1⟩ : pkB X bs ρ Ψ E σ H1)⟩
theorem sw_asg {tg : Expr} (hg : PG X tg g) (he : EW X e ρ M (fun d M1 => ∃ ρ', TG1 X.K g ρ d ρ' ∧ Ψ (.nx ρ' M1))) (hs : swapsWithSole [tg] e pos.line X.env = pure false := by rfl) (hw : swappedStores [tg] e X.env = pure none := by rfl)
    (h1 : (assignEach [tg] X.env).map (·.2) = [assign tg X.env] := by rfl) : SV X (.Assign [tg] e pos) ρ M Ψ := sv_asgW he hg (fun _ _ h => h) hs hw h1
/-- xs.append(e), xs a list of the memory -/
theorem sw_append {p : Addr} {ap cp : Pos} (ho : EV X a ρ M (dP p) M1) (hm1 : ∃ es, M1 p = some (.lst es)) (ha : EW X e ρ M1 (fun d M2 => ∃ ds, M2 p = some (.lst ds) ∧ ds.length < sizeLine ∧ Ψ (.nx ρ (M2.set p (.lst (ds ++ [d]))))))
    (h1 : attributeBase a "append" X.env (eval a X.env) = eval a X.env := by rfl) (h3 : (ap.endLine == cp.line) = true := by decide) (h4 : starEach [e] X.env = (false, eval e X.env) :: starEach [] X.env := by rfl)
    (h2 : (((((backTo cp (starEach [e] X.env)).all fun x => !x.fst) && (backToKw cp (keywordEach [] X.env)).all fun x => x.fst.isSome) && decide (([e].length + ([] : List Keyword).length + if ([] : List Keyword).isEmpty = true then 0 else 1) < 30)) = true) := by rfl)
    (h5 : (((backTo cp (starEach [] X.env)).any fun x => x.fst) = false) := by rfl)
    (hs : swapsWith (.Call (.Attribute a "append" ap) [e] [] cp) none pos.line X.env = pure false := by rfl) : SV X (.Expr (.Call (.Attribute a "append" ap) [e] [] cp) pos) ρ M Ψ :=
  (ps_expr (pe_bm PySem.F.plainAttrs_list PySem.F.slot_list_append PySem.F.type_list_append mt_append ho (aw_one (ΦA := fun ds' M2 => ∃ d ds, ds' = [d] ∧ M2 p = some (.lst ds) ∧ ds.length < sizeLine ∧ Ψ (.nx ρ (M2.set p (.lst (ds ++ [d]))))) (ew_to ha fun d M2 ⟨ds, q1, q2, q3⟩ => ⟨d, ds, rfl, q1, q2, q3⟩) h4) h1 h2 h3 h4 h5) hs).mono fun E σ H ⟨G, sa, k⟩ => ⟨G, sa, fun v1 G1 H1 g1 sh1 r1 => by
    obtain ⟨es, hes⟩ := hm1
    obtain ⟨_, vs1, hv1, _⟩ := sh1.mem p _ hes
    rw [r1.of_val]
    refine ⟨.inl ⟨rfl, _, .inl (.inl hv1)⟩, G1, ⟨sh1, sa.sl.up g1⟩, fun vs G2 H2 ds' M2 ⟨d, ds, e, hm, hl, hΨ⟩ g2 sh2 r2 => ?_⟩
    subst e
    cases r2 with
    | cons r2 t =>
      cases t
      obtain ⟨_, vs2, hv2, rl⟩ := sh2.mem p _ hm
      exact ⟨p, vs2, _, rfl, rfl, hv2, by rw [rl.len]; exact hl, k _ hΨ σ G2 _ (g1.trans g2) ⟨sh2.put hm (rl.append (.cons r2 .nil)), (sa.sl.up g1).up g2⟩⟩⟩
/-! what is walked -/
/-- what is walked may make new items -/
def JW2 (K : PySem.W.Frag) (J : It) (G : Hp) (ds : List D) : Prop := ∀ (i : Nat) H, Same G H → (∀ d, ds[i]? = some d → J.go i H ∧ ∀ x H', J.yld i H x H' → ∀ G2 M, Same G G2 → SH K G2 H M → ∃ G3, Same G2 G3 ∧ SH K G3 H' M ∧ Rep K G3 x d) ∧ (ds.length ≤ i → J.stop i H)
theorem JW.two {K : PySem.W.Frag} {J : It} {G : Hp} {ds : List D} (h : JW K J G ds) : JW2 K J G ds := fun i H e => ⟨fun d hd => ⟨((h i H e).1 d hd).1, fun x H' y G2 M g2 sh => by
  obtain ⟨e2, r⟩ := ((h i H e).1 d hd).2 x H' y
  subst e2
  exact ⟨G2, Same.refl _, sh, r.up g2⟩⟩, (h i H e).2⟩
def tIW (K : PySem.W.Frag) (ρ : Sl) (M : Mem) (Φ : List D → Mem → Prop) : TI := fun σ H R => ∃ G, SA K G H σ ρ M ∧ ∀ J G' H' ds M1, Φ ds M1 → Same G G' → SH K G' H' M1 → JW2 K J G' ds → R J H'
abbrev IW (X : Cx) (tg iter : Expr) (ρ : Sl) (M : Mem) (Φ : List D → Mem → Prop) : Prop := PI X tg iter (tIW X.K ρ M Φ)
variable {tg iter : Expr} {ΦI : List D → Mem → Prop}
theorem iw_iv (h : IV X tg iter ρ M ds M1) (q : ΦI ds M1) : IW X tg iter ρ M ΦI := h.mono fun σ H R ⟨G, sa, k⟩ => ⟨G, sa, fun J G1 H1 g1 sh1 jw => k J G1 H1 ds M1 q g1 sh1 jw.two⟩
theorem iw_list (h : EW X e ρ M (fun d M1 => ∃ ds, d = .lst ds ∧ ΦI ds M1)) : IW X tg e ρ M ΦI :=
  (pi_list h).mono fun σ H R ⟨G, sa, k⟩ => ⟨G, sa, fun v G1 H1 d M1 ⟨ds, e, p⟩ g1 sh1 r1 => by
    subst e
    cases r1 with
    | lst q r => exact ⟨_, rfl, ⟨_, sqlUp sh1.le q⟩, k _ G1 H1 _ M1 p g1 sh1 (JW.list q r).two⟩⟩
theorem iw_tup (h : EW X e ρ M (fun d M1 => ∃ ds, d = .tup ds ∧ ΦI ds M1)) : IW X tg e ρ M ΦI :=
  (pi_tup h).mono fun σ H R ⟨G, sa, k⟩ => ⟨G, sa, fun v G1 H1 d M1 ⟨ds, e, p⟩ g1 sh1 r1 => by
    subst e
    cases r1 with
    | tup q r => exact ⟨_, rfl, ⟨_, sqtUp sh1.le q⟩, k _ G1 H1 _ M1 p g1 sh1 (JW.tup q r).two⟩⟩
theorem iw_range1 {p : Pos} (hm : X.mg "range" = none) (h : EW X e ρ M (fun d M1 => ∃ j : Int, d = dI j ∧ (-(2 ^ 62) ≤ j ∧ j < 2 ^ 62) ∧ ΦI (rgD 0 j.toNat) M1)) (hg : Gl X "range" := by rfl) (hst : starEach [e] X.env = [(false, eval e X.env)] := by rfl) : IW X tg (.Call (.Name "range" p) [e] [] pos) ρ M ΦI :=
  (pi_range1 hg hm (aw_one (ΦA := fun ds M1 => ∃ j : Int, ds = [dI j] ∧ (-(2 ^ 62) ≤ j ∧ j < 2 ^ 62) ∧ ΦI (rgD 0 j.toNat) M1) (ew_to h fun d M1 ⟨j, e, q1, q2⟩ => ⟨j, by rw [e], q1, q2⟩) hst) hst).mono fun σ H R ⟨G, sa, k⟩ => ⟨G, sa, fun vs G1 H1 ds M1 ⟨j, e, hj, q⟩ g1 sh1 r1 => by
    subst e
    rw [RepL.of_vals (xs := [.int j]) r1]
    exact ⟨j, rfl, hj.1, hj.2, k _ G1 H1 _ M1 q g1 sh1 JW.range.two⟩⟩
/-- for: Iv i is what holds ahead of turn i -/
theorem sw_for {body : List Stmt} (hc : X.calm = true) (hg : PG X tg g)
    (hi : IW X tg iter ρ M (fun ds M1 => ∃ Iv : Nat → Sl → Mem → Prop, Iv 0 ρ M1 ∧ (∀ i d ρ' M', ds[i]? = some d → Iv i ρ' M' → ∃ ρ'', TG1 X.K g ρ' d ρ'' ∧ BV X body ρ'' M' (loopR Iv Ψ i)) ∧ ∀ ρ' M', Iv ds.length ρ' M' → Ψ (.nx ρ' M')))
    (hp : PassesOwn (model X.prog X.w) X.A X.env X.xe := by exact PassesOwn.never) (hs : ∀ x, foldedSetIterable iter X.env x = pure x := by intro _; rfl) : SV X (.For tg iter body [] pos) ρ M Ψ := by
  refine (ps_for (tb := fun E σ H => ∃ ρ M Ψ', BV X body ρ M Ψ' ∧ tS X.K ρ M Ψ' E σ H) hp hc hi hg ⟨fun pins s σ H E I ⟨ρ', M', Ψ', hb, q⟩ => hb.run pins s σ H E I q⟩ hs).mono fun E σ H ⟨G, sa, k⟩ => ⟨G, sa, fun J G1 H1 ds M1 ⟨Iv, iv0, step, done⟩ g1 sh1 jw => ?_⟩
  refine ⟨fun i m σ H => m = ds.length - i ∧ i ≤ ds.length ∧ ∃ G ρ M, Same G1 G ∧ SA X.K G H σ ρ M ∧ Iv i ρ M, ⟨ds.length, by simp, Nat.zero_le _, G1, ρ, M1, Same.refl _, ⟨sh1, sa.sl.up g1⟩, iv0⟩, ?_⟩
  rintro i m σ2 H2 ⟨rfl, hi, G2, ρ2, M2, g2, sa2, iv⟩
  obtain ⟨j1, j2⟩ := jw i H2 (g2.trans sa2.sh.le)
  by_cases hlt : i < ds.length
  · have hd : ds[i]? = some ds[i] := List.getElem?_eq_getElem hlt
    obtain ⟨go, yl⟩ := j1 _ hd
    refine .inr ⟨go, fun σ3 H3 => ∃ G ρ M, Same G1 G ∧ SA X.K G H3 σ3 ρ M ∧ Iv (i + 1) ρ M, fun σ' H' p' => ⟨ds.length - (i + 1), by omega, rfl, hlt, p'⟩, fun x H' y => ?_⟩
    obtain ⟨G3, g3, sh3, rx⟩ := yl x H' y G2 M2 g2 sa2.sh
    have g2 := g2.trans g3
    obtain ⟨ρ3, tg3, bv⟩ := step i _ ρ2 M2 hd iv
    refine tg3 x σ2 G3 H' _ sh3.le (sa2.sl.up g3) rx fun σ3 rs3 => ⟨ρ3, M2, _, bv, G3, ⟨sh3, rs3⟩, fun o ho => ?_⟩
    cases o with
    | nx ρ4 M4 => exact fun σ4 G4 H4 g4 sa4 => ⟨G4, ρ4, M4, g2.trans g4, sa4, ho⟩
    | ct ρ4 M4 => exact fun σ4 G4 H4 g4 sa4 => ⟨G4, ρ4, M4, g2.trans g4, sa4, ho⟩
    | bk ρ4 M4 => exact fun σ4 G4 H4 g4 sa4 => k _ ho σ4 G4 H4 ((g1.trans g2).trans g4) sa4
    | ret d4 M4 => exact fun v G4 H4 g4 sh4 r4 => k _ ho v G4 H4 ((g1.trans g2).trans g4) sh4 r4
  · have e : i = ds.length := by omega
    subst e
    exact .inl ⟨j2 (Nat.le_refl _), k _ (done ρ2 M2 iv) σ2 G2 H2 (g1.trans g2) sa2⟩
/-- [e for x in ..]: Iv i acc is what holds of the memory ahead of turn i (without the list that is being made) -/
def LcI (X : Cx) (g : TG) (own : List (Str × Nat)) (scope : Scope) (elt : Expr) (ρ : Sl) (Φ : D → Mem → Prop) (ds : List D) (M1 : Mem) : Prop :=
  ds.length ≤ sizeLine ∧ ∃ Iv : Nat → List D → Mem → Prop, Iv 0 [] M1 ∧
    (∀ i d acc M, ds[i]? = some d → acc.length = i → Iv i acc M → ∃ ρ', TGb X.K g (own.map (·.2)) (wipeD ρ (own.map (·.2))) d ρ' ∧ ∀ (p : Addr), M p = none → ∀ (s : Shared) (H : Hp) (C : Addr) (cl : List (Str × Addr)) (fp : List Addr),
      EW (X.blk s H scope (compEnvC scope cl C X.env) fp) elt ρ' (M.set p (.lst acc)) (fun d' M' => ∃ M2, M' = M2.set p (.lst acc) ∧ M2 p = none ∧ Iv (i + 1) (acc ++ [d']) M2)) ∧
    ∀ acc M, acc.length = ds.length → Iv ds.length acc M → Φ (.lst acc) M
theorem lcw_read {elt : Expr} {scope : Scope} {own : List (Str × Nat)} (σ : L2.St) (H : Hp) (Q : VK) (hΦ : ∃ G, SA X.K G H σ ρ M ∧ ∀ v G' H' d M', Φ d M' → Same G G' → SH X.K G' H' M' → Rep X.K G' v d → Q v H') :
    tLc (tIW X.K ρ M (LcI X g own scope elt ρ Φ)) g tYes (fun σ H Q => ∃ ρ' M' Φ', (∀ (s : Shared) (H : Hp) (C : Addr) (cl : List (Str × Addr)) (fp : List Addr), EW (X.blk s H scope (compEnvC scope cl C X.env) fp) elt ρ' M' Φ') ∧ tW X.K ρ' M' Φ' σ H Q) (own.map (·.2)) σ H Q := by
  obtain ⟨G, sa, k⟩ := hΦ
  refine ⟨G, sa, fun J G1 H1 ds M1 ⟨hlen, Iv, h0, step, done⟩ g1 sh1 jw => fun p hp => ?_⟩
  obtain ⟨shp, mp, gp⟩ := sh1.newM hp (RepL.nil (K := X.K) (G := G1))
  refine ⟨fun i mm H => mm = ds.length - i ∧ i ≤ ds.length ∧ ∃ G acc M, Same G1 G ∧ acc.length = i ∧ M p = none ∧ Iv i acc M ∧ SH X.K G H (M.set p (.lst acc)), ⟨ds.length, by simp, Nat.zero_le _, G1, [], M1, Same.refl _, rfl, mp, h0, shp⟩, ?_⟩
  rintro i mm H2 ⟨rfl, hi, G2, acc, M2, g2, hacc, hmp, iv, sh2⟩
  obtain ⟨j1, j2⟩ := jw i H2 (g2.trans sh2.le)
  by_cases hlt : i < ds.length
  · have hd : ds[i]? = some ds[i] := List.getElem?_eq_getElem hlt
    obtain ⟨go, yl⟩ := j1 _ hd
    refine .inr ⟨go, fun H3 => ∃ G acc M, Same G1 G ∧ acc.length = i + 1 ∧ M p = none ∧ Iv (i + 1) acc M ∧ SH X.K G H3 (M.set p (.lst acc)), fun H' p' => ⟨ds.length - (i + 1), by omega, rfl, hlt, p'⟩, fun x H' y => ?_⟩
    obtain ⟨G3, g3, sh3, rx⟩ := yl x H' y G2 _ g2 sh2
    have g2 := g2.trans g3
    obtain ⟨ρ3, tg3, ev⟩ := step i _ acc M2 hd hacc iv
    refine tg3 x σ G3 H' _ sh3.le (wipe_rep ((sa.sl.up g1).up g2) _) rx fun σ3 rs3 hw => ⟨hw, ?_⟩
    show ∃ ρ' M' Φ', _ ∧ tW X.K ρ' M' Φ' σ3 H' _
    refine ⟨ρ3, _, _, ev p hmp, G3, ⟨sh3, rs3⟩, fun v G4 H4 d4 M4 ⟨M5, e5, n5, iv5⟩ g4 sh4 r4 => ?_⟩
    subst e5
    obtain ⟨_, vs, hv, rl⟩ := sh4.mem p _ Mem.set_same
    refine ⟨vs, hv, ?_, G4, acc ++ [d4], M5, g2.trans g4, by rw [List.length_append, hacc]; rfl, n5, iv5, ?_⟩
    · rw [rl.len, hacc]
      exact Nat.lt_of_lt_of_le hlt hlen
    · have q := sh4.put (ds := acc ++ [d4]) Mem.set_same (rl.append (.cons r4 .nil))
      rw [Mem.set_set] at q
      exact q
  · have e : i = ds.length := by omega
    subst e
    obtain ⟨vs, sh3, g3, rl⟩ := sh2.freeze hmp
    exact .inl ⟨j2 (Nat.le_refl _), k _ _ H2 _ M2 (done acc M2 hacc iv) ((g1.trans g2).trans g3) sh3 (.lst (.inl (.inl upd_same)) (rl.up g3))⟩
theorem ew_lc {elt : Expr} {scope : Scope} {own : List (Str × Nat)} (hc : X.calm = true) (hN : X.N.Nodup) (ok : BlkOk X.N X.env.scope scope own)
    (hg : ∀ (s : Shared) (H : Hp) (C : Addr) (cl : List (Str × Addr)) (fp : List Addr), PG (X.blk s H scope (compEnvC scope cl C X.env) fp) tg g) (hi : IW X tg iter ρ M (LcI X g own scope elt ρ Φ))
    (hs : ∀ x, foldedSetIterable iter X.env x = pure x := by intro _; rfl) : EW X (.ListComp elt [⟨tg, iter, [], 0⟩] scope pos) ρ M Φ :=
  (pe_lc hc hN hi ok hg (fun _ _ _ _ _ => pts_nil) (fun s H C cl fp => ⟨fun pins s' σ H' Q I ⟨ρ', M', Φ', hb, q⟩ => (hb s H C cl fp).run pins s' σ H' Q I q⟩) hs).mono fun σ H Q h => lcw_read σ H Q h
theorem sw_setLc (i : Nat) {y : Str} {py : Pos} {elt : Expr} {scope : Scope} {own : List (Str × Nat)} {spos : Pos} (hc : X.calm = true) (hN : X.N.Nodup) (ok : BlkOk X.N X.env.scope scope own)
    (hg : ∀ (s : Shared) (H : Hp) (C : Addr) (cl : List (Str × Addr)) (fp : List Addr), PG (X.blk s H scope (compEnvC scope cl C X.env) fp) tg g) (hi : IW X tg iter ρ M (LcI X g own scope elt ρ (fun d M1 => Ψ (.nx (ρ.set i (some d)) M1))))
    (hw : swapsWith (.ListComp elt [⟨tg, iter, [], 0⟩] scope pos) (some (.Name y py)) spos.line X.env = pure true := by rfl) (hy : X.N[i]? = some y := by rfl) (hl : X.env.scope.names.lookup y = some .local := by rfl)
    (hs : ∀ x, foldedSetIterable iter X.env x = pure x := by intro _; rfl) : SV X (.Assign [.Name y py] (.ListComp elt [⟨tg, iter, [], 0⟩] scope pos) spos) ρ M Ψ :=
  (ps_setLc hc hN hy hl hw hi ok hg (fun _ _ _ _ _ => pts_nil) (fun s H C cl fp => ⟨fun pins s' σ H' Q I ⟨ρ', M', Φ', hb, q⟩ => (hb s H C cl fp).run pins s' σ H' Q I q⟩) hs).mono fun E σ H ⟨G, sa, k⟩ =>
    lcw_read (Φ := fun d M1 => Ψ (.nx (ρ.set i (some d)) M1)) σ H _ ⟨G, sa, fun v G1 H1 d M1 q g1 sh1 r1 => k _ q _ G1 H1 g1 ⟨sh1, (sa.sl.up g1).set i r1⟩⟩
end
end Vt
namespace Vt
open PySem PySem.Spec PyProof.Rows L2
section
variable {X : Cx} {ρ : Sl} {M M1 : Mem} {a b c e : Expr} {pos : Pos} {Ψ : Out → Prop}
/-- x, y = a, b -/
theorem sw_par (i j : Nat) {x y : Str} {px py pt pt2 : Pos} {kt k2} (hc : X.calm = true) (hN : X.N.Nodup) (h : AW X [a, b] ρ M (fun ds M1 => ∃ d1 d2, ds = [d1, d2] ∧ Ψ (.nx ((ρ.set i (some d1)).set j (some d2)) M1)))
    (hij : i ≠ j := by decide) (hi : X.N[i]? = some x := by rfl) (hj : X.N[j]? = some y := by rfl) (hx : X.env.scope.names.lookup x = some .local := by rfl) (hy : X.env.scope.names.lookup y = some .local := by rfl)
    (hw : swappedStores [.Tuple [.Name x px, .Name y py] kt pt] (.Tuple [a, b] k2 pt2) X.env = pure (some [x, y]) := by rfl) : SV X (.Assign [.Tuple [.Name x px, .Name y py] kt pt] (.Tuple [a, b] k2 pt2) pos) ρ M Ψ :=
  (ps_par hc hN hi hj hij hx hy h hw).mono fun E σ H ⟨G, sa, k⟩ => ⟨G, sa, fun vs G1 H1 ds M1 ⟨d1, d2, e, q⟩ g1 sh1 r1 => by
    subst e
    match vs, r1 with
    | [v1, v2], .cons r1 (.cons r2 .nil) => exact ⟨v1, v2, rfl, k _ q _ G1 H1 g1 ⟨sh1, ((sa.sl.up g1).set i r1).set j r2⟩⟩⟩
theorem sw_par3 (i j l : Nat) {x y z : Str} {px py pz pt pt2 : Pos} {kt k2} (hc : X.calm = true) (hN : X.N.Nodup) (h : AW X [a, b, c] ρ M (fun ds M1 => ∃ d1 d2 d3, ds = [d1, d2, d3] ∧ Ψ (.nx (((ρ.set i (some d1)).set j (some d2)).set l (some d3)) M1)))
    (hij : i ≠ j := by decide) (hil : i ≠ l := by decide) (hjl : j ≠ l := by decide) (hi : X.N[i]? = some x := by rfl) (hj : X.N[j]? = some y := by rfl) (hl : X.N[l]? = some z := by rfl) (hx : X.env.scope.names.lookup x = some .local := by rfl) (hy : X.env.scope.names.lookup y = some .local := by rfl) (hz : X.env.scope.names.lookup z = some .local := by rfl)
    (hw : swappedStores [.Tuple [.Name x px, .Name y py, .Name z pz] kt pt] (.Tuple [a, b, c] k2 pt2) X.env = pure (some [x, y, z]) := by rfl) : SV X (.Assign [.Tuple [.Name x px, .Name y py, .Name z pz] kt pt] (.Tuple [a, b, c] k2 pt2) pos) ρ M Ψ :=
  (ps_par3 hc hN hi hj hl hij hil hjl hx hy hz h hw).mono fun E σ H ⟨G, sa, k⟩ => ⟨G, sa, fun vs G1 H1 ds M1 ⟨d1, d2, d3, e, q⟩ g1 sh1 r1 => by
    subst e
    match vs, r1 with
    | [v1, v2, v3], .cons r1 (.cons r2 (.cons r3 .nil)) => exact ⟨v1, v2, v3, rfl, k _ q _ G1 H1 g1 ⟨sh1, (((sa.sl.up g1).set i r1).set j r2).set l r3⟩⟩⟩
end
end Vt
namespace Vt
open PySem PySem.Spec PyProof.Rows L2
/-! targets and walks over tuples or lists -/
def gSq (K : PySem.W.Frag) (b : Bool) (n : Nat) (t : TGs) : TG := if b = true then gUnl K n t else gTup K n t
section
variable {X : Cx} {K : PySem.W.Frag} {ρ ρ' ρ'' : Sl} {M M1 : Mem} {e : Expr} {es : List Expr} {d : D} {ds : List D} {pos : Pos} {g : TG} {gs : TGs} {tg : Expr}
theorem pg_sq (b : Bool) {k n : Nat} (hc : X.calm = true) (h : PGs X es gs) (hn : (assignEach es X.env).length = n := by rfl) (hst : (assignEach es X.env).findIdx? (·.1) = none := by rfl) : PG X (.Tuple es k pos) (gSq X.K b n gs) := by
  cases b with
  | true => exact pg_unl hc h hn hst
  | false => exact pg_tup hc h hn hst
theorem tg_sq {b : Bool} {n : Nat} (h : TG2 K gs ρ ds ρ') (hl : ds.length = n := by rfl) : TG1 K (gSq K b n gs) ρ (sq b ds) ρ' := by
  cases b with
  | true => exact tg_lst h hl
  | false => exact tg_tup h hl
theorem iv_sq {b : Bool} (h : EV X e ρ M (sq b ds) M1) : IV X tg e ρ M ds M1 := by
  cases b with
  | true => exact iv_list h
  | false => exact iv_tup h
/-- the same within a comprehension: what is stored in are slots of the block's own, vs -/
def TBs (K : PySem.W.Frag) (gs : TGs) (vs : List Nat) (ρ : Sl) (ds : List D) (ρ' : Sl) : Prop := ∀ xs σ0 σ G H Q, Same G H → RepS K G σ ρ → wipe σ vs = wipe σ0 vs → RepL K G xs ds → (∀ σ', RepS K G σ' ρ' → wipe σ' vs = wipe σ0 vs → Q σ' H) → gs xs σ H Q
def TB (K : PySem.W.Frag) (g : TG) (vs : List Nat) (ρ : Sl) (d : D) (ρ' : Sl) : Prop := ∀ x σ0 σ G H Q, Same G H → RepS K G σ ρ → wipe σ vs = wipe σ0 vs → Rep K G x d → (∀ σ', RepS K G σ' ρ' → wipe σ' vs = wipe σ0 vs → Q σ' H) → g x σ H Q
theorem wipe_set {vs : List Nat} {i : Nat} {x : Option V} (hi : i ∈ vs) : ∀ {σ : L2.St}, wipe (σ.set i x) vs = wipe σ vs := by
  induction vs with
  | nil => cases hi
  | cons v vs ih =>
    intro σ
    show (wipe (σ.set i x) vs).set v none = (wipe σ vs).set v none
    by_cases hv : i ∈ vs
    · rw [ih hv]
    · have e : i = v := by
        rcases List.mem_cons.mp hi with e | e
        · exact e
        · exact absurd e hv
      subst e
      have key : ∀ (ws : List Nat), i ∉ ws → ∀ σ : L2.St, wipe (σ.set i x) ws = (wipe σ ws).set i x := by
        intro ws
        induction ws with
        | nil => intro _ σ; rfl
        | cons w ws ihw =>
          intro hw σ
          show (wipe (σ.set i x) ws).set w none = ((wipe σ ws).set w none).set i x
          rw [ihw (fun z => hw (List.mem_cons_of_mem _ z)), List.set_comm _ _ (fun z => hw (by rw [z]; exact List.mem_cons_self))]
      rw [key vs hv, List.set_set]
theorem wipe_wipe {vs : List Nat} : ∀ {σ : L2.St}, wipe (wipe σ vs) vs = wipe σ vs := by
  have key : ∀ (ws vs : List Nat), (∀ v ∈ vs, v ∈ ws) → ∀ σ : L2.St, wipe (wipe σ vs) ws = wipe σ ws := by
    intro ws vs
    induction vs with
    | nil => intro _ σ; rfl
    | cons v vs ih =>
      intro h σ
      show wipe ((wipe σ vs).set v none) ws = _
      rw [wipe_set (h v List.mem_cons_self), ih (fun u hu => h u (List.mem_cons_of_mem _ hu))]
  exact fun {σ} => key vs vs (fun _ h => h) σ
theorem tb_name {vs : List Nat} {i : Nat} (hi : i ∈ vs := by decide) : TB K (gName i) vs ρ d (ρ.set i (some d)) := fun x σ0 σ G H Q e h hw r k => k _ (h.set i r) (by rw [wipe_set hi]; exact hw)
theorem tbs_nil {vs : List Nat} : TBs K gNil vs ρ [] ρ := fun xs σ0 σ G H Q e h hw r k => by
  cases r
  exact ⟨rfl, k σ h hw⟩
theorem tbs_cons {vs : List Nat} (h1 : TB K g vs ρ d ρ') (h2 : TBs K gs vs ρ' ds ρ'') : TBs K (gCons g gs) vs ρ (d :: ds) ρ'' := fun xs σ0 σ G H Q e h hw r k => by
  cases r with
  | cons r t => exact ⟨_, _, rfl, h1 _ σ0 σ G H _ e h hw r fun σ' h' hw' => h2 _ σ0 σ' G H _ e h' hw' t k⟩
theorem tb_tup {vs : List Nat} {n : Nat} (h : TBs K gs vs ρ ds ρ') (hl : ds.length = n := by rfl) : TB K (gTup K n gs) vs ρ (.tup ds) ρ' := fun x σ0 σ G H Q e h0 hw r k => by
  cases r with
  | tup q r => exact ⟨_, _, rfl, sqtUp e q, r.len.trans hl, h _ σ0 σ G H _ e h0 hw r k⟩
theorem tb_sq {vs : List Nat} {b : Bool} {n : Nat} (h : TBs K gs vs ρ ds ρ') (hl : ds.length = n := by rfl) : TB K (gSq K b n gs) vs ρ (sq b ds) ρ' := by
  cases b with
  | false => exact tb_tup h hl
  | true =>
    intro x σ0 σ G H Q e h0 hw r k
    cases (show Rep K G x (.lst ds) from r) with
    | lst q r => exact ⟨_, _, rfl, sqlUp e q, r.len.trans hl, h _ σ0 σ G H _ e h0 hw r k⟩
theorem tgb_of {vs : List Nat} (h : TB K g vs ρ d ρ') : TGb K g vs ρ d ρ' := fun x σ G H Q e hs r k => h x σ (wipe σ vs) G H Q e hs wipe_wipe r k
end
end Vt
namespace Vt
open PySem PySem.Spec PyProof.Rows L2
/-! ### enumerate of a tuple -/
end Vt
namespace VtEnum
open PySem
open PySem.Sem (wp)
open AutoSeq1 (wpAny_loadPart')
/-- what enumerate(t) makes: the walk of t, and the enumeration -/
def walkO (t : Addr) : Obj := { cls := .type "tuple_iterator", data := .fields #[.ref t, .int 0 0] }
def enumO (it : Addr) (i : Int) (old : Value) : Obj := { cls := .type "enumerate", data := .fields #[.none, .bool false, .ref it, rawInt i, .none, old] }
theorem meets_new (t : Addr) (items : Array Value) (n : Nat) (dd : Option Addr) (sl : Array (Option Value)) :
    Meets (Builtin.«enumerate.__new__» ⟨[.type "enumerate", .ref t], []⟩) (fun _ R s => s.heap.get? t = some { cls := .type "tuple", dict := dd, data := .seq items n, slots := sl } ∧
      R (.ok (.ret (.ref (s.heap.push (walkO t)).objs.size))) { s with heap := (s.heap.push (walkO t)).push (enumO s.heap.objs.size 0 .none) }) :=
  .of_wp fun prog w A R s z => by
    obtain ⟨hp, gens, dr, tk, os⟩ := s
    obtain ⟨ht, z⟩ := z
    have sub := sub_enumerate
    have isT : Heap.IsTuple (Shared.heap ⟨hp, gens, dr, tk, os⟩) t items := ⟨_, ht, rfl, n, rfl⟩
    wp_walk using wpAny_loadPart' ht
    refine wpAny_stack_any fun _ => wpAny_pure ?_
    split
    · rename_i c _ _ _ _ _
      cases (c == Value.type "enumerate") <;>
      · wp_walk using wpAny_loadPart' ht, wpAny_pyIter_tuple isT
        exact ⟨_, rfl, z⟩
    · wp_walk using wpAny_loadPart' ht, wpAny_pyIter_tuple isT
      exact ⟨_, rfl, z⟩
section
variable {prog : Program} {w : World} {A : Around} {E : Value → Shared → Prop} {s : Shared}
theorem call_new {t : Addr} {items : Array Value} {Q : Value → Shared → Prop} (isT : s.heap.IsTuple t items)
    (k : ∀ h', IsEnum h' (s.heap.objs.size + 1) s.heap.objs.size 0 .none → h'.IsTupleIter s.heap.objs.size t 0 → (∀ b o, s.heap.get? b = some o → h'.get? b = some o) → Q (.ref (s.heap.objs.size + 1)) { s with heap := h' }) :
    wpAny (model prog w) A (call (.type "enumerate") [.ref t]) Q E s := by
  obtain ⟨⟨c, dct, dt, sl⟩, ht, hc, n, hd⟩ := isT
  have hc : c = .type "tuple" := hc
  have hd : dt = .seq items n := hd
  subst hc hd
  have sz : (s.heap.push (walkO t)).objs.size = s.heap.objs.size + 1 := Heap.size_push ..
  have e1 : IsEnum ((s.heap.push (walkO t)).push (enumO s.heap.objs.size 0 .none)) (s.heap.objs.size + 1) s.heap.objs.size 0 .none := by
    have q := Heap.get?_push_size (s.heap.push (walkO t)) (o := enumO s.heap.objs.size 0 .none) rfl
    rwa [sz] at q
  refine callType_new F.called_enumerate (by decide) (F.typeCall_enumerate_1 _) (F.newCall_enumerate_1 _) (fun obj => F.args_object_init_2 obj _) F.entry_enumerate_new (meets_new t items n dct sl) ⟨ht, ?_⟩
  show _ ∧ _
  rw [sz]
  exact ⟨⟨_, e1, rfl⟩, k _ e1 ⟨_, Heap.get?_push_of_some _ (Heap.get?_push_size _ rfl), rfl, rfl⟩ fun b o x => Heap.get?_push_of_some _ (Heap.get?_push_of_some _ x)⟩
/-- a turn -/
theorem turn_item {e it t : Addr} {i : Nat} {items : Array Value} {x old : Value} {Q : Value → Shared → Prop} (en : IsEnum s.heap e it i old) (wk : s.heap.IsTupleIter it t i) (tp : s.heap.IsTuple t items) (hx : items[i]? = some x) (apart : e ≠ it)
    (k : ∀ h', IsEnumOut h' e it ((i : Int) + 1) x s.heap.objs.size → h'.IsTupleIter it t (i + 1) → h'.get? s.heap.objs.size = some { cls := .type "tuple", data := .seq #[.int i s.toks, x] } →
      (∀ b o, b ≠ e → b ≠ it → s.heap.get? b = some o → h'.get? b = some o) → Q (.ref s.heap.objs.size) { s with heap := h', toks := s.toks + 1 }) :
    wpAny (model prog w) A (Builtin.«enumerate.__next__» ⟨[.ref e], []⟩) (fun fin s' => ∃ v, fin = .done (.ret v) ∧ Q v s') E s := by
  obtain ⟨h0, gens, dr, tk, os⟩ := s
  have back := apart.symm
  show wpAny _ _ (field (.ref e) 2 >>= _) _ _ _
  apply wpAny_bind
  refine wpAny_field en rfl (x := .ref it) rfl (wpAny_bind (RZ.nextOf_tuple_item wk tp hx fun h1 wk1 (q1 : Heap.SameBut it h0 h1) => ?_))
  have en1 : IsEnum h1 e it i old := (q1.2 e apart).trans en
  show wpAny _ _ (field (.ref e) 3 >>= _) _ _ ⟨h1, gens, dr, tk, os⟩
  refine wpAny_bind (wpAny_field en1 rfl (x := rawInt i) rfl ?_)
  show wpAny _ _ (field (.ref e) 4 >>= _) _ _ ⟨h1, gens, dr, tk, os⟩
  refine wpAny_bind (wpAny_field en1 rfl (x := .none) rfl ?_)
  show wpAny _ _ (mkInt i >>= _) _ _ ⟨h1, gens, dr, tk, os⟩
  refine wpAny_bind (wpAny_mkInt ?_)
  show wpAny _ _ (setField (.ref e) 3 (rawInt ((i : Int) + 1)) >>= _) _ _ ⟨h1, gens, dr, tk + 1, os⟩
  refine wpAny_bind (wpAny_setField_rec en1 (by simp) fun h2 (en2 : IsEnum h2 e it ((i : Int) + 1) old) (q2 : Heap.SameBut e h1 h2) => ?_)
  show wpAny _ _ (setField (.ref e) 4 .none >>= _) _ _ ⟨h2, gens, dr, tk + 1, os⟩
  refine wpAny_bind (wpAny_setField_rec en2 (by simp) fun h3 (en3 : IsEnum h3 e it ((i : Int) + 1) old) (q3 : Heap.SameBut e h2 h3) => ?_)
  show wpAny _ _ (newTuple [.int i tk, x] >>= _) _ _ ⟨h3, gens, dr, tk + 1, os⟩
  refine wpAny_bind (wpAny_newTuple ?_)
  have s3 : h3.objs.size = h0.objs.size := by rw [q3.1, q2.1, q1.1]
  have below : e < h0.objs.size := Heap.lt_size en
  obtain ⟨h4, e4⟩ : ∃ h4, h4 = h3.push { cls := .type "tuple", data := .seq #[.int i tk, x] } := ⟨_, rfl⟩
  have en4 : IsEnum h4 e it ((i : Int) + 1) old := by rw [e4]; exact Heap.get?_push_of_some _ en3
  have new4 : h4.get? h0.objs.size = some { cls := .type "tuple", data := .seq #[.int i tk, x] } := by rw [e4, ← s3]; exact Heap.get?_push_size _ rfl
  have old4 : ∀ b o, b ≠ e → b ≠ it → h0.get? b = some o → h4.get? b = some o := fun b o n1 n2 hb => by
    rw [e4]
    exact Heap.get?_push_of_some _ (q3.extBut b o n1 (q2.extBut b o n1 (q1.extBut b o n2 hb)))
  have wk4 : h4.IsTupleIter it t (i + 1) := by
    obtain ⟨o, ho, r⟩ := (wk1.extBut q2.extBut back).extBut q3.extBut back
    rw [e4]
    exact ⟨o, Heap.get?_push_of_some _ ho, r⟩
  show wpAny _ _ (Builtin.SmallTypes.ownedTupleIsFree (.ref e) >>= _) _ _ ⟨_, gens, dr, tk + 1, os⟩
  rw [← e4, s3]
  clear e4 en3 q3 en2 q2 en1 q1 wk1 s3
  refine wpAny_bind ?_
  unfold Builtin.SmallTypes.ownedTupleIsFree
  refine wpAny_bind (wpAny_field en4 rfl (x := .none) rfl (wpAny_pure ?_))
  simp only [if_true]
  refine wpAny_bind (wpAny_rule (wpAny_bind (wpAny_field en4 rfl (x := old) rfl (wpAny_bind (wpAny_setField_rec en4 (by simp) fun h5 (en5 : IsEnum h5 e it ((i : Int) + 1) x) (q5 : Heap.SameBut e h4 h5) => ?_)))))
  show wpAny _ _ (Builtin.SmallTypes.ownedTupleHandOut (.ref e) (.ref h0.objs.size) >>= _) _ _ ⟨h5, gens, dr, tk + 1, os⟩
  refine wpAny_bind ?_
  unfold Builtin.SmallTypes.ownedTupleHandOut
  refine wpAny_bind (wpAny_setField_rec en5 (by simp) fun h6 (en6 : IsEnumOut h6 e it ((i : Int) + 1) x h0.objs.size) (q6 : Heap.SameBut e h5 h6) => ?_)
  refine wpAny_setField_rec en6 (by simp) fun h7 (en7 : IsEnumOut h7 e it ((i : Int) + 1) x h0.objs.size) (q7 : Heap.SameBut e h6 h7) => ?_
  have on : ∀ b o, b ≠ e → h4.get? b = some o → h7.get? b = some o := fun b o n hb => q7.extBut b o n (q6.extBut b o n (q5.extBut b o n hb))
  refine wpAny_bind (wpAny_letGo (wpAny_pure ⟨_, rfl, k h7 en7 ?_ (on _ _ (Nat.ne_of_gt below) new4) fun b o n1 n2 hb => on b o n1 (old4 b o n1 n2 hb)⟩))
  exact ((wk4.extBut q5.extBut back).extBut q6.extBut back).extBut q7.extBut back
theorem next_item {e it t : Addr} {i : Nat} {items : Array Value} {x old : Value} {Q : Option Value → Shared → Prop} (en : IsEnum s.heap e it i old) (wk : s.heap.IsTupleIter it t i) (tp : s.heap.IsTuple t items) (hx : items[i]? = some x) (apart : e ≠ it)
    (k : ∀ h', IsEnumOut h' e it ((i : Int) + 1) x s.heap.objs.size → h'.IsTupleIter it t (i + 1) → h'.get? s.heap.objs.size = some { cls := .type "tuple", data := .seq #[.int i s.toks, x] } →
      (∀ b o, b ≠ e → b ≠ it → s.heap.get? b = some o → h'.get? b = some o) → Q (some (.ref s.heap.objs.size)) { s with heap := h', toks := s.toks + 1 }) : wpAny (model prog w) A (pyNext (.ref e)) Q E s := by
  have ty : s.TypeIs (.ref e) "enumerate" := ⟨_, en, rfl⟩
  unfold pyNext
  refine wpAny_bind (wpAny_attempt (wpAny_callSpecial?_slot (name := Str.ofString "__next__") ty F.slot_enumerate_next (wpAny_call_entry F.slot_enumerate_next ty F.entry_enumerate_next ?_ (F.args_enumerate_next_1 _))))
  exact turn_item en wk tp hx apart fun h' a b c d => wpAny_pure (k h' a b c d)
theorem next_end {e it t : Addr} {i : Nat} {items : Array Value} {old : Value} {Q : Option Value → Shared → Prop} (hh : A.handled = none) (en : IsEnum s.heap e it i old) (wk : s.heap.IsTupleIter it t i) (tp : s.heap.IsTuple t items) (hx : items[i]? = none)
    (k : ∀ h', Heap.ExtBut it s.heap h' → Q none { s with heap := h' }) : wpAny (model prog w) A (pyNext (.ref e)) Q E s := by
  have ty : s.TypeIs (.ref e) "enumerate" := ⟨_, en, rfl⟩
  unfold pyNext
  refine wpAny_bind (wpAny_attempt (wpAny_callSpecial?_slot (name := Str.ofString "__next__") ty F.slot_enumerate_next (wpAny_call_entry F.slot_enumerate_next ty F.entry_enumerate_next ?_ (F.args_enumerate_next_1 _))))
  show wpAny _ _ (field (.ref e) 2 >>= _) _ _ _
  refine wpAny_bind (wpAny_field en rfl (x := .ref it) rfl (wpAny_bind (RZ.nextOf_tuple_end hh wk tp hx fun h' y ext ⟨o, ho, hc⟩ => ?_)))
  exact wpAny_bind (wpAny_isInstance (T := "StopIteration") (b := true) ⟨o, ho, hc⟩ isSubtype_stop (wpAny_pure (k _ ext)))
end
end VtEnum
namespace Vt
open PySem PySem.Spec PyProof.Rows L2
/-- the tuple at a, its items in new pairs -/
def Ite2 (K : PySem.W.Frag) (a : Addr) : It :=
  ⟨fun i H => ∃ (xs : List V) (x : V), SqT K H a xs ∧ xs[i]? = some x, fun i H v H' => ∃ T x, v = .ref T ∧ H T = none ∧ H' = upd H T (.tup [.int (i : Nat), x]) ∧ ∀ xs, SqT K H a xs → xs[i]? = some x, fun i H => ∃ xs : List V, SqT K H a xs ∧ xs.length ≤ i⟩
theorem turn_enumT {P : Program} {w : World} {K : PySem.W.Frag} {elts : List Expr} {kk : Nat} {tpos : Pos} (a e it : Addr) :
    Turn P w K (.Tuple elts kk tpos) (Ite2 K a) [e, it] e (fun i h => (∃ old, IsEnum h e it ((i : Nat) : Int) old) ∧ h.IsTupleIter it a i ∧ e ≠ it) where
  mem := List.mem_cons_self
  obj := by
    rintro i h ⟨⟨old, en⟩, ⟨o, ho, _, hd⟩, _⟩ b hb
    rcases List.mem_cons.mp hb with rfl | hb
    · exact ⟨_, en, fun v z => nomatch z⟩
    · rw [List.mem_singleton.mp hb]
      exact ⟨o, ho, fun v z => by rw [hd] at z; cases z⟩
  keep := by
    rintro i h h' ⟨⟨old, en⟩, wk, ne⟩ k
    exact ⟨⟨old, k e List.mem_cons_self _ en⟩, wk.at fun o z => k it (List.mem_cons_of_mem _ List.mem_cons_self) o z, ne⟩
  item := by
    intro X hP hw hK hc i pins s σ H E I hf st hg
    subst hP hw hK
    obtain ⟨⟨old, en⟩, wk, ne⟩ := st
    obtain ⟨xs, x, hq, hx⟩ := hg
    obtain ⟨its, rv, p, hz⟩ := I.tuple hq
    obtain ⟨u, hu, ru⟩ := rv.get hx
    have le : e < s.heap.objs.size := Heap.lt_size en
    have li : it < s.heap.objs.size := by obtain ⟨_, z, _⟩ := wk; exact Heap.lt_size z
    refine VtEnum.next_item en wk p (x := u) (by simpa using hu) ne fun h' out wk' hT hk => ⟨_, rfl, wpAny_letOwnedTupleGo_enum (s := { s with heap := h', toks := s.toks + 1 }) out fun h'' en' sb => ?_⟩
    have hT2 : h''.get? s.heap.objs.size = some { cls := .type "tuple", data := .seq #[.int i s.toks, u] } := (sb.2 _ (Nat.ne_of_gt le)).trans hT
    have fresh : ObjOk X.prog X.w (upd H s.heap.objs.size (.tup [.int (i : Nat), x])) h'' s.heap.objs.size (.tup [.int (i : Nat), x]) := ⟨by show 2 ≤ sizeLine; decide, [.int i s.toks, u], .cons ⟨_, rfl⟩ (.cons ru .nil), ⟨_, hT2, rfl, _, rfl⟩⟩
    have two : ∀ b, b ∈ [e, it] → b = e ∨ b = it := fun b hb => by simpa using hb
    have J := I.turnedNew (t' := s.toks + 1) (ch := [e, it]) (fun b ob hb z => (sb.2 b (fun y => hb (by simp [y]))).trans (hk b ob (fun y => hb (by simp [y])) (fun y => hb (by simp [y])) z)) hf (Nat.le_refl _) fresh
    refine ⟨.ref s.heap.objs.size, _, J, rfl, ⟨_, x, rfl, I.hok.fresh (Nat.le_refl _), rfl, fun ys hy => by rw [I.tuple_inj hy hq]; exact hx⟩, ⟨⟨u, ?_⟩, wk'.at fun o z => (sb.2 it ne.symm).trans z, ne⟩, fun b hb => ?_⟩
    · rw [show ((i + 1 : Nat) : Int) = (i : Int) + 1 by omega]
      exact en'
    · have lb : b < s.heap.objs.size := by rcases two b hb with z | z <;> rw [z] <;> assumption
      rw [upd_ne (Nat.ne_of_lt lb)]
      exact (hf b hb).1
  done := by
    intro X hP hw hK hc i pins s σ H E I hf st hg
    subst hP hw hK
    obtain ⟨⟨old, en⟩, wk, ne⟩ := st
    obtain ⟨xs, hq, hx⟩ := hg
    obtain ⟨its, rv, p, hz⟩ := I.tuple hq
    obtain ⟨f0, f1, f2, f3, f4, f5⟩ := hf it (by simp)
    have hl := rv.length
    exact VtEnum.next_end (I.ok.hd hc) en wk p (by simp; omega) fun h' eb => ⟨rfl, I.turned (t' := s.toks) (fun b o hb z => eb b o hb z) f0 f1 f3 f4 f5⟩
  self := fun A i s Q E ⟨⟨_, en⟩, _⟩ h => wpAny_pyIter_enum en h
theorem pi_enumT {X : Cx} {e : Expr} {ta : TA} {p pos tpos : Pos} {elts : List Expr} {kk : Nat} (hg : Gl X "enumerate") (hm : X.mg "enumerate" = none) (ha : PA X [e] ta) (hs : starEach [e] X.env = [(false, eval e X.env)]) :
    PI X (.Tuple elts kk tpos) (.Call (.Name "enumerate" p) [e] [] pos) (fun σ H R => ta σ H fun vs H1 => ∃ a xs, vs = [.ref a] ∧ SqT X.K H1 a xs ∧ R (Ite2 X.K a) H1) := by
  refine ⟨fun pins s σ H R I h => Call_ (ld_blt I hg hm boot_enumerate (PyProof.Rows.callWith_type1 (thn (ha.run pos pins s σ H _ I h) fun us s1 ⟨vs, H1, I1, r1, q1⟩ => ?_) hs rfl))⟩
  obtain ⟨a, xs, rfl, hq, q⟩ := q1
  obtain ⟨u, rfl, ru⟩ := vals1 r1
  obtain rfl : u = Value.ref a := ru
  obtain ⟨its, rv, tp, hz⟩ := I1.tuple hq
  refine VtEnum.call_new tp fun h' en wk hk => wpAny_pyIter_enum en ?_
  have I2 : Inv X pins σ H1 { s1 with heap := h' } := I1.kept (t' := s1.toks) hk
  refine ⟨s1.heap.objs.size + 1, [s1.heap.objs.size + 1, s1.heap.objs.size], _, _, H1, rfl, I2, turn_enumT a (s1.heap.objs.size + 1) s1.heap.objs.size, ⟨⟨.none, en⟩, wk, Nat.succ_ne_self _⟩, fun b hb => ?_, q⟩
  have hle : s1.heap.objs.size ≤ b := by
    rcases List.mem_cons.mp hb with z | hb
    · rw [z]; exact Nat.le_succ _
    · rw [List.mem_singleton.mp hb]; exact Nat.le_refl _
  exact I1.fpOk hle (I1.hok.fresh hle)
end Vt
namespace Vt
open PySem PySem.Spec PyProof.Rows L2
/-! ### more of the relational calculus -/
def enD : Nat → List D → List D
  | _, [] => []
  | k, d :: ds => .tup [dI (k : Int), d] :: enD (k + 1) ds
theorem enD_len : ∀ (ds : List D) (k : Nat), (enD k ds).length = ds.length
  | [], _ => rfl
  | _ :: ds, k => congrArg (· + 1) (enD_len ds (k + 1))
theorem enD_get : ∀ {ds : List D} {k i : Nat} {d : D}, (enD k ds)[i]? = some d → ∃ e, ds[i]? = some e ∧ d = .tup [dI ((k + i : Nat) : Int), e]
  | [], _, _, _, h => by simp [enD] at h
  | e :: ds, k, 0, d, h => ⟨e, rfl, by simpa [enD] using h.symm⟩
  | e :: ds, k, i + 1, d, h => by
    obtain ⟨e', h1, h2⟩ := enD_get (ds := ds) (k := k + 1) (i := i) (by simpa [enD] using h)
    exact ⟨e', by simpa using h1, by rw [h2, show k + 1 + i = k + (i + 1) by omega]⟩
theorem enD_at : ∀ {ds : List D} {k i : Nat} {e : D}, ds[i]? = some e → (enD k ds)[i]? = some (.tup [dI ((k + i : Nat) : Int), e])
  | [], _, _, _, h => by simp at h
  | e :: ds, k, 0, _, h => by
    cases h
    rfl
  | e :: ds, k, i + 1, d, h => by
    have q := enD_at (ds := ds) (k := k + 1) (i := i) (e := d) (by simpa using h)
    rw [show k + 1 + i = k + (i + 1) by omega] at q
    simpa [enD] using q
theorem RepL.rev {K : PySem.W.Frag} {G : Hp} : ∀ {vs : List V} {ds : List D}, RepL K G vs ds → RepL K G vs.reverse ds.reverse
  | _, _, .nil => .nil
  | _, _, .cons h t => by
    rw [List.reverse_cons, List.reverse_cons]
    exact (RepL.rev t).append (.cons h .nil)
theorem RepL.drop {K : PySem.W.Frag} {G : Hp} : ∀ {vs : List V} {ds : List D} (n : Nat), RepL K G vs ds → RepL K G (vs.drop n) (ds.drop n)
  | _, _, 0, h => h
  | _, _, _ + 1, .nil => .nil
  | _, _, n + 1, .cons _ t => RepL.drop n t
theorem RepL.take {K : PySem.W.Frag} {G : Hp} : ∀ {vs : List V} {ds : List D} (n : Nat), RepL K G vs ds → RepL K G (vs.take n) (ds.take n)
  | _, _, 0, _ => .nil
  | _, _, _ + 1, .nil => .nil
  | _, _, n + 1, .cons h t => .cons h (RepL.take n t)
def cutD (ds : List D) (lo hi : Option Int) : List D := (ds.drop (HT.sIx ds.length 0 lo)).take (HT.sIx ds.length ds.length hi - HT.sIx ds.length 0 lo)
theorem cut_rep {K : PySem.W.Frag} {G : Hp} {vs : List V} {ds : List D} {lo hi : Option Int} (r : RepL K G vs ds) : RepL K G (cutV vs lo hi) (cutD ds lo hi) := by
  unfold cutV cutD
  rw [r.len]
  exact (r.drop _).take _
section
variable {X : Cx} {K : PySem.W.Frag} {ρ ρ' : Sl} {M M1 M2 M3 : Mem} {a b c e : Expr} {es : List Expr} {d d1 d2 : D} {ds : List D} {pos : Pos} {Ψ : Out → Prop} {Φ : D → Mem → Prop} {ΦI : List D → Mem → Prop}
theorem pairR {G : Hp} {H : Hp} {M : Mem} {T : Addr} {i : Int} {x : V} {d : D} (sh : SH K G H M) (hT : H T = none) (r : Rep K G x d) : ∃ G3, Same G G3 ∧ SH K G3 (upd H T (.tup [.int i, x])) M ∧ Rep K G3 (.ref T) (.tup [dI i, d]) := by
  obtain ⟨sh2, g2⟩ := sh.new (o := .tup [V.int i, x]) hT
  exact ⟨_, g2, sh2, .tup (.inl (.inl upd_same)) (.cons (.val _) (.cons (r.up g2) .nil))⟩
theorem JW2.enumL {p : Addr} {vs : List V} {G : Hp} (q : SqL K G p vs) (r : RepL K G vs ds) : JW2 K (Ite K p) G (enD 0 ds) := fun i H g => ⟨fun d h => by
    obtain ⟨e, h1, rfl⟩ := enD_get h
    obtain ⟨v, hv, rv⟩ := r.get h1
    refine ⟨⟨vs, v, sqlUp g q, hv⟩, ?_⟩
    rintro x H' ⟨T, y, rfl, hT, rfl, e2⟩ G2 M g2 sh
    have := e2 vs (sqlUp g q)
    rw [hv] at this
    cases this
    rw [Nat.zero_add]
    exact pairR sh hT (rv.up g2), fun h => ⟨vs, sqlUp g q, by rw [r.len]; rw [enD_len] at h; exact h⟩⟩
theorem JW2.enumT {p : Addr} {vs : List V} {G : Hp} (q : SqT K G p vs) (r : RepL K G vs ds) : JW2 K (Ite2 K p) G (enD 0 ds) := fun i H g => ⟨fun d h => by
    obtain ⟨e, h1, rfl⟩ := enD_get h
    obtain ⟨v, hv, rv⟩ := r.get h1
    refine ⟨⟨vs, v, sqtUp g q, hv⟩, ?_⟩
    rintro x H' ⟨T, y, rfl, hT, rfl, e2⟩ G2 M g2 sh
    have := e2 vs (sqtUp g q)
    rw [hv] at this
    cases this
    rw [Nat.zero_add]
    exact pairR sh hT (rv.up g2), fun h => ⟨vs, sqtUp g q, by rw [r.len]; rw [enD_len] at h; exact h⟩⟩
/-- for .. in enumerate(x), x a tree -/
theorem iw_enum (b : Bool) {elts : List Expr} {kk : Nat} {tpos p : Pos} (hm : X.mg "enumerate" = none) (h : EV X e ρ M (sq b ds) M1) (q : ΦI (enD 0 ds) M1) (hg : Gl X "enumerate" := by rfl) (hst : starEach [e] X.env = [(false, eval e X.env)] := by rfl) : IW X (.Tuple elts kk tpos) (.Call (.Name "enumerate" p) [e] [] pos) ρ M ΦI := by
  cases b with
  | true => exact (pi_enum hg hm (av_cons h av_nil hst) hst).mono fun σ H R ⟨G, sa, k⟩ => ⟨G, sa, fun vs G1 H1 g1 sh1 r1 => by
      cases r1 with
      | cons r t =>
        cases t
        cases (show Rep X.K G1 _ (.lst ds) from r) with
        | lst q' r => exact ⟨_, _, rfl, sqlUp sh1.le q', k _ G1 H1 _ M1 q g1 sh1 (JW2.enumL q' r)⟩⟩
  | false => exact (pi_enumT hg hm (av_cons h av_nil hst) hst).mono fun σ H R ⟨G, sa, k⟩ => ⟨G, sa, fun vs G1 H1 g1 sh1 r1 => by
      cases r1 with
      | cons r t =>
        cases t
        cases (show Rep X.K G1 _ (.tup ds) from r) with
        | tup q' r => exact ⟨_, _, rfl, sqtUp sh1.le q', k _ G1 H1 _ M1 q g1 sh1 (JW2.enumT q' r)⟩⟩
/-- xs[::-1], xs a tree or a list of the memory -/
theorem ew_rev {kk : Nat} {p1 p2 p3 : Pos} (h : EW X e ρ M (fun d M1 => ∃ ds, (d = .lst ds ∨ ∃ p, d = dP p ∧ M1 p = some (.lst ds)) ∧ Φ (.lst ds.reverse) M1)) : EW X (.Subscript e (.Slice none none (some (.UnaryOp .USub (.Constant (.int 1) kk p1) p2)) p3) pos) ρ M Φ :=
  (pe_revL h).mono fun σ H Q ⟨G, sa, k⟩ => ⟨G, sa, fun v G1 H1 d M1 ⟨ds, c, q⟩ g1 sh1 r1 => by
    have key : ∃ p vs, v = .ref p ∧ SqL X.K H1 p vs ∧ RepL X.K G1 vs ds := by
      rcases c with rfl | ⟨p, rfl, hp⟩
      · cases r1 with
        | lst q' r => exact ⟨_, _, rfl, sqlUp sh1.le q', r⟩
      · obtain ⟨_, vs, hv, r⟩ := sh1.mem p _ hp
        exact ⟨p, vs, r1.of_val, .inl (.inl hv), r⟩
    obtain ⟨p, vs, rfl, hs, r⟩ := key
    have rr : RepL X.K G1 vs.reverse ds.reverse := r.rev
    refine ⟨p, vs, rfl, hs, fun p' hp' => ?_⟩
    obtain ⟨sh2, g2⟩ := sh1.new (o := .lst vs.reverse) hp'
    exact k _ _ _ _ M1 q (g1.trans g2) sh2 (.lst (.inl (.inl upd_same)) (rr.up g2))⟩
/-- xs[i] = e, any sign -/
theorem sw_setItem {tp : Pos} (he : EW X e ρ M (fun d M1 => ∃ p i ds j, EV X a ρ M1 (dP p) M1 ∧ EV X b ρ M1 (dI i) M1 ∧ M1 p = some (.lst ds) ∧ ixN ds.length i = some j ∧ Ψ (.nx ρ (M1.set p (.lst (ds.set j d))))))
    (ha : ∀ v, assign (.Subscript a b tp) X.env v = (do
      let ov ← holding [v] (eval a X.env)
      let iv ← holding [v, ov] (eval b X.env)
      standAt tp
      holding [v, ov, iv] (setItem ov iv v)
      release [v, ov, iv] []) := by intro _; rfl)
    (hs : swapsWithSole [.Subscript a b tp] e pos.line X.env = pure false := by rfl) (hw : swappedStores [.Subscript a b tp] e X.env = pure none := by rfl)
    (h1 : (assignEach [.Subscript a b tp] X.env).map (·.2) = [assign (.Subscript a b tp) X.env] := by rfl) : SV X (.Assign [.Subscript a b tp] e pos) ρ M Ψ :=
  (ps_asg he (pg_sub (pk_e (ρ := ρ)) (pk_e (ρ := ρ)) set_list ha) hs hw h1).mono fun E σ H ⟨G, sa, k⟩ => ⟨G, sa, fun v G1 H1 d M1 ⟨p, i, ds, j, ho, hi, hm, hj, hΨ⟩ g1 sh1 r1 =>
    ⟨M1, fun d' M' => d' = dP p ∧ M' = M1, ew_ev ho ⟨rfl, rfl⟩, G1, ⟨sh1, sa.sl.up g1⟩, fun v2 G2 H2 d2 M2 ⟨e2, e2'⟩ g2 sh2 r2 => ⟨M1, fun d' M' => d' = dI i ∧ M' = M1, ew_ev hi ⟨rfl, rfl⟩, G2, ⟨by rw [e2'] at sh2; exact sh2, (sa.sl.up g1).up g2⟩, fun v3 G3 H3 d3 M3 ⟨e3, e3'⟩ g3 sh3 r3 => by
      subst e2 e3 e3'
      obtain ⟨_, vs, hv, rl⟩ := sh3.mem p _ hm
      exact ⟨p, vs, i, j, r2.of_val, r3.of_val, hv, by rw [rl.len]; exact hj, k _ hΨ σ G3 _ ((g1.trans g2).trans g3) ⟨sh3.put hm (rl.set ((r1.up g2).up g3) j), ((sa.sl.up g1).up g2).up g3⟩⟩⟩⟩⟩
/-- a tree's truth: a list, a tuple -/
theorem tv_sqT {b : Bool} (ha : EV X e ρ M (sq b ds) M1) (he : ∀ whole, isTrue e X.env whole = (do let v ← whole; standAt e.pos; holding [v] (truthy v)) := by intro _; rfl) : TV X e ρ M (!ds.isEmpty) M1 :=
  (pt_truth ha he).mono fun σ H Q ⟨G, sa, k⟩ => ⟨G, sa, fun v1 G1 H1 g1 sh1 r1 => by
    have emp : ∀ {vs : List V}, RepL X.K G1 vs ds → (!vs.isEmpty) = !ds.isEmpty := fun {vs} r => by
      have := r.len
      cases vs <;> cases ds <;> first | rfl | cases this
    cases b with
    | true =>
      cases (show Rep X.K G1 v1 (.lst ds) from r1) with
      | lst q r => exact ⟨_, .inl ⟨_, sqlUp sh1.le q, rfl⟩, by rw [emp r]; exact k G1 H1 g1 sh1⟩
    | false =>
      cases (show Rep X.K G1 v1 (.tup ds) from r1) with
      | tup q r => exact ⟨_, .inr (.inl ⟨_, sqtUp sh1.le q, rfl⟩), by rw [emp r]; exact k G1 H1 g1 sh1⟩⟩
/-- x[a:b] of a tree -/
theorem ev_sliceQ {b' : Bool} {lo hi : Option Expr} {o1 o2 : Option Int} {p2 : Pos} (ha : EV X a ρ M (sq b' ds) M1) (h1 : OV X lo ρ M1 o1 M2) (h2 : OV X hi ρ M2 o2 M3) : EV X (.Subscript a (.Slice lo hi none p2) pos) ρ M (sq b' (cutD ds o1 o2)) M3 := by
  cases b' with
  | true => exact (pe_slice sl_list ha h1 h2).mono fun σ H Q ⟨G, sa, k⟩ => ⟨G, sa, fun v G1 H1 g1 sh1 r1 => ⟨G1, ⟨sh1, sa.sl.up g1⟩, fun G2 H2 g2 sh2 => ⟨G2, ⟨sh2, (sa.sl.up g1).up g2⟩, fun G3 H3 g3 sh3 => by
      cases (show Rep X.K G1 v (.lst ds) from r1) with
      | lst q r =>
        refine ⟨_, _, rfl, sqlUp sh3.le (sqlUp g3 (sqlUp g2 q)), fun p hp => ?_⟩
        obtain ⟨sh4, g4⟩ := sh3.new (o := .lst _) hp
        exact k _ _ _ (((g1.trans g2).trans g3).trans g4) sh4 (.lst (.inl (.inl upd_same)) (cut_rep (((r.up g2).up g3).up g4)))⟩⟩⟩
  | false => exact (pe_slice sl_tupA ha h1 h2).mono fun σ H Q ⟨G, sa, k⟩ => ⟨G, sa, fun v G1 H1 g1 sh1 r1 => ⟨G1, ⟨sh1, sa.sl.up g1⟩, fun G2 H2 g2 sh2 => ⟨G2, ⟨sh2, (sa.sl.up g1).up g2⟩, fun G3 H3 g3 sh3 => by
      cases (show Rep X.K G1 v (.tup ds) from r1) with
      | tup q r =>
        refine ⟨_, _, rfl, sqtUp sh3.le (sqtUp g3 (sqtUp g2 q)), fun hw => ?_, fun hw p hp => ?_⟩
        · have e : cutD ds o1 o2 = ds := by
            rw [r.len] at hw
            unfold cutD
            rw [hw.1, hw.2, List.drop_zero, Nat.sub_zero, List.take_length]
          rw [e] at k
          exact k _ _ _ ((g1.trans g2).trans g3) sh3 (.tup (sqtUp g3 (sqtUp g2 q)) ((r.up g2).up g3))
        · obtain ⟨sh4, g4⟩ := sh3.new (o := .tup _) hp
          exact k _ _ _ (((g1.trans g2).trans g3).trans g4) sh4 (.tup (.inl (.inl upd_same)) (cut_rep (((r.up g2).up g3).up g4)))⟩⟩⟩
end
end Vt
namespace Vt
open PySem PySem.Spec PyProof.Rows L2
/-! is None of any tree -/
def D.isN : D → Bool
  | .val v => decide (v = .non)
  | .tup _ => false
  | .lst _ => false
section
variable {X : Cx} {ρ : Sl} {M M1 : Mem} {a e : Expr} {d : D} {pos : Pos} {Φ : D → Mem → Prop} {ΦT : Bool → Mem → Prop}
theorem isN_of {K : PySem.W.Frag} {G : Hp} {v : V} (r : Rep K G v d) : decide (v = .non) = d.isN := by
  cases r with
  | val v => rfl
  | tup _ _ => rfl
  | lst _ _ => rfl
theorem ev_isNn {j} {p2 : Pos} (ha : EV X a ρ M d M1) : EV X (.Compare a [.Is] [.Constant .none j p2] pos) ρ M (dB d.isN) M1 :=
  (pe_cmp (pc_isN ha)).mono fun σ H Q ⟨G, sa, k⟩ => ⟨G, sa, fun v1 G1 H1 g1 sh1 r1 => by have q := k _ G1 H1 g1 sh1 (.val _); rw [← isN_of r1] at q; exact q⟩
theorem tv_isNn {j} {p2 : Pos} (ha : EV X a ρ M d M1) : TV X (.Compare a [.Is] [.Constant .none j p2] pos) ρ M d.isN M1 :=
  (pt_cmp (pc_isN ha)).mono fun σ H Q ⟨G, sa, k⟩ => ⟨G, sa, fun v1 G1 H1 g1 sh1 r1 => by have q := k G1 H1 g1 sh1; rw [← isN_of r1] at q; exact ⟨_, rfl, q⟩⟩
theorem ev_notNn {j} {p2 : Pos} (ha : EV X a ρ M d M1) : EV X (.Compare a [.IsNot] [.Constant .none j p2] pos) ρ M (dB (!d.isN)) M1 :=
  (pe_cmp (pc_notN ha)).mono fun σ H Q ⟨G, sa, k⟩ => ⟨G, sa, fun v1 G1 H1 g1 sh1 r1 => by have q := k _ G1 H1 g1 sh1 (.val _); rw [← isN_of r1] at q; exact q⟩
theorem tv_notNn {j} {p2 : Pos} (ha : EV X a ρ M d M1) : TV X (.Compare a [.IsNot] [.Constant .none j p2] pos) ρ M (!d.isN) M1 :=
  (pt_cmp (pc_notN ha)).mono fun σ H Q ⟨G, sa, k⟩ => ⟨G, sa, fun v1 G1 H1 g1 sh1 r1 => by have q := k G1 H1 g1 sh1; rw [← isN_of r1] at q; exact ⟨_, rfl, q⟩⟩
end
section
variable {X : Cx} {ρ : Sl} {M M1 : Mem} {a b e : Expr} {d : D} {ds : List D} {pos : Pos} {Φ : D → Mem → Prop} {ΦT : Bool → Mem → Prop}
/-- tuple + tuple -/
theorem ew_catT (h : EW X a ρ M (fun d1 M1 => ∃ ds, d1 = .tup ds ∧ EW X b ρ M1 (fun d2 M2 => ∃ es, d2 = .tup es ∧ ds.length + es.length ≤ sizeLine ∧ Φ (.tup (ds ++ es)) M2))) : EW X (.BinOp a .Add b pos) ρ M Φ :=
  (pe_op op_catA h pk_e).mono fun σ H Q ⟨G, sa, k⟩ => ⟨G, sa, fun v1 G1 H1 d1 M1 ⟨ds, e1, h⟩ g1 sh1 r1 => ⟨M1, _, h, G1, ⟨sh1, sa.sl.up g1⟩, fun v2 G2 H2 d2 M2 ⟨es, e2, hl, q⟩ g2 sh2 r2 => by
    subst e1 e2
    cases r1 with
    | tup q1 r =>
      cases r2 with
      | tup q2 r2 =>
        have rr := r.up g2
        refine ⟨_, _, _, _, rfl, rfl, sqtUp sh2.le (sqtUp g2 q1), sqtUp sh2.le q2, by rw [r.len, r2.len]; exact hl, fun e => ?_, fun _ e => ?_, fun _ _ p hp => ?_⟩
        · subst e
          cases rr
          exact k _ G2 H2 _ M2 q (g1.trans g2) sh2 (.tup q2 r2)
        · subst e
          cases r2
          rw [List.append_nil] at q
          exact k _ G2 H2 _ M2 q (g1.trans g2) sh2 (.tup (sqtUp g2 q1) rr)
        · obtain ⟨sh3, g3⟩ := sh2.new (o := .tup _) hp
          exact k _ _ _ _ M2 q ((g1.trans g2).trans g3) sh3 (.tup (.inl (.inl upd_same)) ((rr.append r2).up g3))⟩⟩
theorem atI_last {α : Type} {xs : List α} {x : α} (h : xs.getLast? = some x) : atI xs (-1) = some x := by
  rw [List.getLast?_eq_getElem?] at h
  have hl : 0 < xs.length := by
    rcases Nat.eq_zero_or_pos xs.length with e | e
    · rw [List.getElem?_eq_none (by omega)] at h
      cases h
    · exact e
  unfold atI ixN
  rw [if_neg (by omega), if_pos (by omega)]
  show xs[((-1 : Int) + xs.length).toNat]? = _
  rw [show ((-1 : Int) + (xs.length : Nat)).toNat = xs.length - 1 by omega]
  exact h
theorem ixN_last {n : Nat} (h : 0 < n) : ixN n (-1) = some (n - 1) := by
  unfold ixN
  rw [if_neg (by omega), if_pos (by omega), show ((-1 : Int) + n).toNat = n - 1 by omega]
end
end Vt
set_option Elab.async false
set_option linter.all false
set_option maxRecDepth 100000
set_option maxHeartbeats 2000000
namespace Vt
open PySem PySem.Spec PyProof.Rows L2
def top (i : Nat) : Stmt := PySem.Challenge.pw_counterheld_k10_whole_notes_of_bars.main.body.getD i (.Pass ⟨0, 0, 0, 0⟩)
abbrev s_p_fraction : Stmt := top 2
theorem sc_p_fraction : FnScope ["n", "d", "shared"] ["n", "d"] (defScope s_p_fraction) := ⟨rfl, rfl, rfl, by decide +kernel, rfl, by decide +kernel, by decide +kernel⟩
abbrev s_p_sum_of : Stmt := top 3
theorem sc_p_sum_of : FnScope ["one", "other"] ["one", "other"] (defScope s_p_sum_of) := ⟨rfl, rfl, rfl, by decide +kernel, rfl, by decide +kernel, by decide +kernel⟩
abbrev s_p_tuple_of : Stmt := top 5
theorem sc_p_tuple_of : FnScope ["tone", "f", "o"] ["tone"] (defScope s_p_tuple_of) := ⟨rfl, rfl, rfl, by decide +kernel, rfl, by decide +kernel, by decide +kernel⟩
abbrev s_p_notes : Stmt := top 6
theorem sc_p_notes : FnScope ["bar", "voice", "told", "before", "number", "duration", "_", "entries", "tone", "start", "length"] ["bar", "voice"] (defScope s_p_notes) := ⟨rfl, rfl, rfl, by decide +kernel, rfl, by decide +kernel, by decide +kernel⟩
abbrev s_pool : Stmt := top 8
theorem sc_pool : FnScope ["script", "cell"] ["script"] (defScope s_pool) := ⟨rfl, rfl, rfl, by decide +kernel, rfl, by decide +kernel, by decide +kernel⟩
abbrev s_take : Stmt := top 9
theorem sc_take : FnScope ["pool", "many", "digit", "cell", "mixed"] ["pool", "many"] (defScope s_take) := ⟨rfl, rfl, rfl, by decide +kernel, rfl, by decide +kernel, by decide +kernel⟩
abbrev s_pick : Stmt := top 10
theorem sc_pick : FnScope ["pool", "rows"] ["pool", "rows"] (defScope s_pick) := ⟨rfl, rfl, rfl, by decide +kernel, rfl, by decide +kernel, by decide +kernel⟩
abbrev s_below : Stmt := top 11
theorem sc_below : FnScope ["pool", "many", "found", "turn"] ["pool", "many"] (defScope s_below) := ⟨rfl, rfl, rfl, by decide +kernel, rfl, by decide +kernel, by decide +kernel⟩
abbrev s_is_integer : Stmt := top 12
theorem sc_is_integer : FnScope ["actual"] ["actual"] (defScope s_is_integer) := ⟨rfl, rfl, rfl, by decide +kernel, rfl, by decide +kernel, by decide +kernel⟩
abbrev s_same : Stmt := top 13
theorem sc_same : FnScope ["actual", "due", "k"] ["actual", "due"] (defScope s_same) := ⟨rfl, rfl, rfl, by decide +kernel, rfl, by decide +kernel, by decide +kernel⟩
abbrev s_lowest : Stmt := top 14
theorem sc_lowest : FnScope ["n", "d", "one", "other", "turn"] ["n", "d"] (defScope s_lowest) := ⟨rfl, rfl, rfl, by decide +kernel, rfl, by decide +kernel, by decide +kernel⟩
abbrev s_sum : Stmt := top 15
theorem sc_sum : FnScope ["one", "other"] ["one", "other"] (defScope s_sum) := ⟨rfl, rfl, rfl, by decide +kernel, rfl, by decide +kernel, by decide +kernel⟩
abbrev s_times : Stmt := top 16
theorem sc_times : FnScope ["one", "other"] ["one", "other"] (defScope s_times) := ⟨rfl, rfl, rfl, by decide +kernel, rfl, by decide +kernel, by decide +kernel⟩
abbrev s_duration : Stmt := top 17
theorem sc_duration : FnScope ["pool"] ["pool"] (defScope s_duration) := ⟨rfl, rfl, rfl, by decide +kernel, rfl, by decide +kernel, by decide +kernel⟩
abbrev s_tone : Stmt := top 18
theorem sc_tone : FnScope ["pool", "fifths"] ["pool"] (defScope s_tone) := ⟨rfl, rfl, rfl, by decide +kernel, rfl, by decide +kernel, by decide +kernel⟩
abbrev s_interval : Stmt := top 19
theorem sc_interval : FnScope ["pool"] ["pool"] (defScope s_interval) := ⟨rfl, rfl, rfl, by decide +kernel, rfl, by decide +kernel, by decide +kernel⟩
abbrev s_column : Stmt := top 20
theorem sc_column : FnScope ["pool", "voices", "before", "some", "entries", "voice", "kind", "entry", "held", "tone"] ["pool", "voices", "before", "some"] (defScope s_column) := ⟨rfl, rfl, rfl, by decide +kernel, rfl, by decide +kernel, by decide +kernel⟩
abbrev s_bar : Stmt := top 21
theorem sc_bar : FnScope ["pool", "voices", "most", "some", "k", "found"] ["pool", "voices", "most"] (defScope s_bar) := ⟨rfl, rfl, rfl, by decide +kernel, rfl, by decide +kernel, by decide +kernel⟩
abbrev s_order : Stmt := top 22
theorem sc_order : FnScope ["pool", "many", "left", "found", "k"] ["pool", "many"] (defScope s_order) := ⟨rfl, rfl, rfl, by decide +kernel, rfl, by decide +kernel, by decide +kernel⟩
abbrev s_raised : Stmt := top 23
theorem sc_raised : FnScope ["cell", "sign", "tone", "entries", "entry"] ["cell", "sign", "tone"] (defScope s_raised) := ⟨rfl, rfl, rfl, by decide +kernel, rfl, by decide +kernel, by decide +kernel⟩
abbrev s_done : Stmt := top 24
theorem sc_done : FnScope ["rule", "cell", "voice"] ["rule", "cell"] (defScope s_done) := ⟨rfl, rfl, rfl, by decide +kernel, rfl, by decide +kernel, by decide +kernel⟩
abbrev s_listed : Stmt := top 25
theorem sc_listed : FnScope ["thing", "part"] ["thing"] (defScope s_listed) := ⟨rfl, rfl, rfl, by decide +kernel, rfl, by decide +kernel, by decide +kernel⟩
abbrev s_held : Stmt := top 26
theorem sc_held : FnScope ["ahead", "entry"] ["ahead", "entry"] (defScope s_held) := ⟨rfl, rfl, rfl, by decide +kernel, rfl, by decide +kernel, by decide +kernel⟩
abbrev s_sung : Stmt := top 27
theorem sc_sung : FnScope ["bar", "voice", "found", "rest", "at", "entry", "ahead"] ["bar", "voice"] (defScope s_sung) := ⟨rfl, rfl, rfl, by decide +kernel, rfl, by decide +kernel, by decide +kernel⟩
abbrev s_tied : Stmt := top 28
theorem sc_tied : FnScope ["pool", "voices", "many", "some", "k", "found", "entries", "voice", "kind", "entry"] ["pool", "voices", "many"] (defScope s_tied) := ⟨rfl, rfl, rfl, by decide +kernel, rfl, by decide +kernel, by decide +kernel⟩
abbrev s_far_tied : Stmt := top 29
theorem sc_far_tied : FnScope ["pool", "voices", "many", "some", "longs", "rare", "found", "k", "entries", "voice", "held", "entry"] ["pool", "voices", "many"] (defScope s_far_tied) := ⟨rfl, rfl, rfl, by decide +kernel, rfl, by decide +kernel, by decide +kernel⟩
abbrev s_changed : Stmt := top 30
theorem sc_changed : FnScope ["pool", "bar", "voices", "word", "by", "cell"] ["pool", "bar", "voices"] (defScope s_changed) := ⟨rfl, rfl, rfl, by decide +kernel, rfl, by decide +kernel, by decide +kernel⟩
abbrev s_law : Stmt := top 31
theorem sc_law : FnScope ["script", "pool", "rows", "turn", "voices", "many", "bar", "one", "voice", "k", "due", "handed", "kept"] ["script"] (defScope s_law) := ⟨rfl, rfl, rfl, by decide +kernel, rfl, by decide +kernel, by decide +kernel⟩
/-! ### the draws -/
structure Pool where
  cells : List Int
  at_ : Int
  rest : Int
  seed : Int
def Pool.mo (p : Pool) : MO := .lst [.lst (p.cells.map dI), dI p.at_, dI p.rest, dI p.seed]
structure Pool.Ok (p : Pool) : Prop where
  a0 : 0 ≤ p.at_
  s0 : 0 ≤ p.seed
  s1 : p.seed < 2147483648
def Pool.cell (p : Pool) : Int := if p.at_ < p.cells.length then p.cells.getD p.at_.toNat 0 else 0
def Pool.seed2 (p : Pool) : Int := (p.seed * 48271 + p.cell * 69621 + (p.at_ + 1) * 613) % 2147483647
def Pool.take (p : Pool) (many : Int) : Int × Pool :=
  if 0 < p.rest then (p.rest % many, { p with rest := p.rest / many })
  else if 1000000000000000000 ≤ p.cell then (p.cell / 2 % many, { p with at_ := p.at_ + 1, rest := p.cell / 2 / many })
  else ((p.seed2 * p.seed2 + p.seed2 * 7919 + 104729) % 1000000007 / 3 % many, { p with at_ := p.at_ + 1, seed := p.seed2 })
theorem Pool.take_lo (p : Pool) {many : Int} (h : 0 < many) : 0 ≤ (p.take many).1 := by
  unfold Pool.take
  split
  · exact Int.emod_nonneg _ (by omega)
  · split <;> exact Int.emod_nonneg _ (by omega)
theorem Pool.take_hi (p : Pool) {many : Int} (h : 0 < many) : (p.take many).1 < many := by
  unfold Pool.take
  split
  · exact Int.emod_lt_of_pos _ h
  · split <;> exact Int.emod_lt_of_pos _ h
theorem Pool.Ok.take {p : Pool} (ok : p.Ok) (many : Int) : (p.take many).2.Ok := by
  obtain ⟨a0, s0, s1⟩ := ok
  unfold Pool.take
  split
  · exact ⟨a0, s0, s1⟩
  · split
    · exact ⟨by show 0 ≤ p.at_ + 1; omega, s0, s1⟩
    · refine ⟨by show 0 ≤ p.at_ + 1; omega, ?_, ?_⟩
      · exact Int.emod_nonneg _ (by decide)
      · have := Int.emod_lt_of_pos (p.seed * 48271 + p.cell * 69621 + (p.at_ + 1) * 613) (show (0 : Int) < 2147483647 by decide)
        show p.seed2 < 2147483648
        unfold Pool.seed2
        omega
/-- what stands behind the top of built-ins -/
structure Bt (mg : Str → Option Value) : Prop where
  len : mg "len" = none
  int : mg "int" = none
  isinstance : mg "isinstance" = none
  range : mg "range" = none
  list : mg "list" = none
  tuple : mg "tuple" = none
  all : mg "all" = none
  bool : mg "bool" = none
  str : mg "str" = none
def PrTake (ds : List D) (M : Mem) (d : D) (M' : Mem) : Prop := ∃ a M0 p many, ds = [dP a, dI many] ∧ M = Mem.set M0 a (Pool.mo p) ∧ p.Ok ∧ 0 < many ∧ many < 1073741824 ∧ d = dI (p.take many).1 ∧ M' = M0.set a (p.take many).2.mo
/-- where digits are left -/
def PrTake0 (ds : List D) (M : Mem) (d : D) (M' : Mem) : Prop := ∃ a M0 p many, ds = [dP a, dI many] ∧ M = Mem.set M0 a (Pool.mo p) ∧ 0 < p.rest ∧ 0 < many ∧ many < 1073741824 ∧ d = dI (p.rest % many) ∧ M' = M0.set a ({ p with rest := p.rest / many } : Pool).mo
section
variable {X : Cx} {ρ : Sl} {M M0 M1 M2 M3 : Mem} {a b c e : Expr} {es : List Expr} {d d1 d2 : D} {ds : List D} {pos : Pos} {Ψ : Out → Prop}
/-- xs[i] = e, the list on top of the memory -/
theorem sv_setTop {p : Addr} {i : Nat} {tp : Pos} (he : EV X e ρ M d M1) (ho : EV X a ρ M1 (dP p) M2) (hi : EV X b ρ M2 (dI i) (M0.set p (.lst ds))) (hlt : i < ds.length) (hΨ : Ψ (.nx ρ (M0.set p (.lst (ds.set i d)))))
    (ha : ∀ v, assign (.Subscript a b tp) X.env v = (do
      let ov ← holding [v] (eval a X.env)
      let iv ← holding [v, ov] (eval b X.env)
      standAt tp
      holding [v, ov, iv] (setItem ov iv v)
      release [v, ov, iv] []) := by intro _; rfl)
    (hs : swapsWithSole [.Subscript a b tp] e pos.line X.env = pure false := by rfl) (hw : swappedStores [.Subscript a b tp] e X.env = pure none := by rfl)
    (h1 : (assignEach [.Subscript a b tp] X.env).map (·.2) = [assign (.Subscript a b tp) X.env] := by rfl) : SV X (.Assign [.Subscript a b tp] e pos) ρ M Ψ :=
  sv_setItem he ho hi Mem.set_same hlt (by rw [Mem.set_set]; exact hΨ) ha hs hw h1
end
section
variable {P : Program} {w : World} {K : PySem.W.Frag} {mg : Str → Option Value} {base : Heap} {f : Addr} {fd : FuncData}
theorem c_take0 (F : Fun K "_law_take" "_law_take" s_take f fd) (hm : mg "_law_take" = some (.ref f)) (T : Bt mg) : Cal P w K mg base 1 "_law_take" (spD K PrTake0) := by
  refine cal_of F sc_take hm (fun _ _ _ _ _ _ us hl => match us, hl with | [_, _], _ => rfl) (fun ds M d M' h => ?_) fun cdv A outer s H E ds M d M' hr h => ?_
  · obtain ⟨a, M0, p, many, rfl, _⟩ := h
    rfl
  · obtain ⟨a, M0, p, many, rfl, rfl, h0, h1, h2, rfl, rfl⟩ := h
    show BV _ _ [some (dP a), some (dI many), none, none, none] _ _
    refine bv_cons (sv_if (tv_cmpR op_gt (ev_ixM (ev_var 0 rfl) ev_int Mem.set_same rfl) ev_int rs_I0 (nomark _)) (fun h => ?_) (fun h => ?_))
    · refine bv_cons (sv_set 2 sc_take.nd (ev_op op_mod (ev_intI T.int (ev_ixM (ev_var 0 rfl) ev_int Mem.set_same rfl)) (ev_var 1 rfl) (rs_I h1)) ?_)
      refine bv_cons (sv_setTop (i := 2) (ev_op op_fdiv (ev_ixM (ev_var 0 rfl) ev_int Mem.set_same rfl) (ev_var 1 rfl) (rs_I ⟨h1, h2⟩)) (ev_var 0 rfl) ev_int (by simp) ?_)
      exact bv_one (sv_ret (ev_var 2 rfl) ⟨rfl, Mle.refl _⟩)
    · exact absurd h0 (of_decide_eq_false h)
theorem c_take (F : Fun K "_law_take" "_law_take" s_take f fd) (hm : mg "_law_take" = some (.ref f)) (T : Bt mg) : Cal P w K mg base 2 "_law_take" (spD K PrTake) := by
  have c_take := c_take0 (P := P) (w := w) (base := base) F hm T
  refine cal_of F sc_take hm (fun _ _ _ _ _ _ us hl => match us, hl with | [_, _], _ => rfl) (fun ds M d M' h => ?_) fun cdv A outer s H E ds M d M' hr h => ?_
  · obtain ⟨a, M0, p, many, rfl, _⟩ := h
    rfl
  · obtain ⟨a, M0, p, many, rfl, rfl, ok, h1, h2, rfl, rfl⟩ := h
    show BV _ _ [some (dP a), some (dI many), none, none, none] _ _
    refine bv_cons (sv_if (tv_cmpR op_gt (ev_ixM (ev_var 0 rfl) ev_int Mem.set_same rfl) ev_int rs_I0 (nomark _)) (fun h => ?_) (fun h => ?_))
    · refine bv_cons (sv_set 2 sc_take.nd (ev_op op_mod (ev_intI T.int (ev_ixM (ev_var 0 rfl) ev_int Mem.set_same rfl)) (ev_var 1 rfl) (rs_I h1)) ?_)
      refine bv_cons (sv_setTop (i := 2) (ev_op op_fdiv (ev_ixM (ev_var 0 rfl) ev_int Mem.set_same rfl) (ev_var 1 rfl) (rs_I ⟨h1, h2⟩)) (ev_var 0 rfl) ev_int (by simp) ?_)
      have e : p.take many = (p.rest % many, { p with rest := p.rest / many }) := if_pos (of_decide_eq_true h)
      rw [e]
      exact bv_one (sv_ret (ev_var 2 rfl) ⟨rfl, Mle.refl _⟩)
    · have hr0 : ¬ 0 < p.rest := of_decide_eq_false h
      refine bv_nil ?_
      refine bv_cons (sv_set 3 sc_take.nd ev_int ?_)
      have rest : BV (cxOf CX0 P w K mg base ["pool", "many", "digit", "cell", "mixed"] "_law_take" (defScope s_take) f cdv A outer s H E).nox ((defBody s_take).drop 3) [some (dP a), some (dI many), none, some (dI p.cell), none] (M0.set a p.mo) (Fin (dI (p.take many).1) (M0.set a (p.take many).2.mo)) := by
        refine bv_cons (sv_setTop (i := 1) (ev_op op_add (ev_ixM (ev_var 0 rfl) ev_int Mem.set_same rfl) ev_int rs_I0) (ev_var 0 rfl) ev_int (by simp) ?_)
        refine bv_cons (sv_if (tv_cmpR op_ge (ev_var 3 rfl) (ev_op op_pow ev_int ev_int (rs_I ⟨by decide, by decide, by decide⟩)) rs_I0 (nomark _)) (fun h => ?_) (fun h => ?_))
        · have hc : 1000000000000000000 ≤ p.cell := of_decide_eq_true h
          refine bv_cons (sv_setTop (i := 2) (ev_op op_fdiv (ev_var 3 rfl) ev_int (rs_I ⟨by decide, by decide⟩)) (ev_var 0 rfl) ev_int (by simp) ?_)
          have e : p.take many = (p.cell / 2 % many, { p with at_ := p.at_ + 1, rest := p.cell / 2 / many }) := (if_neg hr0).trans (if_pos hc)
          rw [e]
          refine bv_one (sv_ret (ev_call c_take (hr.mono (by decide)) (av_cons (ev_var 0 rfl) (av_cons (ev_var 1 rfl) av_nil)) ⟨a, M0, { p with at_ := p.at_ + 1, rest := p.cell / 2 }, many, rfl, rfl, ?_, h1, h2, rfl, rfl⟩) ⟨rfl, Mle.refl _⟩)
          show 0 < p.cell / 2
          omega
        · have hc : ¬ 1000000000000000000 ≤ p.cell := of_decide_eq_false h
          refine bv_nil ?_
          refine bv_cons (sv_setTop (i := 3) (ev_op op_mod (ev_intI T.int (ev_op op_add (ev_op op_add (ev_op op_mul (ev_ixM (ev_var 0 rfl) ev_int Mem.set_same rfl) ev_int (rs_I (cm_r (by decide) (by decide)))) (ev_op op_mul (ev_var 3 rfl) ev_int (rs_I (cm_r (by decide) (by decide)))) rs_I0) (ev_op op_mul (ev_ixM (ev_var 0 rfl) ev_int Mem.set_same rfl) ev_int (rs_I (cm_r (by decide) (by decide)))) rs_I0)) ev_int (rs_I (by decide))) (ev_var 0 rfl) ev_int (by simp) ?_)
          have ok2 : 0 ≤ p.seed2 ∧ p.seed2 < 2147483647 := ⟨Int.emod_nonneg _ (by decide), Int.emod_lt_of_pos _ (by decide)⟩
          have e : p.take many = ((p.seed2 * p.seed2 + p.seed2 * 7919 + 104729) % 1000000007 / 3 % many, { p with at_ := p.at_ + 1, seed := p.seed2 }) := (if_neg hr0).trans (if_neg hc)
          rw [e]
          refine bv_cons (sv_set 4 sc_take.nd (ev_op op_mod (ev_intI T.int (ev_op op_add (ev_op op_add (ev_op op_mul (ev_ixM (ev_var 0 rfl) ev_int Mem.set_same rfl) (ev_ixM (ev_var 0 rfl) ev_int Mem.set_same rfl) (rs_I ?_)) (ev_op op_mul (ev_ixM (ev_var 0 rfl) ev_int Mem.set_same rfl) ev_int (rs_I (cm_r (by decide) (by decide)))) rs_I0) ev_int rs_I0)) ev_int (rs_I (by decide))) ?_)
          · refine cm_l (i := p.seed2) ?_ ?_ <;> omega
          exact bv_one (sv_ret (ev_op op_mod (ev_intI T.int (ev_op op_fdiv (ev_var 4 rfl) ev_int (rs_I ⟨by decide, by decide⟩))) (ev_var 1 rfl) (rs_I h1)) ⟨rfl, Mle.refl _⟩)
      refine bv_cons (sv_if (tv_cmpR op_lt (ev_ixM (ev_var 0 rfl) ev_int Mem.set_same rfl) (ev_lenL T.len (ev_ixM (ev_var 0 rfl) ev_int Mem.set_same rfl)) rs_I0 (nomark _)) (fun h => ?_) (fun h => ?_))
      · have hlt : p.at_ < p.cells.length := by
          have q := of_decide_eq_true h
          rw [List.length_map] at q
          exact q
        have hc : atI (p.cells.map dI) p.at_ = some (dI p.cell) := by
          have a0 := ok.a0
          unfold atI ixN Pool.cell
          rw [if_pos a0, List.length_map, if_pos hlt, if_pos hlt]
          show (p.cells.map dI)[p.at_.toNat]? = _
          rw [List.getElem?_map, List.getD_eq_getElem?_getD]
          have hn : p.at_.toNat < p.cells.length := by omega
          rw [List.getElem?_eq_getElem hn]
          rfl
        exact bv_one (sv_set 3 sc_take.nd (ev_ixL (ev_ixM (ev_var 0 rfl) ev_int Mem.set_same rfl) (ev_ixM (ev_var 0 rfl) ev_int Mem.set_same rfl) hc) rest)
      · have hlt : ¬ p.at_ < p.cells.length := by
          have q := of_decide_eq_false h
          rw [List.length_map] at q
          exact q
        have e : p.cell = 0 := if_neg hlt
        rw [e] at rest
        exact bv_nil rest
end
def conv (n : Int) : Int := if 0 ≤ n then 2 * n else -2 * n - 1
def convD : D → D
  | .val (.int n) => dI (conv n)
  | d => d
def Pool.new (ns : List Int) : Pool := ⟨ns.map conv, 0, 0, 17⟩
theorem Pool.new_ok (ns : List Int) : (Pool.new ns).Ok := ⟨by show (0 : Int) ≤ 0; decide, by show (0 : Int) ≤ 17; decide, by show (17 : Int) < 2147483648; decide⟩
def PrPool (ds : List D) (M : Mem) (es : List D) (M' : Mem) : Prop := ∃ ns : List Int, ds = [.lst (ns.map dI)] ∧ ns.length ≤ 1000 ∧ M' = M ∧ Pool.mo (Pool.new ns) = .lst es
section
variable {P : Program} {w : World} {K : PySem.W.Frag} {mg : Str → Option Value} {base : Heap} {f : Addr} {fd : FuncData}
theorem c_pool (F : Fun K "_law_pool" "_law_pool" s_pool f fd) (hm : mg "_law_pool" = some (.ref f)) : Cal P w K mg base 1 "_law_pool" (spN K PrPool) := by
  refine calN_of F sc_pool hm (fun _ _ _ _ _ _ us hl => match us, hl with | [_], _ => rfl) (fun ds M d M' h => ?_) fun cdv A outer s H E ds M es M' hr h => ?_
  · obtain ⟨ns, rfl, _⟩ := h
    rfl
  · obtain ⟨ns, rfl, hl, rfl, he⟩ := h
    show BV _ _ [some (.lst (ns.map dI)), none] _ _
    have e2 : (ns.map dI).map convD = (ns.map conv).map dI := by
      rw [List.map_map, List.map_map]
      rfl
    have e : es = [.lst ((ns.map dI).map convD), dI 0, dI 0, dI 17] := by
      rw [e2]
      injection he with he
      rw [← he]
      rfl
    subst e
    refine bv_one (sv_retNew (en_lst (av_cons (ev_lcM (own := [("cell", 1)]) (g := gName 1) rfl sc_pool.nd (iv_list (ev_var 0 rfl)) (blkOk_by (N := ["script", "cell"]) (sc := defScope s_pool) (by decide +kernel)) (fun _ _ _ _ _ => pg_name (i := 1) sc_pool.nd rfl (Or.inl rfl)) convD ?_ (fun i d h => ?_)) (av_cons ev_int (av_cons ev_int (av_cons ev_int av_nil))))) (fun p hp => ⟨p, rfl, hp, Mle.refl _⟩))
    · rw [List.length_map]
      exact Nat.le_trans hl (by decide)
    · refine ⟨_, tgb_name, fun M2 s H C cl fp => ?_⟩
      rw [List.getElem?_map] at h
      cases q : ns[i]? with
      | none => rw [q] at h; cases h
      | some n =>
        rw [q] at h
        cases h
        refine ev_to (ev_ifB (tv_cmpR op_ge (ev_var 1 rfl) ev_int rs_I0 (nomark _)) (ev_op op_mul ev_int (ev_var 1 rfl) (rs_I (cm_l (by decide) (by decide)))) (ev_op op_sub (ev_op op_mul (ev_un un_neg ev_int ru_neg) (ev_var 1 rfl) (rs_I (cm_l (by decide) (by decide)))) ev_int rs_I0)) ?_
        show (if decide (0 ≤ n) = true then dI (2 * n) else dI (-2 * n - 1)) = dI (if 0 ≤ n then 2 * n else -2 * n - 1)
        by_cases c : 0 ≤ n
        · rw [if_pos (decide_eq_true c), if_pos c]
        · rw [if_neg (by rw [decide_eq_false c]; decide), if_neg c]
end
def PrPick (ds : List D) (M : Mem) (d : D) (M' : Mem) : Prop := ∃ a M0 p b es, ds = [dP a, sq b es] ∧ M = Mem.set M0 a (Pool.mo p) ∧ p.Ok ∧ 0 < es.length ∧ es.length < 1073741824 ∧ es[(p.take es.length).1.toNat]? = some d ∧ M' = M0.set a (p.take es.length).2.mo
def PrIsInt (ds : List D) (M : Mem) (d : D) (M' : Mem) : Prop := ∃ i : Int, ds = [dI i] ∧ d = dB true ∧ M' = M
/-- trees that _law_same goes through -/
def okD : Nat → D → Prop
  | _, .val v => v = .non ∨ (∃ b, v = .bl b) ∨ (∃ i, v = .int i) ∨ ∃ z, v = .str z
  | n + 1, .tup ds => ds.length ≤ 1000000 ∧ ∀ d ∈ ds, okD n d
  | n + 1, .lst ds => ds.length ≤ 1000000 ∧ ∀ d ∈ ds, okD n d
  | 0, _ => False
def PrSame (n : Nat) (ds : List D) (M : Mem) (d : D) (M' : Mem) : Prop := ∃ t, ds = [t, t] ∧ okD n t ∧ d = dB true ∧ M' = M
theorem atI_nat {ds : List D} {i : Int} {d : D} {k : Nat} (h : ds[k]? = some d) (e : i = (k : Int)) : atI ds i = some d := by
  subst e
  have hk : k < ds.length := (List.getElem?_eq_some_iff.mp h).1
  unfold atI ixN
  rw [if_pos (by omega), if_pos (by omega)]
  exact h
section
variable {P : Program} {w : World} {K : PySem.W.Frag} {mg : Str → Option Value} {base : Heap} {f : Addr} {fd : FuncData}
theorem c_pick (F : Fun K "_law_pick" "_law_pick" s_pick f fd) (hm : mg "_law_pick" = some (.ref f)) (T : Bt mg) (c_take : Cal P w K mg base 2 "_law_take" (spD K PrTake)) : Cal P w K mg base 3 "_law_pick" (spD K PrPick) := by
  refine cal_of F sc_pick hm (fun _ _ _ _ _ _ us hl => match us, hl with | [_, _], _ => rfl) (fun ds M d M' h => ?_) fun cdv A outer s H E ds M d M' hr h => ?_
  · obtain ⟨a, M0, p, b, es, rfl, _⟩ := h
    rfl
  · obtain ⟨a, M0, p, b, es, rfl, rfl, ok, h1, h2, h3, rfl⟩ := h
    show BV _ _ [some (dP a), some (sq b es)] _ _
    have h1' : (0 : Int) < es.length := by omega
    refine bv_one (sv_ret (ev_ixQ (ev_var 1 rfl) (ev_call c_take (hr.mono (by decide)) (av_cons (ev_var 0 rfl) (av_cons (ev_lenQ T.len (ev_var 1 rfl)) av_nil)) ⟨a, M0, p, es.length, rfl, rfl, ok, h1', by omega, rfl, rfl⟩) (atI_nat h3 ?_)) ⟨rfl, Mle.refl _⟩)
    have := p.take_lo h1'
    omega
theorem c_is_integer (F : Fun K "_law_is_integer" "_law_is_integer" s_is_integer f fd) (hm : mg "_law_is_integer" = some (.ref f)) (T : Bt mg) : Cal P w K mg base 1 "_law_is_integer" (spD K PrIsInt) := by
  refine cal_of F sc_is_integer hm (fun _ _ _ _ _ _ us hl => match us, hl with | [_], _ => rfl) (fun ds M d M' h => ?_) fun cdv A outer s H E ds M d M' hr h => ?_
  · obtain ⟨i, rfl, _⟩ := h
    rfl
  · obtain ⟨i, rfl, rfl, rfl⟩ := h
    show BV _ _ [some (dI i)] _ _
    exact bv_one (sv_ret (ev_andB (ev_isi (r := true) T.isinstance T.int boot_int (ev_var 0 rfl) rfl (by decide +kernel)) (fun h => (ev_one (b := true) (ev_notB (ev_isi (r := false) T.isinstance T.bool boot_bool (ev_var 0 rfl) rfl (by decide +kernel)))))) ⟨rfl, Mle.refl _⟩)
theorem all_true (n : Nat) : ((List.range n).map fun _ => true).all id = true := by
  rw [List.all_map]
  exact List.all_eq_true.mpr fun _ _ => rfl
theorem same_val (T : Bt mg) (c_is_integer : Cal P w K mg base 1 "_law_is_integer" (spD K PrIsInt)) {cdv : Value} {A : Around} {outer : List Env} {s : Shared} {H : Hp} {E : XK} {M' : Mem} {v : V} {n : Nat}
    (hr : Room 1 (A.deeper (envOfC "_law_same" (defScope s_same) s.heap.objs.size f cdv))) (ok : okD n (.val v)) :
    BV (cxOf CX0 P w K mg base ["actual", "due", "k"] "_law_same" (defScope s_same) f cdv A outer s H E).nox (defBody s_same) [some (.val v), some (.val v), none] M' (Fin (dB true) M') := by
  have ok : v = .non ∨ (∃ b, v = .bl b) ∨ (∃ i, v = .int i) ∨ ∃ z, v = .str z := by
    cases n <;> exact ok
  rcases ok with rfl | ⟨b, rfl⟩ | ⟨i, rfl⟩ | ⟨z, rfl⟩
  · refine bv_cons (sv_if (tv_val (ev_isi (r := false) T.isinstance T.tuple boot_tuple (ev_var 1 rfl) rfl (by decide +kernel))) (fun h => nomatch h) (fun _ => bv_nil ?_))
    refine bv_cons (sv_if (tv_val (ev_isi (r := false) T.isinstance T.list boot_list (ev_var 1 rfl) rfl (by decide +kernel))) (fun h => nomatch h) (fun _ => bv_nil ?_))
    refine bv_cons (sv_if (tv_isN (ev_var 1 rfl)) (fun h => ?_) (fun h => nomatch h))
    exact bv_one (sv_ret (ev_isN (ev_var 0 rfl)) ⟨rfl, Mle.refl _⟩)
  · refine bv_cons (sv_if (tv_val (ev_isi (r := false) T.isinstance T.tuple boot_tuple (ev_var 1 rfl) rfl (by decide +kernel))) (fun h => nomatch h) (fun _ => bv_nil ?_))
    refine bv_cons (sv_if (tv_val (ev_isi (r := false) T.isinstance T.list boot_list (ev_var 1 rfl) rfl (by decide +kernel))) (fun h => nomatch h) (fun _ => bv_nil ?_))
    refine bv_cons (sv_if (tv_isN (ev_var 1 rfl)) (fun h => nomatch h) (fun _ => bv_nil ?_))
    refine bv_cons (sv_if (tv_val (ev_isi (r := true) T.isinstance T.bool boot_bool (ev_var 1 rfl) rfl (by decide +kernel))) (fun h => ?_) (fun h => nomatch h))
    refine bv_one (sv_ret (ev_andB (ev_isi (r := true) T.isinstance T.bool boot_bool (ev_var 0 rfl) rfl (by decide +kernel)) (fun h => (ev_one (b := true) (ev_cmpR op_eq (ev_var 0 rfl) (ev_var 1 rfl) rs_eqB (nomark _))))) ⟨?_, Mle.refl _⟩)
    rw [decide_eq_true rfl]
    rfl
  · refine bv_cons (sv_if (tv_val (ev_isi (r := false) T.isinstance T.tuple boot_tuple (ev_var 1 rfl) rfl (by decide +kernel))) (fun h => nomatch h) (fun _ => bv_nil ?_))
    refine bv_cons (sv_if (tv_val (ev_isi (r := false) T.isinstance T.list boot_list (ev_var 1 rfl) rfl (by decide +kernel))) (fun h => nomatch h) (fun _ => bv_nil ?_))
    refine bv_cons (sv_if (tv_isN (ev_var 1 rfl)) (fun h => nomatch h) (fun _ => bv_nil ?_))
    refine bv_cons (sv_if (tv_val (ev_isi (r := false) T.isinstance T.bool boot_bool (ev_var 1 rfl) rfl (by decide +kernel))) (fun h => nomatch h) (fun _ => bv_nil ?_))
    refine bv_cons (sv_if (tv_val (ev_isi (r := false) T.isinstance T.str boot_str (ev_var 1 rfl) rfl (by decide +kernel))) (fun h => nomatch h) (fun _ => bv_nil ?_))
    refine bv_one (sv_ret (ev_andB (p := true) (ev_call c_is_integer (hr.mono (by decide)) (av_cons (ev_var 0 rfl) av_nil) ⟨i, rfl, rfl, rfl⟩) (fun h => (ev_one (b := true) (ev_cmpR op_eq (ev_var 0 rfl) (ev_var 1 rfl) rs_eqI (nomark _))))) ⟨?_, Mle.refl _⟩)
    rw [decide_eq_true rfl]
    rfl
  · refine bv_cons (sv_if (tv_val (ev_isi (r := false) T.isinstance T.tuple boot_tuple (ev_var 1 rfl) rfl (by decide +kernel))) (fun h => nomatch h) (fun _ => bv_nil ?_))
    refine bv_cons (sv_if (tv_val (ev_isi (r := false) T.isinstance T.list boot_list (ev_var 1 rfl) rfl (by decide +kernel))) (fun h => nomatch h) (fun _ => bv_nil ?_))
    refine bv_cons (sv_if (tv_isN (ev_var 1 rfl)) (fun h => nomatch h) (fun _ => bv_nil ?_))
    refine bv_cons (sv_if (tv_val (ev_isi (r := false) T.isinstance T.bool boot_bool (ev_var 1 rfl) rfl (by decide +kernel))) (fun h => nomatch h) (fun _ => bv_nil ?_))
    refine bv_cons (sv_if (tv_val (ev_isi (r := true) T.isinstance T.str boot_str (ev_var 1 rfl) rfl (by decide +kernel))) (fun h => ?_) (fun h => nomatch h))
    refine bv_one (sv_ret (ev_andB (ev_isi (r := true) T.isinstance T.str boot_str (ev_var 0 rfl) rfl (by decide +kernel)) (fun h => (ev_one (b := true) (ev_cmpR op_eq (ev_var 0 rfl) (ev_var 1 rfl) rs_eqS (nomark _))))) ⟨?_, Mle.refl _⟩)
    rw [decide_eq_true rfl]
    rfl
theorem c_same (F : Fun K "_law_same" "_law_same" s_same f fd) (hm : mg "_law_same" = some (.ref f)) (T : Bt mg) (c_is_integer : Cal P w K mg base 1 "_law_is_integer" (spD K PrIsInt)) : ∀ n, Cal P w K mg base (n + 2) "_law_same" (spD K (PrSame n)) := by
  intro n
  induction n with
  | zero =>
    refine cal_of F sc_same hm (fun _ _ _ _ _ _ us hl => match us, hl with | [_, _], _ => rfl) (fun ds M d M' h => ?_) fun cdv A outer s H E ds M d M' hr h => ?_
    · obtain ⟨t, rfl, _⟩ := h
      rfl
    · obtain ⟨t, rfl, ok, rfl, rfl⟩ := h
      show BV _ _ [some t, some t, none] _ _
      cases t with
      | tup ds => exact ok.elim
      | lst ds => exact ok.elim
      | val v => exact same_val T c_is_integer (hr.mono (by decide)) ok
  | succ n ih =>
    refine cal_of F sc_same hm (fun _ _ _ _ _ _ us hl => match us, hl with | [_, _], _ => rfl) (fun ds M d M' h => ?_) fun cdv A outer s H E ds M d M' hr h => ?_
    · obtain ⟨t, rfl, _⟩ := h
      rfl
    · obtain ⟨t, rfl, ok, rfl, rfl⟩ := h
      show BV _ _ [some t, some t, none] _ _
      have hr0 : Room (n + 2) (A.deeper (envOfC "_law_same" (defScope s_same) s.heap.objs.size f cdv)) := hr
      cases t with
      | tup ds =>
        obtain ⟨hl, hd⟩ := ok
        refine bv_cons (sv_if (tv_val (ev_isi (r := true) T.isinstance T.tuple boot_tuple (ev_var 1 rfl) rfl (by decide +kernel))) (fun _ => ?_) (fun h => nomatch h))
        refine bv_cons (sv_if (PW.pt (wv_or (tv_not (tv_val (ev_isi (r := true) T.isinstance T.tuple boot_tuple (ev_var 0 rfl) rfl (by decide +kernel)))) (fun h => (wv_one_or (tv_cmpR op_ne (ev_lenT T.len (ev_var 0 rfl)) (ev_lenT T.len (ev_var 1 rfl)) rs_neI (nomark _)))))) (fun h => ?_) (fun h => bv_nil ?_))
        · rw [decide_eq_true rfl] at h
          cases h
        · refine bv_one (sv_ret (ev_all (bs := (List.range (rgD 0 ((ds.length : Int)).toNat).length).map fun _ => true) rfl T.all (ev_to (ev_lc (own := [("k", 2)]) (g := gName 2) rfl sc_same.nd (iv_range1 T.range (ev_lenT T.len (ev_var 1 rfl)) (by omega)) (blkOk_by (N := ["actual", "due", "k"]) (sc := defScope s_same) (by decide +kernel)) (fun _ _ _ _ _ => pg_name (i := 2) sc_same.nd rfl (Or.inl rfl)) (fun _ => dB true) (fun _ => M') rfl (fun _ _ h => h) (by rw [rgD_len]; exact Nat.le_trans (by omega : _ ≤ 1000000) (by decide)) (fun i d h => ?_)) (by rw [List.map_map] <;> rfl))) ⟨by rw [all_true], Mle.refl _⟩)
          obtain ⟨hi, rfl⟩ := rgD_get h
          refine ⟨_, tgb_name, fun p acc hp s H C cl fp => ?_⟩
          have hi2 : i < ds.length := by omega
          have hg : ds[i]? = some ds[i] := List.getElem?_eq_getElem hi2
          exact ev_call ih hr0 (av_cons (ev_ixT (ev_var 0 rfl) (ev_var 2 rfl) (atI_nat hg (by omega))) (av_cons (ev_ixT (ev_var 1 rfl) (ev_var 2 rfl) (atI_nat hg (by omega))) av_nil)) ⟨ds[i], rfl, hd _ (List.getElem_mem hi2), rfl, rfl⟩
      | lst ds =>
        obtain ⟨hl, hd⟩ := ok
        refine bv_cons (sv_if (tv_val (ev_isi (r := false) T.isinstance T.tuple boot_tuple (ev_var 1 rfl) rfl (by decide +kernel))) (fun h => nomatch h) (fun _ => bv_nil ?_))
        refine bv_cons (sv_if (tv_val (ev_isi (r := true) T.isinstance T.list boot_list (ev_var 1 rfl) rfl (by decide +kernel))) (fun _ => ?_) (fun h => nomatch h))
        refine bv_cons (sv_if (PW.pt (wv_or (tv_not (tv_val (ev_isi (r := true) T.isinstance T.list boot_list (ev_var 0 rfl) rfl (by decide +kernel)))) (fun h => (wv_one_or (tv_cmpR op_ne (ev_lenL T.len (ev_var 0 rfl)) (ev_lenL T.len (ev_var 1 rfl)) rs_neI (nomark _)))))) (fun h => ?_) (fun h => bv_nil ?_))
        · rw [decide_eq_true rfl] at h
          cases h
        · refine bv_one (sv_ret (ev_all (bs := (List.range (rgD 0 ((ds.length : Int)).toNat).length).map fun _ => true) rfl T.all (ev_to (ev_lc (own := [("k", 2)]) (g := gName 2) rfl sc_same.nd (iv_range1 T.range (ev_lenL T.len (ev_var 1 rfl)) (by omega)) (blkOk_by (N := ["actual", "due", "k"]) (sc := defScope s_same) (by decide +kernel)) (fun _ _ _ _ _ => pg_name (i := 2) sc_same.nd rfl (Or.inl rfl)) (fun _ => dB true) (fun _ => M') rfl (fun _ _ h => h) (by rw [rgD_len]; exact Nat.le_trans (by omega : _ ≤ 1000000) (by decide)) (fun i d h => ?_)) (by rw [List.map_map] <;> rfl))) ⟨by rw [all_true], Mle.refl _⟩)
          obtain ⟨hi, rfl⟩ := rgD_get h
          refine ⟨_, tgb_name, fun p acc hp s H C cl fp => ?_⟩
          have hi2 : i < ds.length := by omega
          have hg : ds[i]? = some ds[i] := List.getElem?_eq_getElem hi2
          exact ev_call ih hr0 (av_cons (ev_ixL (ev_var 0 rfl) (ev_var 2 rfl) (atI_nat hg (by omega))) (av_cons (ev_ixL (ev_var 1 rfl) (ev_var 2 rfl) (atI_nat hg (by omega))) av_nil)) ⟨ds[i], rfl, hd _ (List.getElem_mem hi2), rfl, rfl⟩
      | val v => exact same_val T c_is_integer (hr.mono (by omega)) ok
end
/-! frames of the memory: but for what stands at a, what stood stands -/
def Fr1 (a : Addr) (M M' : Mem) : Prop := ∀ b, b ≠ a → ∀ o, M b = some o → M' b = some o
theorem Fr1.refl (a : Addr) (M : Mem) : Fr1 a M M := fun _ _ _ h => h
theorem Fr1.trans {a : Addr} {M M1 M2 : Mem} (h : Fr1 a M M1) (k : Fr1 a M1 M2) : Fr1 a M M2 := fun b n o e => k b n o (h b n o e)
theorem Fr1.set {a : Addr} {M M1 : Mem} {o : MO} (h : Fr1 a M M1) : Fr1 a M (M1.set a o) := fun b n u e => by rw [Mem.set_ne n]; exact h b n u e
/-- what is new may change -/
theorem Fr1.new {a l : Addr} {M M1 : Mem} {o : MO} (h : Fr1 a M M1) (hl : M l = none) : Fr1 a M (M1.set l o) := fun b n u e => by
  rw [Mem.set_ne (fun q => by rw [q, hl] at e; cases e)]
  exact h b n u e
theorem Fr1.up {a : Addr} {M M1 M2 : Mem} (h : Fr1 a M M1) (k : Mle M1 M2) : Fr1 a M M2 := fun b n u e => k b u (h b n u e)
theorem mem_eta {M : Mem} {a : Addr} {o : MO} (h : M a = some o) : M.set a o = M := by
  funext b
  unfold Mem.set
  split
  · rename_i e
    rw [e, h]
  · rfl
theorem Fr1.fin {a : Addr} {M M1 : Mem} {o : MO} (h : Fr1 a M M1) (e : M1 a = some o) : Mle (M.set a o) M1 := fun b u q => by
  by_cases n : b = a
  · subst n
    rw [Mem.set_same] at q
    cases q
    exact e
  · rw [Mem.set_ne n] at q
    exact h b n u q
section
variable {X : Cx} {ρ : Sl} {M : Mem} {st : Stmt} {Ψ : Out → Prop}
/-- behind a statement with several ways: J holds on each -/
def joinR (J : Sl → Mem → Prop) (Ψ : Out → Prop) : Out → Prop
  | .nx ρ M => J ρ M
  | .ct ρ M => Ψ (.ct ρ M)
  | .bk ρ M => Ψ (.bk ρ M)
  | .ret d M => Ψ (.ret d M)
theorem sv_join (J : Sl → Mem → Prop) (h : SV X st ρ M (joinR J Ψ)) (k : ∀ ρ M, J ρ M → Ψ (.nx ρ M)) : SV X st ρ M Ψ := sv_to h fun o ho => by
  cases o with
  | nx ρ M => exact k ρ M ho
  | ct ρ M => exact ho
  | bk ρ M => exact ho
  | ret d M => exact ho
end
theorem hu64 {k : Nat} {A : Around} (h : Room k A) : A.units + 64 < cLine := by have := h.un; omega
/-! draws -/
/-- a def that draws from the pool at a: good answers g with their trees -/
def Draw (M : Mem) (a : Addr) (Φ : D → Mem → Prop) (d : D) : Prop := ∀ p' : Pool, p'.Ok → ∀ M', Fr1 a M M' → M' a = some p'.mo → Φ d M'
def R_take (ds : List D) (M : Mem) (Φ : D → Mem → Prop) : Prop := ∃ a p many, ds = [dP a, dI many] ∧ M a = some (Pool.mo p) ∧ p.Ok ∧ 0 < many ∧ many < 1073741824 ∧ ∀ n : Int, 0 ≤ n → n < many → Draw M a Φ (dI n)
def R_pick (ds : List D) (M : Mem) (Φ : D → Mem → Prop) : Prop := ∃ a p b es, ds = [dP a, sq b es] ∧ M a = some (Pool.mo p) ∧ p.Ok ∧ 0 < es.length ∧ es.length < 1073741824 ∧ ∀ d ∈ es, Draw M a Φ d
theorem Cal.spW_of {P : Program} {w : World} {K : PySem.W.Frag} {mg : Str → Option Value} {base : Heap} {k : Nat} {x : Str} {Pr : List D → Mem → D → Mem → Prop} {R : List D → Mem → (D → Mem → Prop) → Prop} (C : Cal P w K mg base k x (spD K Pr)) (h : ∀ ds M Φ, R ds M Φ → ∃ d M', Pr ds M d M' ∧ Φ d M') : Cal P w K mg base k x (spW K R) :=
  C.imp fun vs H Q E ⟨G, ds, M, Φ, sh, r, q, k⟩ =>
    let ⟨d, M', p, f⟩ := h ds M Φ q
    ⟨G, ds, M, d, M', sh, r, p, fun v G' H' g sh' r' => k v G' H' d M' f g sh' r'⟩
section
variable {P : Program} {w : World} {K : PySem.W.Frag} {mg : Str → Option Value} {base : Heap} {f : Addr} {fd : FuncData}
theorem w_take (C : Cal P w K mg base 2 "_law_take" (spD K PrTake)) : Cal P w K mg base 2 "_law_take" (spW K R_take) := C.spW_of fun ds M Φ ⟨a, p, many, e, hA, ok, h0, h1, hΦ⟩ =>
  ⟨_, _, ⟨a, M, p, many, e, (mem_eta hA).symm, ok, h0, h1, rfl, rfl⟩, hΦ _ (p.take_lo h0) (p.take_hi h0) _ (ok.take many) _ (Fr1.refl _ _).set Mem.set_same⟩
theorem w_pick (C : Cal P w K mg base 3 "_law_pick" (spD K PrPick)) : Cal P w K mg base 3 "_law_pick" (spW K R_pick) := C.spW_of fun ds M Φ ⟨a, p, b, es, e, hA, ok, h0, h1, hΦ⟩ => by
  have h0' : (0 : Int) < es.length := by omega
  have t1 := p.take_lo h0'
  have t2 := p.take_hi h0'
  have hlt : (p.take es.length).1.toNat < es.length := by omega
  exact ⟨_, _, ⟨a, M, p, b, es, e, (mem_eta hA).symm, ok, h0, h1, List.getElem?_eq_getElem hlt, rfl⟩, hΦ _ (List.getElem_mem hlt) _ (ok.take _) _ (Fr1.refl _ _).set Mem.set_same⟩
end
/-! the list that a comprehension makes, out of the memory -/
def Mem.del (M : Mem) (p : Addr) : Mem := fun b => if b = p then none else M b
theorem Mem.del_same {M : Mem} {p : Addr} : M.del p p = none := if_pos rfl
theorem Mem.del_ne {M : Mem} {p b : Addr} (h : b ≠ p) : M.del p b = M b := if_neg h
theorem mem_ne {M : Mem} {a p : Addr} {o : MO} (h : M a = some o) (hp : M p = none) : a ≠ p := fun q => by rw [q, hp] at h; cases h
theorem Mem.set_at {M : Mem} {a p : Addr} {o u : MO} (h : M a = some o) (hp : M p = none) : M.set p u a = some o := by rw [Mem.set_ne (mem_ne h hp)]; exact h
/-- behind an element: the list is as it was -/
theorem lc_back {a p : Addr} {M M' : Mem} {o u : MO} (h : M a = some o) (hp : M p = none) (fr : Fr1 a (M.set p u) M') : M' = (M'.del p).set p u ∧ M'.del p p = none ∧ Fr1 a M (M'.del p) ∧ ∀ q, M' a = some q → M'.del p a = some q := by
  have np : p ≠ a := (mem_ne h hp).symm
  have e : M' p = some u := fr p np u Mem.set_same
  refine ⟨?_, Mem.del_same, fun b n v q => ?_, fun q e => ?_⟩
  · funext b
    unfold Mem.set Mem.del
    by_cases hb : b = p
    · rw [if_pos hb, hb]
      exact e
    · rw [if_neg hb, if_neg hb]
  · have nb : b ≠ p := mem_ne q hp
    rw [Mem.del_ne nb]
    exact fr b n v (by rw [Mem.set_ne nb]; exact q)
  · rw [Mem.del_ne (mem_ne h hp)]
    exact e
/-! repr of trees of bounded size -/
def rp : Nat → Nat → D → Prop
  | _, w, .val v => (v = .non ∧ 4 ≤ w) ∨ ((∃ b, v = .bl b) ∧ 5 ≤ w) ∨ (∃ i, v = .int i ∧ i.natAbs.log2 < 1900 ∧ i.natAbs.log2 + 2 ≤ w) ∨ ∃ z, v = .str z ∧ (reprText z).length ≤ w
  | n + 1, w, .tup ds => ∃ w', ds.length * (w' + 2) + 3 ≤ w ∧ ∀ d ∈ ds, rp n w' d
  | n + 1, w, .lst ds => ∃ w', ds.length * (w' + 2) + 3 ≤ w ∧ ∀ d ∈ ds, rp n w' d
  | 0, _, _ => False
structure RpOk (n w : Nat) (d : D) : Prop where
  pl : D.plain d = true
  nd : d.py.hasDict = false
  ss : d.py.showable = true
  dd : d.py.depth ≤ n
  sz : d.py.shown.length ≤ w
theorem piled_le {w : Nat} : ∀ {ts : List Str}, (∀ t ∈ ts, t.length ≤ w) → piled ts ≤ ts.length * (w + 2)
  | [], _ => Nat.zero_le _
  | t :: ts, h => by
    have a := h t List.mem_cons_self
    have b := piled_le (ts := ts) fun u hu => h u (List.mem_cons_of_mem _ hu)
    rw [piled_cons, List.length_cons, Nat.succ_mul]
    omega
theorem listText_le : ∀ ts : List Str, (listText ts).length ≤ piled ts + 3
  | [] => by decide
  | t :: r => by
    have h := textFrom_length_pos r 1 (("[" : Str) ++ (if (0 : Nat) > 0 then ", " else "" : String) ++ t) (Nat.succ_pos 0)
    have e : (listText (t :: r)).length = (textFrom 1 (("[" : Str) ++ (if (0 : Nat) > 0 then ", " else "" : String) ++ t) r).length + 1 := by
      show (textFrom 1 _ r ++ ("]" : Str)).length = _
      rw [strLen_append]
      rfl
    rw [e, h, piled_cons, strLen_append, strLen_append]
    show 1 + 0 + t.length + _ + 1 ≤ _
    omega
theorem tupleText_le (ts : List Str) : (tupleText ts).length ≤ piled ts + 3 := by
  unfold tupleText
  rw [strLen_append, strLen_append]
  have e1 : ((("(" : String) : Str)).length = 1 := rfl
  have e3 : (((if ts.length == 1 then ",)" else ")" : String) : Str)).length ≤ 2 := by split <;> decide
  have e2 : (Str.join ", " ts).length ≤ piled ts := by
    cases ts with
    | nil => exact Nat.zero_le _
    | cons t r =>
      have := join_length_add (t :: r) (by simp)
      omega
  rw [e1]
  omega
theorem shownAll_eq : ∀ ds : List PyData, PyData.shownAll ds = ds.map PyData.shown
  | [] => by simp only [PyData.shownAll, List.map_nil]
  | d :: ds => by simp only [PyData.shownAll, List.map_cons, shownAll_eq ds]
theorem pyL_eq : ∀ ds : List D, D.pyL ds = ds.map D.py
  | [] => by simp only [D.pyL, List.map_nil]
  | d :: ds => by simp only [D.pyL, List.map_cons, pyL_eq ds]
theorem rp_all {n w : Nat} : ∀ {ds : List D}, (∀ d ∈ ds, RpOk n w d) → D.plainL ds = true ∧ PyData.hasDictAll (D.pyL ds) = false ∧ PyData.showableAll (D.pyL ds) = true ∧ PyData.depthAll (D.pyL ds) ≤ n ∧ (∀ t ∈ PyData.shownAll (D.pyL ds), t.length ≤ w)
  | [], _ => ⟨rfl, by simp [D.pyL, PyData.hasDictAll], by simp [D.pyL, PyData.showableAll], by simp [D.pyL, PyData.depthAll], fun t ht => by simp [D.pyL, PyData.shownAll] at ht⟩
  | d :: ds, h => by
    obtain ⟨a1, a2, a3, a4, a5⟩ := h d List.mem_cons_self
    obtain ⟨b1, b2, b3, b4, b5⟩ := rp_all (ds := ds) fun u hu => h u (List.mem_cons_of_mem _ hu)
    refine ⟨?_, ?_, ?_, ?_, fun t ht => ?_⟩
    · simp only [D.plainL, a1, b1, Bool.and_self]
    · simp only [D.pyL, PyData.hasDictAll, a2, b2, Bool.or_self]
    · simp only [D.pyL, PyData.showableAll, a3, b3, Bool.and_self]
    · simp only [D.pyL, PyData.depthAll]
      omega
    · simp only [D.pyL, PyData.shownAll] at ht
      rcases List.mem_cons.mp ht with rfl | ht
      · exact a5
      · exact b5 t ht
theorem rp_seq {n w : Nat} {ds : List D} {w' : Nat} (hl : ds.length * (w' + 2) + 3 ≤ w) (h : ∀ d ∈ ds, RpOk n w' d) : RpOk (n + 1) w (.tup ds) ∧ RpOk (n + 1) w (.lst ds) := by
  obtain ⟨b1, b2, b3, b4, b5⟩ := rp_all h
  have e : (PyData.shownAll (D.pyL ds)).length = ds.length := by rw [shownAll_eq, pyL_eq, List.length_map, List.length_map]
  have k := piled_le b5
  rw [e] at k
  have k1 := tupleText_le (PyData.shownAll (D.pyL ds))
  have k2 := listText_le (PyData.shownAll (D.pyL ds))
  refine ⟨⟨?_, ?_, ?_, ?_, ?_⟩, ⟨?_, ?_, ?_, ?_, ?_⟩⟩
  · simpa only [D.plain] using b1
  · simpa only [D.py, PyData.hasDict] using b2
  · simpa only [D.py, PyData.showable] using b3
  · simp only [D.py, PyData.depth]; omega
  · simp only [D.py, PyData.shown]; omega
  · simpa only [D.plain] using b1
  · simpa only [D.py, PyData.hasDict] using b2
  · simpa only [D.py, PyData.showable] using b3
  · simp only [D.py, PyData.depth]; omega
  · simp only [D.py, PyData.shown]; omega
theorem rp_ok : ∀ (n w : Nat) (d : D), rp n w d → RpOk n w d
  | n, w, .val v, h => by
    have h : (v = .non ∧ 4 ≤ w) ∨ ((∃ b, v = .bl b) ∧ 5 ≤ w) ∨ (∃ i, v = .int i ∧ i.natAbs.log2 < 1900 ∧ i.natAbs.log2 + 2 ≤ w) ∨ ∃ z, v = .str z ∧ (reprText z).length ≤ w := by
      cases n <;> exact h
    rcases h with ⟨rfl, hw⟩ | ⟨⟨b, rfl⟩, hw⟩ | ⟨i, rfl, hi, hw⟩ | ⟨z, rfl, hw⟩
    · exact ⟨rfl, by simp only [D.py, PyData.hasDict], by simp only [D.py, PyData.showable], by simp only [D.py, PyData.depth, Nat.zero_le], by simp only [D.py, PyData.shown]; exact hw⟩
    · refine ⟨rfl, by simp only [D.py, PyData.hasDict], by simp only [D.py, PyData.showable], by simp only [D.py, PyData.depth, Nat.zero_le], ?_⟩
      simp only [D.py, PyData.shown]
      cases b
      · exact hw
      · exact Nat.le_trans (show 4 ≤ 5 by decide) hw
    · refine ⟨rfl, by simp only [D.py, PyData.hasDict], ?_, by simp only [D.py, PyData.depth, Nat.zero_le], ?_⟩
      · simp only [D.py, PyData.showable, decide_eq_true_eq]
        omega
      · simp only [D.py, PyData.shown]
        have := int_text_length_le (a := i) (k := i.natAbs.log2 + 1) (by omega) (by omega)
        have e : (Str.ofString (toString i)).length = (toString i).length := by
          rw [Str.ofString_eq_toList]
          simp [Str.length, String.length_toList]
        rw [e]
        omega
    · exact ⟨rfl, by simp only [D.py, PyData.hasDict], by simp only [D.py, PyData.showable], by simp only [D.py, PyData.depth, Nat.zero_le], by simp only [D.py, PyData.shown]; exact hw⟩
  | 0, _, .tup _, h => h.elim
  | 0, _, .lst _, h => h.elim
  | n + 1, w, .tup ds, ⟨w', hl, h⟩ => (rp_seq hl fun d hd => rp_ok n w' d (h d hd)).1
  | n + 1, w, .lst ds, ⟨w', hl, h⟩ => (rp_seq hl fun d hd => rp_ok n w' d (h d hd)).2
theorem rp_mono {n w w2 : Nat} : ∀ {d : D}, rp n w d → w ≤ w2 → rp n w2 d
  | .val v, h, hw => by
    have h : (v = .non ∧ 4 ≤ w) ∨ ((∃ b, v = .bl b) ∧ 5 ≤ w) ∨ (∃ i, v = .int i ∧ i.natAbs.log2 < 1900 ∧ i.natAbs.log2 + 2 ≤ w) ∨ ∃ z, v = .str z ∧ (reprText z).length ≤ w := by
      cases n <;> exact h
    have k : (v = .non ∧ 4 ≤ w2) ∨ ((∃ b, v = .bl b) ∧ 5 ≤ w2) ∨ (∃ i, v = .int i ∧ i.natAbs.log2 < 1900 ∧ i.natAbs.log2 + 2 ≤ w2) ∨ ∃ z, v = .str z ∧ (reprText z).length ≤ w2 := by
      rcases h with ⟨rfl, h⟩ | ⟨b, h⟩ | ⟨i, e, h, h2⟩ | ⟨z, e, h⟩
      · exact .inl ⟨rfl, by omega⟩
      · exact .inr (.inl ⟨b, by omega⟩)
      · exact .inr (.inr (.inl ⟨i, e, h, by omega⟩))
      · exact .inr (.inr (.inr ⟨z, e, by omega⟩))
    cases n <;> exact k
  | .tup ds, h, hw => by
    cases n with
    | zero => exact h.elim
    | succ n => obtain ⟨w', hl, h⟩ := h; exact ⟨w', by omega, h⟩
  | .lst ds, h, hw => by
    cases n with
    | zero => exact h.elim
    | succ n => obtain ⟨w', hl, h⟩ := h; exact ⟨w', by omega, h⟩
theorem rp_int {n w : Nat} {i : Int} (h : i.natAbs < 2 ^ 1000) (hw : 1002 ≤ w) : rp n w (dI i) := by
  have l : i.natAbs.log2 < 1000 := PySem.Flt.log2_lt_of (by decide) h
  cases n <;> exact .inr (.inr (.inl ⟨i, rfl, by omega, by omega⟩))
section
variable {X : Cx} {ρ : Sl} {M M1 : Mem} {e : Expr} {d : D} {pos : Pos}
theorem ev_reprB {p : Pos} {n w k : Nat} (g : X.A.guards = some []) (hr : Room k X.A) (hm : X.mg "repr" = none) (ha : EV X e ρ M d M1) (h : rp n w d) (nv : ∀ v, d ≠ .val v) (hn : n < 60) (hw : w ≤ sizeLine) (hg : Gl X "repr" := by rfl) (hst : starEach [e] X.env = [(false, eval e X.env)] := by rfl) :
    EV X (.Call (.Name "repr" p) [e] [] pos) ρ M (dS d.py.shown) M1 := by
  obtain ⟨h1, h2, h3, h4, h5⟩ := rp_ok n w d h
  exact ev_repr g (hu64 hr) hm ha h1 nv h2 h3 (by omega) (by omega) hg hst
end
/-! great ints -/
def CDivS (_ j : Int) : Prop := j ≠ 0 ∧ j.natAbs.log2 < 9000
def Bd (k : Nat) (i : Int) : Prop := i.natAbs < 2 ^ k
theorem Bd.mono {k l : Nat} {i : Int} (h : Bd k i) (e : k ≤ l) : Bd l i := Nat.lt_of_lt_of_le h (Nat.pow_le_pow_right (by decide) e)
theorem Bd.mul {k l : Nat} {i j : Int} (h : Bd k i) (e : Bd l j) : Bd (k + l) (i * j) := wide_lt h e
theorem Bd.add {k : Nat} {i j : Int} (h : Bd k i) (e : Bd k j) : Bd (k + 1) (i + j) := by
  unfold Bd at *
  rw [Nat.pow_succ]
  omega
theorem Bd.sub {k : Nat} {i j : Int} (h : Bd k i) (e : Bd k j) : Bd (k + 1) (i - j) := by
  unfold Bd at *
  rw [Nat.pow_succ]
  omega
theorem Bd.neg {k : Nat} {i : Int} (h : Bd k i) : Bd k (-i) := by
  unfold Bd at *
  omega
theorem Bd.le {k : Nat} {i j : Int} (h : Bd k i) (e : j.natAbs ≤ i.natAbs) : Bd k j := Nat.lt_of_le_of_lt e h
theorem Bd.of {k : Nat} {i m : Int} (h : -m ≤ i ∧ i ≤ m) (e : m.natAbs < 2 ^ k) : Bd k i := by
  unfold Bd
  omega
theorem Bd.cm {k l : Nat} {i j : Int} (h : Bd k i) (e : Bd l j) (hk : 0 < k := by decide) (hl : 0 < l := by decide) (hs : k + l ≤ 1000000 := by decide) : CMulW i j := wide_mul h e hk hl hs
theorem Bd.cd {l : Nat} {i j : Int} (e : Bd l j) (h : 0 < j) (hl : 0 < l := by decide) (hs : l ≤ 9000 := by decide) : CDivW i j := wide_div h e hl hs
section
variable {X : Cx} {ρ : Sl} {M M1 M2 : Mem} {a b e : Expr} {es : List Expr} {pos : Pos}
theorem op_fdivS : OpR X (binaryOp .FloorDiv) (rI CDivS fun i j => .int (i.fdiv j)) := opI fun _ _ _ _ _ _ _ hc q => floordiv_int hc.1 q (.inl (PyProof.noPylong_of_log2 hc.2))
/-- f(x, y), f a module's name of a built-in function of two ints -/
theorem ev_bf2 {x : Str} {id : String} {p : Pos} {i j : Int} {z : V} {r : List V → Hp → VK → Prop} (hc : CallR X (.builtin id) r) (hm : X.mg x = some (.builtin id)) (ha : EV X a ρ M (dI i) M1) (hb : EV X b ρ M1 (dI j) M2) (hr : ∀ H Q, Q z H → r [.int i, .int j] H Q) (hg : Gl X x := by rfl)
    (hd : (x == ("__debug__" : Str)) = false := by decide) (hst : starEach [a, b] X.env = (false, eval a X.env) :: starEach [b] X.env := by rfl) (hst2 : starEach [b] X.env = [(false, eval b X.env)] := by rfl) (hpl : (backTo pos (starEach [b] X.env)).any (·.1) = false := by rfl) : EV X (.Call (.Name x p) [a, b] [] pos) ρ M (.val z) M2 :=
  (pe_callBfun hc hg hm (av_cons ha (av_cons hb av_nil hst2) hst) (hdb := hd) (he := hst) (hpl := hpl)).mono fun σ H Q ⟨G, sa, k⟩ => ⟨G, sa, fun vs G1 H1 g1 sh1 r1 => by
    rw [RepL.of_vals (xs := [.int i, .int j]) r1]
    exact hr _ _ (k _ G1 H1 g1 sh1 (.val _))⟩
def rLcm : List V → Hp → VK → Prop := fun vs H Q => ∃ a b : Int, vs = [.int a, .int b] ∧ (a.natAbs < 2 ^ 64 ∧ b.natAbs < 2 ^ 64) ∧ Q (.int ((Nat.lcm a.natAbs b.natAbs : Nat) : Int)) H
theorem cr_lcm : CallR X (.builtin "math.lcm") rLcm := by
  intro pins s σ H vs us Q I r h
  obtain ⟨a, b, rfl, ⟨ha, hb⟩, q⟩ := h
  obtain ⟨t, u, rfl⟩ := Vals.int2 r
  have e : (Nat.lcm 1 a.natAbs).lcm b.natAbs = Nat.lcm a.natAbs b.natAbs := by rw [Nat.lcm_one_left]
  have hz : Nat.lcm a.natAbs b.natAbs < 2 ^ 128 := Nat.lt_of_le_of_lt (show a.natAbs * b.natAbs / _ ≤ _ from Nat.div_le_self _ _) (Nat.lt_of_lt_of_eq (Nat.mul_lt_mul'' ha hb) (by decide))
  refine PySem.W.mg_lcm ha hb ?_ ⟨.int _, H, I.tok _, ⟨_, rfl⟩, ?_⟩
  · rw [e, Int.natAbs_natCast]
    exact Nat.lt_trans (PySem.Flt.log2_lt_of (by decide) hz) (by decide)
  · rw [e]
    exact q
end
/-! ### fractions in lowest terms -/
def gz (n d : Int) : Int := ((Nat.gcd n.natAbs d.natAbs : Nat) : Int)
def low (n d : Int) : Int × Int := (n / gz n d, d / gz n d)
def frD (p : Int × Int) : D := .tup [dI p.1, dI p.2]
def frac (n d : Int) : Int × Int := (n.fdiv (if d < 0 then -gz n d else gz n d), d.fdiv (if d < 0 then -gz n d else gz n d))
theorem gz_pos {n d : Int} (h : d ≠ 0) : 0 < gz n d := by
  have := Nat.gcd_pos_of_pos_right n.natAbs (Int.natAbs_pos.mpr h)
  unfold gz
  omega
theorem gz_dl (n d : Int) : gz n d ∣ n := by
  unfold gz
  exact Int.ofNat_dvd_left.mpr (Nat.gcd_dvd_left _ _)
theorem gz_dr (n d : Int) : gz n d ∣ d := by
  unfold gz
  exact Int.ofNat_dvd_left.mpr (Nat.gcd_dvd_right _ _)
theorem gz_neg (n d : Int) : gz (-n) (-d) = gz n d := by
  unfold gz
  rw [Int.natAbs_neg, Int.natAbs_neg]
theorem fdiv_neg_ex {n g : Int} (hg : 0 < g) (h : g ∣ n) : n.fdiv (-g) = -n / g := by
  obtain ⟨q, rfl⟩ := h
  have e1 : g * q = -g * -q := by rw [Int.neg_mul_neg]
  have e2 : -(g * q) = g * -q := by rw [Int.mul_neg]
  rw [e2, Int.mul_ediv_cancel_left _ (by omega), e1, Int.mul_fdiv_cancel_left _ (by omega)]
theorem frac_pos {n d : Int} (h : 0 < d) : frac n d = low n d := by
  have g := gz_pos (n := n) (show d ≠ 0 by omega)
  unfold frac low
  rw [if_neg (by omega), Int.fdiv_eq_ediv_of_nonneg _ (by omega), Int.fdiv_eq_ediv_of_nonneg _ (by omega)]
theorem frac_neg {n d : Int} (h : d < 0) : frac n d = low (-n) (-d) := by
  have g := gz_pos (n := n) (show d ≠ 0 by omega)
  unfold frac low
  rw [if_pos h, gz_neg, fdiv_neg_ex g (gz_dl n d), fdiv_neg_ex g (gz_dr n d)]
theorem gz_mul {n d c : Int} (hc : 0 < c) : gz (n * c) (d * c) = gz n d * c := by
  unfold gz
  rw [Int.natAbs_mul, Int.natAbs_mul, Nat.gcd_mul_right, Int.natCast_mul]
  congr 1
  omega
theorem low_mul {n d c : Int} (hd : d ≠ 0) (hc : 0 < c) : low (n * c) (d * c) = low n d := by
  have g := gz_pos (n := n) hd
  unfold low
  rw [gz_mul hc, Int.mul_ediv_mul_of_pos_left _ _ hc, Int.mul_ediv_mul_of_pos_left _ _ hc]
theorem low_cross {n d n' d' : Int} (hd : 0 < d) (hd' : 0 < d') (h : n * d' = n' * d) : low n d = low n' d' := by
  rw [← low_mul (show d ≠ 0 by omega) hd', ← low_mul (n := n') (show d' ≠ 0 by omega) hd, h, Int.mul_comm d d']
theorem low_den {n d : Int} (hd : 0 < d) : 0 < (low n d).2 := by
  have g := gz_pos (n := n) (show d ≠ 0 by omega)
  exact Int.ediv_pos_of_pos_of_dvd hd (by omega) (gz_dr n d)
theorem low_eq {n d : Int} (hd : 0 < d) : (low n d).1 * d = n * (low n d).2 := by
  have g := gz_pos (n := n) (show d ≠ 0 by omega)
  obtain ⟨a, ha⟩ := gz_dl n d
  obtain ⟨b, hb⟩ := gz_dr n d
  show n / gz n d * d = n * (d / gz n d)
  have e1 : n / gz n d = a := by
    rw [Int.ediv_eq_iff_eq_mul_right (by omega) (gz_dl n d)]
    exact ha
  have e2 : d / gz n d = b := by
    rw [Int.ediv_eq_iff_eq_mul_right (by omega) (gz_dr n d)]
    exact hb
  rw [e1, e2]
  calc a * d = a * (gz n d * b) := by rw [← hb]
    _ = gz n d * a * b := by rw [← Int.mul_assoc, Int.mul_comm a]
    _ = n * b := by rw [← ha]
theorem low_bd1 {n d : Int} {k : Nat} (h : Bd k n) : Bd k (low n d).1 := h.le (by
  show (n / gz n d).natAbs ≤ n.natAbs
  exact Int.natAbs_ediv_le_natAbs _ _)
theorem low_bd2 {n d : Int} {k : Nat} (h : Bd k d) : Bd k (low n d).2 := h.le (by
  show (d / gz n d).natAbs ≤ d.natAbs
  exact Int.natAbs_ediv_le_natAbs _ _)
theorem low_num {n d : Int} (hn : 0 < n) (hd : 0 < d) : 0 < (low n d).1 := by
  have g := gz_pos (n := n) (show d ≠ 0 by omega)
  exact Int.ediv_pos_of_pos_of_dvd hn (by omega) (gz_dl n d)
theorem low_dvd (n d : Int) : (low n d).2 ∣ d := by
  obtain ⟨b, hb⟩ := gz_dr n d
  by_cases h : gz n d = 0
  · rw [hb, h, Int.zero_mul]
    exact ⟨0, by rw [Int.mul_zero]⟩
  · refine ⟨gz n d, ?_⟩
    show d = d / gz n d * gz n d
    rw [Int.ediv_mul_cancel (gz_dr n d)]
/-! Euclid's steps -/
structure Euc (P g i x y : Nat) : Prop where
  gc : Nat.gcd x y = g
  pr : x * y * 2 ^ (i - 1) ≤ P
  le : 1 ≤ i → y ≤ x
theorem Euc.step {P g i x y : Nat} (h : Euc P g i x y) (hy : 0 < y) : Euc P g (i + 1) y (x % y) := by
  refine ⟨?_, ?_, fun _ => Nat.le_of_lt (Nat.mod_lt _ hy)⟩
  · rw [← h.gc, Nat.gcd_comm x y, Nat.gcd_rec y x, Nat.gcd_comm]
  · rw [Nat.add_sub_cancel]
    cases i with
    | zero =>
      refine Nat.le_trans ?_ h.pr
      rw [Nat.mul_comm x y]
      exact Nat.mul_le_mul_right _ (Nat.mul_le_mul_left _ (Nat.mod_le _ _))
    | succ i =>
      have hle := h.le (by omega)
      have key : y * (x % y) * 2 ≤ x * y := by
        have r1 := Nat.mod_lt x hy
        have r2 := Nat.div_add_mod x y
        have q1 : 1 ≤ x / y := (Nat.le_div_iff_mul_le hy).mpr (by omega)
        have q2 : y * 1 ≤ y * (x / y) := Nat.mul_le_mul_left _ q1
        have : x % y * 2 ≤ x := by omega
        rw [Nat.mul_assoc, Nat.mul_comm x y]
        exact Nat.mul_le_mul_left _ this
      have p := h.pr
      rw [Nat.add_sub_cancel] at p
      calc y * (x % y) * 2 ^ (i + 1) = y * (x % y) * 2 * 2 ^ i := by rw [Nat.pow_succ, Nat.mul_comm (2 ^ i) 2, Nat.mul_assoc (y * (x % y)) 2]
        _ ≤ x * y * 2 ^ i := Nat.mul_le_mul_right _ key
        _ ≤ P := p
theorem Euc.end_ {P g k x y : Nat} (h : Euc P g (k + 1) x y) (hP : P < 2 ^ k) : y = 0 := by
  have p := h.pr
  rw [Nat.add_sub_cancel] at p
  have l := h.le (by omega)
  rcases Nat.eq_zero_or_pos y with e | e
  · exact e
  · exfalso
    have : 1 ≤ x * y := Nat.mul_pos (by omega) e
    have := Nat.mul_le_mul_right (2 ^ k) this
    omega
theorem mod_int {x y : Nat} : (x : Int) - (y : Int) * ((x : Int) / (y : Int)) = ((x % y : Nat) : Int) := by
  rw [Int.natCast_emod, Int.emod_def]
def PrLow (ds : List D) (M : Mem) (d : D) (M' : Mem) : Prop := ∃ n k : Int, ds = [dI n, dI k] ∧ 0 < k ∧ Bd 900 n ∧ Bd 900 k ∧ d = frD (low n k) ∧ M' = M
section
variable {P : Program} {w : World} {K : PySem.W.Frag} {mg : Str → Option Value} {base : Heap} {f : Addr} {fd : FuncData}
theorem c_lowest (F : Fun K "_law_lowest" "_law_lowest" s_lowest f fd) (hm : mg "_law_lowest" = some (.ref f)) (T : Bt mg) (ha : mg "abs" = none) : Cal P w K mg base 1 "_law_lowest" (spD K PrLow) := by
  refine cal_of F sc_lowest hm (fun _ _ _ _ _ _ us hl => match us, hl with | [_, _], _ => rfl) (fun ds M d M' h => ?_) fun cdv A outer s H E ds M d M' hr h => ?_
  · obtain ⟨n, k, rfl, _⟩ := h
    rfl
  · obtain ⟨n, k, rfl, h0, hn, hk, rfl, rfl⟩ := h
    show BV _ _ [some (dI n), some (dI k), none, none, none] _ _
    refine bv_cons (sw_par 2 3 rfl sc_lowest.nd (aw_av (av_cons (ev_abs ha (ev_var 0 rfl)) (av_cons (ev_var 1 rfl) av_nil)) ⟨_, _, rfl, ?_⟩))
    have eabs : (if n < 0 then -n else n) = ((n.natAbs : Nat) : Int) := by split <;> omega
    have ek : k = ((k.natAbs : Nat) : Int) := by omega
    rw [eabs]
    refine bv_cons (sv_join (fun ρ M => ∃ x y t, ρ = [some (dI n), some (dI k), some (dI x), some y, t] ∧ M = M' ∧ x = gz n k) ?_ ?_)
    · refine sw_for rfl (pg_name (i := 4) sc_lowest.nd rfl (.inl rfl)) (iw_iv (iv_range1 T.range ev_int (by decide)) ⟨fun i ρ M => ∃ (x y : Nat) (t : Option D), ρ = [some (dI n), some (dI k), some (dI x), some (dI y), t] ∧ M = M' ∧ Bd 900 x ∧ Bd 900 y ∧ Euc (n.natAbs * k.natAbs) (Nat.gcd n.natAbs k.natAbs) i x y, ?_, fun i d ρ' M1 hd iv => ?_, fun ρ' M1 iv => ?_⟩)
      · refine ⟨n.natAbs, k.natAbs, none, by rw [← ek]; rfl, rfl, ?_, ?_, rfl, ?_, fun h => by omega⟩
        · exact hn.le (by omega)
        · exact hk.le (by omega)
        · show n.natAbs * k.natAbs * 2 ^ 0 ≤ _
          omega
      · obtain ⟨x, y, t, rfl, rfl, bx, hy, eu⟩ := iv
        refine ⟨_, tg_name, ?_⟩
        refine bv_cons (sv_if (tv_cmpR op_eq (ev_var 3 rfl) ev_int rs_eqI (nomark _)) (fun h => ?_) (fun h => bv_nil ?_))
        · have y0 : y = 0 := by have := of_decide_eq_true h; omega
          subst y0
          refine bv_one (sv_break ⟨_, _, _, rfl, rfl, ?_⟩)
          have := eu.gc
          rw [Nat.gcd_zero_right] at this
          rw [this]
          rfl
        · have y0 : 0 < y := by have := of_decide_eq_false h; omega
          have q0 : Bd 900 ((x : Int) / (y : Int)) := bx.le (Int.natAbs_ediv_le_natAbs _ _)
          refine bv_one (sw_par 2 3 rfl sc_lowest.nd (aw_av (av_cons (ev_var 3 rfl) (av_cons (ev_op op_sub (ev_var 2 rfl) (ev_op op_mulW (ev_var 3 rfl) (ev_intI T.int (ev_op op_fdivW (ev_var 2 rfl) (ev_var 3 rfl) (rs_I (hy.cd (by omega))))) (rs_I (hy.cm q0))) rs_I0) av_nil)) ⟨_, _, rfl, ?_⟩))
          rw [mod_int]
          refine ⟨y, x % y, _, rfl, rfl, hy, ?_, eu.step y0⟩
          refine hy.le ?_
          have := Nat.mod_lt x y0
          omega
      · obtain ⟨x, y, t, rfl, rfl, bx, hy, eu⟩ := iv
        rw [rgD_len] at eu
        have y0 := Euc.end_ (k := 1999) eu (by
          refine Nat.lt_of_lt_of_le (Nat.mul_lt_mul'' hn hk) ?_
          rw [← Nat.pow_add]
          exact Nat.pow_le_pow_right (by decide) (by decide))
        subst y0
        refine ⟨_, _, _, rfl, rfl, ?_⟩
        have := eu.gc
        rw [Nat.gcd_zero_right] at this
        rw [this]
        rfl
    · rintro ρ M ⟨x, y, t, rfl, rfl, rfl⟩
      have g0 := gz_pos (n := n) (show k ≠ 0 by omega)
      have gb : Bd 900 (gz n k) := by
        refine hk.le ?_
        have := Nat.gcd_le_right n.natAbs (show 0 < k.natAbs by omega)
        unfold gz
        omega
      exact bv_one (sv_ret (ev_tup (av_cons (ev_op op_fdivW (ev_var 0 rfl) (ev_var 2 rfl) (rs_I (gb.cd g0))) (av_cons (ev_op op_fdivW (ev_var 1 rfl) (ev_var 2 rfl) (rs_I (gb.cd g0))) av_nil))) ⟨rfl, Mle.refl _⟩)
theorem low_at {n k : Int} (h : 0 < k) (hn : Bd 900 n) (hk : Bd 900 k) {M : Mem} : PrLow [dI n, dI k] M (frD (low n k)) M := ⟨n, k, rfl, h, hn, hk, rfl, rfl⟩
end
theorem okD_int {n : Nat} (i : Int) : okD n (dI i) := by cases n <;> exact .inr (.inr (.inl ⟨i, rfl⟩))
theorem okD_bool {n : Nat} (b : Bool) : okD n (dB b) := by cases n <;> exact .inr (.inl ⟨b, rfl⟩)
theorem okD_fr (p : Int × Int) : okD 1 (frD p) := ⟨by show 2 ≤ 1000000; decide, fun d hd => by
  rcases List.mem_cons.mp hd with rfl | hd
  · exact okD_int _
  · rcases List.mem_cons.mp hd with rfl | hd
    · exact okD_int _
    · cases hd⟩
section
variable {X : Cx} {ρ : Sl} {M : Mem} {rest : List Stmt} {Ψ : Out → Prop} {ds : List D}
theorem mem_del_set {M : Mem} {l : Addr} {o : MO} (h : M l = some o) : (M.del l).set l o = M := by
  funext b
  unfold Mem.set Mem.del
  by_cases hb : b = l
  · rw [if_pos hb, hb, h]
  · rw [if_neg hb, if_neg hb]
/-- the list at p is changed no more -/
theorem bv_still (i : Nat) {p : Addr} (hρ : ρ[i]? = some (some (dP p))) (hm : M p = some (.lst ds)) (h : BV X rest (ρ.set i (some (.lst ds))) (M.del p) Ψ) : BV X rest ρ M Ψ := by
  have q := bv_freeze (M := M.del p) i hρ Mem.del_same h
  rwa [mem_del_set hm] at q
end
def Pool.tone1 (p : Pool) : Int × Pool := if ((p.take 15).2.take 12).1 = 0 then ((((p.take 15).2.take 12).2.take 101).1 - 50, (((p.take 15).2.take 12).2.take 101).2) else ((p.take 15).1 - 7, ((p.take 15).2.take 12).2)
def Pool.tone (p : Pool) : Int × Int × Pool := (p.tone1.1, (p.tone1.2.take 7).1 - 4 * p.tone1.1 / 7, (p.tone1.2.take 7).2)
theorem Pool.Ok.tone1 {p : Pool} (ok : p.Ok) : p.tone1.2.Ok := by
  unfold Pool.tone1
  split
  · exact ((ok.take _).take _).take _
  · exact (ok.take _).take _
theorem Pool.Ok.tone {p : Pool} (ok : p.Ok) : p.tone.2.2.Ok := ok.tone1.take _
theorem Pool.tone_bd (p : Pool) : (-50 ≤ p.tone.1 ∧ p.tone.1 ≤ 50) ∧ -100 ≤ p.tone.2.1 ∧ p.tone.2.1 ≤ 100 := by
  have h1 : -50 ≤ p.tone1.1 ∧ p.tone1.1 ≤ 50 := by
    unfold Pool.tone1
    have a1 := p.take_lo (many := 15) (by decide)
    have a2 := p.take_hi (many := 15) (by decide)
    have b1 := ((p.take 15).2.take 12).2.take_lo (many := 101) (by decide)
    have b2 := ((p.take 15).2.take 12).2.take_hi (many := 101) (by decide)
    split
    · exact ⟨by show -50 ≤ _ - 50; omega, by show _ - 50 ≤ (50 : Int); omega⟩
    · exact ⟨by show -50 ≤ _ - 7; omega, by show _ - 7 ≤ (50 : Int); omega⟩
  have c1 := p.tone1.2.take_lo (many := 7) (by decide)
  have c2 := p.tone1.2.take_hi (many := 7) (by decide)
  refine ⟨h1, ?_, ?_⟩
  · show -100 ≤ (p.tone1.2.take 7).1 - 4 * p.tone1.1 / 7
    omega
  · show (p.tone1.2.take 7).1 - 4 * p.tone1.1 / 7 ≤ 100
    omega
def PrTone (ds : List D) (M : Mem) (d : D) (M' : Mem) : Prop := ∃ a M0 p, ds = [dP a] ∧ M = Mem.set M0 a (Pool.mo p) ∧ p.Ok ∧ d = .tup [dI p.tone.1, dI p.tone.2.1] ∧ M' = M0.set a p.tone.2.2.mo
section
variable {P : Program} {w : World} {K : PySem.W.Frag} {mg : Str → Option Value} {base : Heap} {f : Addr} {fd : FuncData}
theorem c_tone (F : Fun K "_law_tone" "_law_tone" s_tone f fd) (hm : mg "_law_tone" = some (.ref f)) (T : Bt mg) (c_take : Cal P w K mg base 2 "_law_take" (spD K PrTake)) : Cal P w K mg base 3 "_law_tone" (spD K PrTone) := by
  refine cal_of F sc_tone hm (fun _ _ _ _ _ _ us hl => match us, hl with | [_], _ => rfl) (fun ds M d M' h => ?_) fun cdv A outer s H E ds M d M' hr h => ?_
  · obtain ⟨a, M0, p, rfl, _⟩ := h
    rfl
  · obtain ⟨a, M0, p, rfl, rfl, ok, rfl, rfl⟩ := h
    show BV _ _ [some (dP a), none] _ _
    have rest : ∀ g q, p.tone1 = (g, q) → q.Ok → BV (cxOf CX0 P w K mg base ["pool", "fifths"] "_law_tone" (defScope s_tone) f cdv A outer s H E).nox ((defBody s_tone).drop 2) [some (dP a), some (dI g)] (M0.set a q.mo) (Fin (.tup [dI p.tone.1, dI p.tone.2.1]) (M0.set a p.tone.2.2.mo)) := fun g q e okq => by
      have e1 : p.tone = (g, (q.take 7).1 - 4 * g / 7, (q.take 7).2) := by unfold Pool.tone; rw [e]
      rw [e1]
      exact bv_one (sv_ret (ev_tup (av_cons (ev_var 1 rfl) (av_cons (ev_op op_sub (ev_call c_take (hr.mono (by decide)) (av_cons (ev_var 0 rfl) (av_cons ev_int av_nil)) ⟨a, M0, q, 7, rfl, rfl, okq, by decide, by decide, rfl, rfl⟩) (ev_intI T.int (ev_op op_fdiv (ev_op op_mul ev_int (ev_var 1 rfl) (rs_I (cm_l (by decide) (by decide)))) ev_int (rs_I ⟨by decide, by decide⟩))) rs_I0) av_nil))) ⟨rfl, Mle.refl _⟩)
    refine bv_cons (sv_set 1 sc_tone.nd (ev_op op_sub (ev_call c_take (hr.mono (by decide)) (av_cons (ev_var 0 rfl) (av_cons ev_int av_nil)) ⟨a, M0, p, 15, rfl, rfl, ok, by decide, by decide, rfl, rfl⟩) ev_int rs_I0) ?_)
    refine bv_cons (sv_if (tv_cmpR op_eq (ev_call c_take (hr.mono (by decide)) (av_cons (ev_var 0 rfl) (av_cons ev_int av_nil)) ⟨a, M0, (p.take 15).2, 12, rfl, rfl, ok.take _, by decide, by decide, rfl, rfl⟩) ev_int rs_eqI (nomark _)) (fun h => ?_) (fun h => ?_))
    · exact bv_one (sv_set 1 sc_tone.nd (ev_op op_sub (ev_call c_take (hr.mono (by decide)) (av_cons (ev_var 0 rfl) (av_cons ev_int av_nil)) ⟨a, M0, ((p.take 15).2.take 12).2, 101, rfl, rfl, (ok.take _).take _, by decide, by decide, rfl, rfl⟩) ev_int rs_I0) (rest _ _ (if_pos (of_decide_eq_true h)) (((ok.take _).take _).take _)))
    · exact bv_nil (rest _ _ (if_neg (of_decide_eq_false h)) ((ok.take _).take _))
end
def R_tone (ds : List D) (M : Mem) (Φ : D → Mem → Prop) : Prop := ∃ a p, ds = [dP a] ∧ M a = some (Pool.mo p) ∧ p.Ok ∧ ∀ f o : Int, (-50 ≤ f ∧ f ≤ 50) → (-100 ≤ o ∧ o ≤ 100) → Draw M a Φ (.tup [dI f, dI o])
theorem w_tone {P : Program} {w : World} {K : PySem.W.Frag} {mg : Str → Option Value} {base : Heap} (C : Cal P w K mg base 3 "_law_tone" (spD K PrTone)) : Cal P w K mg base 3 "_law_tone" (spW K R_tone) := C.spW_of fun ds M Φ ⟨a, p, e, hA, ok, hΦ⟩ =>
  ⟨_, _, ⟨a, M, p, e, (mem_eta hA).symm, ok, rfl, rfl⟩, hΦ _ _ p.tone_bd.1 p.tone_bd.2 _ ok.tone _ (Fr1.refl _ _).set Mem.set_same⟩
/-- left, found: after i turns -/
def Pool.ordSt (p : Pool) (many : Nat) : Nat → List Int × List Int × Pool
  | 0 => ([], (List.range many).map fun i => ((i : Nat) : Int), p)
  | i + 1 => ((p.ordSt many i).1 ++ [(p.ordSt many i).2.1.getD ((p.ordSt many i).2.2.take (p.ordSt many i).2.1.length).1.toNat 0], (p.ordSt many i).2.1.eraseIdx ((p.ordSt many i).2.2.take (p.ordSt many i).2.1.length).1.toNat, ((p.ordSt many i).2.2.take (p.ordSt many i).2.1.length).2)
theorem Pool.ordSt_ok {p : Pool} (ok : p.Ok) (many : Nat) : ∀ i, i ≤ many → (p.ordSt many i).2.2.Ok ∧ (p.ordSt many i).2.1.length = many - i ∧ (p.ordSt many i).1.length = i ∧ (∀ k ∈ (p.ordSt many i).2.1, 0 ≤ k ∧ k < many) ∧ ∀ k ∈ (p.ordSt many i).1, 0 ≤ k ∧ k < many
  | 0, _ => ⟨ok, by unfold Pool.ordSt; simp, rfl, fun k hk => by
      unfold Pool.ordSt at hk
      obtain ⟨j, hj, rfl⟩ := List.mem_map.mp hk
      have := List.mem_range.mp hj
      omega, fun k hk => by cases hk⟩
  | i + 1, hi => by
    obtain ⟨h1, h2, h3, h4, h5⟩ := Pool.ordSt_ok ok many i (by omega)
    have hpos : (0 : Int) < (p.ordSt many i).2.1.length := by omega
    have t1 := (p.ordSt many i).2.2.take_lo hpos
    have t2 := (p.ordSt many i).2.2.take_hi hpos
    have hlt : ((p.ordSt many i).2.2.take (p.ordSt many i).2.1.length).1.toNat < (p.ordSt many i).2.1.length := by omega
    refine ⟨h1.take _, ?_, ?_, fun k hk => ?_, fun k hk => ?_⟩
    · show ((p.ordSt many i).2.1.eraseIdx _).length = _
      rw [List.length_eraseIdx_of_lt hlt, h2]
      omega
    · show ((p.ordSt many i).1 ++ [_]).length = _
      rw [List.length_append, h3]
      rfl
    · exact h4 k (List.mem_of_mem_eraseIdx hk)
    · rcases List.mem_append.mp hk with hk | hk
      · exact h5 k hk
      · rw [List.mem_singleton.mp hk, List.getD_eq_getElem?_getD, List.getElem?_eq_getElem hlt]
        exact h4 _ (List.getElem_mem hlt)
def Pool.order (p : Pool) (many : Int) : List Int × Pool := ((p.ordSt many.toNat many.toNat).1, (p.ordSt many.toNat many.toNat).2.2)
theorem Pool.Ok.order {p : Pool} (ok : p.Ok) (many : Int) : (p.order many).2.Ok := (Pool.ordSt_ok ok _ _ (Nat.le_refl _)).1
theorem Pool.order_mem {p : Pool} (ok : p.Ok) {many k : Int} (h : k ∈ (p.order many).1) : 0 ≤ k ∧ k < many := by
  have := (Pool.ordSt_ok ok _ _ (Nat.le_refl _)).2.2.2.2 k h
  omega
theorem Pool.order_len {p : Pool} (ok : p.Ok) (many : Int) : (p.order many).1.length = many.toNat := (Pool.ordSt_ok ok _ _ (Nat.le_refl _)).2.2.1
def PrOrder (ds : List D) (M : Mem) (d : D) (M' : Mem) : Prop := ∃ a M0 p many, ds = [dP a, dI many] ∧ M = Mem.set M0 a (Pool.mo p) ∧ p.Ok ∧ 0 ≤ many ∧ many ≤ 100000 ∧ d = .tup ((p.order many).1.map dI) ∧ M' = M0.set a (p.order many).2.mo
theorem map_erase {α β : Type} (g : α → β) : ∀ (xs : List α) (i : Nat), (xs.map g).eraseIdx i = (xs.eraseIdx i).map g
  | [], _ => rfl
  | _ :: _, 0 => rfl
  | x :: xs, i + 1 => congrArg (g x :: ·) (map_erase g xs i)
section
variable {P : Program} {w : World} {K : PySem.W.Frag} {mg : Str → Option Value} {base : Heap} {f : Addr} {fd : FuncData}
theorem c_order (F : Fun K "_law_order" "_law_order" s_order f fd) (hm : mg "_law_order" = some (.ref f)) (T : Bt mg) (c_take : Cal P w K mg base 2 "_law_take" (spD K PrTake)) : Cal P w K mg base 3 "_law_order" (spD K PrOrder) := by
  refine cal_of F sc_order hm (fun _ _ _ _ _ _ us hl => match us, hl with | [_, _], _ => rfl) (fun ds M d M' h => ?_) fun cdv A outer s H E ds M d M' hr h => ?_
  · obtain ⟨a, M0, p, many, rfl, _⟩ := h
    rfl
  · obtain ⟨a, M0, p, many, rfl, rfl, ok, h0, h1, rfl, rfl⟩ := h
    show BV _ _ [some (dP a), some (dI many), none, none, none] _ _
    refine bv_cons (sv_setN 2 sc_order.nd (en_listRg rfl T.list T.range (ev_var 1 rfl) ⟨h0, by omega⟩) (fun l hl => ?_))
    have hla : l ≠ a := fun q => by
      rw [q, Mem.set_same] at hl
      cases hl
    have hml : ∀ o, (M0.set a o) l = none := fun o => by
      rw [Mem.set_ne hla] at hl ⊢
      exact hl
    refine bv_cons (sv_set 3 sc_order.nd (ev_tup av_nil) ?_)
    refine bv_cons (sv_for rfl (iv_range1 T.range (ev_var 1 rfl) (by omega)) (pg_name (i := 4) sc_order.nd rfl (.inl rfl)) (fun i ρ M => ∃ x, ρ = [some (dP a), some (dI many), some (dP l), some (.tup ((p.ordSt many.toNat i).1.map dI)), x] ∧ M = (M0.set a (p.ordSt many.toNat i).2.2.mo).set l (.lst ((p.ordSt many.toNat i).2.1.map dI)))
      ⟨none, rfl, ?_⟩ (fun i d ρ' M' hd hi => ?_) (fun ρ' M' hi => ?_))
    · show _ = (M0.set a p.mo).set l (.lst (((List.range many.toNat).map fun i => ((i : Nat) : Int)).map dI))
      rw [List.map_map]
      unfold rgD
      refine congrArg _ (congrArg MO.lst (List.map_congr_left fun i _ => ?_))
      show dI (0 + (i : Int)) = dI (i : Int)
      rw [Int.zero_add]
    · obtain ⟨hi2, rfl⟩ := rgD_get hd
      obtain ⟨x, rfl, rfl⟩ := hi
      obtain ⟨k1, k2, k3, k4, k5⟩ := Pool.ordSt_ok ok many.toNat i (by omega)
      have hpos : (0 : Int) < (p.ordSt many.toNat i).2.1.length := by omega
      have t1 := (p.ordSt many.toNat i).2.2.take_lo hpos
      have t2 := (p.ordSt many.toNat i).2.2.take_hi hpos
      have hlt : ((p.ordSt many.toNat i).2.2.take (p.ordSt many.toNat i).2.1.length).1.toNat < (p.ordSt many.toNat i).2.1.length := by omega
      refine ⟨_, tg_name, ?_⟩
      refine bv_one (sv_set 3 sc_order.nd (ev_catT (ev_var 3 rfl) (ev_tup (av_cons (ev_pop (i := ((p.ordSt many.toNat i).2.2.take (p.ordSt many.toNat i).2.1.length).1.toNat) (d := dI ((p.ordSt many.toNat i).2.1.getD ((p.ordSt many.toNat i).2.2.take (p.ordSt many.toNat i).2.1.length).1.toNat 0)) (ds := (p.ordSt many.toNat i).2.1.map dI) (ev_var 2 rfl)
        (ev_to (ev_call c_take (hr.mono (by decide)) (av_cons (ev_var 0 rfl) (av_cons (ev_lenM T.len (ev_var 2 rfl) Mem.set_same) av_nil)) ⟨a, M0.set l (.lst ((p.ordSt many.toNat i).2.1.map dI)), (p.ordSt many.toNat i).2.2, (p.ordSt many.toNat i).2.1.length, by rw [List.length_map], Mem.set_comm hla.symm, k1, hpos, by omega, rfl, rfl⟩) ?_)
        ⟨_, Mem.set_same⟩ (by rw [Mem.set_ne hla, Mem.set_same]) ?_ (hz := ?_)) av_nil)) ?_) ?_)
      · rw [Int.toNat_of_nonneg t1]
      · rw [List.getElem?_map, List.getElem?_eq_getElem hlt, List.getD_eq_getElem?_getD, List.getElem?_eq_getElem hlt]
        rfl
      · rw [List.length_map]
        omega
      · rw [List.length_map, k3]
        exact Nat.le_trans (show i + 1 ≤ 1000000 by omega) (by decide)
      · refine ⟨some (dI (0 + (i : Int))), ?_, ?_⟩
        · have e : (p.ordSt many.toNat (i + 1)).1.map dI = (p.ordSt many.toNat i).1.map dI ++ [dI ((p.ordSt many.toNat i).2.1.getD ((p.ordSt many.toNat i).2.2.take (p.ordSt many.toNat i).2.1.length).1.toNat 0)] := List.map_append
          rw [e]
          rfl
        · rw [Mem.set_comm hla, Mem.set_set, map_erase]
          rfl
    · obtain ⟨x, rfl, rfl⟩ := hi
      rw [rgD_len]
      exact bv_one (sv_ret (ev_var 3 rfl) ⟨rfl, mle_new (Mle.refl _) (hml _)⟩)
end
def R_order (ds : List D) (M : Mem) (Φ : D → Mem → Prop) : Prop := ∃ a p many, ds = [dP a, dI many] ∧ M a = some (Pool.mo p) ∧ p.Ok ∧ 0 ≤ many ∧ many ≤ 100000 ∧ ∀ l : List Int, l.length = many.toNat → (∀ k ∈ l, 0 ≤ k ∧ k < many) → Draw M a Φ (.tup (l.map dI))
theorem w_order {P : Program} {w : World} {K : PySem.W.Frag} {mg : Str → Option Value} {base : Heap} (C : Cal P w K mg base 3 "_law_order" (spD K PrOrder)) : Cal P w K mg base 3 "_law_order" (spW K R_order) := C.spW_of fun ds M Φ ⟨a, p, many, e, hA, ok, h0, h1, hΦ⟩ =>
  ⟨_, _, ⟨a, M, p, many, e, (mem_eta hA).symm, ok, h0, h1, rfl, rfl⟩, hΦ _ (Pool.order_len ok many) (fun k hk => Pool.order_mem ok hk) _ (ok.order many) _ (Fr1.refl _ _).set Mem.set_same⟩
def PrFrac (ds : List D) (M : Mem) (d : D) (M' : Mem) : Prop := ∃ n k : Int, ds = [dI n, dI k] ∧ k ≠ 0 ∧ Bd 900 n ∧ Bd 900 k ∧ d = frD (frac n k) ∧ M' = M
section
variable {P : Program} {w : World} {K : PySem.W.Frag} {mg : Str → Option Value} {base : Heap} {f : Addr} {fd : FuncData}
theorem c_p_fraction (F : Fun K "fraction" "fraction" s_p_fraction f fd) (hm : mg "fraction" = some (.ref f)) (hg : mg "gcd" = some (.builtin "math.gcd")) : Cal P w K mg base 1 "fraction" (spD K PrFrac) := by
  refine cal_of F sc_p_fraction hm (fun _ _ _ _ _ _ us hl => match us, hl with | [_, _], _ => rfl) (fun ds M d M' h => ?_) fun cdv A outer s H E ds M d M' hr h => ?_
  · obtain ⟨n, k, rfl, _⟩ := h
    rfl
  · obtain ⟨n, k, rfl, h0, hn, hk, rfl, rfl⟩ := h
    show BV _ _ [some (dI n), some (dI k), none] _ _
    have g0 := gz_pos (n := n) h0
    have gb : Bd 900 (gz n k) := by
      refine hk.le ?_
      have := Nat.gcd_le_right n.natAbs (show 0 < k.natAbs by omega)
      unfold gz
      omega
    have gl : (gz n k).natAbs.log2 < 9000 := Nat.lt_trans (PySem.Flt.log2_lt_of (by decide) gb) (by decide)
    refine bv_cons (sv_set 2 sc_p_fraction.nd (ev_bf2 cr_gcd hg (ev_var 0 rfl) (ev_var 1 rfl) (z := .int (gz n k)) (fun H Q q => ⟨n, k, rfl, q⟩)) ?_)
    refine bv_cons (sv_join (fun ρ M => ρ = [some (dI n), some (dI k), some (dI (if k < 0 then -gz n k else gz n k))] ∧ M = M') ?_ ?_)
    · refine sv_if (tv_cmpR op_lt (ev_var 1 rfl) ev_int rs_I0 (nomark _)) (fun h => ?_) (fun h => bv_nil ?_)
      · refine bv_one (sv_set 2 sc_p_fraction.nd (ev_un un_neg (ev_var 2 rfl) ru_neg) ?_)
        exact ⟨by rw [if_pos (of_decide_eq_true h)]; rfl, rfl⟩
      · exact ⟨by rw [if_neg (of_decide_eq_false h)]; rfl, rfl⟩
    · rintro ρ M ⟨rfl, rfl⟩
      have cd : CDivS 0 (if k < 0 then -gz n k else gz n k) := by
        refine ⟨by split <;> omega, ?_⟩
        have e : (if k < 0 then -gz n k else gz n k).natAbs = (gz n k).natAbs := by split <;> omega
        rw [e]
        exact gl
      exact bv_one (sv_ret (ev_tup (av_cons (ev_op op_fdivS (ev_var 0 rfl) (ev_var 2 rfl) (rs_I cd)) (av_cons (ev_op op_fdivS (ev_var 1 rfl) (ev_var 2 rfl) (rs_I cd)) av_nil))) ⟨rfl, Mle.refl _⟩)
theorem frac_at {n k : Int} (h : 0 < k) (hn : Bd 900 n) (hk : Bd 900 k) {M : Mem} : PrFrac [dI n, dI k] M (frD (low n k)) M := ⟨n, k, rfl, by omega, hn, hk, by rw [frac_pos h], rfl⟩
end
/-! ### bars -/
abbrev Tn := Int × Int
structure Col where
  dur : Tn
  acc : Int
  ents : List (Option (Tn × Bool))
def entQ (b : Bool) : Option (Tn × Bool) → D
  | none => dN
  | some (t, g) => sq b [sq b [dI t.1, dI t.2], dB g]
def colQ (b : Bool) (c : Col) : D := sq b [sq b [dI c.dur.1, dI c.dur.2], dI c.acc, sq b (c.ents.map (entQ b))]
def barQ (b1 b2 : Bool) (bar : List Col) : D := sq b1 (bar.map (colQ b2))
abbrev colD : Col → D := colQ false
abbrev barD : List Col → D := barQ false false
structure Red (p : Tn) : Prop where
  d0 : 0 < p.2
  one : gz p.1 p.2 = 1
theorem Red.low {p : Tn} (h : Red p) : Vt.low p.1 p.2 = p := by
  unfold Vt.low
  rw [h.one, Int.ediv_one, Int.ediv_one]
theorem low_red {n d : Int} (h : 0 < d) : Red (low n d) := by
  refine ⟨low_den h, ?_⟩
  have g := gz_pos (n := n) (show d ≠ 0 by omega)
  obtain ⟨a, ha⟩ := gz_dl n d
  obtain ⟨b, hb⟩ := gz_dr n d
  have e1 : n / gz n d = a := by
    rw [Int.ediv_eq_iff_eq_mul_right (by omega) (gz_dl n d)]
    exact ha
  have e2 : d / gz n d = b := by
    rw [Int.ediv_eq_iff_eq_mul_right (by omega) (gz_dr n d)]
    exact hb
  show gz (n / gz n d) (d / gz n d) = 1
  rw [e1, e2]
  have k : gz (a * gz n d) (b * gz n d) = gz a b * gz n d := gz_mul g
  rw [Int.mul_comm a, Int.mul_comm b, ← ha, ← hb] at k
  have k2 : (gz a b - 1) * gz n d = 0 := by rw [Int.sub_mul, ← k, Int.one_mul, Int.sub_self]
  rcases Int.mul_eq_zero.mp k2 with z | z
  · omega
  · omega
structure DurOk (p : Tn) : Prop where
  red : Red p
  n0 : 0 < p.1
  nb : p.1 ≤ 1000
  db : p.2 ≤ 1000
theorem low_le {n d : Int} (hd : 0 < d) (hn : 0 < n) : (low n d).1 ≤ n ∧ (low n d).2 ≤ d := by
  have g := gz_pos (n := n) (show d ≠ 0 by omega)
  exact ⟨Int.ediv_le_self _ (by omega), Int.ediv_le_self _ (by omega)⟩
theorem low_durOk {n d : Int} (hn : 0 < n) (hd : 0 < d) (hn2 : n ≤ 1000) (hd2 : d ≤ 1000) : DurOk (low n d) := by
  have l := low_le hd hn
  exact ⟨low_red hd, low_num hn hd, by omega, by omega⟩
structure ColOk (TP : Tn → Prop) (v : Nat) (c : Col) : Prop where
  dur : DurOk c.dur
  acc : 0 ≤ c.acc ∧ c.acc ≤ 9
  len : c.ents.length = v
  ton : ∀ t g, some (t, g) ∈ c.ents → TP t
theorem ents_at {c : Col} {b : Bool} {i : Nat} (h : i < c.ents.length) : (c.ents.map (entQ b))[i]? = some (entQ b c.ents[i]) := by
  rw [List.getElem?_map, List.getElem?_eq_getElem h]
  rfl
theorem bd_small {i : Int} {k : Nat} (h : 0 ≤ i ∧ i ≤ 100000) (hk : 20 ≤ k) : Bd k i := (Bd.of (m := 100000) (k := 20) (by omega) (by decide)).mono hk
def R_duration (ds : List D) (M : Mem) (Φ : D → Mem → Prop) : Prop := ∃ a p, ds = [dP a] ∧ M a = some (Pool.mo p) ∧ p.Ok ∧ ∀ t, DurOk t → Draw M a Φ (frD t)
def optC : Option Col → D
  | none => dN
  | some c => colD c
def R_column (ds : List D) (M : Mem) (Φ : D → Mem → Prop) : Prop := ∃ (a : Addr) (p : Pool) (v : Nat) (before : Option Col) (ts : List Tn) (TP : Tn → Prop), ds = [dP a, dI ((v : Nat) : Int), optC before, .lst (ts.map frD)] ∧ M a = some (Pool.mo p) ∧ p.Ok ∧ v ≤ 1000 ∧ (0 < ts.length ∧ ts.length ≤ 1000) ∧ (∀ t ∈ ts, TP t) ∧ (∀ c, before = some c → ColOk TP v c) ∧ ∀ c, ColOk TP v c → Draw M a Φ (colD c)
def TnS (t : Tn) : Prop := (-50 ≤ t.1 ∧ t.1 ≤ 50) ∧ -100 ≤ t.2 ∧ t.2 ≤ 100
def R_bar (ds : List D) (M : Mem) (Φ : D → Mem → Prop) : Prop := ∃ (a : Addr) (p : Pool) (v : Nat) (most : Int), ds = [dP a, dI ((v : Nat) : Int), dI most] ∧ M a = some (Pool.mo p) ∧ p.Ok ∧ v ≤ 1000 ∧ (0 < most ∧ most ≤ 1000) ∧ ∀ bar : List Col, 0 < bar.length → (bar.length : Int) ≤ most → (∀ c ∈ bar, ColOk TnS v c) → Draw M a Φ (barD bar)
mutual
def lstD : D → D
  | .val v => .val v
  | .lst ds => .lst ds
  | .tup ds => .lst (lstDL ds)
def lstDL : List D → List D
  | [] => []
  | d :: ds => lstD d :: lstDL ds
end
theorem lstDL_eq : ∀ ds : List D, lstDL ds = ds.map lstD
  | [] => by simp only [lstDL, List.map_nil]
  | d :: ds => by simp only [lstDL, List.map_cons, lstDL_eq ds]
theorem lst_ent (e : Option (Tn × Bool)) : lstD (entQ false e) = entQ true e := by
  cases e with
  | none => simp only [entQ, lstD]
  | some e =>
    obtain ⟨t, g⟩ := e
    simp only [entQ, sq, lstD, lstDL, Bool.false_eq_true, if_false, if_true]
theorem lst_col (c : Col) : lstD (colQ false c) = colQ true c := by
  have e : (c.ents.map (entQ false)).map lstD = c.ents.map (entQ true) := by
    rw [List.map_map]
    exact List.map_congr_left fun x _ => lst_ent x
  simp only [colQ, sq, lstD, lstDL, Bool.false_eq_true, if_false, if_true, lstDL_eq, e]
theorem lst_bar (bar : List Col) : lstD (barD bar) = barQ true true bar := by
  have e : (bar.map (colQ false)).map lstD = bar.map (colQ true) := by
    rw [List.map_map]
    exact List.map_congr_left fun x _ => lst_col x
  simp only [barQ, sq, lstD, Bool.false_eq_true, if_false, if_true, lstDL_eq, e]
/-- trees of tuples that end in plain values -/
def tupD : Nat → D → Prop
  | _, .val v => v = .non ∨ (∃ b, v = .bl b) ∨ (∃ i, v = .int i) ∨ ∃ z, v = .str z
  | n + 1, .tup ds => ds.length ≤ 1000000 ∧ ∀ d ∈ ds, tupD n d
  | _, _ => False
def PrListed (n : Nat) (ds : List D) (M : Mem) (d : D) (M' : Mem) : Prop := ∃ t, ds = [t] ∧ tupD n t ∧ d = lstD t ∧ M' = M
theorem tup_int {n : Nat} (i : Int) : tupD n (dI i) := by cases n <;> exact .inr (.inr (.inl ⟨i, rfl⟩))
theorem tup_bool {n : Nat} (b : Bool) : tupD n (dB b) := by cases n <;> exact .inr (.inl ⟨b, rfl⟩)
theorem tup_none {n : Nat} : tupD n dN := by cases n <;> exact .inl rfl
theorem tup_two {n : Nat} {a b : D} (ha : tupD n a) (hb : tupD n b) : tupD (n + 1) (.tup [a, b]) := ⟨by show 2 ≤ 1000000; decide, fun d hd => by
  rcases List.mem_cons.mp hd with rfl | hd
  · exact ha
  · rcases List.mem_cons.mp hd with rfl | hd
    · exact hb
    · cases hd⟩
theorem tup_three {n : Nat} {a b c : D} (ha : tupD n a) (hb : tupD n b) (hc : tupD n c) : tupD (n + 1) (.tup [a, b, c]) := ⟨by show 3 ≤ 1000000; decide, fun d hd => by
  rcases List.mem_cons.mp hd with rfl | hd
  · exact ha
  · rcases List.mem_cons.mp hd with rfl | hd
    · exact hb
    · rcases List.mem_cons.mp hd with rfl | hd
      · exact hc
      · cases hd⟩
theorem tup_ent (e : Option (Tn × Bool)) : tupD 2 (entQ false e) := by
  cases e with
  | none => exact tup_none
  | some e => exact tup_two (tup_two (tup_int _) (tup_int _)) (tup_bool _)
theorem tup_col {c : Col} (h : c.ents.length ≤ 1000) : tupD 4 (colD c) := by
  refine tup_three (tup_two (tup_int _) (tup_int _)) (tup_int _) ⟨by rw [List.length_map]; omega, fun d hd => ?_⟩
  obtain ⟨e, _, rfl⟩ := List.mem_map.mp hd
  exact tup_ent e
theorem tup_bar {bar : List Col} (hb : bar.length ≤ 10000) (h : ∀ c ∈ bar, c.ents.length ≤ 1000) : tupD 5 (barD bar) := by
  refine ⟨by rw [List.length_map]; omega, fun d hd => ?_⟩
  obtain ⟨c, hc, rfl⟩ := List.mem_map.mp hd
  exact tup_col (h c hc)
theorem okD_of_tup : ∀ {n : Nat} {d : D}, tupD n d → okD n d
  | 0, .val _, h => h
  | _ + 1, .val _, h => h
  | n + 1, .tup _, h => ⟨h.1, fun d hd => okD_of_tup (h.2 d hd)⟩
  | 0, .tup _, h => h.elim
  | 0, .lst _, h => h.elim
  | _ + 1, .lst _, h => h.elim
theorem bar_snoc (bar : List Col) (c : Col) : barD (bar ++ [c]) = .tup (bar.map colD ++ [colD c]) := by
  show D.tup ((bar ++ [c]).map colD) = _
  rw [List.map_append]
  rfl
section
variable {P : Program} {w : World} {K : PySem.W.Frag} {mg : Str → Option Value} {base : Heap} {f : Addr} {fd : FuncData}
theorem c_duration (F : Fun K "_law_duration" "_law_duration" s_duration f fd) (hm : mg "_law_duration" = some (.ref f)) (T : Bt mg) (c_take : Cal P w K mg base 2 "_law_take" (spW K R_take)) (c_pick : Cal P w K mg base 3 "_law_pick" (spW K R_pick)) (c_lowest : Cal P w K mg base 1 "_law_lowest" (spD K PrLow)) : Cal P w K mg base 4 "_law_duration" (spW K R_duration) := by
  refine calW_of F sc_duration hm (fun _ _ _ _ _ _ us hl => match us, hl with | [_], _ => rfl) (fun ds M Φ h => ?_) fun cdv A outer s H E ds M Φ hr h => ?_
  · obtain ⟨a, p, rfl, _⟩ := h
    rfl
  · obtain ⟨a, p, rfl, hA, ok, hΦ⟩ := h
    show BV _ _ [some (dP a)] _ _
    refine bv_cons (sw_if ?_)
    refine tw_cmp op_eq ?_ (nomark _)
    refine ew_callW c_take (hr.mono (by decide)) (aw_av (av_cons (ev_var 0 rfl) (av_cons ev_int av_nil)) ⟨a, p, _, rfl, hA, ok, by decide, by decide, fun n1 lo1 hi1 p1 ok1 M1 fr1 hA1 => ⟨_, rfl, ?_⟩⟩)
    refine ew_ev ev_int ⟨_, _, rfl, rs_eqI, ⟨fun h => ?_, fun h => bv_nil ?_⟩⟩
    · refine bv_one (sw_ret ?_)
      refine ew_callD c_lowest (hr.mono (by decide)) ?_
      refine aw_cons ?_
      refine ew_op op_add ?_
      refine ew_ev ev_int ⟨_, rfl, ?_⟩
      refine ew_callW c_take (hr.mono (by decide)) (aw_av (av_cons (ev_var 0 rfl) (av_cons ev_int av_nil)) ⟨a, p1, _, rfl, hA1, ok1, by decide, by decide, fun n2 lo2 hi2 p2 ok2 M2 fr2 hA2 => ⟨_, _, rfl, rs_I0, ?_⟩⟩)
      refine aw_cons ?_
      refine ew_op op_add ?_
      refine ew_ev ev_int ⟨_, rfl, ?_⟩
      refine ew_callW c_take (hr.mono (by decide)) (aw_av (av_cons (ev_var 0 rfl) (av_cons ev_int av_nil)) ⟨a, p2, _, rfl, hA2, ok2, by decide, by decide, fun n3 lo3 hi3 p3 ok3 M3 fr3 hA3 => ⟨_, _, rfl, rs_I0, ?_⟩⟩)
      exact aw_nil ⟨_, _, low_at (by omega) (bd_small (by omega) (by decide)) (bd_small (by omega) (by decide)), _, hΦ _ (low_durOk (by omega) (by omega) (by omega) (by omega)) p3 ok3 _ ((fr1.trans fr2).trans fr3) hA3, Mle.refl _⟩
    · refine bv_one (sw_ret ?_)
      refine ew_callD c_lowest (hr.mono (by decide)) ?_
      refine aw_cons ?_
      refine ew_op op_add ?_
      refine ew_ev ev_int ⟨_, rfl, ?_⟩
      refine ew_callW c_take (hr.mono (by decide)) (aw_av (av_cons (ev_var 0 rfl) (av_cons ev_int av_nil)) ⟨a, p1, _, rfl, hA1, ok1, by decide, by decide, fun n2 lo2 hi2 p2 ok2 M2 fr2 hA2 => ⟨_, _, rfl, rs_I0, ?_⟩⟩)
      refine aw_cons ?_
      refine ew_callW c_pick (hr.mono (by decide)) (aw_av (av_cons (ev_var 0 rfl) (av_cons (ev_lst (av_cons ev_int (av_cons ev_int (av_cons ev_int (av_cons ev_int (av_cons ev_int (av_cons ev_int (av_cons ev_int (av_cons ev_int av_nil))))))))) av_nil)) ⟨a, p2, true, _, rfl, hA2, ok2, by simp, by simp, fun d3 g3 p3 ok3 M3 fr3 hA3 => ?_⟩)
      have h3 : ∃ k : Int, d3 = dI k ∧ 0 < k ∧ k ≤ 16 := by
        simp only [List.mem_cons, List.not_mem_nil, or_false] at g3
        rcases g3 with rfl | rfl | rfl | rfl | rfl | rfl | rfl | rfl <;> exact ⟨_, rfl, by decide, by decide⟩
      obtain ⟨k, rfl, k0, k1⟩ := h3
      exact aw_nil ⟨_, _, low_at (by omega) (bd_small (by omega) (by decide)) (bd_small (by omega) (by decide)), _, hΦ _ (low_durOk (by omega) (by omega) (by omega) (by omega)) p3 ok3 _ ((fr1.trans fr2).trans fr3) hA3, Mle.refl _⟩
theorem c_column (F : Fun K "_law_column" "_law_column" s_column f fd) (hm : mg "_law_column" = some (.ref f)) (T : Bt mg) (c_take : Cal P w K mg base 2 "_law_take" (spW K R_take)) (c_pick : Cal P w K mg base 3 "_law_pick" (spW K R_pick)) (c_duration : Cal P w K mg base 4 "_law_duration" (spW K R_duration)) : Cal P w K mg base 5 "_law_column" (spW K R_column) := by
  refine calW_of F sc_column hm (fun _ _ _ _ _ _ us hl => match us, hl with | [_, _, _, _], _ => rfl) (fun ds M Φ h => ?_) fun cdv A outer s H E ds M Φ hr h => ?_
  · obtain ⟨a, p, v, before, ts, TP, rfl, _⟩ := h
    rfl
  · obtain ⟨a, p, v, before, ts, TP, rfl, hA, ok, hv, hts, tp, bok, hΦ⟩ := h
    show BV _ _ [some (dP a), some (dI ((v : Nat) : Int)), some (optC before), some (.lst (ts.map frD)), none, none, none, none, none, none] _ _
    refine bv_cons (sv_set 4 sc_column.nd (ev_tup av_nil) ?_)
    refine bv_cons (sw_for rfl (pg_name (i := 5) sc_column.nd rfl (.inl rfl)) ?_)
    refine iw_iv (iv_range1 T.range (ev_var 1 rfl) (by omega)) ⟨fun i ρ M1 => ∃ (x5 x6 x7 x8 x9 : Option D) (q : Pool) (es : List (Option (Tn × Bool))), ρ = [some (dP a), some (dI ((v : Nat) : Int)), some (optC before), some (.lst (ts.map frD)), some (.tup (es.map (entQ false))), x5, x6, x7, x8, x9] ∧ Fr1 a M M1 ∧ M1 a = some q.mo ∧ q.Ok ∧ es.length = i ∧ ∀ t g, some (t, g) ∈ es → TP t, ⟨none, none, none, none, none, p, [], rfl, Fr1.refl _ _, hA, ok, rfl, fun t g h => absurd h List.not_mem_nil⟩, fun i d ρ' M' hd iv => ?_, fun ρ' M' iv => ?_⟩
    · obtain ⟨x5, x6, x7, x8, x9, q, es, rfl, fr, hA, ok, len, hes⟩ := iv
      obtain ⟨hi, rfl⟩ := rgD_get hd
      have hi : i < v := by omega
      refine ⟨_, tg_name, ?_⟩
      refine bv_cons (sw_set 6 sc_column.nd ?_)
      refine ew_callW c_take (hr.mono (by decide)) (aw_av (av_cons (ev_var 0 rfl) (av_cons ev_int av_nil)) ⟨a, q, _, rfl, hA, ok, by decide, by decide, fun n1 lo1 hi1 p1 ok1 M1 fr1 hA1 => ?_⟩)
      refine bv_cons (sw_set 7 sc_column.nd ?_)
      refine ew_tup ?_
      refine aw_cons ?_
      refine ew_callW c_pick (hr.mono (by decide)) (aw_av (av_cons (ev_var 0 rfl) (av_cons (ev_var 3 rfl) av_nil)) ⟨a, p1, true, _, rfl, hA1, ok1, by rw [List.length_map]; exact hts.1, by rw [List.length_map]; omega, fun d2 g2 p2 ok2 M2 fr2 hA2 => ?_⟩)
      obtain ⟨t, ht, rfl⟩ := List.mem_map.mp g2
      have tpt := tp t ht
      refine aw_cons (ew_ev ev_bl ?_)
      refine aw_nil ⟨by (simp only [List.length_cons, List.length_nil]; decide), ?_⟩
      refine bv_cons (sv_join (fun ρ M => ∃ (x8 x9 : Option D) (q : Pool) (e : Option (Tn × Bool)), ρ = [some (dP a), some (dI ((v : Nat) : Int)), some (optC before), some (.lst (ts.map frD)), some (.tup (es.map (entQ false))), some (dI (0 + (i : Int))), some (dI n1), some (entQ false e), x8, x9] ∧ Fr1 a M2 M ∧ M a = some q.mo ∧ q.Ok ∧ ∀ t g, e = some (t, g) → TP t) ?_ ?_)
      · refine sv_if (tv_cmpR op_eq (ev_var 6 rfl) ev_int rs_eqI (nomark _)) (fun h => ?_) (fun h => ?_)
        · exact bv_one (sv_set 7 sc_column.nd ev_non ⟨_, _, p2, none, rfl, Fr1.refl _ _, hA2, ok2, fun _ _ h => nomatch h⟩)
        · refine bv_one (sv_if (tv_cmpR op_lt (ev_var 6 rfl) ev_int rs_I0 (nomark _)) (fun h => ?_) (fun h => bv_nil ⟨_, _, p2, some (t, true), rfl, Fr1.refl _ _, hA2, ok2, fun t' g' h => by cases h; exact tpt⟩))
          cases before with
          | none =>
            refine bv_cons (sw_set 8 sc_column.nd (ew_if (tw_tv (tv_isNn (ev_var 2 rfl)) ⟨fun _ => ew_ev ev_non ?_, fun h => nomatch h⟩)))
            refine bv_cons (sw_set 9 sc_column.nd (ew_if (PW.pt (ww_and (tw_tv (tv_notNn (ev_var 8 rfl)) ⟨fun h => (nomatch h), fun _ => ⟨fun h => (nomatch h), fun _ => ew_ev (ev_ixT (ev_var 7 rfl) ev_int rfl) ?_⟩⟩)))))
            exact bv_one (sv_set 7 sc_column.nd (ev_tup (av_cons (ev_var 9 rfl) (av_cons ev_bl av_nil))) ⟨_, _, p2, some (t, false), rfl, Fr1.refl _ _, hA2, ok2, fun t' g' h => by cases h; exact tpt⟩)
          | some c =>
            have cok := bok c rfl
            have hic : i < c.ents.length := by rw [cok.len]; exact hi
            refine bv_cons (sw_set 8 sc_column.nd (ew_if (tw_tv (tv_isNn (ev_var 2 rfl)) ⟨fun h => (nomatch h), fun _ => ew_ev (ev_ixT (ds := c.ents.map (entQ false)) (ev_ixT (ev_var 2 rfl) ev_int rfl) (ev_var 5 rfl) (atI_nat (ents_at hic) (by omega))) ?_⟩)))
            have htc : ∀ t g, c.ents[i] = some (t, g) → TP t := fun t g h => cok.ton t g (by rw [← h]; exact List.getElem_mem hic)
            generalize c.ents[i] = e0 at htc ⊢
            cases e0 with
            | none =>
              refine bv_cons (sw_set 9 sc_column.nd (ew_if (PW.pt (ww_and (tw_tv (tv_notNn (ev_var 8 rfl)) ⟨fun h => (nomatch h), fun _ => ⟨fun h => (nomatch h), fun _ => ew_ev (ev_ixT (ev_var 7 rfl) ev_int rfl) ?_⟩⟩)))))
              exact bv_one (sv_set 7 sc_column.nd (ev_tup (av_cons (ev_var 9 rfl) (av_cons ev_bl av_nil))) ⟨_, _, p2, some (t, false), rfl, Fr1.refl _ _, hA2, ok2, fun t' g' h => by cases h; exact tpt⟩)
            | some e0 =>
              obtain ⟨t0, g0⟩ := e0
              refine bv_cons (sw_set 9 sc_column.nd ?_)
              refine ew_if ?_
              refine PW.pt ?_
              refine ww_and (tw_tv (tv_notNn (ev_var 8 rfl)) ⟨fun _ => ?_, fun h => nomatch h⟩)
              refine ww_one_and ?_
              refine tw_cmp op_gt ?_ (nomark _)
              refine ew_callW c_take (hr.mono (by decide)) (aw_av (av_cons (ev_var 0 rfl) (av_cons ev_int av_nil)) ⟨a, p2, _, rfl, hA2, ok2, by decide, by decide, fun n3 lo3 hi3 p3 ok3 M3 fr3 hA3 => ⟨_, rfl, ?_⟩⟩)
              refine ew_ev ev_int ⟨_, _, rfl, rs_I0, ⟨fun h => ?_, fun h => ?_⟩⟩
              · refine ew_ev (ev_ixT (ev_var 8 rfl) ev_int rfl) ?_
                exact bv_one (sv_set 7 sc_column.nd (ev_tup (av_cons (ev_var 9 rfl) (av_cons ev_bl av_nil))) ⟨_, _, p3, some (t0, false), rfl, fr3, hA3, ok3, fun t' g' h => by cases h; exact htc _ _ rfl⟩)
              · refine ew_ev (ev_ixT (ev_var 7 rfl) ev_int rfl) ?_
                exact bv_one (sv_set 7 sc_column.nd (ev_tup (av_cons (ev_var 9 rfl) (av_cons ev_bl av_nil))) ⟨_, _, p3, some (t, false), rfl, fr3, hA3, ok3, fun t' g' h => by cases h; exact tpt⟩)
      · rintro ρ M' ⟨x8, x9, q, e, rfl, fr3, hA3, ok3, he⟩
        refine bv_one (sv_set 4 sc_column.nd (ev_catT (ev_var 4 rfl) (ev_tup (av_cons (ev_var 7 rfl) av_nil)) ?_) ?_)
        · rw [List.length_map, len]
          exact Nat.le_trans (show i + 1 ≤ 1000 by omega) (by decide)
        · refine ⟨_, _, _, _, _, q, es ++ [e], by rw [List.map_append]; rfl, ((fr.trans fr1).trans fr2).trans fr3, hA3, ok3, by rw [List.length_append, len]; rfl, fun t g h => ?_⟩
          rcases List.mem_append.mp h with h | h
          · exact hes t g h
          · exact he t g (List.mem_singleton.mp h).symm
    · obtain ⟨x5, x6, x7, x8, x9, q, es, rfl, fr, hA, ok, len, hes⟩ := iv
      rw [rgD_len] at len
      refine bv_one (sw_ret ?_)
      refine ew_tup ?_
      refine aw_cons ?_
      refine ew_callW c_duration (hr.mono (by decide)) (aw_av (av_cons (ev_var 0 rfl) av_nil) ⟨a, q, rfl, hA, ok, fun t ht p1 ok1 M1 fr1 hA1 => ?_⟩)
      refine aw_cons ?_
      refine ew_if ?_
      refine tw_cmp op_eq ?_ (nomark _)
      refine ew_callW c_take (hr.mono (by decide)) (aw_av (av_cons (ev_var 0 rfl) (av_cons ev_int av_nil)) ⟨a, p1, _, rfl, hA1, ok1, by decide, by decide, fun n2 lo2 hi2 p2 ok2 M2 fr2 hA2 => ⟨_, rfl, ?_⟩⟩)
      refine ew_ev ev_int ⟨_, _, rfl, rs_eqI, ⟨fun h => ?_, fun h => ?_⟩⟩
      · refine ew_callW c_take (hr.mono (by decide)) (aw_av (av_cons (ev_var 0 rfl) (av_cons ev_int av_nil)) ⟨a, p2, _, rfl, hA2, ok2, by decide, by decide, fun n3 lo3 hi3 p3 ok3 M3 fr3 hA3 => ?_⟩)
        refine aw_cons (ew_ev (ev_var 4 rfl) ?_)
        exact aw_nil ⟨by (simp only [List.length_cons, List.length_nil]; decide), _, hΦ ⟨t, n3, es⟩ ⟨ht, by show 0 ≤ n3 ∧ n3 ≤ 9; omega, by show es.length = v; omega, hes⟩ p3 ok3 _ (((fr.trans fr1).trans fr2).trans fr3) hA3, Mle.refl _⟩
      · refine ew_ev ev_int ?_
        refine aw_cons (ew_ev (ev_var 4 rfl) ?_)
        exact aw_nil ⟨by (simp only [List.length_cons, List.length_nil]; decide), _, hΦ ⟨t, 0, es⟩ ⟨ht, by show (0 : Int) ≤ 0 ∧ (0 : Int) ≤ 9; decide, by show es.length = v; omega, hes⟩ p2 ok2 _ ((fr.trans fr1).trans fr2) hA2, Mle.refl _⟩
end
section
variable {P : Program} {w : World} {K : PySem.W.Frag} {mg : Str → Option Value} {base : Heap} {f : Addr} {fd : FuncData}
theorem c_bar (F : Fun K "_law_bar" "_law_bar" s_bar f fd) (hm : mg "_law_bar" = some (.ref f)) (T : Bt mg) (c_take : Cal P w K mg base 2 "_law_take" (spW K R_take)) (c_tone : Cal P w K mg base 3 "_law_tone" (spW K R_tone)) (c_column : Cal P w K mg base 5 "_law_column" (spW K R_column)) : Cal P w K mg base 6 "_law_bar" (spW K R_bar) := by
  refine calW_of F sc_bar hm (fun _ _ _ _ _ _ us hl => match us, hl with | [_, _, _], _ => rfl) (fun ds M Φ h => ?_) fun cdv A outer s H E ds M Φ hr h => ?_
  · obtain ⟨a, p, v, most, rfl, _⟩ := h
    rfl
  · obtain ⟨a, p, v, most, rfl, hA, ok, hv, hmost, hΦ⟩ := h
    show BV _ _ [some (dP a), some (dI ((v : Nat) : Int)), some (dI most), none, none, none] _ _
    refine bv_cons (sw_setLc 3 (own := [("k", 4)]) (g := gName 4) rfl sc_bar.nd (blkOk_by (N := ["pool", "voices", "most", "some", "k", "found"]) (sc := defScope s_bar) (by decide +kernel)) (fun _ _ _ _ _ => (pg_name (i := 4) sc_bar.nd rfl (.inl rfl))) ?_)
    refine iw_range1 T.range ?_
    refine ew_op op_add ?_
    refine ew_ev ev_int ⟨_, rfl, ?_⟩
    refine ew_callW c_take (hr.mono (by decide)) (aw_av (av_cons (ev_var 0 rfl) (av_cons ev_int av_nil)) ⟨a, p, _, rfl, hA, ok, by decide, by decide, fun n1 lo1 hi1 p1 ok1 M1 fr1 hA1 => ⟨_, _, rfl, rs_I0, ⟨_, rfl, by omega, ⟨?_, fun i acc M2 => ∃ (ts : List Tn) (q : Pool), acc = ts.map frD ∧ ts.length = i ∧ (∀ t ∈ ts, TnS t) ∧ Fr1 a M M2 ∧ M2 a = some q.mo ∧ q.Ok, ⟨[], p1, rfl, rfl, fun t h => absurd h List.not_mem_nil, fr1, hA1, ok1⟩, fun i d acc M2 hd hacc iv => ?_, fun acc M2 hacc iv => ?_⟩⟩⟩⟩)
    · rw [rgD_len]
      exact Nat.le_trans (show _ ≤ 12 by omega) (by decide)
    · obtain ⟨ts, q, rfl, len, hts, fr, hA, ok⟩ := iv
      refine ⟨_, tgb_name, fun l hl s H C cl fp => ?_⟩
      refine ew_callW c_tone (hr.mono (by decide)) (aw_av (av_cons (ev_var 0 rfl) av_nil) ⟨a, q, rfl, Mem.set_at hA hl, ok, fun tf to_ hf ho p2 ok2 M3 fr2 hA2 => ?_⟩)
      obtain ⟨e1, e2, e3, e4⟩ := lc_back hA hl fr2
      refine ⟨_, e1, e2, ts ++ [(tf, to_)], p2, by rw [List.map_append]; rfl, by rw [List.length_append, len]; rfl, fun t h => ?_, fr.trans e3, e4 _ hA2, ok2⟩
      rcases List.mem_append.mp h with h | h
      · exact hts t h
      · rw [List.mem_singleton.mp h]
        exact ⟨hf, ho⟩
    · obtain ⟨ts, q, rfl, len, hts, fr, hA, ok⟩ := iv
      rw [rgD_len] at len
      refine bv_cons (sv_set 5 sc_bar.nd (ev_tup av_nil) ?_)
      refine bv_cons (sw_for rfl (pg_name (i := 4) sc_bar.nd rfl (.inl rfl)) ?_)
      refine iw_range1 T.range ?_
      refine ew_op op_add ?_
      refine ew_ev ev_int ⟨_, rfl, ?_⟩
      refine ew_callW c_take (hr.mono (by decide)) (aw_av (av_cons (ev_var 0 rfl) (av_cons (ev_var 2 rfl) av_nil)) ⟨a, q, _, rfl, hA, ok, hmost.1, by omega, fun n2 lo2 hi2 p2 ok2 M3 fr2 hA2 => ⟨_, _, rfl, rs_I0, ⟨_, rfl, by omega, fun i ρ M4 => ∃ (x4 : Option D) (q : Pool) (bar : List Col), ρ = [some (dP a), some (dI ((v : Nat) : Int)), some (dI most), some (.lst (ts.map frD)), x4, some (barD bar)] ∧ Fr1 a M M4 ∧ M4 a = some q.mo ∧ q.Ok ∧ bar.length = i ∧ ∀ c ∈ bar, ColOk TnS v c, ?_, fun i d ρ' M' hd iv => ?_, fun ρ' M' iv => ?_⟩⟩⟩)
      · exact ⟨_, p2, [], rfl, fr.trans fr2, hA2, ok2, rfl, fun c h => absurd h List.not_mem_nil⟩
      · obtain ⟨x4, q, bar, rfl, fr, hA, ok, len2, hbar⟩ := iv
        obtain ⟨hi, rfl⟩ := rgD_get hd
        refine ⟨_, tg_name, ?_⟩
        refine bv_one (sw_set 5 sc_bar.nd ?_)
        have last : ∃ before : Option Col, (∀ c, before = some c → ColOk TnS v c) ∧ ((bar = [] ∧ before = none) ∨ ∃ c, bar.getLast? = some c ∧ before = some c) := by
          cases hb : bar.getLast? with
          | none => exact ⟨none, fun _ h => (nomatch h), .inl ⟨List.getLast?_eq_none_iff.mp hb, rfl⟩⟩
          | some c => exact ⟨some c, fun c' h => by cases h; exact hbar c (List.mem_of_getLast? hb), .inr ⟨c, rfl, rfl⟩⟩
        obtain ⟨before, bok, hb⟩ := last
        refine ew_catT ?_
        refine ew_ev (ev_var 5 rfl) ⟨_, rfl, ?_⟩
        refine ew_tup ?_
        refine aw_cons ?_
        refine ew_callW c_column (hr.mono (by decide)) ?_
        refine aw_cons (ew_ev (ev_var 0 rfl) ?_)
        refine aw_cons (ew_ev (ev_var 1 rfl) ?_)
        refine aw_cons (ew_ev (d := optC before) (M1 := M') ?_ ?_)
        · rcases hb with ⟨rfl, rfl⟩ | ⟨c, hc, rfl⟩
          · exact ev_if (tv_sqT (b := false) (ev_var 5 rfl)) (fun h => nomatch h) (fun _ => ev_non)
          · have ne : (bar.map colD).isEmpty = false := by
              cases bar with
              | nil => cases hc
              | cons c bar => rfl
            exact ev_if (tv_sqT (b := false) (ds := bar.map colD) (ev_var 5 rfl)) (fun _ => ev_ixT (ds := bar.map colD) (ev_var 5 rfl) (ev_un un_neg ev_int ru_neg) (atI_last (by rw [List.getLast?_map, hc]; rfl))) (fun h => by rw [ne] at h; cases h)
        refine aw_cons (ew_ev (ev_var 3 rfl) ?_)
        refine aw_nil ⟨a, q, v, before, ts, TnS, rfl, hA, ok, hv, by omega, hts, bok, fun c cok p3 ok3 M5 fr3 hA3 => ?_⟩
        refine aw_nil ⟨by (simp only [List.length_cons, List.length_nil]; decide), ⟨_, rfl, ?_, ?_⟩⟩
        · rw [List.length_map, len2]
          exact Nat.le_trans (show i + 1 ≤ 2000 by omega) (by decide)
        · refine ⟨some (dI (0 + (i : Int))), p3, bar ++ [c], ?_, fr.trans fr3, hA3, ok3, by rw [List.length_append, len2]; rfl, fun c' h => ?_⟩
          · rw [bar_snoc]
            rfl
          · rcases List.mem_append.mp h with h | h
            · exact hbar c' h
            · rw [List.mem_singleton.mp h]
              exact cok
      · obtain ⟨x4, q, bar, rfl, fr, hA, ok, len2, hbar⟩ := iv
        rw [rgD_len] at len2
        exact bv_one (sv_ret (ev_var 5 rfl) ⟨_, hΦ bar (by omega) (by omega) hbar q ok _ fr hA, Mle.refl _⟩)
end
/-! ### sums of fractions -/
def addF (p q : Tn) : Tn := low (p.1 * q.2 + q.1 * p.2) (p.2 * q.2)
/-- the sum, not in lowest terms -/
def U : List Tn → Tn
  | [] => (0, 1)
  | d :: ds => ((U ds).1 * d.2 + d.1 * (U ds).2, (U ds).2 * d.2)
def tot (ds : List Tn) : Tn := low (U ds).1 (U ds).2
theorem U_pos : ∀ {ds : List Tn}, (∀ d ∈ ds, 0 < d.2) → 0 < (U ds).2
  | [], _ => by decide
  | d :: ds, h => Int.mul_pos (U_pos fun e he => h e (List.mem_cons_of_mem _ he)) (h d List.mem_cons_self)
theorem U_snoc (e : Tn) : ∀ ds : List Tn, U (ds ++ [e]) = ((U ds).1 * e.2 + e.1 * (U ds).2, (U ds).2 * e.2)
  | [] => by
    show ((0 : Int) * e.2 + e.1 * 1, (1 : Int) * e.2) = _
    rfl
  | d :: ds => by
    show ((U (ds ++ [e])).1 * d.2 + d.1 * (U (ds ++ [e])).2, (U (ds ++ [e])).2 * d.2) = _
    rw [U_snoc e ds]
    show _ = (((U ds).1 * d.2 + d.1 * (U ds).2) * e.2 + e.1 * ((U ds).2 * d.2), (U ds).2 * d.2 * e.2)
    refine Prod.ext ?_ ?_
    · show _ * d.2 + d.1 * _ = _
      grind
    · show (U ds).2 * e.2 * d.2 = _
      grind
theorem low_add {a b : Int} {d : Tn} (hb : 0 < b) (hd : 0 < d.2) : addF (low a b) d = low (a * d.2 + d.1 * b) (b * d.2) := by
  have y0 := low_den (n := a) hb
  have e := low_eq (n := a) hb
  unfold addF
  refine low_cross (Int.mul_pos y0 hd) (Int.mul_pos hb hd) ?_
  grind
theorem tot_cons {d : Tn} {ds : List Tn} (h : ∀ e ∈ ds, 0 < e.2) (hd : 0 < d.2) : addF (tot ds) d = tot (d :: ds) := low_add (U_pos h) hd
theorem tot_snoc {d : Tn} {ds : List Tn} (h : ∀ e ∈ ds, 0 < e.2) (hd : 0 < d.2) : addF (tot ds) d = tot (ds ++ [d]) := by
  rw [tot, low_add (U_pos h) hd, tot, U_snoc]
theorem tot_nil : tot [] = (0, 1) := by decide
theorem tot_one {d : Tn} (h : Red d) : tot [d] = d := by
  have e : U [d] = d := by
    show ((0 : Int) * d.2 + d.1 * 1, (1 : Int) * d.2) = d
    rw [Int.zero_mul, Int.zero_add, Int.mul_one, Int.one_mul]
  rw [tot, e, h.low]
/-! ### notes -/
abbrev Cell := Tn × Option (Tn × Bool)
structure Note where
  at_ : Nat
  tone : Tn
  len : Tn
def starts (prev : Option Tn) (t : Tn) (b : Bool) : Bool := b || !decide (some t = prev)
def toneOf : Option (Tn × Bool) → Option Tn := fun e => e.map (·.1)
/-- what goes on at the beginning, and the notes that begin here -/
def R : Nat → Option Tn → List Cell → List Tn × List Note
  | _, _, [] => ([], [])
  | i, _, (_, none) :: r => ([], (R (i + 1) none r).2)
  | i, prev, (d, some (t, b)) :: r => if starts prev t b = true then ([], ⟨i, t, tot (d :: (R (i + 1) (some t) r).1)⟩ :: (R (i + 1) (some t) r).2) else (d :: (R (i + 1) (some t) r).1, (R (i + 1) (some t) r).2)
theorem R_none (i : Nat) (r : List Cell) : (R i none r).1 = [] := by
  match r with
  | [] => rfl
  | (_, none) :: r => rfl
  | (d, some (t, b)) :: r =>
    have e : starts none t b = true := by simp [starts]
    simp only [R, e, if_true]
/-- the program's way -/
def fstep (i : Nat) (c : Cell) (st : List Note × Option Tn) : List Note × Option Tn :=
  match c.2 with
  | none => (st.1, none)
  | some (t, b) => if starts st.2 t b = true then (st.1 ++ [⟨i, t, c.1⟩], some t) else (st.1.dropLast ++ (st.1.getLast?.toList.map fun n => ⟨n.at_, t, addF n.len c.1⟩), some t)
def fwd : Nat → List Cell → List Note × Option Tn → List Note
  | _, [], st => st.1
  | i, c :: r, st => fwd (i + 1) r (fstep i c st)
/-- the last note goes on -/
def ext (told : List Note) (ds : List Tn) : List Note :=
  if ds = [] then told else told.dropLast ++ (told.getLast?.toList.map fun n => ⟨n.at_, n.tone, ds.foldl addF n.len⟩)
theorem ext_nil (told : List Note) : ext told [] = told := if_pos rfl
theorem ext_snoc (told : List Note) (n : Note) (ds : List Tn) : ext (told ++ [n]) ds = told ++ [⟨n.at_, n.tone, ds.foldl addF n.len⟩] := by
  unfold ext
  split
  · rename_i h
    subst h
    rfl
  · rw [List.dropLast_concat, List.getLast?_concat]
    rfl
theorem foldl_tot : ∀ {ds xs : List Tn}, (∀ d ∈ ds, 0 < d.2) → (∀ d ∈ xs, 0 < d.2) → ds.foldl addF (tot xs) = tot (xs ++ ds)
  | [], xs, _, _ => by rw [List.append_nil]; rfl
  | d :: ds, xs, h, hx => by
    have hd := h d List.mem_cons_self
    show ds.foldl addF (addF (tot xs) d) = _
    rw [tot_snoc hx hd, foldl_tot (fun e he => h e (List.mem_cons_of_mem _ he)) (fun e he => by
      rcases List.mem_append.mp he with he | he
      · exact hx e he
      · rw [List.mem_singleton.mp he]
        exact hd), List.append_assoc]
    rfl
theorem R_pos : ∀ {r : List Cell} {i : Nat} {prev : Option Tn}, (∀ c ∈ r, 0 < c.1.2) → ∀ d ∈ (R i prev r).1, 0 < d.2
  | [], _, _, _, d, hd => absurd hd List.not_mem_nil
  | (_, none) :: r, _, _, _, d, hd => absurd hd List.not_mem_nil
  | (e, some (t, b)) :: r, i, prev, h, d, hd => by
    simp only [R] at hd
    split at hd
    · exact absurd hd List.not_mem_nil
    · rcases List.mem_cons.mp hd with rfl | hd
      · exact h _ List.mem_cons_self
      · exact R_pos (fun c hc => h c (List.mem_cons_of_mem _ hc)) d hd
/-- what the program keeps: the last note's tone is the one before, if there is one -/
def Kept (st : List Note × Option Tn) : Prop := ∀ t, st.2 = some t → ∃ told n, st.1 = told ++ [n] ∧ n.tone = t
theorem fwd_eq : ∀ {r : List Cell} {i : Nat} {st : List Note × Option Tn}, (∀ c ∈ r, Red c.1) → Kept st → fwd i r st = ext st.1 (R i st.2 r).1 ++ (R i st.2 r).2
  | [], i, st, _, _ => by simp [fwd, R, ext_nil]
  | (d, none) :: r, i, st, h, hk => by
    have ih := fwd_eq (r := r) (i := i + 1) (st := (st.1, none)) (fun c hc => h c (List.mem_cons_of_mem _ hc)) (fun t e => by cases e)
    have hz := R_none (i + 1) r
    simp only [fwd, fstep, R, ih, hz, ext_nil]
  | (d, some (t, b)) :: r, i, st, h, hk => by
    have hr : ∀ c ∈ r, Red c.1 := fun c hc => h c (List.mem_cons_of_mem _ hc)
    have hd : Red d := h _ List.mem_cons_self
    have dp := R_pos (i := i + 1) (prev := some t) (fun c hc => (hr c hc).d0)
    by_cases s : starts st.2 t b = true
    · have ih := fwd_eq (r := r) (i := i + 1) (st := (st.1 ++ [⟨i, t, d⟩], some t)) hr (fun t' e => by cases e; exact ⟨_, _, rfl, rfl⟩)
      simp only [fwd, fstep, R, s, if_true, ih, ext_snoc, ext_nil]
      have e := foldl_tot (ds := (R (i + 1) (some t) r).1) (xs := [d]) dp (fun e he => by rw [List.mem_singleton.mp he]; exact hd.d0)
      rw [tot_one hd] at e
      rw [e, List.append_assoc]
      rfl
    · have hp : st.2 = some t := by
        simp [starts] at s
        exact s.2.symm
      obtain ⟨told, n, e1, e2⟩ := hk t hp
      have e3 : fstep i (d, some (t, b)) st = (told ++ [⟨n.at_, t, addF n.len d⟩], some t) := by
        simp only [fstep, s, if_false, e1, List.dropLast_concat, List.getLast?_concat]
        rfl
      have ih := fwd_eq (r := r) (i := i + 1) (st := (told ++ [⟨n.at_, t, addF n.len d⟩], some t)) hr (fun t' e => by cases e; exact ⟨_, _, rfl, rfl⟩)
      simp only [fwd, e3, ih, ext_snoc, R, s, if_false]
      rw [e1, ext_snoc, e2]
      rfl
theorem fwd_all {cs : List Cell} (h : ∀ c ∈ cs, Red c.1) : fwd 0 cs ([], none) = (R 0 none cs).2 := by
  rw [fwd_eq h (fun t e => by cases e), R_none, ext_nil]
  rfl
def optT : Option Tn → D
  | none => dN
  | some t => frD t
theorem eqv_tone (t : Tn) (p : Option Tn) : PyData.eqv (frD t).py (optT p).py = decide (some t = p) := by
  cases p with
  | none => simp [frD, optT, D.py, D.pyL, PyData.eqv]
  | some u =>
    obtain ⟨a, b⟩ := t
    obtain ⟨c, d⟩ := u
    simp [frD, optT, D.py, D.pyL, PyData.eqv, PyData.eqvAll]
    rfl
theorem eqv_tone2 (t u : Tn) : PyData.eqv (frD t).py (frD u).py = decide (t = u) := by
  have := eqv_tone t (some u)
  rw [show optT (some u) = frD u from rfl] at this
  rw [this]
  exact decide_eq_decide.mpr ⟨fun h => Option.some.inj h, fun h => by rw [h]⟩
/-- the law's way, from the end -/
def prevT (cs : List Cell) (k : Nat) : Option Tn := if k = 0 then none else (cs[k - 1]?).bind fun c => toneOf c.2
theorem drop_at {α : Type} {cs : List α} {k : Nat} {c : α} (h : cs[k]? = some c) : cs.drop k = c :: cs.drop (k + 1) := by
  obtain ⟨hk, e⟩ := List.getElem?_eq_some_iff.mp h
  rw [← e]
  exact List.drop_eq_getElem_cons hk
theorem prevT_succ {cs : List Cell} {k : Nat} {c : Cell} (h : cs[k]? = some c) : prevT cs (k + 1) = toneOf c.2 := by
  unfold prevT
  rw [if_neg (by omega), Nat.add_sub_cancel, h]
  rfl
theorem R_back_none {cs : List Cell} {k : Nat} {d : Tn} (h : cs[k]? = some (d, none)) : R k (prevT cs k) (cs.drop k) = ([], (R (k + 1) (prevT cs (k + 1)) (cs.drop (k + 1))).2) ∧ (R (k + 1) (prevT cs (k + 1)) (cs.drop (k + 1))).1 = [] := by
  rw [drop_at h, prevT_succ h]
  exact ⟨rfl, R_none _ _⟩
theorem R_back_some {cs : List Cell} {k : Nat} {d t : Tn} {b : Bool} (h : cs[k]? = some (d, some (t, b))) :
    R k (prevT cs k) (cs.drop k) = if starts (prevT cs k) t b = true then ([], ⟨k, t, tot (d :: (R (k + 1) (prevT cs (k + 1)) (cs.drop (k + 1))).1)⟩ :: (R (k + 1) (prevT cs (k + 1)) (cs.drop (k + 1))).2) else (d :: (R (k + 1) (prevT cs (k + 1)) (cs.drop (k + 1))).1, (R (k + 1) (prevT cs (k + 1)) (cs.drop (k + 1))).2) := by
  rw [drop_at h, prevT_succ h]
  rfl
theorem R_len : ∀ {r : List Cell} {i : Nat} {prev : Option Tn}, (R i prev r).1.length ≤ r.length
  | [], _, _ => Nat.zero_le _
  | (_, none) :: r, _, _ => Nat.zero_le _
  | (e, some (t, b)) :: r, i, prev => by
    simp only [R]
    split
    · exact Nat.zero_le _
    · exact Nat.succ_le_succ R_len
theorem R_mem : ∀ {r : List Cell} {i : Nat} {prev : Option Tn} {d : Tn}, d ∈ (R i prev r).1 → ∃ c ∈ r, c.1 = d
  | [], _, _, _, h => absurd h List.not_mem_nil
  | (_, none) :: r, _, _, _, h => absurd h List.not_mem_nil
  | (e, some (t, b)) :: r, i, prev, d, h => by
    simp only [R] at h
    split at h
    · exact absurd h List.not_mem_nil
    · rcases List.mem_cons.mp h with rfl | h
      · exact ⟨_, List.mem_cons_self, rfl⟩
      · obtain ⟨c, hc, e⟩ := R_mem h
        exact ⟨c, List.mem_cons_of_mem _ hc, e⟩
theorem R_notes : ∀ {r : List Cell} {i : Nat} {prev : Option Tn}, (R i prev r).2.length ≤ r.length
  | [], _, _ => Nat.zero_le _
  | (_, none) :: r, _, _ => by
    simp only [R]
    exact Nat.le_succ_of_le R_notes
  | (e, some (t, b)) :: r, i, prev => by
    simp only [R]
    split
    · exact Nat.succ_le_succ R_notes
    · exact Nat.le_succ_of_le R_notes
/-- the program's state behind i columns -/
def fpre (cs : List Cell) : Nat → List Note × Option Tn
  | 0 => ([], none)
  | i + 1 => match cs[i]? with
    | some c => fstep i c (fpre cs i)
    | none => fpre cs i
theorem fpre_succ {cs : List Cell} {i : Nat} {c : Cell} (h : cs[i]? = some c) : fpre cs (i + 1) = fstep i c (fpre cs i) := by
  simp only [fpre, h]
theorem fwd_pre {cs : List Cell} : ∀ {k i : Nat}, i + k = cs.length → fwd i (cs.drop i) (fpre cs i) = (fpre cs cs.length).1
  | 0, i, h => by
    have e : i = cs.length := by omega
    rw [e, List.drop_length]
    rfl
  | k + 1, i, h => by
    have hc : cs[i]? = some cs[i] := List.getElem?_eq_getElem (by omega)
    rw [drop_at hc]
    show fwd (i + 1) _ (fstep i _ _) = _
    rw [← fpre_succ hc]
    exact fwd_pre (k := k) (by omega)
theorem fpre_all {cs : List Cell} (h : ∀ c ∈ cs, Red c.1) : (fpre cs cs.length).1 = (R 0 none cs).2 := by
  have e := fwd_pre (cs := cs) (k := cs.length) (i := 0) (by omega)
  rw [← e, ← fwd_all h]
  rfl
/-! bounds -/
structure Dn (D : Int) (d : Tn) : Prop where
  d0 : 0 < d.2
  dv : d.2 ∣ D
  n0 : 0 ≤ d.1
  nb : Bd 60 d.1
  db : Bd 60 d.2
theorem U_as {D : Int} (hD : 0 < D) : ∀ {ds : List Tn}, (∀ d ∈ ds, Dn D d) → ∃ m : Int, 0 ≤ m ∧ m ≤ (ds.length : Int) * (2 ^ 60 * D) ∧ (U ds).1 * D = m * (U ds).2
  | [], _ => ⟨0, by omega, by simp, by show (0 : Int) * D = 0 * 1; simp⟩
  | d :: ds, h => by
    obtain ⟨m, m0, m1, e⟩ := U_as hD (ds := ds) fun e he => h e (List.mem_cons_of_mem _ he)
    have dd := h d List.mem_cons_self
    obtain ⟨q, hq⟩ := dd.dv
    have d0 := dd.d0
    have n0 := dd.n0
    have q0 : 0 < q := by
      rcases Int.lt_trichotomy q 0 with z | z | z
      · have := Int.mul_neg_of_pos_of_neg d0 z
        omega
      · rw [z, Int.mul_zero] at hq
        omega
      · exact z
    have nb : d.1 ≤ 2 ^ 60 := by
      have := dd.nb
      unfold Bd at this
      omega
    have qD : q ≤ D := by
      rw [hq]
      have := Int.mul_le_mul_of_nonneg_right (show 1 ≤ d.2 by omega) (Int.le_of_lt q0)
      omega
    have b1 : d.1 * q ≤ 2 ^ 60 * D := Int.le_trans (Int.mul_le_mul_of_nonneg_right nb (Int.le_of_lt q0)) (Int.mul_le_mul_of_nonneg_left qD (by decide))
    have b0 : 0 ≤ d.1 * q := Int.mul_nonneg n0 (Int.le_of_lt q0)
    refine ⟨m + d.1 * q, by omega, ?_, ?_⟩
    · rw [List.length_cons, Int.natCast_succ, Int.add_mul, Int.one_mul]
      omega
    · show ((U ds).1 * d.2 + d.1 * (U ds).2) * D = (m + d.1 * q) * ((U ds).2 * d.2)
      have e2 : D = d.2 * q := hq
      grind
theorem tot_bd {D : Int} (hD : 0 < D) (hb : Bd 650 D) {ds : List Tn} (hl : ds.length ≤ 1000) (h : ∀ d ∈ ds, Dn D d) : (Bd 730 (tot ds).1 ∧ Bd 650 (tot ds).2) ∧ 0 < (tot ds).2 ∧ Red (tot ds) := by
  obtain ⟨m, m0, m1, e⟩ := U_as hD h
  have u0 := U_pos fun d hd => (h d hd).d0
  have e2 : tot ds = low m D := low_cross u0 hD e
  have mb : Bd 730 m := by
    have k : Bd 721 ((1000 : Int) * (2 ^ 60 * D)) := by
      have a1 : Bd 10 (1000 : Int) := by unfold Bd; decide
      have a2 : Bd 60 ((2 : Int) ^ 60 - 1) := by unfold Bd; decide
      have a3 : Bd 61 ((2 : Int) ^ 60) := by unfold Bd; decide
      exact (a1.mul ((a3.mul hb).mono (show 61 + 650 ≤ 711 by decide))).mono (by decide)
    refine (k.le ?_).mono (by decide)
    have l2 : (ds.length : Int) * (2 ^ 60 * D) ≤ 1000 * (2 ^ 60 * D) := Int.mul_le_mul_of_nonneg_right (by omega) (Int.mul_nonneg (by decide) (by omega))
    omega
  rw [e2]
  exact ⟨⟨low_bd1 mb, low_bd2 hb⟩, low_den hD, low_red hD⟩
section
variable {P : Program} {w : World} {K : PySem.W.Frag} {mg : Str → Option Value} {base : Heap} {f : Addr} {fd : FuncData}
/-! ### columns that are changed -/
theorem c_listed (F : Fun K "_law_listed" "_law_listed" s_listed f fd) (hm : mg "_law_listed" = some (.ref f)) (T : Bt mg) : ∀ n, Cal P w K mg base (n + 1) "_law_listed" (spD K (PrListed n)) := by
  intro n
  induction n with
  | zero =>
    refine cal_of F sc_listed hm (fun _ _ _ _ _ _ us hl => match us, hl with | [_], _ => rfl) (fun ds M d M' h => ?_) fun cdv A outer s H E ds M d M' hr h => ?_
    · obtain ⟨t, rfl, _⟩ := h
      rfl
    · obtain ⟨t, rfl, ok, rfl, rfl⟩ := h
      show BV _ _ [some t, none] _ _
      cases t with
      | tup ds => exact ok.elim
      | lst ds => exact ok.elim
      | val v =>
        have e : lstD (.val v) = .val v := by simp only [lstD]
        rw [e]
        rcases ok with rfl | ⟨b, rfl⟩ | ⟨i, rfl⟩ | ⟨z, rfl⟩
        all_goals
          refine bv_cons (sv_if (tv_val (ev_isi (r := false) T.isinstance T.tuple boot_tuple (ev_var 0 rfl) rfl (by decide +kernel))) (fun h => nomatch h) (fun _ => bv_nil ?_))
          exact bv_one (sv_ret (ev_var 0 rfl) ⟨rfl, Mle.refl _⟩)
  | succ n ih =>
    refine cal_of F sc_listed hm (fun _ _ _ _ _ _ us hl => match us, hl with | [_], _ => rfl) (fun ds M d M' h => ?_) fun cdv A outer s H E ds M d M' hr h => ?_
    · obtain ⟨t, rfl, _⟩ := h
      rfl
    · obtain ⟨t, rfl, ok, rfl, rfl⟩ := h
      show BV _ _ [some t, none] _ _
      have hr0 : Room (n + 1) (A.deeper (envOfC "_law_listed" (defScope s_listed) s.heap.objs.size f cdv)) := hr
      cases t with
      | lst ds => exact ok.elim
      | tup ds =>
        obtain ⟨hl, hd⟩ := ok
        refine bv_cons (sv_if (tv_val (ev_isi (r := true) T.isinstance T.tuple boot_tuple (ev_var 0 rfl) rfl (by decide +kernel))) (fun _ => ?_) (fun h => nomatch h))
        have e : lstD (.tup ds) = .lst (ds.map lstD) := by simp only [lstD, lstDL_eq]
        rw [e]
        refine bv_one (sv_ret (ev_lcM (own := [("part", 1)]) (g := gName 1) rfl sc_listed.nd (iv_tup (ev_var 0 rfl)) (blkOk_by (N := ["thing", "part"]) (sc := defScope s_listed) (by decide +kernel)) (fun _ _ _ _ _ => (pg_name (i := 1) sc_listed.nd rfl (.inl rfl))) lstD (Nat.le_trans hl (by decide)) (fun i d h => ?_)) ⟨rfl, Mle.refl _⟩)
        refine ⟨_, tgb_name, fun M2 s H C cl fp => ?_⟩
        exact ev_call ih hr0 (av_cons (ev_var 1 rfl) av_nil) ⟨_, rfl, hd _ (List.mem_of_getElem? h), rfl, rfl⟩
      | val v =>
        have e : lstD (.val v) = .val v := by simp only [lstD]
        rw [e]
        rcases ok with rfl | ⟨b, rfl⟩ | ⟨i, rfl⟩ | ⟨z, rfl⟩
        all_goals
          refine bv_cons (sv_if (tv_val (ev_isi (r := false) T.isinstance T.tuple boot_tuple (ev_var 0 rfl) rfl (by decide +kernel))) (fun h => nomatch h) (fun _ => bv_nil ?_))
          exact bv_one (sv_ret (ev_var 0 rfl) ⟨rfl, Mle.refl _⟩)
def R_interval (ds : List D) (M : Mem) (Φ : D → Mem → Prop) : Prop := ∃ a p, ds = [dP a] ∧ M a = some (Pool.mo p) ∧ p.Ok ∧ ∀ t : Tn, (-100 ≤ t.1 ∧ t.1 ≤ 100) → (-100 ≤ t.2 ∧ t.2 ≤ 100) → Draw M a Φ (frD t)
theorem c_interval (F : Fun K "_law_interval" "_law_interval" s_interval f fd) (hm : mg "_law_interval" = some (.ref f)) (T : Bt mg) (c_take : Cal P w K mg base 2 "_law_take" (spW K R_take)) : Cal P w K mg base 3 "_law_interval" (spW K R_interval) := by
  refine calW_of F sc_interval hm (fun _ _ _ _ _ _ us hl => match us, hl with | [_], _ => rfl) (fun ds M Φ h => ?_) fun cdv A outer s H E ds M Φ hr h => ?_
  · obtain ⟨a, p, rfl, _⟩ := h
    rfl
  · obtain ⟨a, p, rfl, hA, ok, hΦ⟩ := h
    show BV _ _ [some (dP a)] _ _
    refine bv_cons (sw_if ?_)
    refine tw_cmp op_eq ?_ (nomark _)
    refine ew_callW c_take (hr.mono (by decide)) (aw_av (av_cons (ev_var 0 rfl) (av_cons ev_int av_nil)) ⟨a, p, _, rfl, hA, ok, by decide, by decide, fun n1 lo1 hi1 p1 ok1 M1 fr1 hA1 => ⟨_, rfl, ?_⟩⟩)
    refine ew_ev ev_int ⟨_, _, rfl, rs_eqI, ⟨fun h => ?_, fun h => bv_nil ?_⟩⟩
    · refine bv_one (sw_ret ?_)
      refine ew_tup ?_
      refine aw_cons ?_
      refine ew_op op_sub ?_
      refine ew_callW c_take (hr.mono (by decide)) (aw_av (av_cons (ev_var 0 rfl) (av_cons ev_int av_nil)) ⟨a, p1, _, rfl, hA1, ok1, by decide, by decide, fun n2 lo2 hi2 p2 ok2 M2 fr2 hA2 => ⟨_, rfl, ?_⟩⟩)
      refine ew_ev ev_int ⟨_, _, rfl, rs_I0, ?_⟩
      refine aw_cons ?_
      refine ew_op op_sub ?_
      refine ew_callW c_take (hr.mono (by decide)) (aw_av (av_cons (ev_var 0 rfl) (av_cons ev_int av_nil)) ⟨a, p2, _, rfl, hA2, ok2, by decide, by decide, fun n3 lo3 hi3 p3 ok3 M3 fr3 hA3 => ⟨_, rfl, ?_⟩⟩)
      refine ew_ev ev_int ⟨_, _, rfl, rs_I0, ?_⟩
      exact aw_nil ⟨by (simp only [List.length_cons, List.length_nil]; decide), _, hΦ (_, _) (by show -100 ≤ n2 - 100 ∧ n2 - 100 ≤ 100; omega) (by show -100 ≤ n3 - 100 ∧ n3 - 100 ≤ 100; omega) p3 ok3 _ ((fr1.trans fr2).trans fr3) hA3, Mle.refl _⟩
    · refine bv_one (sw_ret ?_)
      refine ew_tup ?_
      refine aw_cons ?_
      refine ew_op op_sub ?_
      refine ew_callW c_take (hr.mono (by decide)) (aw_av (av_cons (ev_var 0 rfl) (av_cons ev_int av_nil)) ⟨a, p1, _, rfl, hA1, ok1, by decide, by decide, fun n2 lo2 hi2 p2 ok2 M2 fr2 hA2 => ⟨_, rfl, ?_⟩⟩)
      refine ew_ev ev_int ⟨_, _, rfl, rs_I0, ?_⟩
      refine aw_cons ?_
      refine ew_op op_sub ?_
      refine ew_callW c_take (hr.mono (by decide)) (aw_av (av_cons (ev_var 0 rfl) (av_cons ev_int av_nil)) ⟨a, p2, _, rfl, hA2, ok2, by decide, by decide, fun n3 lo3 hi3 p3 ok3 M3 fr3 hA3 => ⟨_, rfl, ?_⟩⟩)
      refine ew_ev ev_int ⟨_, _, rfl, rs_I0, ?_⟩
      exact aw_nil ⟨by (simp only [List.length_cons, List.length_nil]; decide), _, hΦ (_, _) (by show -100 ≤ n2 - 4 ∧ n2 - 4 ≤ 100; omega) (by show -100 ≤ n3 - 4 ∧ n3 - 4 ≤ 100; omega) p3 ok3 _ ((fr1.trans fr2).trans fr3) hA3, Mle.refl _⟩
def mulF (p q : Tn) : Tn := low (p.1 * q.1) (p.2 * q.2)
structure FrOk (k l : Nat) (p : Tn) : Prop where
  d0 : 0 < p.2
  nb : Bd k p.1
  db : Bd l p.2
def PrTimes (ds : List D) (M : Mem) (d : D) (M' : Mem) : Prop := ∃ p q : Tn, ds = [frD p, frD q] ∧ FrOk 440 440 p ∧ FrOk 440 440 q ∧ d = frD (mulF p q) ∧ M' = M
def PrSum (ds : List D) (M : Mem) (d : D) (M' : Mem) : Prop := ∃ p q : Tn, ds = [frD p, frD q] ∧ FrOk 800 800 p ∧ FrOk 60 60 q ∧ d = frD (addF p q) ∧ M' = M
theorem addF_bd {p q : Tn} (hp : FrOk 800 800 p) (hq : FrOk 60 60 q) : Bd 900 (p.1 * q.2 + q.1 * p.2) ∧ Bd 900 (p.2 * q.2) :=
  ⟨((hp.nb.mul hq.db).add ((hq.nb.mul hp.db).mono (by decide))).mono (by decide), (hp.db.mul hq.db).mono (by decide)⟩
theorem c_times (F : Fun K "_law_times" "_law_times" s_times f fd) (hm : mg "_law_times" = some (.ref f)) (T : Bt mg) (c_lowest : Cal P w K mg base 1 "_law_lowest" (spD K PrLow)) : Cal P w K mg base 2 "_law_times" (spD K PrTimes) := by
  refine cal_of F sc_times hm (fun _ _ _ _ _ _ us hl => match us, hl with | [_, _], _ => rfl) (fun ds M d M' h => ?_) fun cdv A outer s H E ds M d M' hr h => ?_
  · obtain ⟨p, q, rfl, _⟩ := h
    rfl
  · obtain ⟨p, q, rfl, hp, hq, rfl, rfl⟩ := h
    show BV _ _ [some (frD p), some (frD q)] _ _
    refine bv_one (sv_ret (ev_call c_lowest (hr.mono (by decide)) (av_cons (ev_op op_mulW (ev_ixT (ev_var 0 rfl) ev_int rfl) (ev_ixT (ev_var 1 rfl) ev_int rfl) (rs_I (hp.nb.cm hq.nb))) (av_cons (ev_op op_mulW (ev_ixT (ev_var 0 rfl) ev_int rfl) (ev_ixT (ev_var 1 rfl) ev_int rfl) (rs_I (hp.db.cm hq.db))) av_nil)) (low_at (Int.mul_pos hp.d0 hq.d0) ((hp.nb.mul hq.nb).mono (by decide)) ((hp.db.mul hq.db).mono (by decide)))) ⟨rfl, Mle.refl _⟩)
theorem c_sum (F : Fun K "_law_sum" "_law_sum" s_sum f fd) (hm : mg "_law_sum" = some (.ref f)) (T : Bt mg) (c_lowest : Cal P w K mg base 1 "_law_lowest" (spD K PrLow)) : Cal P w K mg base 2 "_law_sum" (spD K PrSum) := by
  refine cal_of F sc_sum hm (fun _ _ _ _ _ _ us hl => match us, hl with | [_, _], _ => rfl) (fun ds M d M' h => ?_) fun cdv A outer s H E ds M d M' hr h => ?_
  · obtain ⟨p, q, rfl, _⟩ := h
    rfl
  · obtain ⟨p, q, rfl, hp, hq, rfl, rfl⟩ := h
    show BV _ _ [some (frD p), some (frD q)] _ _
    exact bv_one (sv_ret (ev_call c_lowest (hr.mono (by decide)) (av_cons (ev_op op_add (ev_op op_mulW (ev_ixT (ev_var 0 rfl) ev_int rfl) (ev_ixT (ev_var 1 rfl) ev_int rfl) (rs_I (hp.nb.cm hq.db))) (ev_op op_mulW (ev_ixT (ev_var 1 rfl) ev_int rfl) (ev_ixT (ev_var 0 rfl) ev_int rfl) (rs_I (hq.nb.cm hp.db))) rs_I0) (av_cons (ev_op op_mulW (ev_ixT (ev_var 0 rfl) ev_int rfl) (ev_ixT (ev_var 1 rfl) ev_int rfl) (rs_I (hp.db.cm hq.db))) av_nil)) (low_at (Int.mul_pos hp.d0 hq.d0) (addF_bd hp hq).1 (addF_bd hp hq).2)) ⟨rfl, Mle.refl _⟩)
def raisedT (s : Int) (t u : Tn) : Tn := (t.1 + s * u.1, t.2 + s * u.2)
def raisedE (s : Int) (t : Tn) : Option (Tn × Bool) → Option (Tn × Bool)
  | none => none
  | some (u, g) => some (raisedT s t u, g)
def raisedC (s : Int) (t : Tn) (c : Col) : Col := ⟨c.dur, c.acc, c.ents.map (raisedE s t)⟩
def TonB (k : Nat) (c : Col) : Prop := ∀ u g, some (u, g) ∈ c.ents → Bd k u.1 ∧ Bd k u.2
def PrRaised (ds : List D) (M : Mem) (d : D) (M' : Mem) : Prop := ∃ (c : Col) (s : Int) (t : Tn), ds = [colD c, dI s, frD t] ∧ Bd 10 s ∧ TonB 100 c ∧ c.ents.length ≤ 1000 ∧ d = colD (raisedC s t c) ∧ M' = M
theorem c_raised (F : Fun K "_law_raised" "_law_raised" s_raised f fd) (hm : mg "_law_raised" = some (.ref f)) (T : Bt mg) : Cal P w K mg base 1 "_law_raised" (spD K PrRaised) := by
  refine cal_of F sc_raised hm (fun _ _ _ _ _ _ us hl => match us, hl with | [_, _, _], _ => rfl) (fun ds M d M' h => ?_) fun cdv A outer s H E ds M d M' hr h => ?_
  · obtain ⟨c, z, t, rfl, _⟩ := h
    rfl
  · obtain ⟨c, z, t, rfl, hz, ht, hl, rfl, rfl⟩ := h
    show BV _ _ [some (colD c), some (dI z), some (frD t), none, none] _ _
    refine bv_cons (sv_set 3 sc_raised.nd (ev_tup av_nil) ?_)
    refine bv_cons (sw_for rfl (pg_name (i := 4) sc_raised.nd rfl (.inl rfl)) ?_)
    refine iw_iv (iv_tup (ds := c.ents.map (entQ false)) (ev_ixT (ev_var 0 rfl) ev_int rfl)) ⟨fun i ρ M1 => ∃ x4 : Option D, M1 = M' ∧ ρ = [some (colD c), some (dI z), some (frD t), some (.tup (((c.ents.take i).map (raisedE z t)).map (entQ false))), x4], ⟨none, rfl, rfl⟩, fun i d ρ' M1 hd iv => ?_, fun ρ' M1 iv => ?_⟩
    · obtain ⟨x4, rfl, rfl⟩ := iv
      rw [List.getElem?_map, Option.map_eq_some_iff] at hd
      obtain ⟨e, he, rfl⟩ := hd
      have hi : i < c.ents.length := by
        rcases Nat.lt_or_ge i c.ents.length with h | h
        · exact h
        · rw [List.getElem?_eq_none h] at he
          cases he
      refine ⟨_, tg_name, ?_⟩
      refine bv_cons (sv_join (fun ρ M => M = M1 ∧ ρ = [some (colD c), some (dI z), some (frD t), some (.tup (((c.ents.take i).map (raisedE z t)).map (entQ false))), some (entQ false (raisedE z t e))]) ?_ ?_)
      · cases e with
        | none => exact sv_if (tv_notNn (ev_var 4 rfl)) (fun h => nomatch h) (fun _ => bv_nil ⟨rfl, rfl⟩)
        | some e =>
          obtain ⟨u, g⟩ := e
          have hu := ht u g (List.mem_of_getElem? he)
          exact sv_if (tv_notNn (ev_var 4 rfl)) (fun _ => bv_one (sv_set 4 sc_raised.nd (ev_tup (av_cons (ev_tup (av_cons (ev_op op_add (ev_ixT (ev_var 2 rfl) ev_int rfl) (ev_op op_mulW (ev_var 1 rfl) (ev_ixT (ev_ixT (ev_var 4 rfl) ev_int rfl) ev_int rfl) (rs_I (hz.cm hu.1))) rs_I0) (av_cons (ev_op op_add (ev_ixT (ev_var 2 rfl) ev_int rfl) (ev_op op_mulW (ev_var 1 rfl) (ev_ixT (ev_ixT (ev_var 4 rfl) ev_int rfl) ev_int rfl) (rs_I (hz.cm hu.2))) rs_I0) av_nil))) (av_cons (ev_ixT (ev_var 4 rfl) ev_int rfl) av_nil))) ⟨rfl, rfl⟩)) (fun h => nomatch h)
      · rintro ρ M ⟨rfl, rfl⟩
        refine bv_one (sv_set 3 sc_raised.nd (ev_catT (ev_var 3 rfl) (ev_tup (av_cons (ev_var 4 rfl) av_nil)) ?_) ?_)
        · rw [List.length_map, List.length_map, List.length_take]
          exact Nat.le_trans (show min i c.ents.length + 1 ≤ 2000 by omega) (by decide)
        · refine ⟨some (entQ false (raisedE z t e)), rfl, ?_⟩
          rw [List.take_succ, he, Option.toList_some, List.map_append, List.map_append]
          rfl
    · obtain ⟨x4, rfl, rfl⟩ := iv
      rw [List.length_map, List.take_length]
      exact bv_one (sv_ret (ev_tup (av_cons (ev_ixT (ev_var 0 rfl) ev_int rfl) (av_cons (ev_ixT (ev_var 0 rfl) ev_int rfl) (av_cons (ev_var 3 rfl) av_nil)))) ⟨rfl, Mle.refl _⟩)
/-- what a rule makes of a column -/
inductive Chg
  | up (t : Tn)
  | turn (t : Tn)
  | pace (q : Tn)
  | ex (l : List Int)
def Chg.D : Chg → D
  | .up t => .tup [dS "raise", dI 0, frD t]
  | .turn t => .tup [dS "turn", dI 0, frD t]
  | .pace t => .tup [dS "pace", dI 0, frD t]
  | .ex l => .tup [dS "voices", dI 0, .tup (l.map dI)]
def Chg.Ok (v : Nat) : Chg → Prop
  | .up _ => True
  | .turn _ => True
  | .pace q => FrOk 60 60 q
  | .ex l => l.length = v ∧ ∀ k ∈ l, 0 ≤ k ∧ k < v
def Chg.col : Chg → Col → Col
  | .up t, c => raisedC 1 t c
  | .turn t, c => raisedC (-1) t c
  | .pace q, c => ⟨mulF c.dur q, c.acc, c.ents⟩
  | .ex l, c => ⟨c.dur, c.acc, l.map fun k => c.ents.getD k.toNat none⟩
def PrDone (ds : List D) (M : Mem) (d : D) (M' : Mem) : Prop := ∃ (g : Chg) (c : Col) (v : Nat), ds = [g.D, colD c] ∧ g.Ok v ∧ v ≤ 1000 ∧ c.ents.length = v ∧ TonB 100 c ∧ FrOk 60 60 c.dur ∧ d = colD (g.col c) ∧ M' = M
theorem c_done (F : Fun K "_law_done" "_law_done" s_done f fd) (hm : mg "_law_done" = some (.ref f)) (T : Bt mg) (c_times : Cal P w K mg base 2 "_law_times" (spD K PrTimes)) (c_raised : Cal P w K mg base 1 "_law_raised" (spD K PrRaised)) : Cal P w K mg base 3 "_law_done" (spD K PrDone) := by
  refine cal_of F sc_done hm (fun _ _ _ _ _ _ us hl => match us, hl with | [_, _], _ => rfl) (fun ds M d M' h => ?_) fun cdv A outer s H E ds M d M' hr h => ?_
  · obtain ⟨g, c, v, rfl, _⟩ := h
    rfl
  · obtain ⟨g, c, v, rfl, gok, hv, hl, ht, hc, rfl, rfl⟩ := h
    show BV _ _ [some g.D, some (colD c), none] _ _
    have f0 {q : Tn} (h : FrOk 60 60 q) : FrOk 440 440 q := ⟨h.d0, h.nb.mono (by decide), h.db.mono (by decide)⟩
    cases g with
    | up t =>
      refine bv_cons (sv_if (tv_cmpR op_eq (ev_ixT (ev_var 0 rfl) ev_int rfl) ev_str rs_eqS (nomark _)) (fun h => ?_) (fun h => absurd h (by decide)))
      exact bv_one (sv_ret (ev_call c_raised (hr.mono (by decide)) (av_cons (ev_var 1 rfl) (av_cons ev_int (av_cons (ev_ixT (ev_var 0 rfl) ev_int rfl) av_nil))) ⟨c, 1, t, rfl, by unfold Bd; decide, ht, by omega, rfl, rfl⟩) ⟨rfl, Mle.refl _⟩)
    | turn t =>
      refine bv_cons (sv_if (tv_cmpR op_eq (ev_ixT (ev_var 0 rfl) ev_int rfl) ev_str rs_eqS (nomark _)) (fun h => absurd h (by decide)) (fun h => bv_nil ?_))
      refine bv_cons (sv_if (tv_cmpR op_eq (ev_ixT (ev_var 0 rfl) ev_int rfl) ev_str rs_eqS (nomark _)) (fun h => ?_) (fun h => absurd h (by decide)))
      exact bv_one (sv_ret (ev_call c_raised (hr.mono (by decide)) (av_cons (ev_var 1 rfl) (av_cons (ev_un un_neg ev_int ru_neg) (av_cons (ev_ixT (ev_var 0 rfl) ev_int rfl) av_nil))) ⟨c, -1, t, rfl, by unfold Bd; decide, ht, by omega, rfl, rfl⟩) ⟨rfl, Mle.refl _⟩)
    | pace q =>
      refine bv_cons (sv_if (tv_cmpR op_eq (ev_ixT (ev_var 0 rfl) ev_int rfl) ev_str rs_eqS (nomark _)) (fun h => absurd h (by decide)) (fun h => bv_nil ?_))
      refine bv_cons (sv_if (tv_cmpR op_eq (ev_ixT (ev_var 0 rfl) ev_int rfl) ev_str rs_eqS (nomark _)) (fun h => absurd h (by decide)) (fun h => bv_nil ?_))
      refine bv_cons (sv_if (tv_cmpR op_eq (ev_ixT (ev_var 0 rfl) ev_int rfl) ev_str rs_eqS (nomark _)) (fun h => ?_) (fun h => absurd h (by decide)))
      exact bv_one (sv_ret (ev_tup (av_cons (ev_call c_times (hr.mono (by decide)) (av_cons (ev_ixT (ev_var 1 rfl) ev_int rfl) (av_cons (ev_ixT (ev_var 0 rfl) ev_int rfl) av_nil)) ⟨c.dur, q, rfl, f0 hc, f0 gok, rfl, rfl⟩) (av_cons (ev_ixT (ev_var 1 rfl) ev_int rfl) (av_cons (ev_ixT (ev_var 1 rfl) ev_int rfl) av_nil)))) ⟨rfl, Mle.refl _⟩)
    | ex l =>
      refine bv_cons (sv_if (tv_cmpR op_eq (ev_ixT (ev_var 0 rfl) ev_int rfl) ev_str rs_eqS (nomark _)) (fun h => absurd h (by decide)) (fun h => bv_nil ?_))
      refine bv_cons (sv_if (tv_cmpR op_eq (ev_ixT (ev_var 0 rfl) ev_int rfl) ev_str rs_eqS (nomark _)) (fun h => absurd h (by decide)) (fun h => bv_nil ?_))
      refine bv_cons (sv_if (tv_cmpR op_eq (ev_ixT (ev_var 0 rfl) ev_int rfl) ev_str rs_eqS (nomark _)) (fun h => absurd h (by decide)) (fun h => bv_nil ?_))
      refine bv_cons (sv_if (tv_cmpR op_eq (ev_ixT (ev_var 0 rfl) ev_int rfl) ev_str rs_eqS (nomark _)) (fun h => ?_) (fun h => absurd h (by decide)))
      refine bv_one (sv_ret (d := colD (Chg.col (.ex l) c)) (M1 := M') ?_ ⟨rfl, Mle.refl _⟩)
      have e : colD (Chg.col (.ex l) c) = .tup [frD c.dur, dI c.acc, .tup ((l.map dI).map fun d => match d with | .val (.int k) => entQ false (c.ents.getD k.toNat none) | d => d)] := by
        show D.tup [_, _, D.tup ((l.map fun k => c.ents.getD k.toNat none).map (entQ false))] = _
        rw [List.map_map, List.map_map]
        rfl
      rw [e]
      refine ev_tup (av_cons (ev_ixT (ev_var 1 rfl) ev_int rfl) (av_cons (ev_ixT (ev_var 1 rfl) ev_int rfl) (av_cons (ev_tupOf (b := true) T.tuple ?_) av_nil)))
      refine ev_lcM (own := [("voice", 2)]) (g := gName 2) rfl sc_done.nd (iv_tup (ds := l.map dI) (ev_ixT (ev_var 0 rfl) ev_int rfl)) (blkOk_by (N := ["rule", "cell", "voice"]) (sc := defScope s_done) (by decide +kernel)) (fun _ _ _ _ _ => (pg_name (i := 2) sc_done.nd rfl (.inl rfl))) _ (by rw [List.length_map]; exact Nat.le_trans (show l.length ≤ 1000 by have := gok.1; omega) (by decide)) (fun i d h => ?_)
      refine ⟨_, tgb_name, fun M2 s H C cl fp => ?_⟩
      rw [List.getElem?_map, Option.map_eq_some_iff] at h
      obtain ⟨k, hk, rfl⟩ := h
      have k0 := gok.2 k (List.mem_of_getElem? hk)
      have hk2 : k.toNat < c.ents.length := by omega
      refine ev_ixT (ds := c.ents.map (entQ false)) (ev_ixT (ev_var 1 rfl) ev_int rfl) (ev_var 2 rfl) (atI_nat (k := k.toNat) ?_ (by omega))
      rw [List.getElem?_map, List.getElem?_eq_getElem hk2]
      show some _ = some (entQ false (c.ents.getD k.toNat none))
      rw [List.getD_eq_getElem?_getD, List.getElem?_eq_getElem hk2]
      rfl
end
section
variable {P : Program} {w : World} {K : PySem.W.Frag} {mg : Str → Option Value} {base : Heap} {f : Addr} {fd : FuncData}
def heldE : Option (Tn × Bool) → Option (Tn × Bool) → Bool
  | some (u, _), some (t, b) => !b && decide (u = t)
  | _, _ => false
def PrHeld (ds : List D) (M : Mem) (d : D) (M' : Mem) : Prop := ∃ a e : Option (Tn × Bool), ds = [entQ false a, entQ false e] ∧ d = dB (heldE a e) ∧ M' = M
theorem c_held (F : Fun K "_law_held" "_law_held" s_held f fd) (hm : mg "_law_held" = some (.ref f)) (T : Bt mg) : Cal P w K mg base 1 "_law_held" (spD K PrHeld) := by
  refine cal_of F sc_held hm (fun _ _ _ _ _ _ us hl => match us, hl with | [_, _], _ => rfl) (fun ds M d M' h => ?_) fun cdv A outer s H E ds M d M' hr h => ?_
  · obtain ⟨a, e, rfl, _⟩ := h
    rfl
  · obtain ⟨a, e, rfl, rfl, rfl⟩ := h
    show BV _ _ [some (entQ false a), some (entQ false e)] _ _
    cases a with
    | none =>
      refine bv_cons (sv_if (PW.pt (wv_or (tv_isNn (ev_var 0 rfl)) (fun h => wv_one_or (tv_isNn (ev_var 1 rfl))))) (fun h => ?_) (fun h => by
        have h2 : (true || (entQ false e).isN) = false := h
        rw [Bool.true_or] at h2
        cases h2))
      exact bv_one (sv_ret ev_bl ⟨by cases e <;> rfl, Mle.refl _⟩)
    | some a =>
      obtain ⟨u, g⟩ := a
      cases e with
      | none =>
        refine bv_cons (sv_if (PW.pt (wv_or (tv_isNn (ev_var 0 rfl)) (fun h => wv_one_or (tv_isNn (ev_var 1 rfl))))) (fun h => ?_) (fun h => nomatch h))
        exact bv_one (sv_ret ev_bl ⟨rfl, Mle.refl _⟩)
      | some e =>
        obtain ⟨t, b⟩ := e
        refine bv_cons (sv_if (PW.pt (wv_or (tv_isNn (ev_var 0 rfl)) (fun h => wv_one_or (tv_isNn (ev_var 1 rfl))))) (fun h => nomatch h) (fun _ => bv_nil ?_))
        refine bv_one (sv_ret (ev_andB (p := !b) (ev_notB (ev_ixT (ev_var 1 rfl) ev_int rfl)) (fun h => (ev_one (b := true) (ev_eqD (d1 := frD u) (d2 := frD t) (hu64 hr) (ev_ixT (ev_var 0 rfl) ev_int rfl) (ev_ixT (ev_var 1 rfl) ev_int rfl) rfl rfl rfl rfl rfl)))) ⟨?_, Mle.refl _⟩)
        rw [eqv_tone2]
        rfl
theorem held_starts (a : Option (Tn × Bool)) (t : Tn) (b : Bool) : heldE a (some (t, b)) = !starts (toneOf a) t b := by
  cases a with
  | none => cases b <;> rfl
  | some a =>
    obtain ⟨u, g⟩ := a
    have e : decide (u = t) = decide (some t = some u) := decide_eq_decide.mpr ⟨fun h => by rw [h], fun h => (Option.some.inj h).symm⟩
    show (!b && decide (u = t)) = !(b || !decide (some t = some u))
    rw [e]
    cases b <;> simp
def entAt (v : Nat) (c : Col) : Option (Tn × Bool) := c.ents.getD v none
def cellsOf (v : Nat) (bar : List Col) : List Cell := bar.map fun c => (c.dur, entAt v c)
theorem ents_atD {c : Col} {b : Bool} {i : Nat} (h : i < c.ents.length) : (c.ents.map (entQ b))[i]? = some (entQ b (entAt i c)) := by
  rw [ents_at h, entAt, List.getD_eq_getElem?_getD, List.getElem?_eq_getElem h]
  rfl
structure BarN (V : Nat) (bar : List Col) : Prop where
  len : bar.length ≤ 1000
  vs : V ≤ 1000
  ents : ∀ c ∈ bar, c.ents.length = V
  red : ∀ c ∈ bar, Red c.dur
  den : ∃ D : Int, 0 < D ∧ Bd 650 D ∧ ∀ c ∈ bar, Dn D c.dur
def noteD (n : Note) : D := .tup [dI n.at_, frD n.tone, frD n.len]
def StN (cs : List Cell) (j : Nat) : List Tn × List Note := R j (prevT cs j) (cs.drop j)
theorem StN_all (cs : List Cell) : StN cs 0 = R 0 none cs := rfl
theorem StN_end {cs : List Cell} : StN cs cs.length = ([], []) := by
  unfold StN
  rw [List.drop_length]
  rfl
theorem StN_bd {V v : Nat} {bar : List Col} (h : BarN V bar) (j : Nat) : FrOk 800 800 (tot (StN (cellsOf v bar) j).1) ∧ ∀ e ∈ (StN (cellsOf v bar) j).1, 0 < e.2 := by
  obtain ⟨D, D0, Db, hD⟩ := h.den
  have k : ∀ d ∈ (StN (cellsOf v bar) j).1, Dn D d := fun d hd => by
    obtain ⟨c, hc, rfl⟩ := R_mem hd
    obtain ⟨c', hc', rfl⟩ := List.mem_map.mp (List.mem_of_mem_drop hc)
    exact hD c' hc'
  have l : (StN (cellsOf v bar) j).1.length ≤ 1000 := by
    refine Nat.le_trans R_len ?_
    rw [List.length_drop, cellsOf, List.length_map]
    have := h.len
    omega
  obtain ⟨⟨b1, b2⟩, p, _⟩ := tot_bd D0 Db l k
  exact ⟨⟨p, b1.mono (by decide), b2.mono (by decide)⟩, fun e he => (k e he).d0⟩
theorem Dn_fr {D : Int} {d : Tn} (h : Dn D d) : FrOk 60 60 d := ⟨h.d0, h.nb, h.db⟩
theorem bar_at {b1 : Bool} {bar : List Col} {k : Nat} (h : k < bar.length) : (bar.map (colQ b1))[k]? = some (colQ b1 bar[k]) := by
  rw [List.getElem?_map, List.getElem?_eq_getElem h]
  rfl
theorem cells_at {v k : Nat} {bar : List Col} (h : k < bar.length) : (cellsOf v bar)[k]? = some (bar[k].dur, entAt v bar[k]) := by
  rw [cellsOf, List.getElem?_map, List.getElem?_eq_getElem h]
  rfl
def PrSung (ds : List D) (M : Mem) (d : D) (M' : Mem) : Prop := ∃ (bar : List Col) (V v : Nat), ds = [barD bar, dI ((v : Nat) : Int)] ∧ BarN V bar ∧ v < V ∧ d = .tup ((R 0 none (cellsOf v bar)).2.map noteD) ∧ M' = M
theorem c_sung (F : Fun K "_law_sung" "_law_sung" s_sung f fd) (hm : mg "_law_sung" = some (.ref f)) (T : Bt mg) (c_sum : Cal P w K mg base 2 "_law_sum" (spD K PrSum)) (c_held : Cal P w K mg base 1 "_law_held" (spD K PrHeld)) : Cal P w K mg base 3 "_law_sung" (spD K PrSung) := by
  refine cal_of F sc_sung hm (fun _ _ _ _ _ _ us hl => match us, hl with | [_, _], _ => rfl) (fun ds M d M' h => ?_) fun cdv A outer s H E ds M d M' hr h => ?_
  · obtain ⟨bar, V, v, rfl, _⟩ := h
    rfl
  · obtain ⟨bar, V, v, rfl, hb, hv, rfl, rfl⟩ := h
    show BV _ _ [some (barD bar), some (dI ((v : Nat) : Int)), none, none, none, none, none] _ _
    refine bv_cons (sw_set 2 sc_sung.nd (ew_lstN (aw_nil ⟨by decide, fun l hl => ?_⟩)))
    refine bv_cons (sv_set 3 sc_sung.nd (ev_tup (av_cons ev_int (av_cons ev_int av_nil))) ?_)
    refine bv_cons (sw_for rfl (pg_name (i := 4) sc_sung.nd rfl (.inl rfl)) ?_)
    have len := hb.len
    have ml : (bar.map colD).length = bar.length := List.length_map ..
    have cl0 : (cellsOf v bar).length = bar.length := List.length_map ..
    refine iw_iv (iv_range3 (n := ((((bar.map colD).length : Nat) : Int) - 1 - (-1)).toNat) T.range (ev_op op_sub (ev_lenT T.len (ds := bar.map colD) (ev_var 0 rfl)) ev_int rs_I0) (ev_un un_neg ev_int ru_neg) (ev_un un_neg ev_int ru_neg) (RgC.neg (by omega) (by omega) (by decide) (by decide))) ⟨fun i ρ M1 => ∃ (j : Nat) (x4 x5 x6 : Option D), i + j = bar.length ∧ ρ = [some (barD bar), some (dI ((v : Nat) : Int)), some (dP l), some (frD (tot (StN (cellsOf v bar) j).1)), x4, x5, x6] ∧ M1 = M'.set l (.lst ((StN (cellsOf v bar) j).2.reverse.map noteD)), ⟨bar.length, none, none, none, by omega, ?_, ?_⟩, fun i d ρ' M1 hd iv => ?_, fun ρ' M1 iv => ?_⟩
    · rw [← cl0, StN_end, tot_nil]
      rfl
    · rw [← cl0, StN_end]
      rfl
    · obtain ⟨j, x4, x5, x6, hij, rfl, rfl⟩ := iv
      rw [List.getElem?_map, Option.map_eq_some_iff] at hd
      obtain ⟨i', hi', rfl⟩ := hd
      obtain ⟨hi, rfl⟩ := List.getElem?_eq_some_iff.mp hi'
      rw [List.length_range] at hi
      obtain ⟨k, rfl⟩ : ∃ k, j = k + 1 := ⟨j - 1, by omega⟩
      have hk : k < bar.length := by omega
      have e4 : (((bar.map colD).length : Nat) : Int) - 1 + (((List.range ((((bar.map colD).length : Nat) : Int) - 1 - (-1)).toNat)[i] : Nat) : Int) * (-1) = ((k : Nat) : Int) := by
        rw [List.getElem_range]
        omega
      rw [e4]
      have hc := hb.ents bar[k] (List.getElem_mem hk)
      have ha := cells_at (v := v) hk
      have hred := hb.red bar[k] (List.getElem_mem hk)
      refine ⟨_, tg_name, ?_⟩
      refine bv_cons (sv_set 5 sc_sung.nd (ev_ixT (ds := bar[k].ents.map (entQ false)) (ev_ixT (ev_ixT (ds := bar.map colD) (ev_var 0 rfl) (ev_var 4 rfl) (atI_nat (bar_at hk) rfl)) ev_int rfl) (ev_var 1 rfl) (atI_nat (ents_atD (by omega)) rfl)) ?_)
      have hah : ∃ ah : Option (Tn × Bool), toneOf ah = prevT (cellsOf v bar) k ∧ ((k = 0 ∧ ah = none) ∨ ∃ k0, k = k0 + 1 ∧ ∃ h : k0 < bar.length, ah = entAt v bar[k0]) := by
        cases k with
        | zero => exact ⟨none, rfl, .inl ⟨rfl, rfl⟩⟩
        | succ k0 =>
          have hk0 : k0 < bar.length := by omega
          exact ⟨entAt v bar[k0], (prevT_succ (cells_at (v := v) hk0)).symm, .inr ⟨k0, rfl, hk0, rfl⟩⟩
      obtain ⟨ah, hah, hk2⟩ := hah
      refine bv_cons (sv_set 6 sc_sung.nd (d := entQ false ah) (M1 := M'.set l (.lst ((StN (cellsOf v bar) (k + 1)).2.reverse.map noteD))) (ev_if (tv_cmpR op_gt (ev_var 4 rfl) ev_int rs_I0 (nomark _)) (fun h => ?_) (fun h => ?_)) ?_)
      · rcases hk2 with ⟨rfl, _⟩ | ⟨k0, rfl, hk0, rfl⟩
        · exact absurd h (by decide)
        · have hc0 := hb.ents bar[k0] (List.getElem_mem hk0)
          exact ev_ixT (ds := bar[k0].ents.map (entQ false)) (ev_ixT (ev_ixT (ds := bar.map colD) (ev_var 0 rfl) (ev_op op_sub (ev_var 4 rfl) ev_int rs_I0) (atI_nat (bar_at hk0) (by omega))) ev_int rfl) (ev_var 1 rfl) (atI_nat (ents_atD (by omega)) rfl)
      · rcases hk2 with ⟨rfl, rfl⟩ | ⟨k0, rfl, hk0, rfl⟩
        · exact ev_non
        · have := of_decide_eq_false h
          exact absurd (show (0 : Int) < ((k0 + 1 : Nat) : Int) by omega) this
      · generalize entAt v bar[k] = e0 at ha ⊢
        cases e0 with
        | none =>
          refine bv_cons (sv_if (tv_isNn (ev_var 5 rfl)) (fun _ => bv_one (sv_cont ?_)) (fun h => nomatch h))
          obtain ⟨q1, q2⟩ := R_back_none ha
          refine ⟨k, some (dI ((k : Nat) : Int)), some (entQ false none), some (entQ false ah), by omega, ?_, ?_⟩
          rotate_left
          · show _ = M'.set l (.lst ((R k _ _).2.reverse.map noteD))
            rw [q1]
            rfl
          · show _ = [some (barD bar), some (dI ((v : Nat) : Int)), some (dP l), some (frD (tot (R k _ _).1)), some (dI ((k : Nat) : Int)), some (entQ false none), some (entQ false ah)]
            rw [q1]
            show [_, _, _, some (frD (tot (R (k + 1) _ _).1)), _, _, _] = _
            rw [q2]
        | some e0 =>
          obtain ⟨t, b⟩ := e0
          refine bv_cons (sv_if (tv_isNn (ev_var 5 rfl)) (fun h => nomatch h) (fun _ => bv_nil ?_))
          obtain ⟨D0, D1, D2, hD⟩ := hb.den
          obtain ⟨fo, po⟩ := StN_bd (v := v) hb (k + 1)
          refine bv_cons (sv_set 3 sc_sung.nd (ev_call c_sum (hr.mono (by decide)) (av_cons (ev_var 3 rfl) (av_cons (ev_ixT (ev_ixT (ds := bar.map colD) (ev_var 0 rfl) (ev_var 4 rfl) (atI_nat (bar_at hk) rfl)) ev_int rfl) av_nil)) ⟨_, bar[k].dur, rfl, fo, Dn_fr (hD _ (List.getElem_mem hk)), rfl, rfl⟩) ?_)
          rw [tot_cons po hred.d0]
          have st := R_back_some ha
          have hs := held_starts ah t b
          rw [hah] at hs
          refine bv_one (sv_if (tv_not (tv_val (ev_call c_held (hr.mono (by decide)) (av_cons (ev_var 6 rfl) (av_cons (ev_var 5 rfl) av_nil)) ⟨ah, some (t, b), rfl, rfl, rfl⟩))) (fun h => ?_) (fun h => bv_nil ?_))
          all_goals rw [hs, Bool.not_not] at h
          · rw [if_pos h] at st
            refine bv_cons (sw_append (ev_var 2 rfl) ⟨_, Mem.set_same⟩ ?_)
            refine ew_ev (ev_tup (av_cons (ev_var 4 rfl) (av_cons (ev_ixT (ev_var 5 rfl) ev_int rfl) (av_cons (ev_var 3 rfl) av_nil)))) ⟨_, Mem.set_same, ?_, ?_⟩
            · rw [List.length_map, List.length_reverse]
              refine Nat.lt_of_le_of_lt R_notes ?_
              rw [List.length_drop, cl0]
              exact Nat.lt_of_le_of_lt (show bar.length - (k + 1) ≤ 1000 by omega) (by decide)
            · refine bv_one (sv_set 3 sc_sung.nd (ev_tup (av_cons ev_int (av_cons ev_int av_nil))) ?_)
              refine ⟨k, some (dI ((k : Nat) : Int)), some (entQ false (some (t, b))), some (entQ false ah), by omega, ?_, ?_⟩
              · show _ = [some (barD bar), some (dI ((v : Nat) : Int)), some (dP l), some (frD (tot (R k _ _).1)), _, _, _]
                rw [st]
                show _ = [_, _, _, some (frD (tot [])), _, _, _]
                rw [tot_nil]
                rfl
              · show _ = M'.set l (.lst ((R k _ _).2.reverse.map noteD))
                rw [st, Mem.set_set, List.reverse_cons, List.map_append]
                rfl
          · rw [if_neg (by rw [h]; decide)] at st
            refine ⟨k, some (dI ((k : Nat) : Int)), some (entQ false (some (t, b))), some (entQ false ah), by omega, ?_, ?_⟩
            · show _ = [some (barD bar), some (dI ((v : Nat) : Int)), some (dP l), some (frD (tot (R k _ _).1)), _, _, _]
              rw [st]
              rfl
            · show _ = M'.set l (.lst ((R k _ _).2.reverse.map noteD))
              rw [st]
              rfl
    · obtain ⟨j, x4, x5, x6, hij, rfl, rfl⟩ := iv
      rw [List.length_map, List.length_range] at hij
      obtain rfl : j = 0 := by omega
      refine bv_one (sw_ret (ew_tupOf T.tuple (ew_rev (ew_ev (ev_var 2 rfl) ⟨_, .inr ⟨l, rfl, Mem.set_same⟩, true, _, rfl, ?_⟩))))
      refine ⟨?_, mle_new (Mle.refl _) hl⟩
      rw [StN_all, ← List.map_reverse, List.reverse_reverse]
end
section
variable {P : Program} {w : World} {K : PySem.W.Frag} {mg : Str → Option Value} {base : Heap} {f : Addr} {fd : FuncData}
def PrSumOf (ds : List D) (M : Mem) (d : D) (M' : Mem) : Prop := ∃ (b : Bool) (p q : Tn), ds = [frD p, sq b [dI q.1, dI q.2]] ∧ FrOk 800 800 p ∧ FrOk 60 60 q ∧ d = frD (addF p q) ∧ M' = M
theorem c_p_sum_of (F : Fun K "sum_of" "sum_of" s_p_sum_of f fd) (hm : mg "sum_of" = some (.ref f)) (c_p_fraction : Cal P w K mg base 1 "fraction" (spD K PrFrac)) : Cal P w K mg base 2 "sum_of" (spD K PrSumOf) := by
  refine cal_of F sc_p_sum_of hm (fun _ _ _ _ _ _ us hl => match us, hl with | [_, _], _ => rfl) (fun ds M d M' h => ?_) fun cdv A outer s H E ds M d M' hr h => ?_
  · obtain ⟨b, p, q, rfl, _⟩ := h
    rfl
  · obtain ⟨b, p, q, rfl, hp, hq, rfl, rfl⟩ := h
    show BV _ _ [some (frD p), some (sq b [dI q.1, dI q.2])] _ _
    exact bv_one (sv_ret (ev_call c_p_fraction (hr.mono (by decide)) (av_cons (ev_op op_add (ev_op op_mulW (ev_ixT (ev_var 0 rfl) ev_int rfl) (ev_ixQ (ev_var 1 rfl) ev_int rfl) (rs_I (hp.nb.cm hq.db))) (ev_op op_mulW (ev_ixQ (ev_var 1 rfl) ev_int rfl) (ev_ixT (ev_var 0 rfl) ev_int rfl) (rs_I (hq.nb.cm hp.db))) rs_I0) (av_cons (ev_op op_mulW (ev_ixT (ev_var 0 rfl) ev_int rfl) (ev_ixQ (ev_var 1 rfl) ev_int rfl) (rs_I (hp.db.cm hq.db))) av_nil)) (frac_at (Int.mul_pos hp.d0 hq.d0) (addF_bd hp hq).1 (addF_bd hp hq).2)) ⟨rfl, Mle.refl _⟩)
def PrTup2 (ds : List D) (M : Mem) (d : D) (M' : Mem) : Prop := ∃ (b : Bool) (t : Tn), ds = [sq b [dI t.1, dI t.2]] ∧ d = frD t ∧ M' = M
theorem c_p_tuple_of (F : Fun K "tuple_of" "tuple_of" s_p_tuple_of f fd) (hm : mg "tuple_of" = some (.ref f)) : Cal P w K mg base 1 "tuple_of" (spD K PrTup2) := by
  refine cal_of F sc_p_tuple_of hm (fun _ _ _ _ _ _ us hl => match us, hl with | [_], _ => rfl) (fun ds M d M' h => ?_) fun cdv A outer s H E ds M d M' hr h => ?_
  · obtain ⟨b, t, rfl, _⟩ := h
    rfl
  · obtain ⟨b, t, rfl, rfl, rfl⟩ := h
    show BV _ _ [some (sq b [dI t.1, dI t.2]), none, none] _ _
    refine bv_cons (sw_asg (pg_sq b rfl (pgs_cons (pg_name (i := 1) sc_p_tuple_of.nd rfl (.inl rfl)) (pgs_cons (pg_name (i := 2) sc_p_tuple_of.nd rfl (.inl rfl)) pgs_nil))) ?_)
    refine ew_ev (ev_var 0 rfl) ⟨_, tg_sq (tg_cons tg_name (tg_cons tg_name (tg_nil))), ?_⟩
    exact bv_one (sv_ret (ev_tup (av_cons (ev_var 1 rfl) (av_cons (ev_var 2 rfl) av_nil))) ⟨rfl, Mle.refl _⟩)
/-! the program's state -/
structure FI (cs : List Cell) (i : Nat) (st : List Note × Option Tn) : Prop where
  kept : Kept st
  len : st.1.length ≤ i
  good : ∀ n ∈ st.1, ∃ xs : List Tn, n.len = tot xs ∧ xs.length ≤ i ∧ ∀ x ∈ xs, ∃ c ∈ cs, c.1 = x
theorem FI.mono {cs : List Cell} {i : Nat} {st : List Note × Option Tn} (h : FI cs i st) : ∀ n ∈ st.1, ∃ xs : List Tn, n.len = tot xs ∧ xs.length ≤ i + 1 ∧ ∀ x ∈ xs, ∃ c ∈ cs, c.1 = x := fun n hn => by
  obtain ⟨xs, a, b, c⟩ := h.good n hn
  exact ⟨xs, a, Nat.le_succ_of_le b, c⟩
theorem fstep_on {i : Nat} {d t u : Tn} {b : Bool} {told : List Note} {n : Note} (h : ¬ starts (some u) t b = true) : fstep i (d, some (t, b)) (told ++ [n], some u) = (told ++ [⟨n.at_, t, addF n.len d⟩], some t) := by
  simp only [fstep, h, if_false, List.dropLast_concat, List.getLast?_concat]
  rfl
theorem FI.step {cs : List Cell} {i : Nat} {c : Cell} {st : List Note × Option Tn} (hr : ∀ c ∈ cs, Red c.1) (hc : c ∈ cs) (h : FI cs i st) : FI cs (i + 1) (fstep i c st) := by
  obtain ⟨d, e⟩ := c
  cases e with
  | none => exact ⟨fun t e => (nomatch e), Nat.le_succ_of_le h.len, h.mono⟩
  | some e =>
    obtain ⟨t, b⟩ := e
    by_cases s : starts st.2 t b = true
    · have e : fstep i (d, some (t, b)) st = (st.1 ++ [⟨i, t, d⟩], some t) := by simp only [fstep, s, if_true]
      rw [e]
      refine ⟨fun t' e' => by cases e'; exact ⟨_, _, rfl, rfl⟩, by rw [List.length_append]; exact Nat.succ_le_succ h.len, fun n hn => ?_⟩
      rcases List.mem_append.mp hn with hn | hn
      · exact h.mono n hn
      · rw [List.mem_singleton.mp hn]
        exact ⟨[d], (tot_one (hr _ hc)).symm, by show 1 ≤ i + 1; omega, fun x hx => ⟨_, hc, (List.mem_singleton.mp hx).symm⟩⟩
    · have hp : st.2 = some t := by
        simp [starts] at s
        exact s.2.symm
      obtain ⟨told, n, e1, e2⟩ := h.kept t hp
      have es : st = (told ++ [n], some t) := Prod.ext e1 hp
      rw [es, fstep_on (by rw [← hp]; exact s)]
      have hl := h.len
      rw [e1, List.length_append] at hl
      refine ⟨fun t' e' => by cases e'; exact ⟨_, _, rfl, rfl⟩, by rw [List.length_append]; exact Nat.le_succ_of_le hl, fun m hm => ?_⟩
      rcases List.mem_append.mp hm with hm | hm
      · exact h.mono m (by rw [e1]; exact List.mem_append_left _ hm)
      · rw [List.mem_singleton.mp hm]
        obtain ⟨xs, a, b', c'⟩ := h.good n (by rw [e1]; exact List.mem_append_right _ List.mem_cons_self)
        refine ⟨xs ++ [d], ?_, by rw [List.length_append]; exact Nat.succ_le_succ b', fun x hx => ?_⟩
        · show addF n.len d = _
          rw [a]
          exact tot_snoc (fun e he => by obtain ⟨c, hc, rfl⟩ := c' e he; exact (hr c hc).d0) (hr _ hc).d0
        · rcases List.mem_append.mp hx with hx | hx
          · exact c' x hx
          · exact ⟨_, hc, (List.mem_singleton.mp hx).symm⟩
theorem fpre_inv {cs : List Cell} (hr : ∀ c ∈ cs, Red c.1) : ∀ i, FI cs i (fpre cs i)
  | 0 => ⟨fun t e => (nomatch e), Nat.le_refl _, fun n h => absurd h List.not_mem_nil⟩
  | i + 1 => by
    have ih := fpre_inv hr i
    show FI cs (i + 1) (match cs[i]? with | some c => fstep i c (fpre cs i) | none => fpre cs i)
    cases e : cs[i]? with
    | none => exact ⟨ih.kept, Nat.le_succ_of_le ih.len, ih.mono⟩
    | some c => exact ih.step hr (List.mem_of_getElem? e)
theorem cells_red {V v : Nat} {bar : List Col} (h : BarN V bar) : ∀ c ∈ cellsOf v bar, Red c.1 := fun c hc => by
  obtain ⟨c', hc', rfl⟩ := List.mem_map.mp hc
  exact h.red c' hc'
theorem note_bd {V v : Nat} {bar : List Col} (h : BarN V bar) {n : Note} {i : Nat} (hi : i ≤ bar.length) (hn : n ∈ (fpre (cellsOf v bar) i).1) : FrOk 800 800 n.len := by
  obtain ⟨xs, e, l, k⟩ := (fpre_inv (cells_red (v := v) h) i).good n hn
  obtain ⟨D, D0, Db, hD⟩ := h.den
  have len := h.len
  obtain ⟨⟨b1, b2⟩, p, _⟩ := tot_bd D0 Db (show xs.length ≤ 1000 by omega) (fun d hd => by
    obtain ⟨c, hc, rfl⟩ := k d hd
    obtain ⟨c', hc', rfl⟩ := List.mem_map.mp hc
    exact hD c' hc')
  rw [e]
  exact ⟨p, b1.mono (by decide), b2.mono (by decide)⟩
theorem del_set {M : Mem} {l : Addr} {o : MO} (h : M l = none) : (M.set l o).del l = M := by
  funext b
  by_cases e : b = l
  · rw [e, Mem.del_same, h]
  · rw [Mem.del_ne e, Mem.set_ne e]
def PrNotes (ds : List D) (M : Mem) (d : D) (M' : Mem) : Prop := ∃ (b1 b2 : Bool) (bar : List Col) (V v : Nat), ds = [barQ b1 b2 bar, dI ((v : Nat) : Int)] ∧ BarN V bar ∧ v < V ∧ d = .tup ((R 0 none (cellsOf v bar)).2.map noteD) ∧ M' = M
theorem c_p_notes (F : Fun K "notes" "notes" s_p_notes f fd) (hm : mg "notes" = some (.ref f)) (T : Bt mg) (he : mg "enumerate" = none) (c_p_sum_of : Cal P w K mg base 2 "sum_of" (spD K PrSumOf)) (c_p_tuple_of : Cal P w K mg base 1 "tuple_of" (spD K PrTup2)) : Cal P w K mg base 3 "notes" (spD K PrNotes) := by
  refine cal_of F sc_p_notes hm (fun _ _ _ _ _ _ us hl => match us, hl with | [_, _], _ => rfl) (fun ds M d M' h => ?_) fun cdv A outer s H E ds M d M' hr h => ?_
  · obtain ⟨b1, b2, bar, V, v, rfl, _⟩ := h
    rfl
  · obtain ⟨b1, b2, bar, V, v, rfl, hb, hv, rfl, rfl⟩ := h
    show BV _ _ [some (barQ b1 b2 bar), some (dI ((v : Nat) : Int)), none, none, none, none, none, none, none, none, none] _ _
    refine bv_cons (sw_set 2 sc_p_notes.nd (ew_lstN (aw_nil ⟨by decide, fun l hl => ?_⟩)))
    refine bv_cons (sv_set 3 sc_p_notes.nd ev_non ?_)
    have len := hb.len
    have cl0 : (cellsOf v bar).length = bar.length := List.length_map ..
    refine bv_cons (sw_for rfl (pg_tup rfl (pgs_cons (pg_name (i := 4) sc_p_notes.nd rfl (.inl rfl)) (pgs_cons (pg_sq b2 rfl (pgs_cons (pg_name (i := 5) sc_p_notes.nd rfl (.inl rfl)) (pgs_cons (pg_name (i := 6) sc_p_notes.nd rfl (.inl rfl)) (pgs_cons (pg_name (i := 7) sc_p_notes.nd rfl (.inl rfl)) pgs_nil)))) pgs_nil))) ?_)
    refine iw_enum b1 he (ds := bar.map (colQ b2)) (ev_var 0 rfl) ⟨fun i ρ M1 => ∃ x4 x5 x6 x7 x8 x9 x10 : Option D, ρ = [some (barQ b1 b2 bar), some (dI ((v : Nat) : Int)), some (dP l), some (optT (fpre (cellsOf v bar) i).2), x4, x5, x6, x7, x8, x9, x10] ∧ M1 = M'.set l (.lst ((fpre (cellsOf v bar) i).1.map noteD)), ⟨none, none, none, none, none, none, none, rfl, rfl⟩, fun i d ρ' M1 hd iv => ?_, fun ρ' M1 iv => ?_⟩
    · obtain ⟨x4, x5, x6, x7, x8, x9, x10, rfl, rfl⟩ := iv
      obtain ⟨e, he', rfl⟩ := enD_get hd
      rw [List.getElem?_map, Option.map_eq_some_iff] at he'
      obtain ⟨c, hc', rfl⟩ := he'
      obtain ⟨hi, rfl⟩ := List.getElem?_eq_some_iff.mp hc'
      have hc := hb.ents bar[i] (List.getElem_mem hi)
      have ha := cells_at (v := v) hi
      have hs := fpre_succ ha
      have fi := fpre_inv (cells_red (v := v) hb) i
      have hred := hb.red bar[i] (List.getElem_mem hi)
      obtain ⟨D0, D1, D2, hD⟩ := hb.den
      have dn := hD _ (List.getElem_mem hi)
      refine ⟨_, tg_tup (tg_cons tg_name (tg_cons (tg_sq (tg_cons tg_name (tg_cons tg_name (tg_cons tg_name tg_nil)))) tg_nil)), ?_⟩
      refine bv_cons (sv_set 8 sc_p_notes.nd ev_non ?_)
      have ixe {ρ M} {X : Cx} {a b : Expr} {pos : Pos} (ha : EV X a ρ M (sq b2 (bar[i].ents.map (entQ b2))) M) (hb' : EV X b ρ M (dI ((v : Nat) : Int)) M) (hs : PlainIx b := by (intro _ _; rfl)) : EV X (.Subscript a b pos) ρ M (entQ b2 (entAt v bar[i])) M := ev_ixQ ha hb' (atI_nat (ents_atD (by omega)) rfl) hs
      generalize he0 : entAt v bar[i] = e0 at ha hs ixe
      refine bv_cons (sv_join (fun ρ M => ∃ x6 x9 x10 : Option D, M = M'.set l (.lst ((fpre (cellsOf v bar) (i + 1)).1.map noteD)) ∧ ρ = [some (barQ b1 b2 bar), some (dI ((v : Nat) : Int)), some (dP l), some (optT (fpre (cellsOf v bar) i).2), some (dI ((0 + i : Nat) : Int)), some (sq b2 [dI bar[i].dur.1, dI bar[i].dur.2]), x6, some (sq b2 (bar[i].ents.map (entQ b2))), some (optT (fpre (cellsOf v bar) (i + 1)).2), x9, x10]) ?_ ?_)
      · cases e0 with
        | none =>
          refine sv_if (tv_notNn (d := entQ b2 none) (ixe (ev_var 7 rfl) (ev_var 1 rfl))) (fun h => nomatch h) (fun _ => bv_nil ?_)
          rw [hs]
          exact ⟨_, _, _, rfl, rfl⟩
        | some e0 =>
          obtain ⟨t, b⟩ := e0
          refine sv_if (tv_notNn (d := entQ b2 (some (t, b))) (ixe (ev_var 7 rfl) (ev_var 1 rfl))) (fun _ => ?_) (fun h => by cases b2 <;> exact nomatch h)
          refine bv_cons (sv_set 8 sc_p_notes.nd (ev_call c_p_tuple_of (hr.mono (by decide)) (av_cons (ev_ixQ (b' := b2) (ds := [sq b2 [dI t.1, dI t.2], dB b]) (ixe (ev_var 7 rfl) (ev_var 1 rfl)) ev_int rfl) av_nil) ⟨b2, t, rfl, rfl, rfl⟩) ?_)
          refine bv_one (sv_if (PW.pt (wv_or (tv_val (ev_ixQ (b' := b2) (ds := [sq b2 [dI t.1, dI t.2], dB b]) (ixe (ev_var 7 rfl) (ev_var 1 rfl)) ev_int rfl)) (fun h => (wv_one_or (tv_neD (d1 := frD t) (d2 := optT (fpre (cellsOf v bar) i).2) (hu64 hr) (ev_var 8 rfl) (ev_var 3 rfl) rfl ?_ rfl ?_ rfl))))) (fun h => ?_) (fun h => ?_))
          · cases (fpre (cellsOf v bar) i).2 <;> rfl
          · cases (fpre (cellsOf v bar) i).2 <;> rfl
          · rw [eqv_tone] at h
            have h2 : starts (fpre (cellsOf v bar) i).2 t b = true := h
            have e : fstep i (bar[i].dur, some (t, b)) (fpre (cellsOf v bar) i) = ((fpre (cellsOf v bar) i).1 ++ [⟨i, t, bar[i].dur⟩], some t) := by simp only [fstep, h2, if_true]
            rw [e] at hs
            refine bv_one (sw_append (ev_var 2 rfl) ⟨_, Mem.set_same⟩ ?_)
            refine ew_ev (ev_tup (av_cons (ev_var 4 rfl) (av_cons (ev_var 8 rfl) (av_cons (ev_tupOf T.tuple (ev_var 5 rfl)) av_nil)))) ⟨_, Mem.set_same, ?_, ?_⟩
            · rw [List.length_map]
              refine Nat.lt_of_le_of_lt fi.len ?_
              exact Nat.lt_of_le_of_lt (show i ≤ 1000 by omega) (by decide)
            · rw [Mem.set_set, hs]
              refine ⟨_, _, _, ?_, rfl⟩
              rw [List.map_append]
              show M'.set l (.lst (_ ++ [D.tup [dI ((0 + i : Nat) : Int), frD t, frD bar[i].dur]])) = _
              rw [Nat.zero_add]
              rfl
          · rw [eqv_tone] at h
            have h2 : ¬ starts (fpre (cellsOf v bar) i).2 t b = true := by
              intro q
              rw [show (b || !decide (some t = (fpre (cellsOf v bar) i).2)) = true from q] at h
              cases h
            have hp : (fpre (cellsOf v bar) i).2 = some t := by
              simp [starts] at h2
              exact h2.2.symm
            obtain ⟨told, n, e1, e2⟩ := fi.kept t hp
            have es : fpre (cellsOf v bar) i = (told ++ [n], some t) := Prod.ext e1 hp
            have nb := note_bd (v := v) hb (Nat.le_of_lt hi) (n := n) (by rw [e1]; exact List.mem_append_right _ List.mem_cons_self)
            rw [es, fstep_on (by rw [← hp]; exact h2)] at hs
            rw [hs, es]
            have eM : (told ++ [n]).map noteD = told.map noteD ++ [noteD n] := by rw [List.map_append]; rfl
            rw [show (told ++ [n], some t).1 = told ++ [n] from rfl, eM]
            refine bv_cons (sw_asg (pg_tup rfl (pgs_cons (pg_name (i := 9) sc_p_notes.nd rfl (.inl rfl)) (pgs_cons (pg_name (i := 6) sc_p_notes.nd rfl (.inl rfl)) (pgs_cons (pg_name (i := 10) sc_p_notes.nd rfl (.inl rfl)) pgs_nil)))) ?_)
            refine ew_ev (d := noteD n) (ev_ixM (ev_var 2 rfl) (ev_un un_neg ev_int ru_neg) Mem.set_same (atI_last (List.getLast?_concat))) ⟨_, tg_tup (tg_cons tg_name (tg_cons tg_name (tg_cons tg_name (tg_nil)))), ?_⟩
            refine bv_one (sw_setItem ?_)
            refine ew_ev (ev_tup (av_cons (ev_var 9 rfl) (av_cons (ev_var 8 rfl) (av_cons (ev_call c_p_sum_of (hr.mono (by decide)) (av_cons (ev_var 10 rfl) (av_cons (ev_var 5 rfl) av_nil)) ⟨b2, n.len, bar[i].dur, rfl, nb, Dn_fr dn, rfl, rfl⟩) av_nil)))) ⟨l, -1, _, _, ev_var 2 rfl, ev_un un_neg ev_int ru_neg, Mem.set_same, ixN_last (by rw [List.length_append]; exact Nat.succ_pos _), ?_⟩
            refine ⟨_, _, _, ?_, rfl⟩
            rw [Mem.set_set, List.length_append, List.length_map, List.length_singleton, Nat.add_sub_cancel, List.map_append]
            have e3 : (told.map noteD ++ [noteD n]).set told.length (D.tup [dI n.at_, frD t, frD (addF n.len bar[i].dur)]) = told.map noteD ++ [D.tup [dI n.at_, frD t, frD (addF n.len bar[i].dur)]] := by
              rw [List.set_append_right _ _ (by rw [List.length_map]; exact Nat.le_refl _), List.length_map, Nat.sub_self]
              rfl
            rw [e3]
            rfl
      · rintro ρ M ⟨x6, x9, x10, rfl, rfl⟩
        exact bv_one (sv_set 3 sc_p_notes.nd (ev_var 8 rfl) ⟨_, _, _, _, _, _, _, rfl, rfl⟩)
    · obtain ⟨x4, x5, x6, x7, x8, x9, x10, rfl, rfl⟩ := iv
      rw [enD_len, List.length_map, ← cl0, fpre_all (cells_red hb)]
      refine bv_still 2 rfl Mem.set_same ?_
      rw [del_set hl]
      exact bv_one (sv_ret (ev_tupOf (b := true) T.tuple (ev_var 2 rfl)) ⟨rfl, Mle.refl _⟩)
end
def R_below (ds : List D) (M : Mem) (Φ : D → Mem → Prop) : Prop := ∃ a p many, ds = [dP a, dI many] ∧ M a = some (Pool.mo p) ∧ p.Ok ∧ 0 < many ∧ ∀ n : Int, 0 ≤ n → n < many → Draw M a Φ (dI n)
section
variable {P : Program} {w : World} {K : PySem.W.Frag} {mg : Str → Option Value} {base : Heap} {f : Addr} {fd : FuncData}
theorem c_below (F : Fun K "_law_below" "_law_below" s_below f fd) (hm : mg "_law_below" = some (.ref f)) (T : Bt mg) (c_take : Cal P w K mg base 2 "_law_take" (spW K R_take)) : Cal P w K mg base 3 "_law_below" (spW K R_below) := by
  refine calW_of F sc_below hm (fun _ _ _ _ _ _ us hl => match us, hl with | [_, _], _ => rfl) (fun ds M Φ h => ?_) fun cdv A outer s H E ds M Φ hr h => ?_
  · obtain ⟨a, p, many, rfl, _⟩ := h
    rfl
  · obtain ⟨a, p, many, rfl, hA, ok, h0, hΦ⟩ := h
    show BV _ _ [some (dP a), some (dI many), none, none] _ _
    refine bv_cons (sv_set 2 sc_below.nd ev_int ?_)
    refine bv_cons (sw_for rfl (pg_name (i := 3) sc_below.nd rfl (.inl rfl)) ?_)
    refine iw_iv (iv_range1 T.range ev_int (by decide)) ⟨fun i ρ M1 => ∃ x t q, ρ = [some (dP a), some (dI many), some (dI x), t] ∧ Fr1 a M M1 ∧ M1 a = some (Pool.mo q) ∧ q.Ok, ⟨_, none, p, rfl, Fr1.refl _ _, hA, ok⟩, fun i d ρ' M' hd iv => ?_, fun ρ' M' iv => ?_⟩
    · obtain ⟨x, t, q, rfl, fr, hA, ok⟩ := iv
      refine ⟨_, tg_name, ?_⟩
      refine bv_one (sw_set 2 sc_below.nd ?_)
      refine ew_op op_add ?_
      refine ew_ev (ev_op op_mul (ev_var 2 rfl) (ev_op op_pow ev_int ev_int (rs_I ⟨by decide, by decide, by decide⟩)) (rs_I (cm_r (by decide) (by decide)))) ⟨_, rfl, ?_⟩
      exact ew_callW c_take (hr.mono (by decide)) (aw_av (av_cons (ev_var 0 rfl) (av_cons (ev_op op_pow ev_int ev_int (rs_I ⟨by decide, by decide, by decide⟩)) av_nil)) ⟨a, q, _, rfl, hA, ok, by decide, by decide, fun n1 lo1 hi1 p1 ok1 M1 fr1 hA1 => ⟨_, _, rfl, rs_I0, _, _, p1, rfl, fr.trans fr1, hA1, ok1⟩⟩)
    · obtain ⟨x, t, q, rfl, fr, hA, ok⟩ := iv
      refine bv_one (sv_ret (ev_op op_mod (ev_intI T.int (ev_var 2 rfl)) (ev_var 1 rfl) (rs_I h0)) ⟨_, hΦ _ (Int.emod_nonneg _ (by omega)) (Int.emod_lt_of_pos _ h0) q ok _ fr hA, Mle.refl _⟩)
end
section
variable {P : Program} {w : World} {K : PySem.W.Frag} {mg : Str → Option Value} {base : Heap} {f : Addr} {fd : FuncData}
def lastE (v : Nat) (bar : List Col) : Option (Tn × Bool) := match bar.getLast? with
  | none => none
  | some c => entAt v c
theorem ev_lastE {X : Cx} {ρ : Sl} {M : Mem} {a b0 b1 b2 : Expr} {p0 p1 p2 : Pos} {bar : List Col} {V v : Nat} {i : Int} (hne : bar ≠ []) (hb : ∀ c ∈ bar, c.ents.length = V) (hv : v < V) (hi : i = (v : Int))
    (ha : EV X a ρ M (barD bar) M) (h0 : EV X b0 ρ M (dI (-1)) M) (h1 : EV X b1 ρ M (dI 2) M) (h2 : EV X b2 ρ M (dI i) M)
    (s0 : PlainIx b0 := by (intro _ _; rfl)) (s1 : PlainIx b1 := by (intro _ _; rfl)) (s2 : PlainIx b2 := by (intro _ _; rfl)) :
    EV X (.Subscript (.Subscript (.Subscript a b0 p0) b1 p1) b2 p2) ρ M (entQ false (lastE v bar)) M := by
  cases hl : bar.getLast? with
  | none => exact absurd (List.getLast?_eq_none_iff.mp hl) hne
  | some c =>
    have hc := hb c (List.mem_of_getLast? hl)
    have e : lastE v bar = entAt v c := by unfold lastE; rw [hl]
    rw [e]
    exact ev_ixT (ds := c.ents.map (entQ false)) (ev_ixT (ds := [_, _, D.tup (c.ents.map (entQ false))]) (ev_ixT (d := colD c) (ds := bar.map colD) ha h0 (atI_last (by rw [List.getLast?_map, hl]; rfl)) s0) h1 rfl s1) h2 (atI_nat (ents_atD (by omega)) hi) s2
theorem lastE_ton {TP : Tn → Prop} {bar : List Col} {v : Nat} (h : ∀ c ∈ bar, ∀ t g, some (t, g) ∈ c.ents → TP t) : ∀ t g, lastE v bar = some (t, g) → TP t := fun t g e => by
  unfold lastE at e
  cases hl : bar.getLast? with
  | none => rw [hl] at e; cases e
  | some c =>
    rw [hl] at e
    have e : entAt v c = some (t, g) := e
    unfold entAt at e
    rw [List.getD_eq_getElem?_getD] at e
    cases q : c.ents[v]? with
    | none => rw [q] at e; cases e
    | some x =>
      rw [q] at e
      have e : x = some (t, g) := e
      subst e
      exact h c (List.mem_of_getLast? hl) t g (List.mem_of_getElem? q)
theorem col_snoc {bar : List Col} {c : Col} {PC : Col → Prop} (h : ∀ c ∈ bar, PC c) (hc : PC c) : ∀ c' ∈ bar ++ [c], PC c' := fun c' h' => by
  rcases List.mem_append.mp h' with h' | h'
  · exact h c' h'
  · rw [List.mem_singleton.mp h']
    exact hc
def R_tied (ds : List D) (M : Mem) (Φ : D → Mem → Prop) : Prop := ∃ (a : Addr) (p : Pool) (v m : Nat), ds = [dP a, dI ((v : Nat) : Int), dI ((m : Nat) : Int)] ∧ M a = some (Pool.mo p) ∧ p.Ok ∧ v ≤ 1000 ∧ m ≤ 1000 ∧ ∀ bar : List Col, bar.length = m → (∀ c ∈ bar, ColOk TnS v c) → Draw M a Φ (barD bar)
theorem c_tied (F : Fun K "_law_tied" "_law_tied" s_tied f fd) (hm : mg "_law_tied" = some (.ref f)) (T : Bt mg) (c_take : Cal P w K mg base 2 "_law_take" (spW K R_take)) (c_pick : Cal P w K mg base 3 "_law_pick" (spW K R_pick)) (c_tone : Cal P w K mg base 3 "_law_tone" (spW K R_tone)) (c_duration : Cal P w K mg base 4 "_law_duration" (spW K R_duration)) : Cal P w K mg base 5 "_law_tied" (spW K R_tied) := by
  refine calW_of F sc_tied hm (fun _ _ _ _ _ _ us hl => match us, hl with | [_, _, _], _ => rfl) (fun ds M Φ h => ?_) fun cdv A outer s H E ds M Φ hr h => ?_
  · obtain ⟨a, p, v, m, rfl, _⟩ := h
    rfl
  · obtain ⟨a, p, v, m, rfl, hA, ok, hv, hm, hΦ⟩ := h
    show BV _ _ [some (dP a), some (dI ((v : Nat) : Int)), some (dI ((m : Nat) : Int)), none, none, none, none, none, none, none] _ _
    refine bv_cons (sw_setLc 3 (own := [("k", 4)]) (g := gName 4) rfl sc_tied.nd (blkOk_by (N := ["pool", "voices", "many", "some", "k", "found", "entries", "voice", "kind", "entry"]) (sc := defScope s_tied) (by decide +kernel)) (fun _ _ _ _ _ => (pg_name (i := 4) sc_tied.nd rfl (.inl rfl))) ?_)
    refine iw_range1 T.range ?_
    refine ew_op op_add ?_
    refine ew_ev ev_int ⟨_, rfl, ?_⟩
    refine ew_callW c_take (hr.mono (by decide)) (aw_av (av_cons (ev_var 0 rfl) (av_cons ev_int av_nil)) ⟨a, p, _, rfl, hA, ok, by decide, by decide, fun n1 lo1 hi1 p1 ok1 M1 fr1 hA1 => ⟨_, _, rfl, rs_I0, ⟨_, rfl, by omega, ⟨?_, fun i acc M2 => ∃ (ts : List Tn) (q : Pool), acc = ts.map frD ∧ ts.length = i ∧ (∀ t ∈ ts, TnS t) ∧ Fr1 a M M2 ∧ M2 a = some q.mo ∧ q.Ok, ⟨[], p1, rfl, rfl, fun t h => absurd h List.not_mem_nil, fr1, hA1, ok1⟩, fun i d acc M2 hd hacc iv => ?_, fun acc M2 hacc iv => ?_⟩⟩⟩⟩)
    · rw [rgD_len]
      exact Nat.le_trans (show _ ≤ 12 by omega) (by decide)
    · obtain ⟨ts, q, rfl, len, hts, fr, hA, ok⟩ := iv
      refine ⟨_, tgb_name, fun l hl s H C cl fp => ?_⟩
      refine ew_callW c_tone (hr.mono (by decide)) (aw_av (av_cons (ev_var 0 rfl) av_nil) ⟨a, q, rfl, Mem.set_at hA hl, ok, fun tf to_ hf ho p2 ok2 M3 fr2 hA2 => ?_⟩)
      obtain ⟨e1, e2, e3, e4⟩ := lc_back hA hl fr2
      refine ⟨_, e1, e2, ts ++ [(tf, to_)], p2, by rw [List.map_append]; rfl, by rw [List.length_append, len]; rfl, fun t h => ?_, fr.trans e3, e4 _ hA2, ok2⟩
      rcases List.mem_append.mp h with h | h
      · exact hts t h
      · rw [List.mem_singleton.mp h]
        exact ⟨hf, ho⟩
    · obtain ⟨ts, q, rfl, len, hts, fr, hA, ok⟩ := iv
      rw [rgD_len] at len
      refine bv_cons (sv_set 5 sc_tied.nd (ev_tup av_nil) ?_)
      refine bv_cons (sw_for rfl (pg_name (i := 4) sc_tied.nd rfl (.inl rfl)) ?_)
      refine iw_iv (iv_range1 T.range (ev_var 2 rfl) (by omega)) ⟨fun i ρ M4 => ∃ (x4 x6 x7 x8 x9 : Option D) (q : Pool) (bar : List Col), ρ = [some (dP a), some (dI ((v : Nat) : Int)), some (dI ((m : Nat) : Int)), some (.lst (ts.map frD)), x4, some (barD bar), x6, x7, x8, x9] ∧ Fr1 a M M4 ∧ M4 a = some q.mo ∧ q.Ok ∧ bar.length = i ∧ ∀ c ∈ bar, ColOk TnS v c, ⟨_, _, _, _, _, q, [], rfl, fr, hA, ok, rfl, fun c h => absurd h List.not_mem_nil⟩, fun k d ρ' M' hd iv => ?_, fun ρ' M' iv => ?_⟩
      · obtain ⟨x4, x6, x7, x8, x9, q, bar, rfl, fr, hA, ok, len2, hbar⟩ := iv
        obtain ⟨hk, rfl⟩ := rgD_get hd
        have hk : k < m := by omega
        refine ⟨_, tg_name, ?_⟩
        refine bv_cons (sv_set 6 sc_tied.nd (ev_tup av_nil) ?_)
        refine bv_cons (sw_for rfl (pg_name (i := 7) sc_tied.nd rfl (.inl rfl)) ?_)
        refine iw_iv (iv_range1 T.range (ev_var 1 rfl) (by omega)) ⟨fun i ρ M5 => ∃ (x7 x8 x9 : Option D) (q : Pool) (es : List (Option (Tn × Bool))), ρ = [some (dP a), some (dI ((v : Nat) : Int)), some (dI ((m : Nat) : Int)), some (.lst (ts.map frD)), some (dI (0 + (k : Int))), some (barD bar), some (.tup (es.map (entQ false))), x7, x8, x9] ∧ Fr1 a M M5 ∧ M5 a = some q.mo ∧ q.Ok ∧ es.length = i ∧ ∀ t g, some (t, g) ∈ es → TnS t, ⟨_, _, _, q, [], rfl, fr, hA, ok, rfl, fun t g h => absurd h List.not_mem_nil⟩, fun i d ρ' M' hd iv => ?_, fun ρ' M' iv => ?_⟩
        · obtain ⟨x7, x8, x9, q, es, rfl, fr, hA, ok, len3, hes⟩ := iv
          obtain ⟨hi, rfl⟩ := rgD_get hd
          have hi : i < v := by omega
          refine ⟨_, tg_name, ?_⟩
          refine bv_cons (sw_set 8 sc_tied.nd ?_)
          refine ew_callW c_take (hr.mono (by decide)) (aw_av (av_cons (ev_var 0 rfl) (av_cons ev_int av_nil)) ⟨a, q, _, rfl, hA, ok, by decide, by decide, fun n3 lo3 hi3 p3 ok3 M3 fr3 hA3 => ?_⟩)
          refine bv_cons (sw_set 9 sc_tied.nd ?_)
          refine ew_tup ?_
          refine aw_cons ?_
          refine ew_callW c_pick (hr.mono (by decide)) (aw_av (av_cons (ev_var 0 rfl) (av_cons (ev_var 3 rfl) av_nil)) ⟨a, p3, true, _, rfl, hA3, ok3, by rw [List.length_map]; omega, by rw [List.length_map]; omega, fun d4 g4 p4 ok4 M4 fr4 hA4 => ?_⟩)
          obtain ⟨t, ht, rfl⟩ := List.mem_map.mp g4
          have tpt := hts t ht
          refine aw_cons ?_
          refine ew_ev (ev_cmpR op_eq (ev_var 8 rfl) ev_int rs_eqI (nomark _)) ?_
          refine aw_nil ⟨by (simp only [List.length_cons, List.length_nil]; decide), ?_⟩
          refine bv_cons (sv_join (fun ρ M => ∃ (e : Option (Tn × Bool)), ρ = [some (dP a), some (dI ((v : Nat) : Int)), some (dI ((m : Nat) : Int)), some (.lst (ts.map frD)), some (dI (0 + (k : Int))), some (barD bar), some (.tup (es.map (entQ false))), some (dI (0 + (i : Int))), some (dI n3), some (entQ false e)] ∧ M = M4 ∧ ∀ t g, e = some (t, g) → TnS t) ?_ ?_)
          · refine sv_if (tv_cmpR op_eq (ev_var 8 rfl) ev_int rs_eqI (nomark _)) (fun h => ?_) (fun h => ?_)
            · exact bv_one (sv_set 9 sc_tied.nd ev_non ⟨none, rfl, rfl, fun _ _ h => nomatch h⟩)
            · exact bv_nil ⟨some (t, decide (n3 = 1)), rfl, rfl, fun t' g' h => by cases h; exact tpt⟩
          · rintro ρ M ⟨e, rfl, rfl, he⟩
            refine bv_cons (sv_join (fun ρ M5 => ∃ (e : Option (Tn × Bool)), ρ = [some (dP a), some (dI ((v : Nat) : Int)), some (dI ((m : Nat) : Int)), some (.lst (ts.map frD)), some (dI (0 + (k : Int))), some (barD bar), some (.tup (es.map (entQ false))), some (dI (0 + (i : Int))), some (dI n3), some (entQ false e)] ∧ M5 = M ∧ ∀ t g, e = some (t, g) → TnS t) ?_ ?_)
            · have ne (h : decide ((0 : Int) + (k : Int) > 0) = true) : bar ≠ [] := fun e => by
                rw [e] at len2
                have := of_decide_eq_true h
                have : k = 0 := len2.symm
                omega
              refine sv_if (PW.pt (wv_and (tv_cmpR op_gt (ev_var 8 rfl) ev_int rs_I0 (nomark _)) (fun h => (wv_and (tv_cmpR op_gt (ev_var 4 rfl) ev_int rs_I0 (nomark _)) (fun h2 => (wv_one_and (tv_notNn (d := entQ false (lastE i bar)) (ev_lastE (ne h2) (fun c hc => (hbar c hc).len) hi (by omega) (ev_var 5 rfl) (ev_un un_neg ev_int ru_neg) ev_int (ev_var 7 rfl))))))))) (fun h => ?_) (fun h => bv_nil ⟨e, rfl, rfl, he⟩)
              rw [Bool.and_eq_true, Bool.and_eq_true] at h
              have tl := lastE_ton (v := i) (fun c hc => (hbar c hc).ton)
              generalize hle : lastE i bar = le at h tl
              cases le with
              | none => exact absurd h.2.2 (by decide)
              | some le =>
                obtain ⟨t0, g0⟩ := le
                refine bv_one (sv_set 9 sc_tied.nd (ev_tup (av_cons (ev_ixT (d := frD t0) (ds := [frD t0, dB g0]) (ev_to (ev_lastE (ne h.2.1) (fun c hc => (hbar c hc).len) hi (by omega) (ev_var 5 rfl) (ev_un un_neg ev_int ru_neg) ev_int (ev_var 7 rfl)) (by rw [hle]; rfl)) ev_int rfl) (av_cons (ev_cmpR op_eq (ev_var 8 rfl) ev_int rs_eqI (nomark _)) av_nil))) ?_)
                exact ⟨some (t0, decide (n3 = 3)), rfl, rfl, fun t' g' h => by cases h; exact tl _ _ rfl⟩
            · rintro ρ M5 ⟨e, rfl, rfl, he⟩
              refine bv_one (sv_set 6 sc_tied.nd (ev_catT (ev_var 6 rfl) (ev_tup (av_cons (ev_var 9 rfl) av_nil)) ?_) ?_)
              · rw [List.length_map, len3]
                exact Nat.le_trans (show i + 1 ≤ 1001 by omega) (by decide)
              · refine ⟨some (dI (0 + (i : Int))), some (dI n3), some (entQ false e), p4, es ++ [e], by rw [List.map_append]; rfl, (fr.trans fr3).trans fr4, hA4, ok4, by rw [List.length_append, len3]; rfl, fun t g h => ?_⟩
                rcases List.mem_append.mp h with h | h
                · exact hes t g h
                · exact he t g (List.mem_singleton.mp h).symm
        · obtain ⟨x7, x8, x9, q, es, rfl, fr, hA, ok, len3, hes⟩ := iv
          rw [rgD_len] at len3
          refine bv_one (sw_set 5 sc_tied.nd ?_)
          refine ew_catT ?_
          refine ew_ev (ev_var 5 rfl) ⟨_, rfl, ?_⟩
          refine ew_tup ?_
          refine aw_cons ?_
          refine ew_tup ?_
          refine aw_cons ?_
          refine ew_callW c_duration (hr.mono (by decide)) (aw_av (av_cons (ev_var 0 rfl) av_nil) ⟨a, q, rfl, hA, ok, fun t ht p3 ok3 M3 fr3 hA3 => ?_⟩)
          refine aw_cons ?_
          refine ew_ev ev_int ?_
          refine aw_cons ?_
          refine ew_ev (ev_var 6 rfl) ?_
          refine aw_nil ⟨by (simp only [List.length_cons, List.length_nil]; decide), ?_⟩
          refine aw_nil ⟨by (simp only [List.length_cons, List.length_nil]; decide), ⟨_, rfl, ?_, ?_⟩⟩
          · rw [List.length_map, len2]
            exact Nat.le_trans (show k + 1 ≤ 1001 by omega) (by decide)
          · refine ⟨some (dI (0 + (k : Int))), some (.tup (es.map (entQ false))), x7, x8, x9, p3, bar ++ [⟨t, 0, es⟩], ?_, fr.trans fr3, hA3, ok3, by rw [List.length_append, len2]; rfl, col_snoc hbar ⟨ht, by show (0 : Int) ≤ 0 ∧ (0 : Int) ≤ 9; decide, by show es.length = v; omega, hes⟩⟩
            rw [bar_snoc]
            rfl
      · obtain ⟨x4, x6, x7, x8, x9, q, bar, rfl, fr, hA, ok, len2, hbar⟩ := iv
        rw [rgD_len] at len2
        exact bv_one (sv_ret (ev_var 5 rfl) ⟨_, hΦ bar (by omega) hbar q ok _ fr hA, Mle.refl _⟩)
end
section
variable {P : Program} {w : World} {K : PySem.W.Frag} {mg : Str → Option Value} {base : Heap} {f : Addr} {fd : FuncData}
/-- what the law's bars keep -/
structure BarG (V : Nat) (bar : List Col) : Prop where
  len : bar.length ≤ 1000
  ents : ∀ c ∈ bar, c.ents.length = V
  red : ∀ c ∈ bar, Red c.dur
  n0 : ∀ c ∈ bar, 0 < c.dur.1
  nb : ∀ c ∈ bar, Bd 42 c.dur.1
  db : ∀ c ∈ bar, Bd 31 c.dur.2
  den : ∃ D : Int, 0 < D ∧ Bd 641 D ∧ ∀ c ∈ bar, c.dur.2 ∣ D
  acc : ∀ c ∈ bar, Bd 10 c.acc
  ton : ∀ c ∈ bar, TonB 20 c
theorem prod_den : ∀ {ds : List Tn}, (∀ d ∈ ds, DurOk d) → ∃ D : Int, 0 < D ∧ Bd (10 * ds.length + 1) D ∧ ∀ d ∈ ds, d.2 ∣ D
  | [], _ => ⟨1, by decide, by (unfold Bd; decide), fun d hd => absurd hd List.not_mem_nil⟩
  | d :: ds, h => by
    obtain ⟨D, D0, Db, hD⟩ := prod_den (ds := ds) fun e he => h e (List.mem_cons_of_mem _ he)
    have dk := h d List.mem_cons_self
    refine ⟨d.2 * D, Int.mul_pos dk.red.d0 D0, ?_, fun e he => ?_⟩
    · have b : Bd 10 d.2 := Bd.of (m := 1000) (by have h1 := dk.red.d0; have h2 := dk.db; omega) (by decide)
      have := b.mul Db
      rw [List.length_cons]
      exact this.mono (by omega)
    · rcases List.mem_cons.mp he with rfl | he
      · exact Int.dvd_mul_right _ _
      · exact Int.dvd_trans (hD e he) (Int.dvd_mul_left _ _)
theorem BarG.of_ok {V : Nat} {bar : List Col} (hl : bar.length ≤ 64) (h : ∀ c ∈ bar, ColOk TnS V c) : BarG V bar := by
  obtain ⟨D, D0, Db, hD⟩ := prod_den (ds := bar.map (·.dur)) fun d hd => by
    obtain ⟨c, hc, rfl⟩ := List.mem_map.mp hd
    exact (h c hc).dur
  rw [List.length_map] at Db
  refine ⟨by omega, fun c hc => (h c hc).len, fun c hc => (h c hc).dur.red, fun c hc => (h c hc).dur.n0, fun c hc => ?_, fun c hc => ?_, ⟨D, D0, Db.mono (by omega), fun c hc => hD _ (List.mem_map_of_mem hc)⟩, fun c hc => ?_, fun c hc u g hu => ?_⟩
  · have k := (h c hc).dur
    exact Bd.of (m := 1000) (by have h1 := k.n0; have h2 := k.nb; omega) (by decide)
  · have k := (h c hc).dur
    exact Bd.of (m := 1000) (by have h1 := k.red.d0; have h2 := k.db; omega) (by decide)
  · exact Bd.of (m := 9) (by have := (h c hc).acc; omega) (by decide)
  · have := (h c hc).ton u g hu
    unfold TnS at this
    exact ⟨Bd.of (m := 100) (by omega) (by decide), Bd.of (m := 100) (by omega) (by decide)⟩
def TonF (t : Tn) : Prop := Bd 20 t.1 ∧ Bd 20 t.2
structure LngF (D : Int) (t : Tn) : Prop where
  red : Red t
  n0 : 0 < t.1
  nb : Bd 42 t.1
  db : Bd 31 t.2
  dv : t.2 ∣ D
structure ColF (D : Int) (v : Nat) (c : Col) : Prop where
  dur : LngF D c.dur
  acc : c.acc = 0
  len : c.ents.length = v
  ton : ∀ t g, some (t, g) ∈ c.ents → TonF t
theorem BarG.of_far {V : Nat} {D : Int} {bar : List Col} (hl : bar.length ≤ 1000) (D0 : 0 < D) (Db : Bd 641 D) (h : ∀ c ∈ bar, ColF D V c) : BarG V bar :=
  ⟨hl, fun c hc => (h c hc).len, fun c hc => (h c hc).dur.red, fun c hc => (h c hc).dur.n0, fun c hc => (h c hc).dur.nb, fun c hc => (h c hc).dur.db, ⟨D, D0, Db, fun c hc => (h c hc).dur.dv⟩, fun c hc => by rw [(h c hc).acc]; unfold Bd; decide, fun c hc u g hu => (h c hc).ton u g hu⟩
theorem lng_of {n k : Int} (h1 : 0 < n) (h2 : n ≤ 1000000000000) (k1 : 0 < k) (k2 : k ≤ 1000000000) {D : Int} (h : (low n k).2 ∣ D) : LngF D (low n k) := by
  have l := low_le k1 h1
  have p := low_num h1 k1
  have q := low_den (n := n) k1
  exact ⟨low_red k1, p, Bd.of (m := 1000000000000) (by omega) (by decide), Bd.of (m := 1000000000) (by omega) (by decide), h⟩
theorem lng_dur {t : Tn} (h : DurOk t) {D : Int} (hd : t.2 ∣ D) : LngF D t :=
  ⟨h.red, h.n0, Bd.of (m := 1000) (by have h1 := h.n0; have h2 := h.nb; omega) (by decide), Bd.of (m := 1000) (by have h1 := h.red.d0; have h2 := h.db; omega) (by decide), hd⟩
def R_far_tied (ds : List D) (M : Mem) (Φ : D → Mem → Prop) : Prop := ∃ (a : Addr) (p : Pool) (v m : Nat), ds = [dP a, dI ((v : Nat) : Int), dI ((m : Nat) : Int)] ∧ M a = some (Pool.mo p) ∧ p.Ok ∧ v ≤ 1000 ∧ m ≤ 1000 ∧ ∀ bar : List Col, BarG v bar → Draw M a Φ (barD bar)
theorem c_far_tied (F : Fun K "_law_far_tied" "_law_far_tied" s_far_tied f fd) (hm : mg "_law_far_tied" = some (.ref f)) (T : Bt mg) (c_take : Cal P w K mg base 2 "_law_take" (spW K R_take)) (c_pick : Cal P w K mg base 3 "_law_pick" (spW K R_pick)) (c_tone : Cal P w K mg base 3 "_law_tone" (spW K R_tone)) (c_duration : Cal P w K mg base 4 "_law_duration" (spW K R_duration)) (c_below : Cal P w K mg base 3 "_law_below" (spW K R_below)) (c_lowest : Cal P w K mg base 1 "_law_lowest" (spD K PrLow)) : Cal P w K mg base 5 "_law_far_tied" (spW K R_far_tied) := by
  refine calW_of F sc_far_tied hm (fun _ _ _ _ _ _ us hl => match us, hl with | [_, _, _], _ => rfl) (fun ds M Φ h => ?_) fun cdv A outer s H E ds M Φ hr h => ?_
  · obtain ⟨a, p, v, m, rfl, _⟩ := h
    rfl
  · obtain ⟨a, p, v, m, rfl, hA, ok, hv, hm, hΦ⟩ := h
    show BV _ _ [some (dP a), some (dI ((v : Nat) : Int)), some (dI ((m : Nat) : Int)), none, none, none, none, none, none, none, none, none] _ _
    refine bv_cons (sw_set 3 sc_far_tied.nd ?_)
    refine ew_lst ?_
    refine aw_cons ?_
    refine ew_tup ?_
    refine aw_cons ?_
    refine ew_op op_sub ?_
    refine ew_callW c_take (hr.mono (by decide)) (aw_av (av_cons (ev_var 0 rfl) (av_cons ev_int av_nil)) ⟨a, p, _, rfl, hA, ok, by decide, by decide, fun n1 lo1 hi1 p1 ok1 M1 fr1 hA1 => ⟨_, rfl, ?_⟩⟩)
    refine ew_ev ev_int ⟨_, _, rfl, rs_I0, ?_⟩
    refine aw_cons ?_
    refine ew_op op_sub ?_
    refine ew_callW c_take (hr.mono (by decide)) (aw_av (av_cons (ev_var 0 rfl) (av_cons ev_int av_nil)) ⟨a, p1, _, rfl, hA1, ok1, by decide, by decide, fun n2 lo2 hi2 p2 ok2 M2 fr2 hA2 => ⟨_, rfl, ?_⟩⟩)
    refine ew_ev ev_int ⟨_, _, rfl, rs_I0, ?_⟩
    refine aw_nil ⟨by (simp only [List.length_cons, List.length_nil]; decide), ?_⟩
    refine aw_cons ?_
    refine ew_callW c_tone (hr.mono (by decide)) (aw_av (av_cons (ev_var 0 rfl) av_nil) ⟨a, p2, rfl, hA2, ok2, fun f3 o3 hf3 ho3 p3 ok3 M3 fr3 hA3 => ?_⟩)
    refine aw_cons ?_
    refine ew_callW c_tone (hr.mono (by decide)) (aw_av (av_cons (ev_var 0 rfl) av_nil) ⟨a, p3, rfl, hA3, ok3, fun f4 o4 hf4 ho4 p4 ok4 M4 fr4 hA4 => ?_⟩)
    refine aw_nil ⟨by (simp only [List.length_cons, List.length_nil]; decide), ?_⟩
    obtain ⟨ts, et, lt, ht⟩ : ∃ ts : List Tn, [D.tup [dI (n1 - 4500), dI (n2 - 4500)], D.tup [dI f3, dI o3], D.tup [dI f4, dI o4]] = ts.map frD ∧ ts.length = 3 ∧ ∀ t ∈ ts, TonF t := by
      refine ⟨[(n1 - 4500, n2 - 4500), (f3, o3), (f4, o4)], rfl, rfl, fun t ht => ?_⟩
      simp only [List.mem_cons, List.not_mem_nil, or_false] at ht
      rcases ht with rfl | rfl | rfl
      · exact ⟨Bd.of (m := 5000) (by show -5000 ≤ n1 - 4500 ∧ n1 - 4500 ≤ 5000; omega) (by decide), Bd.of (m := 5000) (by show -5000 ≤ n2 - 4500 ∧ n2 - 4500 ≤ 5000; omega) (by decide)⟩
      · exact ⟨Bd.of (m := 100) (by show -100 ≤ f3 ∧ f3 ≤ 100; omega) (by decide), Bd.of (m := 100) (by show -100 ≤ o3 ∧ o3 ≤ 100; omega) (by decide)⟩
      · exact ⟨Bd.of (m := 100) (by show -100 ≤ f4 ∧ f4 ≤ 100; omega) (by decide), Bd.of (m := 100) (by show -100 ≤ o4 ∧ o4 ≤ 100; omega) (by decide)⟩
    show BV _ _ [some (dP a), some (dI ((v : Nat) : Int)), some (dI ((m : Nat) : Int)), some (.lst [D.tup [dI (n1 - 4500), dI (n2 - 4500)], D.tup [dI f3, dI o3], D.tup [dI f4, dI o4]]), none, none, none, none, none, none, none, none] _ _
    rw [et]
    have fr4' : Fr1 a M M4 := ((fr1.trans fr2).trans fr3).trans fr4
    refine bv_cons (sw_set 4 sc_far_tied.nd ?_)
    refine ew_lst ?_
    refine aw_cons ?_
    refine ew_callD c_lowest (hr.mono (by decide)) ?_
    refine aw_cons ?_
    refine ew_op op_add ?_
    refine ew_ev ev_int ⟨_, rfl, ?_⟩
    refine ew_callW c_below (hr.mono (by decide)) (aw_av (av_cons (ev_var 0 rfl) (av_cons (ev_op op_pow ev_int ev_int (rs_I ⟨by decide, by decide, by decide⟩)) av_nil)) ⟨a, p4, _, rfl, hA4, ok4, by decide, fun n5 lo5 hi5 p5 ok5 M5 fr5 hA5 => ⟨_, _, rfl, rs_I0, ?_⟩⟩)
    refine aw_cons ?_
    refine ew_op op_add ?_
    refine ew_ev ev_int ⟨_, rfl, ?_⟩
    refine ew_callW c_below (hr.mono (by decide)) (aw_av (av_cons (ev_var 0 rfl) (av_cons (ev_op op_pow ev_int ev_int (rs_I ⟨by decide, by decide, by decide⟩)) av_nil)) ⟨a, p5, _, rfl, hA5, ok5, by decide, fun n6 lo6 hi6 p6 ok6 M6 fr6 hA6 => ⟨_, _, rfl, rs_I0, ?_⟩⟩)
    have hi5 : n5 < 1000000000000 := hi5
    have hi6 : n6 < 1000000000 := hi6
    refine aw_nil ⟨_, _, low_at (by omega) ((Bd.of (k := 42) (m := 1000000000000) (by omega) (by decide)).mono (by decide)) ((Bd.of (k := 42) (m := 1000000000) (by omega) (by decide)).mono (by decide)), ?_⟩
    refine aw_cons ?_
    refine ew_callW c_duration (hr.mono (by decide)) (aw_av (av_cons (ev_var 0 rfl) av_nil) ⟨a, p6, rfl, hA6, ok6, fun t7 ht7 p7 ok7 M7 fr7 hA7 => ?_⟩)
    refine aw_cons ?_
    refine ew_callW c_duration (hr.mono (by decide)) (aw_av (av_cons (ev_var 0 rfl) av_nil) ⟨a, p7, rfl, hA7, ok7, fun t8 ht8 p8 ok8 M8 fr8 hA8 => ?_⟩)
    refine aw_nil ⟨by (simp only [List.length_cons, List.length_nil]; decide), ?_⟩
    have fr8' : Fr1 a M M8 := (((fr4'.trans fr5).trans fr6).trans fr7).trans fr8
    obtain ⟨D0, D1, D2, ls, el, ll, hl⟩ : ∃ D0 : Int, 0 < D0 ∧ Bd 641 D0 ∧ ∃ ls : List Tn, [frD (low (1 + n5) (1 + n6)), frD t7, frD t8] = ls.map frD ∧ ls.length = 3 ∧ ∀ t ∈ ls, LngF D0 t := by
      have q1 := low_den (n := 1 + n5) (show 0 < 1 + n6 by omega)
      have q2 : Bd 31 (low (1 + n5) (1 + n6)).2 := (lng_of (n := 1 + n5) (k := 1 + n6) (by omega) (by omega) (by omega) (by omega) (Int.dvd_refl _)).db
      have q7 := (lng_dur ht7 (Int.dvd_refl _)).db
      have q8 := (lng_dur ht8 (Int.dvd_refl _)).db
      refine ⟨(low (1 + n5) (1 + n6)).2 * t7.2 * t8.2, Int.mul_pos (Int.mul_pos q1 ht7.red.d0) ht8.red.d0, ((q2.mul q7).mul q8).mono (by decide), [low (1 + n5) (1 + n6), t7, t8], rfl, rfl, fun t ht => ?_⟩
      simp only [List.mem_cons, List.not_mem_nil, or_false] at ht
      rcases ht with rfl | rfl | rfl
      · exact lng_of (by omega) (by omega) (by omega) (by omega) (by rw [Int.mul_assoc]; exact Int.dvd_mul_right _ _)
      · exact lng_dur ht7 (by rw [Int.mul_comm _ t.2, Int.mul_assoc]; exact Int.dvd_mul_right _ _)
      · exact lng_dur ht8 (Int.dvd_mul_left _ _)
    show BV _ _ [some (dP a), some (dI ((v : Nat) : Int)), some (dI ((m : Nat) : Int)), some (.lst (ts.map frD)), some (.lst [frD (low (1 + n5) (1 + n6)), frD t7, frD t8]), none, none, none, none, none, none, none] _ _
    rw [el]
    refine bv_cons (sw_set 5 sc_far_tied.nd ?_)
    refine ew_callW c_pick (hr.mono (by decide)) (aw_av (av_cons (ev_var 0 rfl) (av_cons (ev_lst (av_cons ev_int (av_cons ev_int (av_cons ev_int av_nil)))) av_nil)) ⟨a, p8, true, _, rfl, hA8, ok8, by simp, by simp, fun d9 g9 p9 ok9 M9 fr9 hA9 => ?_⟩)
    obtain ⟨rare, rfl, r0, r1⟩ : ∃ k : Int, d9 = dI k ∧ 0 < k ∧ k ≤ 300 := by
      simp only [List.mem_cons, List.not_mem_nil, or_false] at g9
      rcases g9 with rfl | rfl | rfl <;> exact ⟨_, rfl, by decide, by decide⟩
    refine bv_cons (sv_set 6 sc_far_tied.nd (ev_tup av_nil) ?_)
    refine bv_cons (sw_for rfl (pg_name (i := 7) sc_far_tied.nd rfl (.inl rfl)) ?_)
    refine iw_iv (iv_range1 T.range (ev_var 2 rfl) (by omega)) ⟨fun i ρ M4 => ∃ (x7 x8 x9 x10 x11 : Option D) (q : Pool) (bar : List Col), ρ = [some (dP a), some (dI ((v : Nat) : Int)), some (dI ((m : Nat) : Int)), some (.lst (ts.map frD)), some (.lst (ls.map frD)), some (dI rare), some (barD bar), x7, x8, x9, x10, x11] ∧ Fr1 a M M4 ∧ M4 a = some q.mo ∧ q.Ok ∧ bar.length = i ∧ ∀ c ∈ bar, ColF D0 v c, ⟨none, none, none, none, none, p9, [], rfl, fr8'.trans fr9, hA9, ok9, rfl, fun c h => absurd h List.not_mem_nil⟩, fun k d ρ' M' hd iv => ?_, fun ρ' M' iv => ?_⟩
    · obtain ⟨x7, x8, x9, x10, x11, q, bar, rfl, fr, hA, ok, len2, hbar⟩ := iv
      obtain ⟨hk, rfl⟩ := rgD_get hd
      have hk : k < m := by omega
      refine ⟨_, tg_name, ?_⟩
      refine bv_cons (sv_set 8 sc_far_tied.nd (ev_tup av_nil) ?_)
      refine bv_cons (sw_for rfl (pg_name (i := 9) sc_far_tied.nd rfl (.inl rfl)) ?_)
      refine iw_iv (iv_range1 T.range (ev_var 1 rfl) (by omega)) ⟨fun i ρ M5 => ∃ (x9 x10 x11 : Option D) (q : Pool) (es : List (Option (Tn × Bool))), ρ = [some (dP a), some (dI ((v : Nat) : Int)), some (dI ((m : Nat) : Int)), some (.lst (ts.map frD)), some (.lst (ls.map frD)), some (dI rare), some (barD bar), some (dI (0 + (k : Int))), some (.tup (es.map (entQ false))), x9, x10, x11] ∧ Fr1 a M M5 ∧ M5 a = some q.mo ∧ q.Ok ∧ es.length = i ∧ ∀ t g, some (t, g) ∈ es → TonF t, ⟨x9, x10, x11, q, [], rfl, fr, hA, ok, rfl, fun t g h => absurd h List.not_mem_nil⟩, fun i d ρ' M' hd iv => ?_, fun ρ' M' iv => ?_⟩
      · obtain ⟨x9, x10, x11, q, es, rfl, fr, hA, ok, len3, hes⟩ := iv
        obtain ⟨hi, rfl⟩ := rgD_get hd
        have hi : i < v := by omega
        have tl := lastE_ton (v := i) (fun c hc => (hbar c hc).ton)
        have ne (h : decide ((0 : Int) + (k : Int) > 0) = true) : bar ≠ [] := fun e => by
          rw [e] at len2
          have := of_decide_eq_true h
          have : k = 0 := len2.symm
          omega
        have emp (h : decide ((0 : Int) + (k : Int) > 0) = false) : lastE i bar = none := by
          have := of_decide_eq_false h
          have k0 : bar.length = 0 := by omega
          rw [List.length_eq_zero_iff.mp k0]
          rfl
        refine ⟨_, tg_name, ?_⟩
        refine bv_cons (sv_set 10 sc_far_tied.nd (d := entQ false (lastE i bar)) (M1 := M') (ev_if (tv_cmpR op_gt (ev_var 7 rfl) ev_int rs_I0 (nomark _)) (fun h => (ev_lastE (ne h) (fun c hc => (hbar c hc).len) hi (by omega) (ev_var 6 rfl) (ev_un un_neg ev_int ru_neg) ev_int (ev_var 9 rfl))) (fun h => by rw [emp h]; exact ev_non)) ?_)
        generalize lastE i bar = le at tl
        refine bv_cons (sw_set 11 sc_far_tied.nd ?_)
        refine ew_tup ?_
        refine aw_cons ?_
        refine ew_callW c_pick (hr.mono (by decide)) (aw_av (av_cons (ev_var 0 rfl) (av_cons (ev_var 3 rfl) av_nil)) ⟨a, q, true, _, rfl, hA, ok, by rw [List.length_map, lt]; decide, by rw [List.length_map, lt]; decide, fun d10 g10 p10 ok10 M10 fr10 hA10 => ?_⟩)
        obtain ⟨t, htt, rfl⟩ := List.mem_map.mp g10
        have tpt := ht t htt
        refine aw_cons ?_
        refine ew_cmp op_eq ?_ (nomark _)
        refine ew_callW c_take (hr.mono (by decide)) (aw_av (av_cons (ev_var 0 rfl) (av_cons ev_int av_nil)) ⟨a, p10, _, rfl, hA10, ok10, by decide, by decide, fun n11 lo11 hi11 p11 ok11 M11 fr11 hA11 => ⟨_, rfl, ?_⟩⟩)
        refine ew_ev ev_int ⟨_, _, rfl, rs_eqI, ?_⟩
        refine aw_nil ⟨by (simp only [List.length_cons, List.length_nil]; decide), ?_⟩
        refine bv_cons (sv_join (fun ρ M => ∃ (e : Option (Tn × Bool)) (q : Pool), ρ = [some (dP a), some (dI ((v : Nat) : Int)), some (dI ((m : Nat) : Int)), some (.lst (ts.map frD)), some (.lst (ls.map frD)), some (dI rare), some (barD bar), some (dI (0 + (k : Int))), some (.tup (es.map (entQ false))), some (dI (0 + (i : Int))), some (entQ false le), some (entQ false e)] ∧ Fr1 a M11 M ∧ M a = some q.mo ∧ q.Ok ∧ ∀ t g, e = some (t, g) → TonF t) ?_ ?_)
        · refine sw_if ?_
          refine tw_cmp op_eq ?_ (nomark _)
          refine ew_callW c_take (hr.mono (by decide)) (aw_av (av_cons (ev_var 0 rfl) (av_cons ev_int av_nil)) ⟨a, p11, _, rfl, hA11, ok11, by decide, by decide, fun n12 lo12 hi12 p12 ok12 M12 fr12 hA12 => ⟨_, rfl, ?_⟩⟩)
          refine ew_ev ev_int ⟨_, _, rfl, rs_eqI, ⟨fun h => ?_, fun h => ?_⟩⟩
          · exact bv_one (sv_set 11 sc_far_tied.nd ev_non ⟨none, p12, rfl, fr12, hA12, ok12, fun _ _ h => nomatch h⟩)
          · exact bv_nil ⟨some (t, decide (n11 = 0)), p12, rfl, fr12, hA12, ok12, fun t' g' h => by cases h; exact tpt⟩
        · rintro ρ M12 ⟨e, q12, rfl, fr12, hA12, ok12, he⟩
          refine bv_cons (sv_join (fun ρ M => ∃ (e : Option (Tn × Bool)) (q : Pool), ρ = [some (dP a), some (dI ((v : Nat) : Int)), some (dI ((m : Nat) : Int)), some (.lst (ts.map frD)), some (.lst (ls.map frD)), some (dI rare), some (barD bar), some (dI (0 + (k : Int))), some (.tup (es.map (entQ false))), some (dI (0 + (i : Int))), some (entQ false le), some (entQ false e)] ∧ Fr1 a M12 M ∧ M a = some q.mo ∧ q.Ok ∧ ∀ t g, e = some (t, g) → TonF t) ?_ ?_)
          · refine sw_if ?_
            refine PW.pt ?_
            refine ww_and ?_
            refine tw_tv (tv_notNn (ev_var 10 rfl)) ⟨fun h => ?_, fun h => ⟨fun h => (nomatch h), fun _ => bv_nil ⟨e, q12, rfl, Fr1.refl _ _, hA12, ok12, he⟩⟩⟩
            refine ww_one_and ?_
            refine tw_cmp op_gt ?_ (nomark _)
            refine ew_callW c_take (hr.mono (by decide)) (aw_av (av_cons (ev_var 0 rfl) (av_cons (ev_var 5 rfl) av_nil)) ⟨a, q12, _, rfl, hA12, ok12, r0, by omega, fun n13 lo13 hi13 p13 ok13 M13 fr13 hA13 => ⟨_, rfl, ?_⟩⟩)
            refine ew_ev ev_int ⟨_, _, rfl, rs_I0, ⟨fun h2 => ?_, fun h2 => bv_nil ⟨e, p13, rfl, fr13, hA13, ok13, he⟩⟩⟩
            cases le with
            | none => exact absurd h (by decide)
            | some le =>
              obtain ⟨t0, g0⟩ := le
              exact bv_one (sv_set 11 sc_far_tied.nd (ev_tup (av_cons (ev_ixT (d := frD t0) (ds := [frD t0, dB g0]) (ev_var 10 rfl) ev_int rfl) (av_cons ev_bl av_nil))) ⟨some (t0, false), p13, rfl, fr13, hA13, ok13, fun t' g' h => by cases h; exact tl _ _ rfl⟩)
          · rintro ρ M13 ⟨e, q13, rfl, fr13, hA13, ok13, he⟩
            refine bv_one (sv_set 8 sc_far_tied.nd (ev_catT (ev_var 8 rfl) (ev_tup (av_cons (ev_var 11 rfl) av_nil)) ?_) ?_)
            · rw [List.length_map, len3]
              exact Nat.le_trans (show i + 1 ≤ 1001 by omega) (by decide)
            · refine ⟨some (dI (0 + (i : Int))), some (entQ false le), some (entQ false e), q13, es ++ [e], by rw [List.map_append]; rfl, (((fr.trans fr10).trans fr11).trans fr12).trans fr13, hA13, ok13, by rw [List.length_append, len3]; rfl, fun t g h => ?_⟩
              rcases List.mem_append.mp h with h | h
              · exact hes t g h
              · exact he t g (List.mem_singleton.mp h).symm
      · obtain ⟨x9, x10, x11, q, es, rfl, fr, hA, ok, len3, hes⟩ := iv
        rw [rgD_len] at len3
        refine bv_one (sw_set 6 sc_far_tied.nd ?_)
        refine ew_catT ?_
        refine ew_ev (ev_var 6 rfl) ⟨_, rfl, ?_⟩
        refine ew_tup ?_
        refine aw_cons ?_
        refine ew_tup ?_
        refine aw_cons ?_
        refine ew_callW c_pick (hr.mono (by decide)) (aw_av (av_cons (ev_var 0 rfl) (av_cons (ev_var 4 rfl) av_nil)) ⟨a, q, true, _, rfl, hA, ok, by rw [List.length_map, ll]; decide, by rw [List.length_map, ll]; decide, fun d10 g10 p10 ok10 M10 fr10 hA10 => ?_⟩)
        obtain ⟨t, htt, rfl⟩ := List.mem_map.mp g10
        refine aw_cons ?_
        refine ew_ev ev_int ?_
        refine aw_cons ?_
        refine ew_ev (ev_var 8 rfl) ?_
        refine aw_nil ⟨by (simp only [List.length_cons, List.length_nil]; decide), ?_⟩
        refine aw_nil ⟨by (simp only [List.length_cons, List.length_nil]; decide), ⟨_, rfl, ?_, ?_⟩⟩
        · rw [List.length_map, len2]
          exact Nat.le_trans (show k + 1 ≤ 1001 by omega) (by decide)
        · refine ⟨some (dI (0 + (k : Int))), some (.tup (es.map (entQ false))), x9, x10, x11, p10, bar ++ [⟨t, 0, es⟩], ?_, fr.trans fr10, hA10, ok10, by rw [List.length_append, len2]; rfl, col_snoc hbar ⟨hl t htt, rfl, by show es.length = v; omega, hes⟩⟩
          rw [bar_snoc]
          rfl
    · obtain ⟨x7, x8, x9, x10, x11, q, bar, rfl, fr, hA, ok, len2, hbar⟩ := iv
      rw [rgD_len] at len2
      exact bv_one (sv_ret (ev_var 6 rfl) ⟨_, hΦ bar (BarG.of_far (by omega) D1 D2 hbar) q ok _ fr hA, Mle.refl _⟩)
end
section
variable {P : Program} {w : World} {K : PySem.W.Frag} {mg : Str → Option Value} {base : Heap} {f : Addr} {fd : FuncData}
structure BarL (V : Nat) (bar : List Col) : Prop extends BarN V bar where
  acc : ∀ c ∈ bar, Bd 60 c.acc
  ton : ∀ c ∈ bar, TonB 60 c
theorem BarG.lax {V : Nat} {bar : List Col} (hV : V ≤ 1000) (h : BarG V bar) : BarL V bar := by
  obtain ⟨D, D0, Db, hD⟩ := h.den
  exact ⟨⟨h.len, hV, h.ents, h.red, ⟨D, D0, Db.mono (by decide), fun c hc => ⟨(h.red c hc).d0, hD c hc, Int.le_of_lt (h.n0 c hc), (h.nb c hc).mono (by decide), (h.db c hc).mono (by decide)⟩⟩⟩, fun c hc => (h.acc c hc).mono (by decide), fun c hc u g hu => ⟨((h.ton c hc u g hu).1).mono (by decide), ((h.ton c hc u g hu).2).mono (by decide)⟩⟩
def TnI (t : Tn) : Prop := Bd 8 t.1 ∧ Bd 8 t.2
def GOk (v : Nat) : Chg → Prop
  | .up t => TnI t
  | .turn t => TnI t
  | .pace q => (0 < q.1 ∧ q.1 ≤ 9) ∧ 0 < q.2 ∧ q.2 ≤ 9
  | .ex l => l.length = v ∧ ∀ k ∈ l, 0 ≤ k ∧ k < v
theorem GOk.ok {v : Nat} {g : Chg} (h : GOk v g) : g.Ok v := by
  cases g with
  | up t => trivial
  | turn t => trivial
  | pace q => exact ⟨h.2.1, (Bd.of (m := 9) (k := 8) (by have := h.1; omega) (by decide)).mono (by decide), (Bd.of (m := 9) (k := 8) (by have := h.2; omega) (by decide)).mono (by decide)⟩
  | ex l => exact h
theorem raised_ton {s : Int} (hs : Bd 2 s) {t : Tn} (ht : TnI t) {c : Col} (h : TonB 20 c) : TonB 60 (raisedC s t c) := fun u g hu => by
  obtain ⟨e, he, q⟩ := List.mem_map.mp hu
  cases e with
  | none => cases q
  | some e =>
    obtain ⟨x, y⟩ := e
    cases q
    have k := h x g he
    exact ⟨((ht.1.mono (show 8 ≤ 22 by decide)).add (hs.mul k.1)).mono (by decide), ((ht.2.mono (show 8 ≤ 22 by decide)).add (hs.mul k.2)).mono (by decide)⟩
theorem ents_mem {c : Col} {k : Nat} (h : k < c.ents.length) : c.ents.getD k none ∈ c.ents := by
  rw [List.getD_eq_getElem?_getD, List.getElem?_eq_getElem h]
  exact List.getElem_mem h
theorem BarG.col {V : Nat} {bar : List Col} (hV : V ≤ 1000) (h : BarG V bar) {g : Chg} (hg : GOk V g) : BarL V (bar.map g.col) := by
  obtain ⟨D, D0, Db, hD⟩ := h.den
  have el {PC : Col → Prop} (k : ∀ c ∈ bar, PC (g.col c)) : ∀ c ∈ bar.map g.col, PC c := fun c hc => by
    obtain ⟨c', hc', rfl⟩ := List.mem_map.mp hc
    exact k c' hc'
  have up (s : Int) (hs : Bd 2 s) (t : Tn) (ht : TnI t) (e : ∀ c, g.col c = raisedC s t c) : BarL V (bar.map g.col) := by
    refine ⟨⟨by rw [List.length_map]; exact h.len, hV, el fun c hc => ?_, el fun c hc => ?_, D, D0, Db.mono (by decide), el fun c hc => ?_⟩, el fun c hc => ?_, el fun c hc => ?_⟩
    · rw [e]
      exact (List.length_map ..).trans (h.ents c hc)
    · rw [e]
      exact h.red c hc
    · rw [e]
      exact ⟨(h.red c hc).d0, hD c hc, Int.le_of_lt (h.n0 c hc), (h.nb c hc).mono (by decide), (h.db c hc).mono (by decide)⟩
    · rw [e]
      exact (h.acc c hc).mono (by decide)
    · rw [e]
      exact raised_ton hs ht (h.ton c hc)
  cases g with
  | up t => exact up 1 (by unfold Bd; decide) t hg fun c => rfl
  | turn t => exact up (-1) (by unfold Bd; decide) t hg fun c => rfl
  | pace q =>
    have q1 : Bd 4 q.1 := Bd.of (m := 9) (by have := hg.1; omega) (by decide)
    have q2 : Bd 4 q.2 := Bd.of (m := 9) (by have := hg.2; omega) (by decide)
    have dp : ∀ c ∈ bar, 0 < c.dur.2 * q.2 := fun c hc => Int.mul_pos (h.red c hc).d0 hg.2.1
    refine ⟨⟨by rw [List.length_map]; exact h.len, hV, el fun c hc => h.ents c hc, el fun c hc => low_red (dp c hc), D * q.2, Int.mul_pos D0 hg.2.1, (Db.mul q2).mono (by decide), el fun c hc => ⟨low_den (dp c hc), Int.dvd_trans (low_dvd _ _) (Int.mul_dvd_mul (hD c hc) (Int.dvd_refl _)), Int.le_of_lt (low_num (Int.mul_pos (h.n0 c hc) hg.1.1) (dp c hc)), (low_bd1 ((h.nb c hc).mul q1)).mono (by decide), (low_bd2 ((h.db c hc).mul q2)).mono (by decide)⟩⟩, el fun c hc => (h.acc c hc).mono (by decide), el fun c hc u g hu => ?_⟩
    exact ⟨((h.ton c hc u g hu).1).mono (by decide), ((h.ton c hc u g hu).2).mono (by decide)⟩
  | ex l =>
    refine ⟨⟨by rw [List.length_map]; exact h.len, hV, el fun c hc => (List.length_map ..).trans hg.1, el fun c hc => h.red c hc, D, D0, Db.mono (by decide), el fun c hc => ⟨(h.red c hc).d0, hD c hc, Int.le_of_lt (h.n0 c hc), (h.nb c hc).mono (by decide), (h.db c hc).mono (by decide)⟩⟩, el fun c hc => (h.acc c hc).mono (by decide), el fun c hc u g hu => ?_⟩
    obtain ⟨k, hk, e⟩ := List.mem_map.mp hu
    have k0 := hg.2 k hk
    have he := h.ents c hc
    have m := ents_mem (c := c) (k := k.toNat) (by omega)
    rw [e] at m
    exact ⟨((h.ton c hc u g m).1).mono (by decide), ((h.ton c hc u g m).2).mono (by decide)⟩
def R_changed (ds : List D) (M : Mem) (Φ : D → Mem → Prop) : Prop := ∃ (a : Addr) (p : Pool) (v : Nat) (bar : List Col), ds = [dP a, barD bar, dI ((v : Nat) : Int)] ∧ M a = some (Pool.mo p) ∧ p.Ok ∧ v ≤ 1000 ∧ BarG v bar ∧ ∀ bar' : List Col, BarL v bar' → Draw M a Φ (barD bar')
theorem c_changed (F : Fun K "_law_changed" "_law_changed" s_changed f fd) (hm : mg "_law_changed" = some (.ref f)) (T : Bt mg) (c_take : Cal P w K mg base 2 "_law_take" (spW K R_take)) (c_pick : Cal P w K mg base 3 "_law_pick" (spW K R_pick)) (c_interval : Cal P w K mg base 3 "_law_interval" (spW K R_interval)) (c_order : Cal P w K mg base 3 "_law_order" (spW K R_order)) (c_done : Cal P w K mg base 3 "_law_done" (spD K PrDone)) (c_lowest : Cal P w K mg base 1 "_law_lowest" (spD K PrLow)) : Cal P w K mg base 4 "_law_changed" (spW K R_changed) := by
  refine calW_of F sc_changed hm (fun _ _ _ _ _ _ us hl => match us, hl with | [_, _, _], _ => rfl) (fun ds M Φ h => ?_) fun cdv A outer s H E ds M Φ hr h => ?_
  · obtain ⟨a, p, v, bar, rfl, _⟩ := h
    rfl
  · obtain ⟨a, p, v, bar, rfl, hA, ok, hv, hb, hΦ⟩ := h
    show BV _ _ [some (dP a), some (barD bar), some (dI ((v : Nat) : Int)), none, none, none] _ _
    refine bv_cons (sw_set 3 sc_changed.nd ?_)
    refine ew_callW c_pick (hr.mono (by decide)) (aw_av (av_cons (ev_var 0 rfl) (av_cons (ev_lst (av_cons ev_str (av_cons ev_str (av_cons ev_str (av_cons ev_str av_nil))))) av_nil)) ⟨a, p, true, _, rfl, hA, ok, by simp, by simp, fun d1 g1 p1 ok1 M1 fr1 hA1 => ?_⟩)
    refine bv_cons (sw_set 4 sc_changed.nd ?_)
    refine ew_callW c_interval (hr.mono (by decide)) (aw_av (av_cons (ev_var 0 rfl) av_nil) ⟨a, p1, rfl, hA1, ok1, fun t h1 h2 p2 ok2 M2 fr2 hA2 => ?_⟩)
    have ht : TnI t := ⟨Bd.of (m := 100) (by omega) (by decide), Bd.of (m := 100) (by omega) (by decide)⟩
    have g1 : d1 = dS "raise" ∨ d1 = dS "turn" ∨ d1 = dS "pace" ∨ d1 = dS "voices" := by
      simpa only [List.mem_cons, List.not_mem_nil, or_false] using g1
    have fr12 := fr1.trans fr2
    have tail : ∀ (g : Chg) (wd by_ : D) (q : Pool) (M3 : Mem), .tup [wd, dI 0, by_] = g.D → GOk v g → Fr1 a M M3 → M3 a = some q.mo → q.Ok → BV (cxOf CX0 P w K mg base ["pool", "bar", "voices", "word", "by", "cell"] "_law_changed" (defScope s_changed) f cdv A outer s H E).nox ((defBody s_changed).drop 4) [some (dP a), some (barD bar), some (dI ((v : Nat) : Int)), some wd, some by_, none] M3 (FinW Φ) := by
      intro g wd by_ q M3 e gok fr3 hA3 ok3
      refine bv_one (sw_ret ?_)
      refine ew_tupOf T.tuple ?_
      refine ew_lc (own := [("cell", 5)]) (g := gName 5) rfl sc_changed.nd (blkOk_by (N := ["pool", "bar", "voices", "word", "by", "cell"]) (sc := defScope s_changed) (by decide +kernel)) (fun _ _ _ _ _ => (pg_name (i := 5) sc_changed.nd rfl (.inl rfl))) ?_
      refine iw_iv (iv_tup (ds := bar.map colD) (ev_var 1 rfl)) ⟨?_, fun i acc M => M = M3 ∧ acc = ((bar.take i).map g.col).map colD, ⟨rfl, rfl⟩, fun i d acc M4 hd hacc iv => ?_, fun acc M4 hacc iv => ?_⟩
      · rw [List.length_map]
        exact Nat.le_trans hb.len (by decide)
      · obtain ⟨rfl, rfl⟩ := iv
        rw [List.getElem?_map, Option.map_eq_some_iff] at hd
        obtain ⟨c, hc, rfl⟩ := hd
        have hm := List.mem_of_getElem? hc
        have tb := hb.ton c hm
        refine ⟨_, tgb_name, fun q hq s H C cl fp => ?_⟩
        refine ew_ev (ev_call c_done (hr.mono (by decide)) (av_cons (ev_tup (av_cons (ev_var 3 rfl) (av_cons ev_int (av_cons (ev_var 4 rfl) av_nil)))) (av_cons (ev_var 5 rfl) av_nil)) ⟨g, c, v, by rw [← e], gok.ok, hv, hb.ents c hm, fun u g' hu => ⟨(tb u g' hu).1.mono (by decide), (tb u g' hu).2.mono (by decide)⟩, ⟨(hb.red c hm).d0, (hb.nb c hm).mono (by decide), (hb.db c hm).mono (by decide)⟩, rfl, rfl⟩) ⟨_, rfl, hq, rfl, ?_⟩
        rw [List.take_succ, hc, Option.toList_some, List.map_append, List.map_append]
        rfl
      · obtain ⟨rfl, rfl⟩ := iv
        rw [List.length_map, List.take_length]
        exact ⟨true, _, rfl, _, hΦ (bar.map g.col) (hb.col hv gok) q ok3 _ fr3 hA3, Mle.refl _⟩
    rcases g1 with rfl | rfl | rfl | rfl
    · refine bv_cons (sv_if (tv_cmpR op_eq (ev_var 3 rfl) ev_str rs_eqS (nomark _)) (fun h => absurd h (by decide)) (fun h => bv_nil ?_))
      refine bv_cons (sv_if (tv_cmpR op_eq (ev_var 3 rfl) ev_str rs_eqS (nomark _)) (fun h => absurd h (by decide)) (fun h => bv_nil ?_))
      exact tail (.up t) _ _ p2 _ rfl ht fr12 hA2 ok2
    · refine bv_cons (sv_if (tv_cmpR op_eq (ev_var 3 rfl) ev_str rs_eqS (nomark _)) (fun h => absurd h (by decide)) (fun h => bv_nil ?_))
      refine bv_cons (sv_if (tv_cmpR op_eq (ev_var 3 rfl) ev_str rs_eqS (nomark _)) (fun h => absurd h (by decide)) (fun h => bv_nil ?_))
      exact tail (.turn t) _ _ p2 _ rfl ht fr12 hA2 ok2
    · refine bv_cons (sv_if (tv_cmpR op_eq (ev_var 3 rfl) ev_str rs_eqS (nomark _)) (fun h => ?_) (fun h => absurd h (by decide)))
      refine bv_one (sw_set 4 sc_changed.nd ?_)
      refine ew_callD c_lowest (hr.mono (by decide)) ?_
      refine aw_cons ?_
      refine ew_op op_add ?_
      refine ew_ev ev_int ⟨_, rfl, ?_⟩
      refine ew_callW c_take (hr.mono (by decide)) (aw_av (av_cons (ev_var 0 rfl) (av_cons ev_int av_nil)) ⟨a, p2, _, rfl, hA2, ok2, by decide, by decide, fun n3 lo3 hi3 p3 ok3 M3 fr3 hA3 => ⟨_, _, rfl, rs_I0, ?_⟩⟩)
      refine aw_cons ?_
      refine ew_op op_add ?_
      refine ew_ev ev_int ⟨_, rfl, ?_⟩
      refine ew_callW c_take (hr.mono (by decide)) (aw_av (av_cons (ev_var 0 rfl) (av_cons ev_int av_nil)) ⟨a, p3, _, rfl, hA3, ok3, by decide, by decide, fun n4 lo4 hi4 p4 ok4 M4 fr4 hA4 => ⟨_, _, rfl, rs_I0, ?_⟩⟩)
      refine aw_nil ⟨_, _, low_at (by omega) ((Bd.of (k := 8) (m := 9) (by omega) (by decide)).mono (by decide)) ((Bd.of (k := 8) (m := 9) (by omega) (by decide)).mono (by decide)), ?_⟩
      refine bv_cons (sv_if (tv_cmpR op_eq (ev_var 3 rfl) ev_str rs_eqS (nomark _)) (fun h => absurd h (by decide)) (fun h => bv_nil ?_))
      have l := low_le (n := 1 + n3) (d := 1 + n4) (by omega) (by omega)
      exact tail (.pace (low (1 + n3) (1 + n4))) _ _ p4 _ rfl ⟨⟨low_num (by omega) (by omega), by omega⟩, low_den (by omega), by omega⟩ ((fr12.trans fr3).trans fr4) hA4 ok4
    · refine bv_cons (sv_if (tv_cmpR op_eq (ev_var 3 rfl) ev_str rs_eqS (nomark _)) (fun h => absurd h (by decide)) (fun h => bv_nil ?_))
      refine bv_cons (sv_if (tv_cmpR op_eq (ev_var 3 rfl) ev_str rs_eqS (nomark _)) (fun h => ?_) (fun h => absurd h (by decide)))
      refine bv_one (sw_set 4 sc_changed.nd ?_)
      refine ew_callW c_order (hr.mono (by decide)) (aw_av (av_cons (ev_var 0 rfl) (av_cons (ev_var 2 rfl) av_nil)) ⟨a, p2, _, rfl, hA2, ok2, by omega, by omega, fun l hl hm p3 ok3 M3 fr3 hA3 => ?_⟩)
      exact tail (.ex l) _ _ p3 _ rfl ⟨by rw [hl]; omega, hm⟩ (fr12.trans fr3) hA3 ok3
end
theorem sq_nv {b : Bool} {ds : List D} : ∀ v, sq b ds ≠ .val v := fun v h => by cases b <;> cases h
theorem rp_sq {n w w' : Nat} (b : Bool) {ds : List D} (hl : ds.length * (w' + 2) + 3 ≤ w) (h : ∀ d ∈ ds, rp n w' d) : rp (n + 1) w (sq b ds) := by cases b <;> exact ⟨w', hl, h⟩
theorem rp_intB {n w k : Nat} {i : Int} (h : Bd k i) (hk : 0 < k ∧ k ≤ 1000) (hw : k + 1 ≤ w) : rp n w (dI i) := by
  have l : i.natAbs.log2 < k := PySem.Flt.log2_lt_of hk.1 h
  cases n <;> exact .inr (.inr (.inl ⟨i, rfl, by omega, by omega⟩))
theorem rp_bool {n w : Nat} {b : Bool} (hw : 5 ≤ w) : rp n w (dB b) := by cases n <;> exact .inr (.inl ⟨⟨b, rfl⟩, hw⟩)
theorem rp_none {n w : Nat} (hw : 4 ≤ w) : rp n w dN := by cases n <;> exact .inl ⟨rfl, hw⟩
theorem all2 {PD : D → Prop} {a b : D} (ha : PD a) (hb : PD b) : ∀ d ∈ [a, b], PD d := fun d hd => by
  rcases List.mem_cons.mp hd with rfl | hd
  · exact ha
  · rw [List.mem_singleton.mp hd]
    exact hb
theorem all3 {PD : D → Prop} {a b c : D} (ha : PD a) (hb : PD b) (hc : PD c) : ∀ d ∈ [a, b, c], PD d := fun d hd => by
  rcases List.mem_cons.mp hd with rfl | hd
  · exact ha
  · exact all2 hb hc d hd
theorem rp_pair {b : Bool} {t : Tn} (h : Bd 60 t.1 ∧ Bd 60 t.2) : rp 1 140 (sq b [dI t.1, dI t.2]) :=
  rp_sq b (w' := 62) (by simp only [List.length_cons, List.length_nil]; decide) (all2 (rp_intB h.1 (by decide) (by decide)) (rp_intB h.2 (by decide) (by decide)))
theorem rp_bar {V : Nat} {b : List Col} (h : BarL V b) (hV : V ≤ 10) (b1 b2 : Bool) : rp 5 10000000 (barQ b1 b2 b) := by
  refine rp_sq b1 (w' := 9700) (by rw [List.length_map]; have := h.len; omega) fun d hd => ?_
  obtain ⟨c, hc, rfl⟩ := List.mem_map.mp hd
  obtain ⟨D0, _, _, hD⟩ := h.den
  have dn := hD c hc
  refine rp_sq b2 (w' := 3000) (by simp only [List.length_cons, List.length_nil]; decide) (all3 ?_ ?_ ?_)
  · exact rp_mono (rp_sq (n := 2) b2 (w' := 140) (w := 3000) (by simp only [List.length_cons, List.length_nil]; decide) (all2 (rp_intB dn.nb (by decide) (by decide)) (rp_intB dn.db (by decide) (by decide)))) (by decide)
  · exact rp_intB (h.acc c hc) (by decide) (by decide)
  · refine rp_sq b2 (w' := 290) (by rw [List.length_map, h.ents c hc]; omega) fun d hd => ?_
    obtain ⟨e, he, rfl⟩ := List.mem_map.mp hd
    cases e with
    | none => exact rp_none (by decide)
    | some e =>
      obtain ⟨t, g⟩ := e
      exact rp_sq b2 (w' := 140) (by simp only [List.length_cons, List.length_nil]; decide) (all2 (rp_pair (h.ton c hc t g he)) (rp_bool (by decide)))
theorem okD_pair {n : Nat} {t : Tn} : okD (n + 1) (frD t) := ⟨by show 2 ≤ 1000000; decide, all2 (okD_int _) (okD_int _)⟩
theorem okD_notes {ns : List Note} (h : ns.length ≤ 1000) : okD 3 (.tup (ns.map noteD)) := ⟨by rw [List.length_map]; omega, fun d hd => by
  obtain ⟨n, _, rfl⟩ := List.mem_map.mp hd
  exact ⟨by show 3 ≤ 1000000; decide, all3 (okD_int _) okD_pair okD_pair⟩⟩
def RowOk (d : D) : Prop := ∃ (V v : Nat) (b : List Col), BarL V b ∧ V ≤ 4 ∧ v < V ∧ d = .tup [barD b, dI ((v : Nat) : Int), .tup ((R 0 none (cellsOf v b)).2.map noteD)]
section
variable {P : Program} {w : World} {K : PySem.W.Frag} {mg : Str → Option Value} {base : Heap} {f : Addr} {fd : FuncData}
theorem c_law (F : Fun K "law" "law" s_law f fd) (T : Bt mg) (hrep : mg "repr" = none) (c_pool : Cal P w K mg base 1 "_law_pool" (spN K PrPool)) (c_take : Cal P w K mg base 2 "_law_take" (spW K R_take)) (c_pick : Cal P w K mg base 3 "_law_pick" (spW K R_pick)) (c_tied : Cal P w K mg base 5 "_law_tied" (spW K R_tied)) (c_bar : Cal P w K mg base 6 "_law_bar" (spW K R_bar)) (c_far_tied : Cal P w K mg base 5 "_law_far_tied" (spW K R_far_tied)) (c_changed : Cal P w K mg base 4 "_law_changed" (spW K R_changed)) (c_order : Cal P w K mg base 3 "_law_order" (spW K R_order))
    (c_sung : Cal P w K mg base 3 "_law_sung" (spD K PrSung)) (c_same : Cal P w K mg base 5 "_law_same" (spD K (PrSame 3))) (c_listed : Cal P w K mg base 6 "_law_listed" (spD K (PrListed 5))) (c_p_notes : Cal P w K mg base 3 "notes" (spD K PrNotes)) : FnG P w K mg base 7 f fd ["script"] (spLaw K) := by
  refine law_ofG F sc_law fun cdv A outer s H E ns g hr hl => ?_
  show BV _ _ [some (.lst (ns.map dI)), none, none, none, none, none, none, none, none, none, none, none, none] _ _
  refine bv_cons (sv_setN 1 sc_law.nd (en_call c_pool (hr.mono (by decide)) (av_cons (ev_var 0 rfl) av_nil) ⟨ns, rfl, by omega, rfl, rfl⟩) (fun a ha => ?_))
  have hA : (Mem.set (fun _ => none) a (Pool.mo (Pool.new ns))) a = some (Pool.mo (Pool.new ns)) := Mem.set_same
  have ok := Pool.new_ok ns
  show BV _ _ _ (Mem.set (fun _ => none) a (Pool.mo (Pool.new ns))) _
  generalize Mem.set (fun _ => none) a (Pool.mo (Pool.new ns)) = M0 at hA ⊢
  generalize Pool.new ns = p at hA ok
  refine bv_cons (sw_set 2 sc_law.nd (ew_lstN (aw_nil ⟨by decide, fun l hl => ?_⟩)))
  have la : a ≠ l := mem_ne hA hl
  refine bv_cons (sw_for rfl (pg_name (i := 3) sc_law.nd rfl (.inl rfl)) ?_)
  refine iw_iv (iv_range1 T.range ev_int (by decide)) ⟨fun i ρ M => ∃ (x3 x4 x5 x6 x7 x8 : Option D) (q : Pool) (rows : List D), ρ = [some (.lst (ns.map dI)), some (dP a), some (dP l), x3, x4, x5, x6, x7, x8, none, none, none, none] ∧ M a = some q.mo ∧ q.Ok ∧ M l = some (.lst rows) ∧ rows.length ≤ 8 * i ∧ ∀ d ∈ rows, RowOk d, ⟨none, none, none, none, none, none, p, [], rfl, by rw [Mem.set_ne la]; exact hA, ok, Mem.set_same, by simp, fun d hd => absurd hd List.not_mem_nil⟩, fun i d ρ' M' hd iv => ?_, fun ρ' M' iv => ?_⟩
  · obtain ⟨x3, x4, x5, x6, x7, x8, q, rows, rfl, hA, ok, hL, len, hrows⟩ := iv
    obtain ⟨hi, rfl⟩ := rgD_get hd
    have hi : i < 3 := by
      have e : (3 : Int).toNat = 3 := rfl
      omega
    refine ⟨_, tg_name, ?_⟩
    refine bv_cons (sw_set 4 sc_law.nd ?_)
    refine ew_op op_add ?_
    refine ew_ev ev_int ⟨_, rfl, ?_⟩
    refine ew_callW c_take (hr.mono (by decide)) (aw_av (av_cons (ev_var 1 rfl) (av_cons ev_int av_nil)) ⟨a, q, _, rfl, hA, ok, by decide, by decide, fun n1 lo1 hi1 p1 ok1 M1 fr1 hA1 => ⟨_, _, rfl, rs_I0, ?_⟩⟩)
    have hL1 := fr1 l la.symm _ hL
    obtain ⟨V, eV, V0, V4⟩ : ∃ V : Nat, 1 + n1 = (V : Int) ∧ 0 < V ∧ V ≤ 4 := ⟨(1 + n1).toNat, by omega, by omega, by omega⟩
    rw [eV]
    refine bv_cons (sw_set 5 sc_law.nd ?_)
    refine ew_callW c_pick (hr.mono (by decide)) (aw_av (av_cons (ev_var 1 rfl) (av_cons (ev_lst (av_cons ev_int (av_cons ev_int (av_cons ev_int (av_cons ev_int (av_cons ev_int (av_cons ev_int (av_cons ev_int (av_cons ev_int (av_cons ev_int av_nil)))))))))) av_nil)) ⟨a, p1, true, _, rfl, hA1, ok1, by simp, by simp, fun d2 g2 p2 ok2 M2 fr2 hA2 => ?_⟩)
    have hL2 := fr2 l la.symm _ hL1
    obtain ⟨m, rfl, m1⟩ : ∃ m : Nat, d2 = dI ((m : Nat) : Int) ∧ m ≤ 64 := by
      simp only [List.mem_cons, List.not_mem_nil, or_false] at g2
      rcases g2 with rfl | rfl | rfl | rfl | rfl | rfl | rfl | rfl | rfl
      · exact ⟨1, rfl, by decide⟩
      · exact ⟨2, rfl, by decide⟩
      · exact ⟨3, rfl, by decide⟩
      · exact ⟨4, rfl, by decide⟩
      · exact ⟨7, rfl, by decide⟩
      · exact ⟨12, rfl, by decide⟩
      · exact ⟨20, rfl, by decide⟩
      · exact ⟨63, rfl, by decide⟩
      · exact ⟨64, rfl, by decide⟩
    let J : Sl → Mem → Prop := fun ρ M => ∃ (q : Pool) (bar : List Col), ρ = [some (.lst (ns.map dI)), some (dP a), some (dP l), some (dI (0 + (i : Int))), some (dI ((V : Nat) : Int)), some (dI ((m : Nat) : Int)), some (barD bar), x7, x8, none, none, none, none] ∧ M a = some q.mo ∧ q.Ok ∧ M l = some (.lst rows) ∧ BarG V bar
    refine bv_cons (sv_join J ?_ ?_)
    · refine sw_set 6 sc_law.nd ?_
      refine ew_if ?_
      refine tw_cmp op_gt ?_ (nomark _)
      refine ew_callW c_take (hr.mono (by decide)) (aw_av (av_cons (ev_var 1 rfl) (av_cons ev_int av_nil)) ⟨a, p2, _, rfl, hA2, ok2, by decide, by decide, fun n3 lo3 hi3 p3 ok3 M3 fr3 hA3 => ⟨_, rfl, ?_⟩⟩)
      have hL3 := fr3 l la.symm _ hL2
      refine ew_ev ev_int ⟨_, _, rfl, rs_I0, ⟨fun h => ?_, fun h => ?_⟩⟩
      · exact ew_callW c_tied (hr.mono (by decide)) (aw_av (av_cons (ev_var 1 rfl) (av_cons (ev_var 4 rfl) (av_cons (ev_var 5 rfl) av_nil))) ⟨a, p3, V, m, rfl, hA3, ok3, by omega, by omega, fun bar hb hc p4 ok4 M4 fr4 hA4 => ⟨p4, bar, rfl, hA4, ok4, fr4 l la.symm _ hL3, BarG.of_ok (by omega) hc⟩⟩)
      · exact ew_callW c_bar (hr.mono (by decide)) (aw_av (av_cons (ev_var 1 rfl) (av_cons (ev_var 4 rfl) (av_cons ev_int av_nil))) ⟨a, p3, V, 20, rfl, hA3, ok3, by omega, by decide, fun bar hb0 hb hc p4 ok4 M4 fr4 hA4 => ⟨p4, bar, rfl, hA4, ok4, fr4 l la.symm _ hL3, BarG.of_ok (by omega) hc⟩⟩)
    · rintro ρ M ⟨p4, bar, rfl, hA4, ok4, hL4, hb4⟩
      refine bv_cons (sv_join J ?_ ?_)
      · refine sw_if ?_
        refine tw_cmp op_eq ?_ (nomark _)
        refine ew_callW c_take (hr.mono (by decide)) (aw_av (av_cons (ev_var 1 rfl) (av_cons ev_int av_nil)) ⟨a, p4, _, rfl, hA4, ok4, by decide, by decide, fun n5 lo5 hi5 p5 ok5 M5 fr5 hA5 => ⟨_, rfl, ?_⟩⟩)
        have hL5 := fr5 l la.symm _ hL4
        refine ew_ev ev_int ⟨_, _, rfl, rs_eqI, ⟨fun h => ?_, fun h => bv_nil ⟨p5, bar, rfl, hA5, ok5, hL5, hb4⟩⟩⟩
        refine bv_one (sw_set 6 sc_law.nd ?_)
        refine ew_callW c_far_tied (hr.mono (by decide)) ?_
        refine aw_cons ?_
        refine ew_ev (ev_var 1 rfl) ?_
        refine aw_cons ?_
        refine ew_ev (ev_var 4 rfl) ?_
        refine aw_cons ?_
        refine ew_callW c_pick (hr.mono (by decide)) ?_
        refine aw_cons ?_
        refine ew_ev (ev_var 1 rfl) ?_
        refine aw_cons ?_
        refine ew_lst ?_
        refine aw_cons ?_
        refine ew_op op_add ?_
        refine ew_ev ev_int ⟨_, rfl, ?_⟩
        refine ew_callW c_take (hr.mono (by decide)) (aw_av (av_cons (ev_var 1 rfl) (av_cons ev_int av_nil)) ⟨a, p5, _, rfl, hA5, ok5, by decide, by decide, fun n6 lo6 hi6 p6 ok6 M6 fr6 hA6 => ⟨_, _, rfl, rs_I0, ?_⟩⟩)
        have hL6 := fr6 l la.symm _ hL5
        refine aw_cons ?_
        refine ew_ev ev_int ?_
        refine aw_nil ⟨by (simp only [List.length_cons, List.length_nil]; decide), ?_⟩
        refine aw_nil ⟨a, p6, true, [dI (65 + n6), dI 1000], rfl, hA6, ok6, by simp, by simp, fun d7 g7 p7 ok7 M7 fr7 hA7 => ?_⟩
        have hL7 := fr7 l la.symm _ hL6
        obtain ⟨m7, rfl, h7⟩ : ∃ m : Nat, d7 = dI ((m : Nat) : Int) ∧ m ≤ 1000 := by
          simp only [List.mem_cons, List.not_mem_nil, or_false] at g7
          rcases g7 with rfl | rfl
          · exact ⟨(65 + n6).toNat, by rw [Int.toNat_of_nonneg (by omega)], by omega⟩
          · exact ⟨1000, rfl, by decide⟩
        refine aw_nil ⟨a, p7, V, m7, rfl, hA7, ok7, by omega, h7, fun bar hb p8 ok8 M8 fr8 hA8 => ⟨p8, bar, rfl, hA8, ok8, fr8 l la.symm _ hL7, hb⟩⟩
      · rintro ρ M ⟨p5, bar, rfl, hA5, ok5, hL5, hb5⟩
        refine bv_one (sw_for rfl (pg_name (i := 7) sc_law.nd rfl (.inl rfl)) ?_)
        refine iw_tup ?_
        refine ew_tup ?_
        refine aw_cons ?_
        refine ew_ev (ev_var 6 rfl) ?_
        refine aw_cons ?_
        refine ew_callW c_changed (hr.mono (by decide)) (aw_av (av_cons (ev_var 1 rfl) (av_cons (ev_var 6 rfl) (av_cons (ev_var 4 rfl) av_nil))) ⟨a, p5, V, bar, rfl, hA5, ok5, by omega, hb5, fun bar' hb' p6 ok6 M6 fr6 hA6 => ?_⟩)
        have hL6 := fr6 l la.symm _ hL5
        have both : ∀ d ∈ [barD bar, barD bar'], ∃ b, d = barD b ∧ BarL V b := all2 ⟨bar, rfl, hb5.lax (by omega)⟩ ⟨bar', rfl, hb'⟩
        refine aw_nil ⟨by (simp only [List.length_cons, List.length_nil]; decide), ⟨_, rfl, ⟨fun j ρ M => ∃ (x7 x8 : Option D) (rows : List D), ρ = [some (.lst (ns.map dI)), some (dP a), some (dP l), some (dI (0 + (i : Int))), some (dI ((V : Nat) : Int)), some (dI ((m : Nat) : Int)), some (barD bar), x7, x8, none, none, none, none] ∧ M a = some p6.mo ∧ M l = some (.lst rows) ∧ rows.length ≤ 8 * i + 4 * j ∧ ∀ d ∈ rows, RowOk d, ⟨x7, x8, rows, rfl, hA6, hL6, by omega, hrows⟩, fun j d ρ' M' hd iv => ?_, fun ρ' M' iv => ?_⟩⟩⟩
        · obtain ⟨x7, x8, rows, rfl, hA, hL, len, hrows⟩ := iv
          obtain ⟨b, rfl, hb⟩ := both d (List.mem_of_getElem? hd)
          refine ⟨_, tg_name, ?_⟩
          refine bv_one (sw_for rfl (pg_name (i := 8) sc_law.nd rfl (.inl rfl)) ?_)
          refine iw_iv (iv_range1 T.range (ev_var 4 rfl) (by omega)) ⟨fun n ρ M => ∃ (x8 : Option D) (rows : List D), ρ = [some (.lst (ns.map dI)), some (dP a), some (dP l), some (dI (0 + (i : Int))), some (dI ((V : Nat) : Int)), some (dI ((m : Nat) : Int)), some (barD bar), some (barD b), x8, none, none, none, none] ∧ M a = some p6.mo ∧ M l = some (.lst rows) ∧ rows.length ≤ 8 * i + 4 * j + n ∧ ∀ d ∈ rows, RowOk d, ⟨x8, rows, rfl, hA, hL, len, hrows⟩, fun n d ρ' M' hd2 iv => ?_, fun ρ' M' iv => ?_⟩
          · obtain ⟨x8, rows, rfl, hA, hL, len, hrows⟩ := iv
            obtain ⟨hn, rfl⟩ := rgD_get hd2
            have hn : n < V := by omega
            have e8 : (0 : Int) + (n : Int) = ((n : Nat) : Int) := by omega
            rw [e8]
            have hj : j < 2 := by
              rcases Nat.lt_or_ge j 2 with h | h
              · exact h
              · rw [List.getElem?_eq_none (by exact h)] at hd
                cases hd
            refine ⟨_, tg_name, ?_⟩
            refine bv_one (sw_append (ev_var 2 rfl) ⟨_, hL⟩ ?_)
            refine ew_ev (ev_tup (av_cons (ev_var 7 rfl) (av_cons (ev_var 8 rfl) (av_cons (ev_call c_sung (hr.mono (by decide)) (av_cons (ev_var 7 rfl) (av_cons (ev_var 8 rfl) av_nil)) ⟨b, V, n, rfl, hb.toBarN, hn, rfl, rfl⟩) av_nil)))) ⟨_, hL, Nat.lt_of_lt_of_le (show _ < 100 by omega) (by decide), ?_⟩
            refine ⟨some (dI ((n : Nat) : Int)), rows ++ [_], rfl, by rw [Mem.set_ne la]; exact hA, Mem.set_same, by rw [List.length_append]; show rows.length + 1 ≤ _; omega, fun d hd => ?_⟩
            rcases List.mem_append.mp hd with h | h
            · exact hrows d h
            · rw [List.mem_singleton.mp h]
              exact ⟨V, n, b, hb, V4, hn, rfl⟩
          · obtain ⟨x8, rows, rfl, hA, hL, len, hrows⟩ := iv
            rw [rgD_len] at len
            exact ⟨some (barD b), x8, rows, rfl, hA, hL, by omega, hrows⟩
        · obtain ⟨x7, x8, rows, rfl, hA, hL, len, hrows⟩ := iv
          exact ⟨_, _, _, _, _, _, p6, rows, rfl, hA, ok6, hL, by have e : [barD bar, barD bar'].length = 2 := rfl; omega, hrows⟩
  · obtain ⟨x3, x4, x5, x6, x7, x8, q, rows, rfl, hA, ok, hL, len, hrows⟩ := iv
    rw [rgD_len] at len
    have len : rows.length ≤ 24 := len
    refine bv_still 2 rfl hL ?_
    have hA : (Mem.del M' l) a = some q.mo := by rw [Mem.del_ne la]; exact hA
    show BV _ _ [some (.lst (ns.map dI)), some (dP a), some (.lst rows), x3, x4, x5, x6, x7, x8, none, none, none, none] (M'.del l) _
    generalize M'.del l = M2 at hA ⊢
    refine bv_cons (sw_for rfl (pg_name (i := 9) sc_law.nd rfl (.inl rfl)) ?_)
    refine iw_tup ?_
    refine ew_callW c_order (hr.mono (by decide)) (aw_av (av_cons (ev_var 1 rfl) (av_cons (ev_lenL T.len (ev_var 2 rfl)) av_nil)) ⟨a, q, _, rfl, hA, ok, by omega, by omega, fun ks kl km p1 ok1 M1 fr1 hA1 => ⟨_, rfl, ⟨fun i ρ M => ∃ (x6 x8 x9 x10 x11 x12 : Option D) (q : Pool), ρ = [some (.lst (ns.map dI)), some (dP a), some (.lst rows), x3, x4, x5, x6, x7, x8, x9, x10, x11, x12] ∧ M a = some q.mo ∧ q.Ok, ⟨_, _, _, _, _, _, p1, rfl, hA1, ok1⟩, fun i d ρ' M' hd iv => ?_, fun ρ' M' iv => ?_⟩⟩⟩)
    · obtain ⟨x6, x8, x9, x10, x11, x12, q, rfl, hA, ok⟩ := iv
      rw [List.getElem?_map, Option.map_eq_some_iff] at hd
      obtain ⟨k, hk, rfl⟩ := hd
      have k0 := km k (List.mem_of_getElem? hk)
      have hkr : k.toNat < rows.length := by omega
      obtain ⟨V, v, b, hb, V4, hv, e⟩ := hrows rows[k.toNat] (List.getElem_mem hkr)
      refine ⟨_, tg_name, ?_⟩
      refine bv_cons (sw_asg (pg_tup rfl (pgs_cons (pg_name (i := 6) sc_law.nd rfl (.inl rfl)) (pgs_cons (pg_name (i := 8) sc_law.nd rfl (.inl rfl)) (pgs_cons (pg_name (i := 10) sc_law.nd rfl (.inl rfl)) pgs_nil)))) ?_)
      refine ew_ev (ev_ixL (ev_var 2 rfl) (ev_var 9 rfl) (atI_nat (k := k.toNat) (by rw [List.getElem?_eq_getElem hkr, e]) (by omega))) ⟨_, tg_tup (tg_cons tg_name (tg_cons tg_name (tg_cons tg_name (tg_nil)))), ?_⟩
      refine bv_cons (sw_set 11 sc_law.nd ?_)
      have len := hb.len
      refine ew_callW c_pick (hr.mono (by decide)) (aw_av (av_cons (ev_var 1 rfl) (av_cons (ev_lst (av_cons (ev_var 6 rfl) (av_cons (ev_var 6 rfl) (av_cons (ev_listL (b := false) (ds := b.map colD) T.list (ev_var 6 rfl)) (av_cons (ev_call c_listed (hr.mono (by decide)) (av_cons (ev_var 6 rfl) av_nil) ⟨barD b, rfl, tup_bar (by omega) (fun c hc => by rw [hb.ents c hc]; omega), rfl, rfl⟩) av_nil))))) av_nil)) ⟨a, q, true, _, rfl, hA, ok, by simp, by simp, fun d3 g3 p3 ok3 M3 fr3 hA3 => ?_⟩)
      obtain ⟨b1, b2, rfl⟩ : ∃ b1 b2, d3 = barQ b1 b2 b := by
        rw [lst_bar] at g3
        rcases List.mem_cons.mp g3 with rfl | g3
        · exact ⟨false, false, rfl⟩
        rcases List.mem_cons.mp g3 with rfl | g3
        · exact ⟨false, false, rfl⟩
        rcases List.mem_cons.mp g3 with rfl | g3
        · exact ⟨true, false, rfl⟩
        rcases List.mem_cons.mp g3 with rfl | g3
        · exact ⟨true, true, rfl⟩
        cases g3
      have rpb := rp_bar hb (by omega) b1 b2
      refine bv_cons (sv_set 12 sc_law.nd (ev_reprB g hr hrep (ev_var 11 rfl) rpb sq_nv (by decide) (by decide)) ?_)
      refine bv_one (sv_if (PW.pt (wv_or (tv_not (tv_val (ev_call c_same (hr.mono (by decide)) (av_cons (ev_call c_p_notes (hr.mono (by decide)) (av_cons (ev_var 11 rfl) (av_cons (ev_var 8 rfl) av_nil)) ⟨b1, b2, b, V, v, rfl, hb.toBarN, hv, rfl, rfl⟩) (av_cons (ev_var 10 rfl) av_nil)) ⟨_, rfl, okD_notes (Nat.le_trans R_notes (by rw [cellsOf, List.length_map]; exact len)), rfl, rfl⟩))) (fun _ => wv_one_or (tv_cmpR op_ne (ev_reprB g hr hrep (ev_var 11 rfl) rpb sq_nv (by decide) (by decide)) (ev_var 12 rfl) rs_neS (nomark _))))) (fun h => ?_) (fun _ => bv_nil ?_))
      · rw [decide_eq_true rfl] at h
        cases h
      · exact ⟨_, _, _, _, _, _, p3, rfl, hA3, ok3⟩
    · obtain ⟨x6, x8, x9, x10, x11, x12, q, rfl, hA, ok⟩ := iv
      exact bv_one (sv_ret ev_bl rfl)
end
theorem all_mk {l : PySem.W.OpenLaw} {w : World} {K : PySem.W.Frag} {h : Heap} {mg : Str → Option Value} {fa f_take f_pool f_pick f_is_integer f_same f_lowest f_tone f_order f_p_fraction f_duration f_column f_bar f_listed f_interval f_times f_sum f_raised f_done f_held f_sung f_p_sum_of f_p_tuple_of f_p_notes f_below f_tied f_far_tied f_changed f_law : Addr} (X : K.In h) (G : h.Ns mainGlobals mg) (hfa : mg "law" = some (.ref fa))
    {od_take an_take od_pool an_pool od_pick an_pick od_is_integer an_is_integer od_same an_same od_lowest an_lowest od_tone an_tone od_order an_order od_p_fraction an_p_fraction od_duration an_duration od_column an_column od_bar an_bar od_listed an_listed od_interval an_interval od_times an_times od_sum an_sum od_raised an_raised od_done an_done od_held an_held od_sung an_sung od_p_sum_of an_p_sum_of od_p_tuple_of an_p_tuple_of od_p_notes an_p_notes od_below an_below od_tied an_tied od_far_tied an_far_tied od_changed an_changed od_law an_law : Option Addr} {sl_take sl_pool sl_pick sl_is_integer sl_same sl_lowest sl_tone sl_order sl_p_fraction sl_duration sl_column sl_bar sl_listed sl_interval sl_times sl_sum sl_raised sl_done sl_held sl_sung sl_p_sum_of sl_p_tuple_of sl_p_notes sl_below sl_tied sl_far_tied sl_changed sl_law : Array (Option Value)} {oc_take kV_take dc_take pm_take cd_take ct_take oc_pool kV_pool dc_pool pm_pool cd_pool ct_pool oc_pick kV_pick dc_pick pm_pick cd_pick ct_pick oc_is_integer kV_is_integer dc_is_integer pm_is_integer cd_is_integer ct_is_integer oc_same kV_same dc_same pm_same cd_same ct_same oc_lowest kV_lowest dc_lowest pm_lowest cd_lowest ct_lowest oc_tone kV_tone dc_tone pm_tone cd_tone ct_tone oc_order kV_order dc_order pm_order cd_order ct_order oc_p_fraction kV_p_fraction dc_p_fraction pm_p_fraction cd_p_fraction ct_p_fraction oc_duration kV_duration dc_duration pm_duration cd_duration ct_duration oc_column kV_column dc_column pm_column cd_column ct_column oc_bar kV_bar dc_bar pm_bar cd_bar ct_bar oc_listed kV_listed dc_listed pm_listed cd_listed ct_listed oc_interval kV_interval dc_interval pm_interval cd_interval ct_interval oc_times kV_times dc_times pm_times cd_times ct_times oc_sum kV_sum dc_sum pm_sum cd_sum ct_sum oc_raised kV_raised dc_raised pm_raised cd_raised ct_raised oc_done kV_done dc_done pm_done cd_done ct_done oc_held kV_held dc_held pm_held cd_held ct_held oc_sung kV_sung dc_sung pm_sung cd_sung ct_sung oc_p_sum_of kV_p_sum_of dc_p_sum_of pm_p_sum_of cd_p_sum_of ct_p_sum_of oc_p_tuple_of kV_p_tuple_of dc_p_tuple_of pm_p_tuple_of cd_p_tuple_of ct_p_tuple_of oc_p_notes kV_p_notes dc_p_notes pm_p_notes cd_p_notes ct_p_notes oc_below kV_below dc_below pm_below cd_below ct_below oc_tied kV_tied dc_tied pm_tied cd_tied ct_tied oc_far_tied kV_far_tied dc_far_tied pm_far_tied cd_far_tied ct_far_tied oc_changed kV_changed dc_changed pm_changed cd_changed ct_changed oc_law kV_law dc_law pm_law cd_law ct_law : Value}
    (a_take : PySem.W.nsIn K mainGlobals "_law_take" = some (some (.ref f_take))) (l_take : K.lookup f_take = some ⟨oc_take, od_take, .func (PySem.W.fnOf "_law_take" "_law_take" (defArgs s_take) (defBody s_take) (defScope s_take) .none kV_take dc_take pm_take an_take cd_take ct_take), sl_take⟩) (c_take : PySem.W.codeIn K cd_take "_law_take" = true) (k_take : PySem.W.keepIn K (.ref f_take) = true)
    (a_pool : PySem.W.nsIn K mainGlobals "_law_pool" = some (some (.ref f_pool))) (l_pool : K.lookup f_pool = some ⟨oc_pool, od_pool, .func (PySem.W.fnOf "_law_pool" "_law_pool" (defArgs s_pool) (defBody s_pool) (defScope s_pool) .none kV_pool dc_pool pm_pool an_pool cd_pool ct_pool), sl_pool⟩) (c_pool : PySem.W.codeIn K cd_pool "_law_pool" = true) (k_pool : PySem.W.keepIn K (.ref f_pool) = true)
    (a_pick : PySem.W.nsIn K mainGlobals "_law_pick" = some (some (.ref f_pick))) (l_pick : K.lookup f_pick = some ⟨oc_pick, od_pick, .func (PySem.W.fnOf "_law_pick" "_law_pick" (defArgs s_pick) (defBody s_pick) (defScope s_pick) .none kV_pick dc_pick pm_pick an_pick cd_pick ct_pick), sl_pick⟩) (c_pick : PySem.W.codeIn K cd_pick "_law_pick" = true) (k_pick : PySem.W.keepIn K (.ref f_pick) = true)
    (a_is_integer : PySem.W.nsIn K mainGlobals "_law_is_integer" = some (some (.ref f_is_integer))) (l_is_integer : K.lookup f_is_integer = some ⟨oc_is_integer, od_is_integer, .func (PySem.W.fnOf "_law_is_integer" "_law_is_integer" (defArgs s_is_integer) (defBody s_is_integer) (defScope s_is_integer) .none kV_is_integer dc_is_integer pm_is_integer an_is_integer cd_is_integer ct_is_integer), sl_is_integer⟩) (c_is_integer : PySem.W.codeIn K cd_is_integer "_law_is_integer" = true) (k_is_integer : PySem.W.keepIn K (.ref f_is_integer) = true)
    (a_same : PySem.W.nsIn K mainGlobals "_law_same" = some (some (.ref f_same))) (l_same : K.lookup f_same = some ⟨oc_same, od_same, .func (PySem.W.fnOf "_law_same" "_law_same" (defArgs s_same) (defBody s_same) (defScope s_same) .none kV_same dc_same pm_same an_same cd_same ct_same), sl_same⟩) (c_same : PySem.W.codeIn K cd_same "_law_same" = true) (k_same : PySem.W.keepIn K (.ref f_same) = true)
    (a_lowest : PySem.W.nsIn K mainGlobals "_law_lowest" = some (some (.ref f_lowest))) (l_lowest : K.lookup f_lowest = some ⟨oc_lowest, od_lowest, .func (PySem.W.fnOf "_law_lowest" "_law_lowest" (defArgs s_lowest) (defBody s_lowest) (defScope s_lowest) .none kV_lowest dc_lowest pm_lowest an_lowest cd_lowest ct_lowest), sl_lowest⟩) (c_lowest : PySem.W.codeIn K cd_lowest "_law_lowest" = true) (k_lowest : PySem.W.keepIn K (.ref f_lowest) = true)
    (a_tone : PySem.W.nsIn K mainGlobals "_law_tone" = some (some (.ref f_tone))) (l_tone : K.lookup f_tone = some ⟨oc_tone, od_tone, .func (PySem.W.fnOf "_law_tone" "_law_tone" (defArgs s_tone) (defBody s_tone) (defScope s_tone) .none kV_tone dc_tone pm_tone an_tone cd_tone ct_tone), sl_tone⟩) (c_tone : PySem.W.codeIn K cd_tone "_law_tone" = true) (k_tone : PySem.W.keepIn K (.ref f_tone) = true)
    (a_order : PySem.W.nsIn K mainGlobals "_law_order" = some (some (.ref f_order))) (l_order : K.lookup f_order = some ⟨oc_order, od_order, .func (PySem.W.fnOf "_law_order" "_law_order" (defArgs s_order) (defBody s_order) (defScope s_order) .none kV_order dc_order pm_order an_order cd_order ct_order), sl_order⟩) (c_order : PySem.W.codeIn K cd_order "_law_order" = true) (k_order : PySem.W.keepIn K (.ref f_order) = true)
    (a_p_fraction : PySem.W.nsIn K mainGlobals "fraction" = some (some (.ref f_p_fraction))) (l_p_fraction : K.lookup f_p_fraction = some ⟨oc_p_fraction, od_p_fraction, .func (PySem.W.fnOf "fraction" "fraction" (defArgs s_p_fraction) (defBody s_p_fraction) (defScope s_p_fraction) .none kV_p_fraction dc_p_fraction pm_p_fraction an_p_fraction cd_p_fraction ct_p_fraction), sl_p_fraction⟩) (c_p_fraction : PySem.W.codeIn K cd_p_fraction "fraction" = true) (k_p_fraction : PySem.W.keepIn K (.ref f_p_fraction) = true)
    (a_duration : PySem.W.nsIn K mainGlobals "_law_duration" = some (some (.ref f_duration))) (l_duration : K.lookup f_duration = some ⟨oc_duration, od_duration, .func (PySem.W.fnOf "_law_duration" "_law_duration" (defArgs s_duration) (defBody s_duration) (defScope s_duration) .none kV_duration dc_duration pm_duration an_duration cd_duration ct_duration), sl_duration⟩) (c_duration : PySem.W.codeIn K cd_duration "_law_duration" = true) (k_duration : PySem.W.keepIn K (.ref f_duration) = true)
    (a_column : PySem.W.nsIn K mainGlobals "_law_column" = some (some (.ref f_column))) (l_column : K.lookup f_column = some ⟨oc_column, od_column, .func (PySem.W.fnOf "_law_column" "_law_column" (defArgs s_column) (defBody s_column) (defScope s_column) .none kV_column dc_column pm_column an_column cd_column ct_column), sl_column⟩) (c_column : PySem.W.codeIn K cd_column "_law_column" = true) (k_column : PySem.W.keepIn K (.ref f_column) = true)
    (a_bar : PySem.W.nsIn K mainGlobals "_law_bar" = some (some (.ref f_bar))) (l_bar : K.lookup f_bar = some ⟨oc_bar, od_bar, .func (PySem.W.fnOf "_law_bar" "_law_bar" (defArgs s_bar) (defBody s_bar) (defScope s_bar) .none kV_bar dc_bar pm_bar an_bar cd_bar ct_bar), sl_bar⟩) (c_bar : PySem.W.codeIn K cd_bar "_law_bar" = true) (k_bar : PySem.W.keepIn K (.ref f_bar) = true)
    (a_listed : PySem.W.nsIn K mainGlobals "_law_listed" = some (some (.ref f_listed))) (l_listed : K.lookup f_listed = some ⟨oc_listed, od_listed, .func (PySem.W.fnOf "_law_listed" "_law_listed" (defArgs s_listed) (defBody s_listed) (defScope s_listed) .none kV_listed dc_listed pm_listed an_listed cd_listed ct_listed), sl_listed⟩) (c_listed : PySem.W.codeIn K cd_listed "_law_listed" = true) (k_listed : PySem.W.keepIn K (.ref f_listed) = true)
    (a_interval : PySem.W.nsIn K mainGlobals "_law_interval" = some (some (.ref f_interval))) (l_interval : K.lookup f_interval = some ⟨oc_interval, od_interval, .func (PySem.W.fnOf "_law_interval" "_law_interval" (defArgs s_interval) (defBody s_interval) (defScope s_interval) .none kV_interval dc_interval pm_interval an_interval cd_interval ct_interval), sl_interval⟩) (c_interval : PySem.W.codeIn K cd_interval "_law_interval" = true) (k_interval : PySem.W.keepIn K (.ref f_interval) = true)
    (a_times : PySem.W.nsIn K mainGlobals "_law_times" = some (some (.ref f_times))) (l_times : K.lookup f_times = some ⟨oc_times, od_times, .func (PySem.W.fnOf "_law_times" "_law_times" (defArgs s_times) (defBody s_times) (defScope s_times) .none kV_times dc_times pm_times an_times cd_times ct_times), sl_times⟩) (c_times : PySem.W.codeIn K cd_times "_law_times" = true) (k_times : PySem.W.keepIn K (.ref f_times) = true)
    (a_sum : PySem.W.nsIn K mainGlobals "_law_sum" = some (some (.ref f_sum))) (l_sum : K.lookup f_sum = some ⟨oc_sum, od_sum, .func (PySem.W.fnOf "_law_sum" "_law_sum" (defArgs s_sum) (defBody s_sum) (defScope s_sum) .none kV_sum dc_sum pm_sum an_sum cd_sum ct_sum), sl_sum⟩) (c_sum : PySem.W.codeIn K cd_sum "_law_sum" = true) (k_sum : PySem.W.keepIn K (.ref f_sum) = true)
    (a_raised : PySem.W.nsIn K mainGlobals "_law_raised" = some (some (.ref f_raised))) (l_raised : K.lookup f_raised = some ⟨oc_raised, od_raised, .func (PySem.W.fnOf "_law_raised" "_law_raised" (defArgs s_raised) (defBody s_raised) (defScope s_raised) .none kV_raised dc_raised pm_raised an_raised cd_raised ct_raised), sl_raised⟩) (c_raised : PySem.W.codeIn K cd_raised "_law_raised" = true) (k_raised : PySem.W.keepIn K (.ref f_raised) = true)
    (a_done : PySem.W.nsIn K mainGlobals "_law_done" = some (some (.ref f_done))) (l_done : K.lookup f_done = some ⟨oc_done, od_done, .func (PySem.W.fnOf "_law_done" "_law_done" (defArgs s_done) (defBody s_done) (defScope s_done) .none kV_done dc_done pm_done an_done cd_done ct_done), sl_done⟩) (c_done : PySem.W.codeIn K cd_done "_law_done" = true) (k_done : PySem.W.keepIn K (.ref f_done) = true)
    (a_held : PySem.W.nsIn K mainGlobals "_law_held" = some (some (.ref f_held))) (l_held : K.lookup f_held = some ⟨oc_held, od_held, .func (PySem.W.fnOf "_law_held" "_law_held" (defArgs s_held) (defBody s_held) (defScope s_held) .none kV_held dc_held pm_held an_held cd_held ct_held), sl_held⟩) (c_held : PySem.W.codeIn K cd_held "_law_held" = true) (k_held : PySem.W.keepIn K (.ref f_held) = true)
    (a_sung : PySem.W.nsIn K mainGlobals "_law_sung" = some (some (.ref f_sung))) (l_sung : K.lookup f_sung = some ⟨oc_sung, od_sung, .func (PySem.W.fnOf "_law_sung" "_law_sung" (defArgs s_sung) (defBody s_sung) (defScope s_sung) .none kV_sung dc_sung pm_sung an_sung cd_sung ct_sung), sl_sung⟩) (c_sung : PySem.W.codeIn K cd_sung "_law_sung" = true) (k_sung : PySem.W.keepIn K (.ref f_sung) = true)
    (a_p_sum_of : PySem.W.nsIn K mainGlobals "sum_of" = some (some (.ref f_p_sum_of))) (l_p_sum_of : K.lookup f_p_sum_of = some ⟨oc_p_sum_of, od_p_sum_of, .func (PySem.W.fnOf "sum_of" "sum_of" (defArgs s_p_sum_of) (defBody s_p_sum_of) (defScope s_p_sum_of) .none kV_p_sum_of dc_p_sum_of pm_p_sum_of an_p_sum_of cd_p_sum_of ct_p_sum_of), sl_p_sum_of⟩) (c_p_sum_of : PySem.W.codeIn K cd_p_sum_of "sum_of" = true) (k_p_sum_of : PySem.W.keepIn K (.ref f_p_sum_of) = true)
    (a_p_tuple_of : PySem.W.nsIn K mainGlobals "tuple_of" = some (some (.ref f_p_tuple_of))) (l_p_tuple_of : K.lookup f_p_tuple_of = some ⟨oc_p_tuple_of, od_p_tuple_of, .func (PySem.W.fnOf "tuple_of" "tuple_of" (defArgs s_p_tuple_of) (defBody s_p_tuple_of) (defScope s_p_tuple_of) .none kV_p_tuple_of dc_p_tuple_of pm_p_tuple_of an_p_tuple_of cd_p_tuple_of ct_p_tuple_of), sl_p_tuple_of⟩) (c_p_tuple_of : PySem.W.codeIn K cd_p_tuple_of "tuple_of" = true) (k_p_tuple_of : PySem.W.keepIn K (.ref f_p_tuple_of) = true)
    (a_p_notes : PySem.W.nsIn K mainGlobals "notes" = some (some (.ref f_p_notes))) (l_p_notes : K.lookup f_p_notes = some ⟨oc_p_notes, od_p_notes, .func (PySem.W.fnOf "notes" "notes" (defArgs s_p_notes) (defBody s_p_notes) (defScope s_p_notes) .none kV_p_notes dc_p_notes pm_p_notes an_p_notes cd_p_notes ct_p_notes), sl_p_notes⟩) (c_p_notes : PySem.W.codeIn K cd_p_notes "notes" = true) (k_p_notes : PySem.W.keepIn K (.ref f_p_notes) = true)
    (a_below : PySem.W.nsIn K mainGlobals "_law_below" = some (some (.ref f_below))) (l_below : K.lookup f_below = some ⟨oc_below, od_below, .func (PySem.W.fnOf "_law_below" "_law_below" (defArgs s_below) (defBody s_below) (defScope s_below) .none kV_below dc_below pm_below an_below cd_below ct_below), sl_below⟩) (c_below : PySem.W.codeIn K cd_below "_law_below" = true) (k_below : PySem.W.keepIn K (.ref f_below) = true)
    (a_tied : PySem.W.nsIn K mainGlobals "_law_tied" = some (some (.ref f_tied))) (l_tied : K.lookup f_tied = some ⟨oc_tied, od_tied, .func (PySem.W.fnOf "_law_tied" "_law_tied" (defArgs s_tied) (defBody s_tied) (defScope s_tied) .none kV_tied dc_tied pm_tied an_tied cd_tied ct_tied), sl_tied⟩) (c_tied : PySem.W.codeIn K cd_tied "_law_tied" = true) (k_tied : PySem.W.keepIn K (.ref f_tied) = true)
    (a_far_tied : PySem.W.nsIn K mainGlobals "_law_far_tied" = some (some (.ref f_far_tied))) (l_far_tied : K.lookup f_far_tied = some ⟨oc_far_tied, od_far_tied, .func (PySem.W.fnOf "_law_far_tied" "_law_far_tied" (defArgs s_far_tied) (defBody s_far_tied) (defScope s_far_tied) .none kV_far_tied dc_far_tied pm_far_tied an_far_tied cd_far_tied ct_far_tied), sl_far_tied⟩) (c_far_tied : PySem.W.codeIn K cd_far_tied "_law_far_tied" = true) (k_far_tied : PySem.W.keepIn K (.ref f_far_tied) = true)
    (a_changed : PySem.W.nsIn K mainGlobals "_law_changed" = some (some (.ref f_changed))) (l_changed : K.lookup f_changed = some ⟨oc_changed, od_changed, .func (PySem.W.fnOf "_law_changed" "_law_changed" (defArgs s_changed) (defBody s_changed) (defScope s_changed) .none kV_changed dc_changed pm_changed an_changed cd_changed ct_changed), sl_changed⟩) (c_changed : PySem.W.codeIn K cd_changed "_law_changed" = true) (k_changed : PySem.W.keepIn K (.ref f_changed) = true)
    (a_law : PySem.W.nsIn K mainGlobals "law" = some (some (.ref f_law))) (l_law : K.lookup f_law = some ⟨oc_law, od_law, .func (PySem.W.fnOf "law" "law" (defArgs s_law) (defBody s_law) (defScope s_law) .none kV_law dc_law pm_law an_law cd_law ct_law), sl_law⟩) (c_law : PySem.W.codeIn K cd_law "law" = true) (k_law : PySem.W.keepIn K (.ref f_law) = true)
    (z_len : PySem.W.nsIn K mainGlobals "len" = some none)
    (z_int : PySem.W.nsIn K mainGlobals "int" = some none)
    (z_isinstance : PySem.W.nsIn K mainGlobals "isinstance" = some none)
    (z_range : PySem.W.nsIn K mainGlobals "range" = some none)
    (z_list : PySem.W.nsIn K mainGlobals "list" = some none)
    (z_tuple : PySem.W.nsIn K mainGlobals "tuple" = some none)
    (z_all : PySem.W.nsIn K mainGlobals "all" = some none)
    (z_bool : PySem.W.nsIn K mainGlobals "bool" = some none)
    (z_str : PySem.W.nsIn K mainGlobals "str" = some none)
    (z_abs : PySem.W.nsIn K mainGlobals "abs" = some none)
    (z_enumerate : PySem.W.nsIn K mainGlobals "enumerate" = some none)
    (z_repr : PySem.W.nsIn K mainGlobals "repr" = some none)
    (g_gcd : PySem.W.nsIn K mainGlobals "gcd" = some (some (.builtin "math.gcd")))
    : ∃ fd : FuncData, (∀ (s : Shared) (v : Value), BindsTo s fd ⟨[v], []⟩ [("script", v)]) ∧ ∀ base : Heap, K.In base → base.Ns mainGlobals mg → FnG l.prog w K mg base 7 fa fd ["script"] (spLaw K) := by
  have e := hfa.symm.trans (PySem.W.mg_of X G a_law)
  cases e
  have T : Bt mg := ⟨PySem.W.mg_none_of X G z_len, PySem.W.mg_none_of X G z_int, PySem.W.mg_none_of X G z_isinstance, PySem.W.mg_none_of X G z_range, PySem.W.mg_none_of X G z_list, PySem.W.mg_none_of X G z_tuple, PySem.W.mg_none_of X G z_all, PySem.W.mg_none_of X G z_bool, PySem.W.mg_none_of X G z_str⟩
  have F_take := fun_mk (st := s_take) l_take c_take k_take
  have m_take := PySem.W.mg_of X G a_take
  have F_pool := fun_mk (st := s_pool) l_pool c_pool k_pool
  have m_pool := PySem.W.mg_of X G a_pool
  have F_pick := fun_mk (st := s_pick) l_pick c_pick k_pick
  have m_pick := PySem.W.mg_of X G a_pick
  have F_is_integer := fun_mk (st := s_is_integer) l_is_integer c_is_integer k_is_integer
  have m_is_integer := PySem.W.mg_of X G a_is_integer
  have F_same := fun_mk (st := s_same) l_same c_same k_same
  have m_same := PySem.W.mg_of X G a_same
  have F_lowest := fun_mk (st := s_lowest) l_lowest c_lowest k_lowest
  have m_lowest := PySem.W.mg_of X G a_lowest
  have F_tone := fun_mk (st := s_tone) l_tone c_tone k_tone
  have m_tone := PySem.W.mg_of X G a_tone
  have F_order := fun_mk (st := s_order) l_order c_order k_order
  have m_order := PySem.W.mg_of X G a_order
  have F_p_fraction := fun_mk (st := s_p_fraction) l_p_fraction c_p_fraction k_p_fraction
  have m_p_fraction := PySem.W.mg_of X G a_p_fraction
  have F_duration := fun_mk (st := s_duration) l_duration c_duration k_duration
  have m_duration := PySem.W.mg_of X G a_duration
  have F_column := fun_mk (st := s_column) l_column c_column k_column
  have m_column := PySem.W.mg_of X G a_column
  have F_bar := fun_mk (st := s_bar) l_bar c_bar k_bar
  have m_bar := PySem.W.mg_of X G a_bar
  have F_listed := fun_mk (st := s_listed) l_listed c_listed k_listed
  have m_listed := PySem.W.mg_of X G a_listed
  have F_interval := fun_mk (st := s_interval) l_interval c_interval k_interval
  have m_interval := PySem.W.mg_of X G a_interval
  have F_times := fun_mk (st := s_times) l_times c_times k_times
  have m_times := PySem.W.mg_of X G a_times
  have F_sum := fun_mk (st := s_sum) l_sum c_sum k_sum
  have m_sum := PySem.W.mg_of X G a_sum
  have F_raised := fun_mk (st := s_raised) l_raised c_raised k_raised
  have m_raised := PySem.W.mg_of X G a_raised
  have F_done := fun_mk (st := s_done) l_done c_done k_done
  have m_done := PySem.W.mg_of X G a_done
  have F_held := fun_mk (st := s_held) l_held c_held k_held
  have m_held := PySem.W.mg_of X G a_held
  have F_sung := fun_mk (st := s_sung) l_sung c_sung k_sung
  have m_sung := PySem.W.mg_of X G a_sung
  have F_p_sum_of := fun_mk (st := s_p_sum_of) l_p_sum_of c_p_sum_of k_p_sum_of
  have m_p_sum_of := PySem.W.mg_of X G a_p_sum_of
  have F_p_tuple_of := fun_mk (st := s_p_tuple_of) l_p_tuple_of c_p_tuple_of k_p_tuple_of
  have m_p_tuple_of := PySem.W.mg_of X G a_p_tuple_of
  have F_p_notes := fun_mk (st := s_p_notes) l_p_notes c_p_notes k_p_notes
  have m_p_notes := PySem.W.mg_of X G a_p_notes
  have F_below := fun_mk (st := s_below) l_below c_below k_below
  have m_below := PySem.W.mg_of X G a_below
  have F_tied := fun_mk (st := s_tied) l_tied c_tied k_tied
  have m_tied := PySem.W.mg_of X G a_tied
  have F_far_tied := fun_mk (st := s_far_tied) l_far_tied c_far_tied k_far_tied
  have m_far_tied := PySem.W.mg_of X G a_far_tied
  have F_changed := fun_mk (st := s_changed) l_changed c_changed k_changed
  have m_changed := PySem.W.mg_of X G a_changed
  have F_law := fun_mk (st := s_law) l_law c_law k_law
  have m_law := PySem.W.mg_of X G a_law
  have n_abs := PySem.W.mg_none_of X G z_abs
  have n_enumerate := PySem.W.mg_none_of X G z_enumerate
  have n_repr := PySem.W.mg_none_of X G z_repr
  refine ⟨PySem.W.fnOf "law" "law" (defArgs s_law) (defBody s_law) (defScope s_law) .none kV_law dc_law pm_law an_law cd_law ct_law, fun s v => .of_eq rfl, fun base _ _ => ?_⟩
  have q_c_take0 := Vt.c_take0 (P := l.prog) (w := w) (base := base) F_take m_take T
  have q_c_take := Vt.c_take (P := l.prog) (w := w) (base := base) F_take m_take T
  have q_c_pool := Vt.c_pool (P := l.prog) (w := w) (base := base) F_pool m_pool
  have q_c_pick := Vt.c_pick F_pick m_pick T q_c_take
  have q_c_is_integer := Vt.c_is_integer (P := l.prog) (w := w) (base := base) F_is_integer m_is_integer T
  have q_c_same := Vt.c_same F_same m_same T q_c_is_integer
  have q_w_take := Vt.w_take q_c_take
  have q_w_pick := Vt.w_pick q_c_pick
  have q_c_lowest := Vt.c_lowest (P := l.prog) (w := w) (base := base) F_lowest m_lowest T n_abs
  have q_c_tone := Vt.c_tone F_tone m_tone T q_c_take
  have q_w_tone := Vt.w_tone q_c_tone
  have q_c_order := Vt.c_order F_order m_order T q_c_take
  have q_w_order := Vt.w_order q_c_order
  have q_c_p_fraction := Vt.c_p_fraction (P := l.prog) (w := w) (base := base) F_p_fraction m_p_fraction (PySem.W.mg_of X G g_gcd)
  have q_c_duration := Vt.c_duration F_duration m_duration T q_w_take q_w_pick q_c_lowest
  have q_c_column := Vt.c_column F_column m_column T q_w_take q_w_pick q_c_duration
  have q_c_bar := Vt.c_bar F_bar m_bar T q_w_take q_w_tone q_c_column
  have q_c_listed := Vt.c_listed (P := l.prog) (w := w) (base := base) F_listed m_listed T
  have q_c_interval := Vt.c_interval F_interval m_interval T q_w_take
  have q_c_times := Vt.c_times F_times m_times T q_c_lowest
  have q_c_sum := Vt.c_sum F_sum m_sum T q_c_lowest
  have q_c_raised := Vt.c_raised (P := l.prog) (w := w) (base := base) F_raised m_raised T
  have q_c_done := Vt.c_done F_done m_done T q_c_times q_c_raised
  have q_c_held := Vt.c_held (P := l.prog) (w := w) (base := base) F_held m_held T
  have q_c_sung := Vt.c_sung F_sung m_sung T q_c_sum q_c_held
  have q_c_p_sum_of := Vt.c_p_sum_of F_p_sum_of m_p_sum_of q_c_p_fraction
  have q_c_p_tuple_of := Vt.c_p_tuple_of (P := l.prog) (w := w) (base := base) F_p_tuple_of m_p_tuple_of
  have q_c_p_notes := Vt.c_p_notes F_p_notes m_p_notes T n_enumerate q_c_p_sum_of q_c_p_tuple_of
  have q_c_below := Vt.c_below F_below m_below T q_w_take
  have q_c_tied := Vt.c_tied F_tied m_tied T q_w_take q_w_pick q_w_tone q_c_duration
  have q_c_far_tied := Vt.c_far_tied F_far_tied m_far_tied T q_w_take q_w_pick q_w_tone q_c_duration q_c_below q_c_lowest
  have q_c_changed := Vt.c_changed F_changed m_changed T q_w_take q_w_pick q_c_interval q_w_order q_c_done q_c_lowest
  exact Vt.c_law F_law T n_repr q_c_pool q_w_take q_w_pick q_c_tied q_c_bar q_c_far_tied q_c_changed q_w_order q_c_sung (q_c_same 3) (q_c_listed 5) q_c_p_notes
end Vt
open PySem PySem.W PyProof.Rows
set_option maxRecDepth 100000 in
set_option maxHeartbeats 0 in
theorem PySem.Challenge.cw_counterheld_k10_whole_notes_of_bars_holds : PySem.Challenge.rw_counterheld_k10_whole_notes_of_bars.Holds := by
  w_on; o_law; k_head; (case hw => w_witness2)
  k_fill
  refine Vt.walkG (l := PySem.Challenge.rw_counterheld_k10_whole_notes_of_bars) (k := 7) ⟨rfl, by decide, by decide⟩ rfl rfl (fun w h Y => PySem.W.kIn_of Y) ?F
  case F =>
    intro w mg fa h KX G hmg
    refine' Vt.all_mk KX G hmg ?a_take ?l_take ?c_take ?k_take ?a_pool ?l_pool ?c_pool ?k_pool ?a_pick ?l_pick ?c_pick ?k_pick ?a_is_integer ?l_is_integer ?c_is_integer ?k_is_integer ?a_same ?l_same ?c_same ?k_same ?a_lowest ?l_lowest ?c_lowest ?k_lowest ?a_tone ?l_tone ?c_tone ?k_tone ?a_order ?l_order ?c_order ?k_order ?a_p_fraction ?l_p_fraction ?c_p_fraction ?k_p_fraction ?a_duration ?l_duration ?c_duration ?k_duration ?a_column ?l_column ?c_column ?k_column ?a_bar ?l_bar ?c_bar ?k_bar ?a_listed ?l_listed ?c_listed ?k_listed ?a_interval ?l_interval ?c_interval ?k_interval ?a_times ?l_times ?c_times ?k_times ?a_sum ?l_sum ?c_sum ?k_sum ?a_raised ?l_raised ?c_raised ?k_raised ?a_done ?l_done ?c_done ?k_done ?a_held ?l_held ?c_held ?k_held ?a_sung ?l_sung ?c_sung ?k_sung ?a_p_sum_of ?l_p_sum_of ?c_p_sum_of ?k_p_sum_of ?a_p_tuple_of ?l_p_tuple_of ?c_p_tuple_of ?k_p_tuple_of ?a_p_notes ?l_p_notes ?c_p_notes ?k_p_notes ?a_below ?l_below ?c_below ?k_below ?a_tied ?l_tied ?c_tied ?k_tied ?a_far_tied ?l_far_tied ?c_far_tied ?k_far_tied ?a_changed ?l_changed ?c_changed ?k_changed ?a_law ?l_law ?c_law ?k_law ?z_len ?z_int ?z_isinstance ?z_range ?z_list ?z_tuple ?z_all ?z_bool ?z_str ?z_abs ?z_enumerate ?z_repr ?g_gcd
    (case a_take => k_is)
    (case l_take => k_is)
    (case c_take => k_is)
    (case k_take => k_is)
    (case a_pool => k_is)
    (case l_pool => k_is)
    (case c_pool => k_is)
    (case k_pool => k_is)
    (case a_pick => k_is)
    (case l_pick => k_is)
    (case c_pick => k_is)
    (case k_pick => k_is)
    (case a_is_integer => k_is)
    (case l_is_integer => k_is)
    (case c_is_integer => k_is)
    (case k_is_integer => k_is)
    (case a_same => k_is)
    (case l_same => k_is)
    (case c_same => k_is)
    (case k_same => k_is)
    (case a_lowest => k_is)
    (case l_lowest => k_is)
    (case c_lowest => k_is)
    (case k_lowest => k_is)
    (case a_tone => k_is)
    (case l_tone => k_is)
    (case c_tone => k_is)
    (case k_tone => k_is)
    (case a_order => k_is)
    (case l_order => k_is)
    (case c_order => k_is)
    (case k_order => k_is)
    (case a_p_fraction => k_is)
    (case l_p_fraction => k_is)
    (case c_p_fraction => k_is)
    (case k_p_fraction => k_is)
    (case a_duration => k_is)
    (case l_duration => k_is)
    (case c_duration => k_is)
    (case k_duration => k_is)
    (case a_column => k_is)
    (case l_column => k_is)
    (case c_column => k_is)
    (case k_column => k_is)
    (case a_bar => k_is)
    (case l_bar => k_is)
    (case c_bar => k_is)
    (case k_bar => k_is)
    (case a_listed => k_is)
    (case l_listed => k_is)
    (case c_listed => k_is)
    (case k_listed => k_is)
    (case a_interval => k_is)
    (case l_interval => k_is)
    (case c_interval => k_is)
    (case k_interval => k_is)
    (case a_times => k_is)
    (case l_times => k_is)
    (case c_times => k_is)
    (case k_times => k_is)
    (case a_sum => k_is)
    (case l_sum => k_is)
    (case c_sum => k_is)
    (case k_sum => k_is)
    (case a_raised => k_is)
    (case l_raised => k_is)
    (case c_raised => k_is)
    (case k_raised => k_is)
    (case a_done => k_is)
    (case l_done => k_is)
    (case c_done => k_is)
    (case k_done => k_is)
    (case a_held => k_is)
    (case l_held => k_is)
    (case c_held => k_is)
    (case k_held => k_is)
    (case a_sung => k_is)
    (case l_sung => k_is)
    (case c_sung => k_is)
    (case k_sung => k_is)
    (case a_p_sum_of => k_is)
    (case l_p_sum_of => k_is)
    (case c_p_sum_of => k_is)
    (case k_p_sum_of => k_is)
    (case a_p_tuple_of => k_is)
    (case l_p_tuple_of => k_is)
    (case c_p_tuple_of => k_is)
    (case k_p_tuple_of => k_is)
    (case a_p_notes => k_is)
    (case l_p_notes => k_is)
    (case c_p_notes => k_is)
    (case k_p_notes => k_is)
    (case a_below => k_is)
    (case l_below => k_is)
    (case c_below => k_is)
    (case k_below => k_is)
    (case a_tied => k_is)
    (case l_tied => k_is)
    (case c_tied => k_is)
    (case k_tied => k_is)
    (case a_far_tied => k_is)
    (case l_far_tied => k_is)
    (case c_far_tied => k_is)
    (case k_far_tied => k_is)
    (case a_changed => k_is)
    (case l_changed => k_is)
    (case c_changed => k_is)
    (case k_changed => k_is)
    (case a_law => k_is)
    (case l_law => k_is)
    (case c_law => k_is)
    (case k_law => k_is)
    (case z_len => k_is)
    (case z_int => k_is)
    (case z_isinstance => k_is)
    (case z_range => k_is)
    (case z_list => k_is)
    (case z_tuple => k_is)
    (case z_all => k_is)
    (case z_bool => k_is)
    (case z_str => k_is)
    (case z_abs => k_is)
    (case z_enumerate => k_is)
    (case z_repr => k_is)
    (case g_gcd => k_is)
