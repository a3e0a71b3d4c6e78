import PyProof.Rows.All
import Wide.All
import OpenK.AllK
import Wide.FinOn
import HandS.ForMost
import HandS.IsInst
import HandS.Wide
import HandS.Sort
import HandS.TupAny
import HandS.StrMore
import HandS.Conv
import HandS.NoneIn
import HandS.SortRule
import HandS.Iter
import HandS.Exc
import HandS.ExcOwn
import HandS.ExcIs
import HandS.WordsExc
import HandS.TryMany
import KE.KTryMore
import PyProof.ExcBaseAll.ValueError
import HandS.Replace
import HandS.Gcd
import HandS.Style
import HandS.Zip0
import HandS.Zip
import HandS.Rev
import HandS.ExcInit
import HandS.ExcField
import HandS.CallLocal
import HandS.TupMul
import KE.KExcIs
import PySem.Challenge.RW_counterheld_k08_whole_bars_and_faults
set_option Elab.async false
set_option linter.all false
set_option maxRecDepth 100000
set_option maxHeartbeats 2000000
/-! Values as trees: what is never changed is a tree; what is changed stands in a memory by address. -/
namespace Vt
open PySem PySem.Spec PyProof.Rows L2

inductive D where
  | val (v : V)
  | tup (ds : List D)
  | lst (ds : List D)
  | dic
abbrev dI (i : Int) : D := .val (.int i)
abbrev dB (b : Bool) : D := .val (.bl b)
abbrev dS (s : Str) : D := .val (.str s)
abbrev dN : D := .val .non
abbrev dP (a : Addr) : D := .val (.ref a)

section
variable (K : PySem.W.Frag) (G : Hp)
mutual
inductive Rep : V → D → Prop where
  | val (v : V) : Rep v (.val v)
  | tup {a : Addr} {vs : List V} {ds : List D} (h : SqT K G a vs) (r : RepL vs ds) : Rep (.ref a) (.tup ds)
  | lst {a : Addr} {vs : List V} {ds : List D} (h : SqL K G a vs) (r : RepL vs ds) : Rep (.ref a) (.lst ds)
  | dic {a : Addr} {kvs : List (Key × V)} (h : G a = some (.dK kvs)) : Rep (.ref a) .dic
inductive RepL : List V → List D → Prop where
  | nil : RepL [] []
  | cons {v : V} {d : D} {vs : List V} {ds : List D} (h : Rep v d) (t : RepL vs ds) : RepL (v :: vs) (d :: ds)
end
end

section
variable {K : PySem.W.Frag} {G G' H H' : Hp} {v : V} {d : D} {vs : List V} {ds : List D} {a : Addr}
theorem rdUp {u : HO} (e : Same G G') (h : Rd G a u) : Rd G' a u := by
  rcases h with h | ⟨o, h⟩
  · exact .inl (e _ _ h)
  · exact .inr ⟨o, e _ _ h⟩
theorem sqtUp (e : Same G G') (h : SqT K G a vs) : SqT K G' a vs := by
  rcases h with h | h
  · exact .inl (rdUp e h)
  · exact .inr h
theorem sqlUp (e : Same G G') (h : SqL K G a vs) : SqL K G' a vs := by
  rcases h with h | h
  · exact .inl (rdUp e h)
  · exact .inr h
mutual
theorem Rep.up {v : V} {d : D} (e : Same G G') : Rep K G v d → Rep K G' v d
  | .val v => .val v
  | .tup h r => .tup (sqtUp e h) (RepL.up e r)
  | .lst h r => .lst (sqlUp e h) (RepL.up e r)
  | .dic h => .dic (e _ _ h)
theorem RepL.up {vs : List V} {ds : List D} (e : Same G G') : RepL K G vs ds → RepL K G' vs ds
  | .nil => .nil
  | .cons h t => .cons (Rep.up e h) (RepL.up e t)
end
theorem RepL.len : ∀ {vs : List V} {ds : List D}, RepL K G vs ds → vs.length = ds.length
  | _, _, .nil => rfl
  | _, _, .cons _ t => congrArg (· + 1) (RepL.len t)
theorem RepL.get : ∀ {vs : List V} {ds : List D} {i : Nat} {d : D}, RepL K G vs ds → ds[i]? = some d → ∃ v, vs[i]? = some v ∧ Rep K G v d
  | _, _, _, _, .nil, e => by simp at e
  | _, _, 0, _, .cons h _, e => by simp at e; subst e; exact ⟨_, rfl, h⟩
  | _, _, i + 1, d, .cons _ t, e => by
    obtain ⟨v, h1, h2⟩ := RepL.get (i := i) (d := d) t (by simpa using e)
    exact ⟨v, by simpa using h1, h2⟩
theorem RepL.append : ∀ {vs ws : List V} {ds es : List D}, RepL K G vs ds → RepL K G ws es → RepL K G (vs ++ ws) (ds ++ es)
  | _, _, _, _, .nil, s => s
  | _, _, _, _, .cons h t, s => .cons h (RepL.append t s)
theorem RepL.set {v : V} {d : D} (r : Rep K G v d) : ∀ {vs : List V} {ds : List D} (i : Nat), RepL K G vs ds → RepL K G (vs.set i v) (ds.set i d)
  | _, _, _, .nil => .nil
  | _, _, 0, .cons _ t => .cons r t
  | _, _, i + 1, .cons q t => .cons q (RepL.set r i t)
theorem RepL.erase : ∀ {vs : List V} {ds : List D} (i : Nat), RepL K G vs ds → RepL K G (vs.eraseIdx i) (ds.eraseIdx i)
  | _, _, _, .nil => .nil
  | _, _, 0, .cons _ t => t
  | _, _, i + 1, .cons q t => .cons q (RepL.erase i t)
theorem RepL.vals : ∀ (xs : List V), RepL K G xs (xs.map D.val)
  | [] => .nil
  | v :: xs => .cons (.val v) (RepL.vals xs)
theorem RepL.of_vals : ∀ {vs : List V} {xs : List V}, RepL K G vs (xs.map D.val) → vs = xs
  | [], [], _ => rfl
  | v :: vs, x :: xs, h => by
    cases h with
    | cons h t =>
      cases h
      rw [RepL.of_vals t]
theorem Rep.of_val {v u : V} (h : Rep K G v (.val u)) : v = u := by cases h; rfl
end

/-! ### the memory -/
inductive MO where
  | lst (ds : List D)
  | xd (fs : List (Str × D))
  | ins (C : Addr) (fs : List (Str × D))
  | dK (kvs : List (Key × D))
  | dT (kvs : List (List Key × D))
/-- names or keys, each with what stands there -/
structure RepF {κ : Type} (K : PySem.W.Frag) (G : Hp) (fv : List (κ × V)) (fs : List (κ × D)) : Prop where
  ks : fv.map (·.1) = fs.map (·.1)
  vs : RepL K G (fv.map (·.2)) (fs.map (·.2))
theorem RepF.up {κ : Type} {K : PySem.W.Frag} {G G' : Hp} {fv : List (κ × V)} {fs : List (κ × D)} (e : Same G G') (h : RepF K G fv fs) : RepF K G' fv fs := ⟨h.ks, h.vs.up e⟩
theorem RepF.nil {κ : Type} {K : PySem.W.Frag} {G : Hp} : RepF K G ([] : List (κ × V)) [] := ⟨rfl, .nil⟩
theorem RepF.cons {κ : Type} {K : PySem.W.Frag} {G : Hp} {fv : List (κ × V)} {fs : List (κ × D)} {k : κ} {v : V} {d : D} (r : Rep K G v d) (h : RepF K G fv fs) : RepF K G ((k, v) :: fv) ((k, d) :: fs) := ⟨by rw [List.map_cons, List.map_cons, h.ks], .cons r h.vs⟩
theorem RepF.get {κ : Type} [BEq κ] {K : PySem.W.Frag} {G : Hp} {k : κ} {d : D} : ∀ {fv : List (κ × V)} {fs : List (κ × D)}, RepF K G fv fs → fs.lookup k = some d → ∃ v, fv.lookup k = some v ∧ Rep K G v d
  | [], [], _, e => by cases e
  | [], _ :: _, h, _ => by have := h.ks; cases this
  | _ :: _, [], h, _ => by have := h.ks; cases this
  | (k1, v1) :: fv, (k2, d2) :: fs, ⟨ks, vs⟩, e => by
    rw [List.map_cons, List.map_cons] at ks vs
    obtain ⟨e1, e2⟩ := List.cons.inj ks
    obtain rfl : k1 = k2 := e1
    cases vs with
    | cons r t =>
      rw [List.lookup_cons] at e ⊢
      cases q : k == k1 with
      | true =>
        rw [q] at e
        cases e
        exact ⟨v1, rfl, r⟩
      | false =>
        rw [q] at e
        exact RepF.get (fv := fv) (fs := fs) ⟨e2, t⟩ e
abbrev Mem := Addr → Option MO
def Mem.set (M : Mem) (a : Addr) (o : MO) : Mem := fun b => if b = a then some o else M b
theorem Mem.set_same {M : Mem} {a : Addr} {o : MO} : M.set a o a = some o := if_pos rfl
theorem Mem.set_ne {M : Mem} {a b : Addr} {o : MO} (h : b ≠ a) : M.set a o b = M b := if_neg h
theorem Mem.set_set {M : Mem} {a : Addr} {o u : MO} : (M.set a o).set a u = M.set a u := by
  funext b; unfold Mem.set; split <;> rfl
def AtM (K : PySem.W.Frag) (G H : Hp) (a : Addr) : MO → Prop
  | .lst ds => ∃ vs, H a = some (.lst vs) ∧ RepL K G vs ds
  | .xd fs => ∃ fv, H a = some (.xd fv) ∧ RepF K G fv fs
  | .ins C fs => ∃ dx fv, H a = some (.ins C dx fv) ∧ RepF K G fv fs
  | .dK kvs => ∃ kv, H a = some (.dK kv) ∧ RepF K G kv kvs
  | .dT kvs => ∃ kv, H a = some (.dT kv) ∧ RepF K G kv kvs
structure SH (K : PySem.W.Frag) (G H : Hp) (M : Mem) : Prop where
  le : Same G H
  mem : ∀ b mo, M b = some mo → G b = none ∧ AtM K G H b mo
def Mle (M M' : Mem) : Prop := ∀ b o, M b = some o → M' b = some o
theorem Mle.refl (M : Mem) : Mle M M := fun _ _ h => h
theorem Mle.trans {M M1 M2 : Mem} (a : Mle M M1) (b : Mle M1 M2) : Mle M M2 := fun c o h => b c o (a c o h)
theorem SH.weak {K : PySem.W.Frag} {G H : Hp} {M M' : Mem} (s : SH K G H M') (h : Mle M M') : SH K G H M := ⟨s.le, fun b mo e => s.mem b mo (h b mo e)⟩
theorem AtM.some {K : PySem.W.Frag} {G H : Hp} {a : Addr} {mo : MO} (h : AtM K G H a mo) : ∃ o, H a = some o := by
  cases mo with
  | lst ds => obtain ⟨vs, e, _⟩ := h; exact ⟨_, e⟩
  | xd fs => obtain ⟨vs, e, _⟩ := h; exact ⟨_, e⟩
  | ins C fs => obtain ⟨dx, vs, e, _⟩ := h; exact ⟨_, e⟩
  | dK fs => obtain ⟨vs, e, _⟩ := h; exact ⟨_, e⟩
  | dT fs => obtain ⟨vs, e, _⟩ := h; exact ⟨_, e⟩
theorem AtM.up {K : PySem.W.Frag} {G G' H H' : Hp} {a : Addr} {mo : MO} (e : Same G G') (q : H' a = H a) (h : AtM K G H a mo) : AtM K G' H' a mo := by
  cases mo with
  | lst ds => obtain ⟨vs, e1, r⟩ := h; exact ⟨vs, by rw [q]; exact e1, r.up e⟩
  | xd fs => obtain ⟨vs, e1, r⟩ := h; exact ⟨vs, by rw [q]; exact e1, r.up e⟩
  | ins C fs => obtain ⟨dx, vs, e1, r⟩ := h; exact ⟨dx, vs, by rw [q]; exact e1, r.up e⟩
  | dK fs => obtain ⟨vs, e1, r⟩ := h; exact ⟨vs, by rw [q]; exact e1, r.up e⟩
  | dT fs => obtain ⟨vs, e1, r⟩ := h; exact ⟨vs, by rw [q]; exact e1, r.up e⟩
/-- a new thing that is never changed -/
theorem SH.new {K : PySem.W.Frag} {G H : Hp} {M : Mem} {p : Addr} {o : HO} (s : SH K G H M) (hp : H p = none) : SH K (upd G p o) (upd H p o) M ∧ Same G (upd G p o) := by
  have gp : G p = none := by
    cases e : G p with
    | none => rfl
    | some u => rw [s.le p u e] at hp; cases hp
  have up : Same G (upd G p o) := fun b u e => by rw [upd_ne (ne_of_none e gp)]; exact e
  refine ⟨⟨fun b u e => ?_, fun b mo e => ?_⟩, up⟩
  · by_cases hb : b = p
    · subst hb; rw [upd_same] at e ⊢; exact e
    · rw [upd_ne hb] at e ⊢; exact s.le b u e
  · obtain ⟨g0, at0⟩ := s.mem b mo e
    obtain ⟨u, hu⟩ := at0.some
    have hb : b ≠ p := ne_of_none hu hp
    exact ⟨by rw [upd_ne hb]; exact g0, at0.up up (upd_ne hb)⟩
/-- a new thing that may be changed -/
theorem SH.newM {K : PySem.W.Frag} {G H : Hp} {M : Mem} {p : Addr} {vs : List V} {ds : List D} (s : SH K G H M) (hp : H p = none) (r : RepL K G vs ds) : SH K G (upd H p (.lst vs)) (M.set p (.lst ds)) ∧ M p = none ∧ G p = none := by
  have gp : G p = none := by
    cases e : G p with
    | none => rfl
    | some u => rw [s.le p u e] at hp; cases hp
  refine ⟨⟨fun b u e => ?_, fun b mo e => ?_⟩, ?_, gp⟩
  · rw [upd_ne (ne_of_none e gp)]; exact s.le b u e
  · by_cases hb : b = p
    · subst hb
      rw [Mem.set_same] at e
      cases e
      exact ⟨gp, vs, upd_same, r⟩
    · rw [Mem.set_ne hb] at e
      obtain ⟨g0, at0⟩ := s.mem b mo e
      exact ⟨g0, at0.up (Same.refl G) (upd_ne hb)⟩
  · cases e : M p with
    | none => rfl
    | some mo =>
      obtain ⟨_, at0⟩ := s.mem p mo e
      obtain ⟨u, hu⟩ := at0.some
      rw [hp] at hu; cases hu
/-- a list that stands in the memory is changed -/
theorem SH.put {K : PySem.W.Frag} {G H : Hp} {M : Mem} {p : Addr} {mo : MO} {vs : List V} {ds : List D} (s : SH K G H M) (hm : M p = some mo) (r : RepL K G vs ds) : SH K G (upd H p (.lst vs)) (M.set p (.lst ds)) := by
  obtain ⟨gp, _⟩ := s.mem p mo hm
  refine ⟨fun b u e => ?_, fun b mo e => ?_⟩
  · rw [upd_ne (ne_of_none e gp)]; exact s.le b u e
  · by_cases hb : b = p
    · subst hb
      rw [Mem.set_same] at e
      cases e
      exact ⟨gp, vs, upd_same, r⟩
    · rw [Mem.set_ne hb] at e
      obtain ⟨g0, at0⟩ := s.mem b mo e
      exact ⟨g0, at0.up (Same.refl G) (upd_ne hb)⟩

/-! ### the slots -/
abbrev Sl := List (Option D)
def RepS (K : PySem.W.Frag) (G : Hp) (σ : L2.St) (ρ : Sl) : Prop := σ.length = ρ.length ∧ ∀ (i : Nat) (d : D), ρ[i]? = some (some d) → ∃ v, σ[i]? = some (some v) ∧ Rep K G v d
theorem RepS.up {K : PySem.W.Frag} {G G' : Hp} {σ : L2.St} {ρ : Sl} (e : Same G G') (h : RepS K G σ ρ) : RepS K G' σ ρ :=
  ⟨h.1, fun i d q => let ⟨v, a, b⟩ := h.2 i d q; ⟨v, a, b.up e⟩⟩
theorem RepS.set {K : PySem.W.Frag} {G : Hp} {σ : L2.St} {ρ : Sl} {v : V} {d : D} (i : Nat) (h : RepS K G σ ρ) (r : Rep K G v d) : RepS K G (σ.set i (some v)) (ρ.set i (some d)) := by
  refine ⟨by rw [List.length_set, List.length_set]; exact h.1, fun j e q => ?_⟩
  by_cases hj : i = j
  · subst hj
    by_cases hl : i < ρ.length
    · rw [List.getElem?_set_self hl] at q
      cases q
      exact ⟨v, List.getElem?_set_self (by rw [h.1]; exact hl), r⟩
    · rw [List.getElem?_eq_none (by rw [List.length_set]; omega)] at q
      cases q
  · rw [List.getElem?_set_ne hj] at q ⊢
    exact h.2 j e q
/-- a slot is forgotten -/
theorem RepS.none {K : PySem.W.Frag} {G : Hp} {σ : L2.St} {ρ : Sl} {x : Option V} (i : Nat) (h : RepS K G σ ρ) : RepS K G (σ.set i x) (ρ.set i Option.none) := by
  refine ⟨by rw [List.length_set, List.length_set]; exact h.1, fun j e q => ?_⟩
  by_cases hj : i = j
  · subst hj
    by_cases hl : i < ρ.length
    · rw [List.getElem?_set_self hl] at q
      cases q
    · rw [List.getElem?_eq_none (by rw [List.length_set]; omega)] at q
      cases q
  · rw [List.getElem?_set_ne hj] at q ⊢
    exact h.2 j e q
/-- of fewer slots known -/
theorem RepS.weak {K : PySem.W.Frag} {G : Hp} {σ : L2.St} {ρ ρ' : Sl} (h : RepS K G σ ρ) (hl : ρ'.length = ρ.length) (hs : ∀ (i : Nat) (d : D), ρ'[i]? = some (some d) → ρ[i]? = some (some d)) : RepS K G σ ρ' :=
  ⟨by rw [h.1, hl], fun i d q => h.2 i d (hs i d q)⟩
structure SA (K : PySem.W.Frag) (G H : Hp) (σ : L2.St) (ρ : Sl) (M : Mem) : Prop where
  sh : SH K G H M
  sl : RepS K G σ ρ

/-! ### the judgements -/
def tE (K : PySem.W.Frag) (ρ : Sl) (M : Mem) (d : D) (M' : Mem) : TE := fun σ H Q => ∃ G, SA K G H σ ρ M ∧ ∀ v G' H', Same G G' → SH K G' H' M' → Rep K G' v d → Q v H'
def tT (K : PySem.W.Frag) (ρ : Sl) (M : Mem) (b : Bool) (M' : Mem) : TT := fun σ H Q => ∃ G, SA K G H σ ρ M ∧ ∀ G' H', Same G G' → SH K G' H' M' → Q b H'
def tA (K : PySem.W.Frag) (ρ : Sl) (M : Mem) (ds : List D) (M' : Mem) : TA := fun σ H Q => ∃ G, SA K G H σ ρ M ∧ ∀ vs G' H', Same G G' → SH K G' H' M' → RepL K G' vs ds → Q vs H'
def tO (K : PySem.W.Frag) (ρ : Sl) (M : Mem) (o : Option Int) (M' : Mem) : TO := fun σ H Q => ∃ G, SA K G H σ ρ M ∧ ∀ G' H', Same G G' → SH K G' H' M' → Q o H'
abbrev EV (X : Cx) (e : Expr) (ρ : Sl) (M : Mem) (d : D) (M' : Mem) : Prop := PE X e (tE X.K ρ M d M')
abbrev TV (X : Cx) (e : Expr) (ρ : Sl) (M : Mem) (b : Bool) (M' : Mem) : Prop := PT X e (tT X.K ρ M b M')
abbrev WV (X : Cx) (e : Expr) (ρ : Sl) (M : Mem) (b : Bool) (M' : Mem) : Prop := PW X e (tT X.K ρ M b M')
abbrev AV (X : Cx) (es : List Expr) (ρ : Sl) (M : Mem) (ds : List D) (M' : Mem) : Prop := PA X es (tA X.K ρ M ds M')
abbrev OV (X : Cx) (e : Option Expr) (ρ : Sl) (M : Mem) (o : Option Int) (M' : Mem) : Prop := PO X e (tO X.K ρ M o M')
inductive Out where
  | nx (ρ : Sl) (M : Mem) | ret (d : D) (M : Mem) | bk (ρ : Sl) (M : Mem) | ct (ρ : Sl) (M : Mem)
def okE (K : PySem.W.Frag) (G0 : Hp) (E : Ends) : Out → Prop
  | .nx ρ M => ∀ σ G H, Same G0 G → SA K G H σ ρ M → E.nx σ H
  | .ret d M => ∀ v G H, Same G0 G → SH K G H M → Rep K G v d → E.rt v H
  | .bk ρ M => ∀ σ G H, Same G0 G → SA K G H σ ρ M → E.bk σ H
  | .ct ρ M => ∀ σ G H, Same G0 G → SA K G H σ ρ M → E.ct σ H
theorem okE.up {K : PySem.W.Frag} {G0 G1 : Hp} {E : Ends} {o : Out} (e : Same G0 G1) (h : okE K G0 E o) : okE K G1 E o := by
  cases o with
  | nx ρ M => exact fun σ G H g => h σ G H (e.trans g)
  | ret d M => exact fun v G H g => h v G H (e.trans g)
  | bk ρ M => exact fun σ G H g => h σ G H (e.trans g)
  | ct ρ M => exact fun σ G H g => h σ G H (e.trans g)
def tS (K : PySem.W.Frag) (ρ : Sl) (M : Mem) (Ψ : Out → Prop) : TS := fun E σ H => ∃ G, SA K G H σ ρ M ∧ ∀ o, Ψ o → okE K G E o
abbrev SV (X : Cx) (st : Stmt) (ρ : Sl) (M : Mem) (Ψ : Out → Prop) : Prop := PS X st (tS X.K ρ M Ψ)
abbrev BV (X : Cx) (sts : List Stmt) (ρ : Sl) (M : Mem) (Ψ : Out → Prop) : Prop := PSs X sts (tS X.K ρ M Ψ)

section
variable {X : Cx}
theorem _root_.L2.PE.mono {e : Expr} {t t' : TE} (h : PE X e t) (i : ∀ σ H Q, t' σ H Q → t σ H Q) : PE X e t' := ⟨fun pins s σ H Q I q => h.run pins s σ H Q I (i σ H Q q)⟩
theorem _root_.L2.PT.mono {e : Expr} {t t' : TT} (h : PT X e t) (i : ∀ σ H Q, t' σ H Q → t σ H Q) : PT X e t' := ⟨fun pins s σ H Q I q => h.run pins s σ H Q I (i σ H Q q)⟩
theorem _root_.L2.PW.mono {e : Expr} {t t' : TT} (h : PW X e t) (i : ∀ σ H Q, t' σ H Q → t σ H Q) : PW X e t' := ⟨fun wh pins s σ H Q I q => h.run wh pins s σ H Q I (i σ H Q q)⟩
theorem _root_.L2.PA.mono {e : List Expr} {t t' : TA} (h : PA X e t) (i : ∀ σ H Q, t' σ H Q → t σ H Q) : PA X e t' := ⟨fun pos pins s σ H Q I q => h.run pos pins s σ H Q I (i σ H Q q)⟩
theorem _root_.L2.PO.mono {e : Option Expr} {t t' : TO} (h : PO X e t) (i : ∀ σ H Q, t' σ H Q → t σ H Q) : PO X e t' := ⟨fun pins s σ H Q I q => h.run pins s σ H Q I (i σ H Q q)⟩
theorem _root_.L2.PS.mono {e : Stmt} {t t' : TS} (h : PS X e t) (i : ∀ E σ H, t' E σ H → t E σ H) : PS X e t' := ⟨fun pins s σ H E I q => h.run pins s σ H E I (i E σ H q)⟩
theorem _root_.L2.PSs.mono {e : List Stmt} {t t' : TS} (h : PSs X e t) (i : ∀ E σ H, t' E σ H → t E σ H) : PSs X e t' := ⟨fun pins s σ H E I q => h.run pins s σ H E I (i E σ H q)⟩
end

section
variable {X : Cx} {ρ : Sl} {M M1 M2 M3 : Mem} {a b c e : Expr} {es : List Expr} {d d1 d2 : D} {ds : List D} {pos : Pos}
/-! ### leaves -/
theorem ev_var (i : Nat) {x : Str} (hρ : ρ[i]? = some (some d)) (hN : X.N[i]? = some x := by rfl) (hv : Vis X.env.scope x := by first | exact Or.inl rfl | exact Or.inr (Or.inl rfl) | exact Or.inr (Or.inr rfl))
    (hd : (x == ("__debug__" : Str)) = false := by decide) (hcd : (x == ("__classdict__" : Str)) = false := by decide) : EV X (.Name x pos) ρ M d M :=
  (pe_var hN hv hd hcd).mono fun σ H Q ⟨G, sa, k⟩ => let ⟨v, e1, r⟩ := sa.sl.2 i d hρ; ⟨v, e1, k v G H (Same.refl G) sa.sh r⟩
theorem ev_int {i : Int} {j} : EV X (.Constant (.int i) j pos) ρ M (dI i) M := pe_int.mono fun σ H Q ⟨G, sa, k⟩ => k _ G H (Same.refl G) sa.sh (.val _)
theorem ev_bl {i : Bool} {j} : EV X (.Constant (.bool i) j pos) ρ M (dB i) M := pe_bl.mono fun σ H Q ⟨G, sa, k⟩ => k _ G H (Same.refl G) sa.sh (.val _)
theorem ev_non {j} : EV X (.Constant .none j pos) ρ M dN M := pe_non.mono fun σ H Q ⟨G, sa, k⟩ => k _ G H (Same.refl G) sa.sh (.val _)
theorem ev_str {x : Str} {j} : EV X (.Constant (.str x) j pos) ρ M (dS x) M := pe_str.mono fun σ H Q ⟨G, sa, k⟩ => k _ G H (Same.refl G) sa.sh (.val _)
theorem ev_glob {x : Str} {v : V} {u : Value} (hg : Gl X x) (hm : X.mg x = some u) (r : RelV v u) (hd : (x == ("__debug__" : Str)) = false := by decide) : EV X (.Name x pos) ρ M (.val v) M :=
  (pe_glob hg hm r hd).mono fun σ H Q ⟨G, sa, k⟩ => k _ G H (Same.refl G) sa.sh (.val _)
/-- a tuple or a list of the module, written -/
theorem ev_globD {x : Str} {f : Addr} (hg : Gl X x) (hm : X.mg x = some (.ref f)) (h : ∀ G, Rep X.K G (.ref f) d) (hd : (x == ("__debug__" : Str)) = false := by decide) : EV X (.Name x pos) ρ M d M :=
  (pe_glob (v := .ref f) hg hm rfl hd).mono fun σ H Q ⟨G, sa, k⟩ => k _ G H (Same.refl G) sa.sh (h G)

/-! ### operators by values -/
def RS (r : R2) (x y z : V) : Prop := ∀ H Q, Q z H → r x y H Q
def RU (r : V → Hp → VK → Prop) (x z : V) : Prop := ∀ H Q, Q z H → r x H Q
theorem ev_op {op : Operator} {r : R2} {x y z : V} (ho : OpR X (binaryOp op) r) (ha : EV X a ρ M (.val x) M1) (hb : EV X b ρ M1 (.val y) M2) (hr : RS r x y z) : EV X (.BinOp a op b pos) ρ M (.val z) M2 :=
  (pe_op ho ha hb).mono fun σ H Q ⟨G, sa, k⟩ => ⟨G, sa, fun v1 G1 H1 g1 sh1 r1 => ⟨G1, ⟨sh1, sa.sl.up g1⟩, fun v2 G2 H2 g2 sh2 r2 => by
    rw [r1.of_val, r2.of_val]
    exact hr H2 Q (k _ G2 H2 (g1.trans g2) sh2 (.val _))⟩⟩
theorem ev_un {op : UnaryOp} {r : V → Hp → VK → Prop} {x z : V} (ho : UnR X (unaryOp op) r) (ha : EV X a ρ M (.val x) M1) (hr : RU r x z) : EV X (.UnaryOp op a pos) ρ M (.val z) M1 :=
  (pe_un ho ha).mono fun σ H Q ⟨G, sa, k⟩ => ⟨G, sa, fun v1 G1 H1 g1 sh1 r1 => by
    rw [r1.of_val]
    exact hr H1 Q (k _ G1 H1 g1 sh1 (.val _))⟩
theorem ev_cmpR {op : CmpOp} {r : R2} {x y z : V} (ho : OpR X (compareOp op) r) (ha : EV X a ρ M (.val x) M1) (hb : EV X b ρ M1 (.val y) M2) (hr : RS r x y z) (hm : behindInMarks op b = false) : EV X (.Compare a [op] [b] pos) ρ M (.val z) M2 :=
  (pe_cmpR ho ha hb hm).mono fun σ H Q ⟨G, sa, k⟩ => ⟨G, sa, fun v1 G1 H1 g1 sh1 r1 => ⟨G1, ⟨sh1, sa.sl.up g1⟩, fun v2 G2 H2 g2 sh2 r2 => by
    rw [r1.of_val, r2.of_val]
    exact hr H2 Q (k _ G2 H2 (g1.trans g2) sh2 (.val _))⟩⟩
theorem tv_cmpR {op : CmpOp} {r : R2} {x y : V} {z : Bool} (ho : OpR X (compareOp op) r) (ha : EV X a ρ M (.val x) M1) (hb : EV X b ρ M1 (.val y) M2) (hr : RS r x y (.bl z)) (hm : behindInMarks op b = false) : TV X (.Compare a [op] [b] pos) ρ M z M2 :=
  (pt_cmpR ho ha hb hm).mono fun σ H Q ⟨G, sa, k⟩ => ⟨G, sa, fun v1 G1 H1 g1 sh1 r1 => ⟨G1, ⟨sh1, sa.sl.up g1⟩, fun v2 G2 H2 g2 sh2 r2 => by
    rw [r1.of_val, r2.of_val]
    exact hr H2 _ ⟨_, rfl, k G2 H2 (g1.trans g2) sh2⟩⟩⟩
theorem rs_I0 {g : Int → Int → V} {i j : Int} : RS (rI0 g) (.int i) (.int j) (g i j) := fun H Q q => ⟨i, j, rfl, rfl, q⟩
theorem rs_I {C : Int → Int → Prop} {g : Int → Int → V} {i j : Int} (h : C i j) : RS (rI C g) (.int i) (.int j) (g i j) := fun H Q q => ⟨i, j, rfl, rfl, h, q⟩
theorem rs_eq {x y : V} (h : scal x y = true) : RS rEq x y (.bl (decide (x = y))) := fun H Q q => ⟨h, q⟩
theorem rs_ne {x y : V} (h : scal x y = true) : RS rNe x y (.bl (!decide (x = y))) := fun H Q q => ⟨h, q⟩

theorem sc_ii {i j : Int} : scal (.int i) (.int j) = true := rfl
theorem sc_ss {i j : Str} : scal (.str i) (.str j) = true := rfl
theorem sc_bb {i j : Bool} : scal (.bl i) (.bl j) = true := rfl

/-! ### tests -/
theorem tv_val {b : Bool} (h : EV X e ρ M (dB b) M1) (he : ∀ whole, isTrue e X.env whole = (do let v ← whole; standAt e.pos; holding [v] (truthy v)) := by intro _; rfl) : TV X e ρ M b M1 :=
  (pt_val h he).mono fun σ H Q ⟨G, sa, k⟩ => ⟨G, sa, fun v1 G1 H1 g1 sh1 r1 => ⟨b, r1.of_val, k G1 H1 g1 sh1⟩⟩
theorem wv_one_and {b : Bool} {pos} (h : TV X e ρ M b M1) : WV X (.BoolOp .And [e] pos) ρ M b M1 := pw_and1 h
theorem wv_one_or {b : Bool} {pos} (h : TV X e ρ M b M1) : WV X (.BoolOp .Or [e] pos) ρ M b M1 := pw_or1 h
/-- a and b and ..: what stands behind a is asked only where a is true; it changes nothing -/
theorem wv_and {p q : Bool} {rest : List Expr} (ha : TV X a ρ M p M1) (hb : p = true → WV X (.BoolOp .And (b :: rest) pos) ρ M1 q M1) : WV X (.BoolOp .And (a :: b :: rest) pos) ρ M (p && q) M1 := by
  cases p with
  | true => exact (pw_and ha (hb rfl)).mono fun σ H Q ⟨G, sa, k⟩ => ⟨G, sa, fun G1 H1 g1 sh1 => (⟨G1, ⟨sh1, sa.sl.up g1⟩, fun G2 H2 g2 sh2 => k G2 H2 (g1.trans g2) sh2⟩ : tT _ _ _ _ _ σ H1 Q)⟩
  | false => exact (pw_and (tB' := fun _ _ _ => False) ha ⟨fun _ _ _ _ _ _ _ h => h.elim⟩).mono fun σ H Q ⟨G, sa, k⟩ => ⟨G, sa, fun G1 H1 g1 sh1 => (k G1 H1 g1 sh1 : Q false H1)⟩
theorem wv_or {p q : Bool} {rest : List Expr} (ha : TV X a ρ M p M1) (hb : p = false → WV X (.BoolOp .Or (b :: rest) pos) ρ M1 q M1) : WV X (.BoolOp .Or (a :: b :: rest) pos) ρ M (p || q) M1 := by
  cases p with
  | false => exact (pw_or ha (hb rfl)).mono fun σ H Q ⟨G, sa, k⟩ => ⟨G, sa, fun G1 H1 g1 sh1 => (⟨G1, ⟨sh1, sa.sl.up g1⟩, fun G2 H2 g2 sh2 => k G2 H2 (g1.trans g2) sh2⟩ : tT _ _ _ _ _ σ H1 Q)⟩
  | true => exact (pw_or (tB' := fun _ _ _ => False) ha ⟨fun _ _ _ _ _ _ _ h => h.elim⟩).mono fun σ H Q ⟨G, sa, k⟩ => ⟨G, sa, fun G1 H1 g1 sh1 => (k G1 H1 g1 sh1 : Q true H1)⟩
/-- what stands behind may change the memory: the way is known -/
theorem wv_andT {q : Bool} {rest : List Expr} (ha : TV X a ρ M true M1) (hb : WV X (.BoolOp .And (b :: rest) pos) ρ M1 q M2) : WV X (.BoolOp .And (a :: b :: rest) pos) ρ M q M2 :=
  (pw_and ha hb).mono fun σ H Q ⟨G, sa, k⟩ => ⟨G, sa, fun G1 H1 g1 sh1 => (⟨G1, ⟨sh1, sa.sl.up g1⟩, fun G2 H2 g2 sh2 => k G2 H2 (g1.trans g2) sh2⟩ : tT _ _ _ _ _ σ H1 Q)⟩
theorem wv_andF {rest : List Expr} (ha : TV X a ρ M false M1) : WV X (.BoolOp .And (a :: b :: rest) pos) ρ M false M1 :=
  (pw_and (tB' := fun _ _ _ => False) ha ⟨fun _ _ _ _ _ _ _ h => h.elim⟩).mono fun σ H Q ⟨G, sa, k⟩ => ⟨G, sa, fun G1 H1 g1 sh1 => (k G1 H1 g1 sh1 : Q false H1)⟩
theorem wv_orT {rest : List Expr} (ha : TV X a ρ M true M1) : WV X (.BoolOp .Or (a :: b :: rest) pos) ρ M true M1 :=
  (pw_or (tB' := fun _ _ _ => False) ha ⟨fun _ _ _ _ _ _ _ h => h.elim⟩).mono fun σ H Q ⟨G, sa, k⟩ => ⟨G, sa, fun G1 H1 g1 sh1 => (k G1 H1 g1 sh1 : Q true H1)⟩
theorem wv_orF {q : Bool} {rest : List Expr} (ha : TV X a ρ M false M1) (hb : WV X (.BoolOp .Or (b :: rest) pos) ρ M1 q M2) : WV X (.BoolOp .Or (a :: b :: rest) pos) ρ M q M2 :=
  (pw_or ha hb).mono fun σ H Q ⟨G, sa, k⟩ => ⟨G, sa, fun G1 H1 g1 sh1 => (⟨G1, ⟨sh1, sa.sl.up g1⟩, fun G2 H2 g2 sh2 => k G2 H2 (g1.trans g2) sh2⟩ : tT _ _ _ _ _ σ H1 Q)⟩
theorem tv_not {b : Bool} (h : TV X e ρ M b M1) : TV X (.UnaryOp .Not e pos) ρ M (!b) M1 :=
  (pt_not h).mono fun σ H Q ⟨G, sa, k⟩ => ⟨G, sa, fun G1 H1 g1 sh1 => k G1 H1 g1 sh1⟩
theorem tv_to {b b' : Bool} (h : TV X e ρ M b M1) (q : b = b') : TV X e ρ M b' M1 := q ▸ h
theorem ev_to {d d' : D} (h : EV X e ρ M d M1) (q : d = d') : EV X e ρ M d' M1 := q ▸ h
theorem ev_toM {d : D} (h : EV X e ρ M d M1) (q : M1 = M2) : EV X e ρ M d M2 := q ▸ h
theorem wv_to {b b' : Bool} (h : WV X e ρ M b M1) (q : b = b') : WV X e ρ M b' M1 := q ▸ h

/-! ### and, or, not as values -/
theorem ev_one {op} {b : Bool} (h : EV X e ρ M d M1) : EV X (.BoolOp op [e] pos) ρ M d M1 := pe_one h
theorem ev_and {p : Bool} {d : D} {rest : List Expr} (ha : EV X a ρ M (dB p) M1) (hb : p = true → EV X (.BoolOp .And (b :: rest) pos) ρ M1 d M1) (hf : p = false → d = dB false) : EV X (.BoolOp .And (a :: b :: rest) pos) ρ M d M1 := by
  cases p with
  | true => exact (pe_and ha (hb rfl)).mono fun σ H Q ⟨G, sa, k⟩ => ⟨G, sa, fun v1 G1 H1 g1 sh1 r1 => ⟨true, r1.of_val, (⟨G1, ⟨sh1, sa.sl.up g1⟩, fun v G2 H2 g2 sh2 => k v G2 H2 (g1.trans g2) sh2⟩ : tE _ _ _ _ _ σ H1 Q)⟩⟩
  | false =>
    cases hf rfl
    exact (pe_and (tb := fun _ _ _ => False) ha ⟨fun _ _ _ _ _ _ h => h.elim⟩).mono fun σ H Q ⟨G, sa, k⟩ => ⟨G, sa, fun v1 G1 H1 g1 sh1 r1 => ⟨false, r1.of_val, (k _ G1 H1 g1 sh1 (.val _) : Q (.bl false) H1)⟩⟩
theorem ev_andB {p q : Bool} {rest : List Expr} (ha : EV X a ρ M (dB p) M1) (hb : p = true → EV X (.BoolOp .And (b :: rest) pos) ρ M1 (dB q) M1) : EV X (.BoolOp .And (a :: b :: rest) pos) ρ M (dB (p && q)) M1 := by
  refine ev_and ha (fun h => ?_) fun h => by rw [h]; rfl
  rw [h]
  exact hb h
theorem ev_orB {p q : Bool} {rest : List Expr} (ha : EV X a ρ M (dB p) M1) (hb : p = false → EV X (.BoolOp .Or (b :: rest) pos) ρ M1 (dB q) M1) : EV X (.BoolOp .Or (a :: b :: rest) pos) ρ M (dB (p || q)) M1 := by
  cases p with
  | false => exact (pe_or ha (hb rfl)).mono fun σ H Q ⟨G, sa, k⟩ => ⟨G, sa, fun v1 G1 H1 g1 sh1 r1 => ⟨false, r1.of_val, (⟨G1, ⟨sh1, sa.sl.up g1⟩, fun v G2 H2 g2 sh2 => k v G2 H2 (g1.trans g2) sh2⟩ : tE _ _ _ _ _ σ H1 Q)⟩⟩
  | true => exact (pe_or (tb := fun _ _ _ => False) ha ⟨fun _ _ _ _ _ _ h => h.elim⟩).mono fun σ H Q ⟨G, sa, k⟩ => ⟨G, sa, fun v1 G1 H1 g1 sh1 r1 => ⟨true, r1.of_val, (k _ G1 H1 g1 sh1 (.val _) : Q (.bl true) H1)⟩⟩
theorem ev_notB {p : Bool} (h : EV X e ρ M (dB p) M1) : EV X (.UnaryOp .Not e pos) ρ M (dB (!p)) M1 :=
  (pe_not h).mono fun σ H Q ⟨G, sa, k⟩ => ⟨G, sa, fun v1 G1 H1 g1 sh1 r1 => ⟨p, r1.of_val, k _ G1 H1 g1 sh1 (.val _)⟩⟩
/-- a if c else b -/
theorem ev_if {p : Bool} (hc : TV X c ρ M p M1) (ha : p = true → EV X a ρ M1 d M2) (hb : p = false → EV X b ρ M1 d M2) : EV X (.IfExp c a b pos) ρ M d M2 := by
  cases p with
  | true => exact (pe_ifExp (tb := fun _ _ _ => False) hc (ha rfl) ⟨fun _ _ _ _ _ _ h => h.elim⟩).mono fun σ H Q ⟨G, sa, k⟩ => ⟨G, sa, fun G1 H1 g1 sh1 => (⟨G1, ⟨sh1, sa.sl.up g1⟩, fun v G2 H2 g2 sh2 => k v G2 H2 (g1.trans g2) sh2⟩ : tE _ _ _ _ _ σ H1 Q)⟩
  | false => exact (pe_ifExp (ta := fun _ _ _ => False) hc ⟨fun _ _ _ _ _ _ h => h.elim⟩ (hb rfl)).mono fun σ H Q ⟨G, sa, k⟩ => ⟨G, sa, fun G1 H1 g1 sh1 => (⟨G1, ⟨sh1, sa.sl.up g1⟩, fun v G2 H2 g2 sh2 => k v G2 H2 (g1.trans g2) sh2⟩ : tE _ _ _ _ _ σ H1 Q)⟩
theorem ev_ifB {p : Bool} (hc : TV X c ρ M p M1) (ha : EV X a ρ M1 d1 M2) (hb : EV X b ρ M1 d2 M2) : EV X (.IfExp c a b pos) ρ M (if p = true then d1 else d2) M2 :=
  ev_if hc (fun h => by rw [if_pos h]; exact ha) (fun h => by rw [h, if_neg Bool.false_ne_true]; exact hb)

/-! ### arguments, displays -/
theorem av_nil : AV X [] ρ M [] M := pa_nil.mono fun σ H Q ⟨G, sa, k⟩ => k [] G H (Same.refl G) sa.sh .nil
theorem av_cons (ha : EV X e ρ M d M1) (hr : AV X es ρ M1 ds M2) (hs : starEach (e :: es) X.env = (false, eval e X.env) :: starEach es X.env := by rfl) : AV X (e :: es) ρ M (d :: ds) M2 :=
  (pa_cons ha hr hs).mono fun σ H Q ⟨G, sa, k⟩ => ⟨G, sa, fun v1 G1 H1 g1 sh1 r1 => ⟨G1, ⟨sh1, sa.sl.up g1⟩, fun vs G2 H2 g2 sh2 r2 => k _ G2 H2 (g1.trans g2) sh2 (.cons (r1.up g2) r2)⟩⟩
theorem ev_tup {x1} (h : AV X es ρ M ds M1) (hl : ds.length ≤ sizeLine := by first | (simp only [List.length_cons, List.length_nil]; decide) | decide) : EV X (.Tuple es x1 pos) ρ M (.tup ds) M1 :=
  (pe_tup h).mono fun σ H Q ⟨G, sa, k⟩ => ⟨G, sa, fun vs G1 H1 g1 sh1 r1 => ⟨by rw [r1.len]; exact hl, fun p hp => by
    obtain ⟨sh2, g2⟩ := sh1.new (o := .tup vs) hp
    exact k _ _ _ (g1.trans g2) sh2 (.tup (.inl (.inl upd_same)) (r1.up g2))⟩⟩
theorem ev_lst (h : AV X es ρ M ds M1) (hl : ds.length ≤ sizeLine := by first | (simp only [List.length_cons, List.length_nil]; decide) | decide) : EV X (.List es pos) ρ M (.lst ds) M1 :=
  (pe_lst h).mono fun σ H Q ⟨G, sa, k⟩ => ⟨G, sa, fun vs G1 H1 g1 sh1 r1 => ⟨by rw [r1.len]; exact hl, fun p hp => by
    obtain ⟨sh2, g2⟩ := sh1.new (o := .lst vs) hp
    exact k _ _ _ (g1.trans g2) sh2 (.lst (.inl (.inl upd_same)) (r1.up g2))⟩⟩

/-! ### items -/
theorem atI_up {K : PySem.W.Frag} {G : Hp} {vs : List V} {i : Int} (r : RepL K G vs ds) (h : atI ds i = some d) : ∃ v, atI vs i = some v ∧ Rep K G v d := by
  unfold atI at h ⊢
  rw [r.len]
  cases q : ixN ds.length i with
  | none => rw [q] at h; cases h
  | some j =>
    rw [q] at h
    exact r.get h
theorem ev_ixT {i : Int} (ha : EV X a ρ M (.tup ds) M1) (hb : EV X b ρ M1 (dI i) M2) (h : atI ds i = some d) (hs : PlainIx b := by (intro _ _; rfl)) : EV X (.Subscript a b pos) ρ M d M2 :=
  (pe_ix ix_tup ha hb hs).mono fun σ H Q ⟨G, sa, k⟩ => ⟨G, sa, fun v1 G1 H1 g1 sh1 r1 => ⟨G1, ⟨sh1, sa.sl.up g1⟩, fun v2 G2 H2 g2 sh2 r2 => by
    cases r1 with
    | tup q r =>
      obtain ⟨v, e, rv⟩ := atI_up (r.up g2) h
      exact ⟨_, _, i, v, rfl, r2.of_val, sqtUp sh2.le (sqtUp g2 q), e, k _ G2 H2 (g1.trans g2) sh2 rv⟩⟩⟩
theorem ev_ixL {i : Int} (ha : EV X a ρ M (.lst ds) M1) (hb : EV X b ρ M1 (dI i) M2) (h : atI ds i = some d) (hs : PlainIx b := by (intro _ _; rfl)) : EV X (.Subscript a b pos) ρ M d M2 :=
  (pe_ix ix_list ha hb hs).mono fun σ H Q ⟨G, sa, k⟩ => ⟨G, sa, fun v1 G1 H1 g1 sh1 r1 => ⟨G1, ⟨sh1, sa.sl.up g1⟩, fun v2 G2 H2 g2 sh2 r2 => by
    cases r1 with
    | lst q r =>
      obtain ⟨v, e, rv⟩ := atI_up (r.up g2) h
      exact ⟨_, _, i, v, rfl, r2.of_val, sqlUp sh2.le (sqlUp g2 q), e, k _ G2 H2 (g1.trans g2) sh2 rv⟩⟩⟩
/-- an item of a list of the memory -/
theorem ev_ixM {p : Addr} {i : Int} (ha : EV X a ρ M (dP p) M1) (hb : EV X b ρ M1 (dI i) M2) (hm : M2 p = some (.lst ds)) (h : atI ds i = some d) (hs : PlainIx b := by (intro _ _; rfl)) : EV X (.Subscript a b pos) ρ M d M2 :=
  (pe_ix ix_list ha hb hs).mono fun σ H Q ⟨G, sa, k⟩ => ⟨G, sa, fun v1 G1 H1 g1 sh1 r1 => ⟨G1, ⟨sh1, sa.sl.up g1⟩, fun v2 G2 H2 g2 sh2 r2 => by
    obtain ⟨_, vs, hv, r⟩ := sh2.mem p _ hm
    obtain ⟨v, e, rv⟩ := atI_up r h
    exact ⟨p, vs, i, v, r1.of_val, r2.of_val, .inl (.inl hv), e, k _ G2 H2 (g1.trans g2) sh2 rv⟩⟩⟩
theorem ev_ixS {z : Str} {i : Int} {ch : Nat} (ha : EV X a ρ M (dS z) M1) (hb : EV X b ρ M1 (dI i) M2) (hz : z.length ≤ sizeLine) (h : atI z.cps.toList i = some ch) (hs : PlainIx b := by (intro _ _; rfl)) : EV X (.Subscript a b pos) ρ M (dS ⟨#[ch]⟩) M2 :=
  (pe_ix ix_str ha hb hs).mono fun σ H Q ⟨G, sa, k⟩ => ⟨G, sa, fun v1 G1 H1 g1 sh1 r1 => ⟨G1, ⟨sh1, sa.sl.up g1⟩, fun v2 G2 H2 g2 sh2 r2 =>
    ⟨z, i, ch, r1.of_val, r2.of_val, hz, h, k _ G2 H2 (g1.trans g2) sh2 (.val _)⟩⟩⟩

/-! ### calls -/
/-- what a def of trees promises -/
def spD (K : PySem.W.Frag) (Pr : List D → Mem → D → Mem → Prop) : Sp := fun vs H Q _ => ∃ G ds M d M', SH K G H M ∧ RepL K G vs ds ∧ Pr ds M d M' ∧ ∀ v G' H', Same G G' → SH K G' H' M' → Rep K G' v d → Q v H'
structure Cal (P : Program) (w : World) (K : PySem.W.Frag) (mg : Str → Option Value) (base : Heap) (k : Nat) (x : Str) (sp : Sp) : Prop where
  ex : ∃ f fd ps, mg x = some (.ref f) ∧ PySem.W.keepIn K (.ref f) = true ∧ Binds K fd ps [] ∧ FnOk P w K mg base CX0 k f fd ps sp
theorem Cal.mono {P : Program} {w : World} {K : PySem.W.Frag} {mg : Str → Option Value} {base : Heap} {j k : Nat} {x : Str} {sp : Sp} (C : Cal P w K mg base j x sp) (h : j ≤ k) : Cal P w K mg base k x sp :=
  let ⟨f, fd, ps, a, b, c, F⟩ := C.ex
  ⟨f, fd, ps, a, b, c, F.mono h⟩
theorem Cal.imp {P : Program} {w : World} {K : PySem.W.Frag} {mg : Str → Option Value} {base : Heap} {k : Nat} {x : Str} {sp sp' : Sp} (C : Cal P w K mg base k x sp) (h : ∀ vs H Q E, sp' vs H Q E → sp vs H Q E) : Cal P w K mg base k x sp' :=
  let ⟨f, fd, ps, a, b, c, F⟩ := C.ex
  ⟨f, fd, ps, a, b, c, F.imp h⟩
theorem ev_call {k : Nat} {x : Str} {Pr : List D → Mem → D → Mem → Prop} {p : Pos} (C : Cal X.prog X.w X.K X.mg X.base k x (spD X.K Pr)) (hr : Room k X.A) (ha : AV X (e :: es) ρ M ds M1) (hp : Pr ds M1 d M2) (hg : Gl X x := by rfl)
    (hd : (x == ("__debug__" : Str)) = false := by decide) (hst : starEach (e :: es) X.env = (false, eval e X.env) :: starEach es X.env := by rfl) (hpl : (backTo pos (starEach es X.env)).any (·.1) = false := by rfl) : EV X (.Call (.Name x p) (e :: es) [] pos) ρ M d M2 := by
  obtain ⟨f, fd, ps, hm, hk, hb, F⟩ := C.ex
  refine (pe_call F hr hg hm hk hb .nil pass0 ha (hdb := hd) (he := hst) (hpl := hpl)).mono fun σ H Q ⟨G, sa, k⟩ => ⟨G, sa, fun vs G1 H1 g1 sh1 r1 => ?_⟩
  show spD X.K Pr (vs ++ []) H1 Q E0
  rw [List.append_nil]
  exact ⟨G1, ds, M1, d, M2, sh1, r1, hp, fun v G' H' g sh r => k v G' H' (g1.trans g) sh r⟩
/-- a built-in of scalars -/
def RC (r : List V → Hp → VK → Prop) (vs : List V) (z : V) : Prop := ∀ H Q, Q z H → r vs H Q
theorem ev_cb {x : Str} {p : Pos} {id : String} {r : List V → Hp → VK → Prop} {vs : List V} {z : V} (hc : CallR X (.builtin id) r) (hm : X.mg x = none) (hv : bootBuiltins x = some (.builtin id)) (ha : AV X (e :: es) ρ M (vs.map D.val) M1) (hr : RC r vs z) (hg : Gl X x := by rfl)
    (hn : x ≠ "__name__" := by decide) (hd : (x == ("__debug__" : Str)) = false := by decide) (hst : starEach (e :: es) X.env = (false, eval e X.env) :: starEach es X.env := by rfl) (hpl : (backTo pos (starEach es X.env)).any (·.1) = false := by rfl) : EV X (.Call (.Name x p) (e :: es) [] pos) ρ M (.val z) M1 :=
  (pe_callB hc hg hm hv ha hn hd hst hpl).mono fun σ H Q ⟨G, sa, k⟩ => ⟨G, sa, fun vs' G1 H1 g1 sh1 r1 => by
    rw [RepL.of_vals r1]
    exact hr H1 Q (k _ G1 H1 g1 sh1 (.val _))⟩
theorem ev_ct {x : Str} {p : Pos} {id : String} {r : List V → Hp → VK → Prop} {vs : List V} {z : V} (hc : CallR X (.type id) r) (hm : X.mg x = none) (hv : bootBuiltins x = some (.type id)) (ha : AV X (e :: es) ρ M (vs.map D.val) M1) (hr : RC r vs z) (hg : Gl X x := by rfl)
    (hn : x ≠ "__name__" := by decide) (hd : (x == ("__debug__" : Str)) = false := by decide) (hst : starEach (e :: es) X.env = (false, eval e X.env) :: starEach es X.env := by rfl) (hpl : (backTo pos (starEach es X.env)).any (·.1) = false := by rfl) : EV X (.Call (.Name x p) (e :: es) [] pos) ρ M (.val z) M1 :=
  (pe_callTy hc hg hm hv ha hn hd hst hpl).mono fun σ H Q ⟨G, sa, k⟩ => ⟨G, sa, fun vs' G1 H1 g1 sh1 r1 => by
    rw [RepL.of_vals r1]
    exact hr H1 Q (k _ G1 H1 g1 sh1 (.val _))⟩
/-- int(i) -/
theorem ev_intI {i : Int} {p : Pos} (hm : X.mg "int" = none) (ha : EV X e ρ M (dI i) M1) (hg : Gl X "int" := by rfl) (hst : starEach [e] X.env = [(false, eval e X.env)] := by rfl) : EV X (.Call (.Name "int" p) [e] [] pos) ρ M (dI i) M1 :=
  (pe_callTy call_int1 hg hm (by decide +kernel) (av_cons ha av_nil hst) (he := hst)).mono fun σ H Q ⟨G, sa, k⟩ => ⟨G, sa, fun vs' G1 H1 g1 sh1 r1 => by
    rw [RepL.of_vals (xs := [.int i]) r1]
    exact .inl ⟨i, rfl, k _ G1 H1 g1 sh1 (.val _)⟩⟩
/-- len of a tree, of a list of the memory, of a text -/
theorem ev_lenT {p : Pos} (hm : X.mg "len" = none) (ha : EV X e ρ M (.tup ds) M1) (hg : Gl X "len" := by rfl) (hst : starEach [e] X.env = [(false, eval e X.env)] := by rfl) : EV X (.Call (.Name "len" p) [e] [] pos) ρ M (dI ds.length) M1 :=
  (pe_callB call_len_seq hg hm PySem.boot_len (av_cons ha av_nil hst) (he := hst)).mono fun σ H Q ⟨G, sa, k⟩ => ⟨G, sa, fun vs' G1 H1 g1 sh1 r1 => by
    cases r1 with
    | cons h t =>
      cases t
      cases h with
      | tup q r => exact ⟨_, _, rfl, .inr (sqtUp sh1.le q), by rw [r.len]; exact k _ G1 H1 g1 sh1 (.val _)⟩⟩
theorem ev_lenL {p : Pos} (hm : X.mg "len" = none) (ha : EV X e ρ M (.lst ds) M1) (hg : Gl X "len" := by rfl) (hst : starEach [e] X.env = [(false, eval e X.env)] := by rfl) : EV X (.Call (.Name "len" p) [e] [] pos) ρ M (dI ds.length) M1 :=
  (pe_callB call_len_seq hg hm PySem.boot_len (av_cons ha av_nil hst) (he := hst)).mono fun σ H Q ⟨G, sa, k⟩ => ⟨G, sa, fun vs' G1 H1 g1 sh1 r1 => by
    cases r1 with
    | cons h t =>
      cases t
      cases h with
      | lst q r => exact ⟨_, _, rfl, .inl (sqlUp sh1.le q), by rw [r.len]; exact k _ G1 H1 g1 sh1 (.val _)⟩⟩
theorem ev_lenM {a : Addr} {p : Pos} (hm : X.mg "len" = none) (ha : EV X e ρ M (dP a) M1) (h : M1 a = some (.lst ds)) (hg : Gl X "len" := by rfl) (hst : starEach [e] X.env = [(false, eval e X.env)] := by rfl) : EV X (.Call (.Name "len" p) [e] [] pos) ρ M (dI ds.length) M1 :=
  (pe_callB call_len_seq hg hm PySem.boot_len (av_cons ha av_nil hst) (he := hst)).mono fun σ H Q ⟨G, sa, k⟩ => ⟨G, sa, fun vs' G1 H1 g1 sh1 r1 => by
    obtain ⟨_, vs, hv, r⟩ := sh1.mem a _ h
    rw [RepL.of_vals (xs := [.ref a]) r1]
    exact ⟨a, vs, rfl, .inl (.inl (.inl hv)), by rw [r.len]; exact k _ G1 H1 g1 sh1 (.val _)⟩⟩
theorem ev_lenS {z : Str} {p : Pos} (hm : X.mg "len" = none) (ha : EV X e ρ M (dS z) M1) (hz : z.length ≤ sizeLine) (hg : Gl X "len" := by rfl) (hst : starEach [e] X.env = [(false, eval e X.env)] := by rfl) : EV X (.Call (.Name "len" p) [e] [] pos) ρ M (dI z.length) M1 :=
  (pe_callB call_len_str hg hm PySem.boot_len (av_cons ha av_nil hst) (he := hst)).mono fun σ H Q ⟨G, sa, k⟩ => ⟨G, sa, fun vs' G1 H1 g1 sh1 r1 => by
    rw [RepL.of_vals (xs := [.str z]) r1]
    exact ⟨z, rfl, hz, k _ G1 H1 g1 sh1 (.val _)⟩⟩

/-! ### statements -/
variable {Ψ : Out → Prop} {st : Stmt} {rest : List Stmt}
/-- what follows -/
def thenR (X : Cx) (rest : List Stmt) (Ψ : Out → Prop) : Out → Prop
  | .nx ρ M => BV X rest ρ M Ψ
  | o => Ψ o
theorem bv_nil (h : Ψ (.nx ρ M)) : BV X [] ρ M Ψ := pss_nil.mono fun E σ H ⟨G, sa, k⟩ => k _ h σ G H (Same.refl G) sa
theorem bv_cons (h : SV X st ρ M (thenR X rest Ψ)) : BV X (st :: rest) ρ M Ψ := by
  refine (pss_cons (u := fun E σ H => ∃ ρ' M', BV X rest ρ' M' Ψ ∧ tS X.K ρ' M' Ψ E σ H) h ⟨fun pins s σ H E I ⟨ρ', M', hb, q⟩ => hb.run pins s σ H E I q⟩).mono fun E σ H ⟨G, sa, k⟩ => ⟨G, sa, fun o ho => ?_⟩
  cases o with
  | nx ρ' M' => exact fun σ' G' H' g sa' => ⟨ρ', M', ho, G', sa', fun o' ho' => (k o' ho').up g⟩
  | ret d M' => exact k _ ho
  | bk ρ' M' => exact k _ ho
  | ct ρ' M' => exact k _ ho
theorem bv_one (h : SV X st ρ M Ψ) : BV X [st] ρ M Ψ := pss_one h
theorem sv_to {Ψ' : Out → Prop} (h : SV X st ρ M Ψ) (i : ∀ o, Ψ o → Ψ' o) : SV X st ρ M Ψ' := h.mono fun E σ H ⟨G, sa, k⟩ => ⟨G, sa, fun o ho => k o (i o ho)⟩
theorem bv_to {Ψ' : Out → Prop} (h : BV X rest ρ M Ψ) (i : ∀ o, Ψ o → Ψ' o) : BV X rest ρ M Ψ' := h.mono fun E σ H ⟨G, sa, k⟩ => ⟨G, sa, fun o ho => k o (i o ho)⟩
/-- fewer slots known, the same memory -/
theorem bv_weak {ρ' : Sl} (h : BV X rest ρ' M Ψ) (hl : ρ'.length = ρ.length) (hs : ∀ (i : Nat) (d : D), ρ'[i]? = some (some d) → ρ[i]? = some (some d)) : BV X rest ρ M Ψ := h.mono fun E σ H ⟨G, sa, k⟩ => ⟨G, ⟨sa.sh, sa.sl.weak hl hs⟩, k⟩
theorem sv_ret (h : EV X e ρ M d M1) (hΨ : Ψ (.ret d M1)) : SV X (.Return (some e) pos) ρ M Ψ :=
  (ps_ret h).mono fun E σ H ⟨G, sa, k⟩ => ⟨G, sa, fun v G1 H1 g1 sh1 r1 => k _ hΨ v G1 H1 g1 sh1 r1⟩
theorem sv_retN (hΨ : Ψ (.ret dN M)) : SV X (.Return none pos) ρ M Ψ :=
  ps_retN.mono fun E σ H ⟨G, sa, k⟩ => k _ hΨ _ G H (Same.refl G) sa.sh (.val _)
theorem sv_pass (hΨ : Ψ (.nx ρ M)) : SV X (.Pass pos) ρ M Ψ := ps_pass.mono fun E σ H ⟨G, sa, k⟩ => k _ hΨ σ G H (Same.refl G) sa
theorem sv_break (hΨ : Ψ (.bk ρ M)) : SV X (.Break pos) ρ M Ψ := ps_break.mono fun E σ H ⟨G, sa, k⟩ => k _ hΨ σ G H (Same.refl G) sa
theorem sv_cont (hΨ : Ψ (.ct ρ M)) : SV X (.Continue pos) ρ M Ψ := ps_continue.mono fun E σ H ⟨G, sa, k⟩ => k _ hΨ σ G H (Same.refl G) sa
theorem sv_expr (h : EV X e ρ M d M1) (hΨ : Ψ (.nx ρ M1)) (hs : swapsWith e none pos.line X.env = pure false := by rfl) : SV X (.Expr e pos) ρ M Ψ :=
  (ps_expr h hs).mono fun E σ H ⟨G, sa, k⟩ => ⟨G, sa, fun v G1 H1 g1 sh1 r1 => k _ hΨ σ G1 H1 g1 ⟨sh1, sa.sl.up g1⟩⟩
/-- x = e -/
theorem sv_set (i : Nat) {x : Str} {pos' : Pos} (hN : X.N.Nodup) (he : EV X e ρ M d M1) (hΨ : Ψ (.nx (ρ.set i (some d)) M1)) (hi : X.N[i]? = some x := by rfl) (hx : L2.Loc X.env.scope x := by first | exact Or.inl rfl | exact Or.inr rfl) (hs : swapsWith e (some (.Name x pos')) pos.line X.env = pure false := by rfl)
    (hf : X.fn x = true ∨ X.env.scope.names.lookup x = some .local := by first | exact .inl rfl | exact .inr rfl) : SV X (.Assign [.Name x pos'] e pos) ρ M Ψ :=
  (ps_set hN hi hx he hs hf).mono fun E σ H ⟨G, sa, k⟩ => ⟨G, sa, fun v G1 H1 g1 sh1 r1 => k _ hΨ _ G1 H1 g1 ⟨sh1, (sa.sl.up g1).set i r1⟩⟩
/-- x = a new list that is going to be changed: its address p is new -/
theorem sv_setNew (i : Nat) {x : Str} {pos' pl : Pos} (hN : X.N.Nodup) (ha : AV X es ρ M ds M1) (hΨ : ∀ p, M1 p = none → Ψ (.nx (ρ.set i (some (dP p))) (M1.set p (.lst ds)))) (hl : ds.length ≤ sizeLine := by first | (simp only [List.length_cons, List.length_nil]; decide) | decide) (hi : X.N[i]? = some x := by rfl) (hx : L2.Loc X.env.scope x := by first | exact Or.inl rfl | exact Or.inr rfl)
    (hs : swapsWith (.List es pl) (some (.Name x pos')) pos.line X.env = pure false := by rfl) (hf : X.fn x = true ∨ X.env.scope.names.lookup x = some .local := by first | exact .inl rfl | exact .inr rfl) : SV X (.Assign [.Name x pos'] (.List es pl) pos) ρ M Ψ :=
  (ps_set hN hi hx (pe_lst ha) hs hf).mono fun E σ H ⟨G, sa, k⟩ => ⟨G, sa, fun vs G1 H1 g1 sh1 r1 => ⟨by rw [r1.len]; exact hl, fun p hp => by
    obtain ⟨sh2, mp, gp⟩ := sh1.newM hp r1
    exact k _ (hΨ p mp) _ G1 _ g1 ⟨sh2, (sa.sl.up g1).set i (.val _)⟩⟩⟩
theorem sv_if {p : Bool} {as bs : List Stmt} (hc : TV X c ρ M p M1) (ha : p = true → BV X as ρ M1 Ψ) (hb : p = false → BV X bs ρ M1 Ψ) : SV X (.If c as bs pos) ρ M Ψ := by
  cases p with
  | true => exact (ps_if (u := fun _ _ _ => False) hc (ha rfl) ⟨fun _ _ _ _ _ _ h => h.elim⟩).mono fun E σ H ⟨G, sa, k⟩ => ⟨G, sa, fun G1 H1 g1 sh1 => (⟨G1, ⟨sh1, sa.sl.up g1⟩, fun o ho => (k o ho).up g1⟩ : tS _ _ _ _ E σ H1)⟩
  | false => exact (ps_if (t := fun _ _ _ => False) hc ⟨fun _ _ _ _ _ _ h => h.elim⟩ (hb rfl)).mono fun E σ H ⟨G, sa, k⟩ => ⟨G, sa, fun G1 H1 g1 sh1 => (⟨G1, ⟨sh1, sa.sl.up g1⟩, fun o ho => (k o ho).up g1⟩ : tS _ _ _ _ E σ H1)⟩
/-- the list at p, which slot i names, is changed no more -/
theorem SH.freeze {K : PySem.W.Frag} {G H : Hp} {M : Mem} {p : Addr} {ds : List D} (s : SH K G H (M.set p (.lst ds))) (hm : M p = none) : ∃ vs, SH K (upd G p (.lst vs)) H M ∧ Same G (upd G p (.lst vs)) ∧ RepL K G vs ds := by
  obtain ⟨gp, vs, hv, r⟩ := s.mem p _ Mem.set_same
  have up : Same G (upd G p (.lst vs)) := fun b u e => by rw [upd_ne (ne_of_none e gp)]; exact e
  refine ⟨vs, ⟨fun b u e => ?_, fun b mo e => ?_⟩, up, r⟩
  · by_cases hb : b = p
    · subst hb; rw [upd_same] at e; rw [← e]; exact hv
    · rw [upd_ne hb] at e; exact s.le b u e
  · have hb : b ≠ p := fun q => by rw [q, hm] at e; cases e
    obtain ⟨g0, at0⟩ := s.mem b mo (by rw [Mem.set_ne hb]; exact e)
    exact ⟨by rw [upd_ne hb]; exact g0, at0.up up rfl⟩
theorem bv_freeze (i : Nat) {p : Addr} (hρ : ρ[i]? = some (some (dP p))) (hm : M p = none) (h : BV X rest (ρ.set i (some (.lst ds))) M Ψ) : BV X rest ρ (M.set p (.lst ds)) Ψ := h.mono fun E σ H ⟨G, sa, k⟩ => by
  obtain ⟨vs, sh, g, r⟩ := sa.sh.freeze hm
  obtain ⟨v, e1, r1⟩ := sa.sl.2 i _ hρ
  refine ⟨_, ⟨sh, ?_⟩, fun o ho => (k o ho).up g⟩
  have q := (sa.sl.up g).set i (v := .ref p) (d := .lst ds) (.lst (.inl (.inl upd_same)) (r.up g))
  have e2 : σ.set i (some (V.ref p)) = σ := by
    have ev : v = V.ref p := r1.of_val
    rw [ev] at e1
    obtain ⟨hi, e3⟩ := List.getElem?_eq_some_iff.mp e1
    rw [← e3]
    exact List.set_getElem_self hi
  rw [e2] at q
  exact q

/-- a def's promise by its body -/
def Fin (d : D) (M' : Mem) : Out → Prop
  | .ret d' M'' => d' = d ∧ Mle M' M''
  | .nx _ M'' => d = dN ∧ Mle M' M''
  | _ => False
def startD (N : List Str) (ds : List D) : Sl := ds.map some ++ List.replicate (N.length - ds.length) none
theorem start_rep {K : PySem.W.Frag} {G : Hp} {N : List Str} : ∀ {vs : List V} {ds : List D}, RepL K G vs ds → RepS K G (L2.start N vs) (startD N ds) := fun {vs ds} r => by
  have hl := r.len
  unfold L2.start startD
  refine ⟨by simp [hl], fun i d e => ?_⟩
  by_cases hi : i < ds.length
  · rw [List.getElem?_append_left (by simpa using hi), List.getElem?_map] at e
    rw [List.getElem?_append_left (by simpa [hl] using hi), List.getElem?_map]
    cases q : ds[i]? with
    | none => rw [q] at e; cases e
    | some d' =>
      rw [q] at e
      cases e
      obtain ⟨v, h1, h2⟩ := r.get q
      exact ⟨v, by rw [h1]; rfl, h2⟩
  · rw [List.getElem?_append_right (by simpa using hi), List.getElem?_replicate] at e
    split at e <;> cases e
theorem fn_ok {P : Program} {w : World} {K : PySem.W.Frag} {mg : Str → Option Value} {base : Heap} {x qual : Str} {sd : Stmt} {f : Addr} {fd : FuncData} {N ps : List Str} {k : Nat} {Pr : List D → Mem → D → Mem → Prop} (F : Fun K x qual sd f fd) (S : FnScope N ps (defScope sd))
    (len : ∀ ds M d M', Pr ds M d M' → ds.length = ps.length)
    (hb : ∀ (cdv : Value) (A : Around) (outer : List Env) (s : Shared) (H : Hp) (E : XK) (ds : List D) (M : Mem) (d : D) (M' : Mem), Room k (A.deeper (envOfC qual (defScope sd) s.heap.objs.size f cdv)) → Pr ds M d M' →
      BV (cxOf CX0 P w K mg base N qual (defScope sd) f cdv A outer s H E).nox (defBody sd) (startD N ds) M (Fin d M')) : FnOk P w K mg base CX0 (k + 1) f fd ps (spD K Pr) := by
  refine F.ok S (fun vs H Q E ⟨G, ds, M, d, M', sh, r, p, q⟩ => by rw [r.len]; exact len _ _ _ _ p) fun cdv A outer s H vs Q E hr ⟨G, ds, M, d, M', sh, r, p, q⟩ => ?_
  refine ⟨_, hb cdv A outer s H E ds M d M' hr p, G, ⟨sh, start_rep r⟩, fun o ho => ?_⟩
  cases o with
  | ret d' M'' =>
    obtain ⟨rfl, hm⟩ := ho
    exact fun v G' H' g sh' r' => q v G' H' g (sh'.weak hm) r'
  | nx ρ M'' =>
    obtain ⟨rfl, hm⟩ := ho
    exact fun σ' G' H' g sa' => q .non G' H' g (sa'.sh.weak hm) (.val _)
  | bk _ _ => exact ho.elim
  | ct _ _ => exact ho.elim
theorem cal_of {P : Program} {w : World} {K : PySem.W.Frag} {mg : Str → Option Value} {base : Heap} {x qual : Str} {sd : Stmt} {f : Addr} {fd : FuncData} {N ps : List Str} {k : Nat} {Pr : List D → Mem → D → Mem → Prop} (F : Fun K x qual sd f fd) (S : FnScope N ps (defScope sd)) (hm : mg x = some (.ref f))
    (hbind : ∀ (kV doc pm : Value) (an : Option Addr) (cdv ct : Value) (us : List Value), us.length = ps.length → bindArgs (PySem.W.fnOf x qual (defArgs sd) (defBody sd) (defScope sd) .none kV doc pm an cdv ct) ⟨us, []⟩ = pure (ps.zip us))
    (len : ∀ ds M d M', Pr ds M d M' → ds.length = ps.length)
    (hb : ∀ (cdv : Value) (A : Around) (outer : List Env) (s : Shared) (H : Hp) (E : XK) (ds : List D) (M : Mem) (d : D) (M' : Mem), Room k (A.deeper (envOfC qual (defScope sd) s.heap.objs.size f cdv)) → Pr ds M d M' →
      BV (cxOf CX0 P w K mg base N qual (defScope sd) f cdv A outer s H E).nox (defBody sd) (startD N ds) M (Fin d M')) : Cal P w K mg base (k + 1) x (spD K Pr) :=
  ⟨f, fd, ps, hm, F.kp, F.binds hbind, fn_ok F S len hb⟩

/-! ### a list or a tuple -/
def sq (b : Bool) (ds : List D) : D := if b = true then .lst ds else .tup ds

/-! ### isinstance, is None, abs, texts of ints -/
theorem rs_eqI {i j : Int} : RS rEq (.int i) (.int j) (.bl (decide (i = j))) := fun H Q q => ⟨rfl, by
  have e : decide (V.int i = V.int j) = decide (i = j) := decide_eq_decide.mpr ⟨fun h => by cases h; rfl, fun h => by rw [h]⟩
  rw [e]; exact q⟩
theorem rs_neI {i j : Int} : RS rNe (.int i) (.int j) (.bl (!decide (i = j))) := fun H Q q => ⟨rfl, by
  have e : decide (V.int i = V.int j) = decide (i = j) := decide_eq_decide.mpr ⟨fun h => by cases h; rfl, fun h => by rw [h]⟩
  rw [e]; exact q⟩
theorem rs_eqS {i j : Str} : RS rEq (.str i) (.str j) (.bl (decide (i = j))) := fun H Q q => ⟨rfl, by
  have e : decide (V.str i = V.str j) = decide (i = j) := decide_eq_decide.mpr ⟨fun h => by cases h; rfl, fun h => by rw [h]⟩
  rw [e]; exact q⟩
theorem rs_neS {i j : Str} : RS rNe (.str i) (.str j) (.bl (!decide (i = j))) := fun H Q q => ⟨rfl, by
  have e : decide (V.str i = V.str j) = decide (i = j) := decide_eq_decide.mpr ⟨fun h => by cases h; rfl, fun h => by rw [h]⟩
  rw [e]; exact q⟩
theorem rs_eqB {i j : Bool} : RS rEq (.bl i) (.bl j) (.bl (decide (i = j))) := fun H Q q => ⟨rfl, by
  have e : decide (V.bl i = V.bl j) = decide (i = j) := decide_eq_decide.mpr ⟨fun h => by cases h; rfl, fun h => by rw [h]⟩
  rw [e]; exact q⟩
theorem ru_neg {i : Int} : RU (rU fun i => .int (-i)) (.int i) (.int (-i)) := fun H Q q => ⟨i, rfl, q⟩
theorem cm_l {i j : Int} (h1 : -(2 ^ 64) < i) (h2 : i < 2 ^ 64) : CMul i j := .inl ⟨h1, h2⟩
theorem cm_r {i j : Int} (h1 : -(2 ^ 64) < j) (h2 : j < 2 ^ 64) : CMul i j := .inr ⟨h1, h2⟩
/-- the kind of a tree: isinstance's left side -/
def tyD : D → Option String
  | .val .non => some "NoneType"
  | .val (.bl _) => some "bool"
  | .val (.int _) => some "int"
  | .val (.str _) => some "str"
  | .val _ => none
  | .tup _ => some "tuple"
  | .lst _ => some "list"
  | .dic => some "dict"
theorem tyx_of {K : PySem.W.Frag} {G H : Hp} {v : V} {d : D} {t : String} (e : Same G H) (r : Rep K G v d) (h : tyD d = some t) : TyX K H v (.type t) := by
  cases r with
  | val v =>
    cases v with
    | non => cases h; exact .base .non
    | bl b => cases h; exact .base (.bl b)
    | int i => cases h; exact .base (.int i)
    | str z => cases h; exact .base (.str z)
    | _ => cases h
  | tup q _ =>
    cases h
    rcases sqtUp e q with (q | ⟨o, q⟩) | ⟨o, its, n, q, c, _⟩
    · exact .base (.tup q)
    · exact .fTuple q
    · exact .kTuple q c
  | lst q _ =>
    cases h
    rcases sqlUp e q with (q | ⟨o, q⟩) | ⟨o, its, n, q, c, _⟩
    · exact .base (.lst q)
    · exact .base (.frz q)
    · exact .kList q c
  | dic q =>
    cases h
    exact .base (.dK (e _ _ q))
/-- isinstance(a, T), T a built-in type -/
theorem ev_isi {x : Str} {T t : String} {r : Bool} {p p2 : Pos} (hm : X.mg "isinstance" = none) (hT : X.mg x = none) (hv : bootBuiltins x = some (.type T)) (ha : EV X a ρ M d M1) (ht : tyD d = some t) (hk : kitB t T = some r) (hg : Gl X "isinstance" := by rfl) (hgT : Gl X x := by rfl)
    (hn : x ≠ "__name__" := by decide) (hd : (x == ("__debug__" : Str)) = false := by decide)
    (h1 : starEach [a, .Name x p2] X.env = (false, eval a X.env) :: starEach [.Name x p2] X.env := by rfl) (h2 : starEach [.Name x p2] X.env = (false, eval (.Name x p2) X.env) :: starEach [] X.env := by rfl) (hpl : (backTo pos (starEach [.Name x p2] X.env)).any (·.1) = false := by rfl) :
    EV X (.Call (.Name "isinstance" p) [a, .Name x p2] [] pos) ρ M (dB r) M1 :=
  (pe_callB call_isi hg hm boot_isinstance (pa_cons ha (pa_cons (pe_bltn (v := .ty T) hgT hT hv rfl hn hd) pa_nil h2) h1) (hpl := hpl) (he := h1)).mono fun σ H Q ⟨G, sa, k⟩ => ⟨G, sa, fun v1 G1 H1 g1 sh1 r1 => 
    ⟨v1, .ty T, .type t, .type T, r, rfl, .ty T, tyx_of sh1.le r1 ht, kit_ty hk, k _ G1 H1 g1 sh1 (.val _)⟩⟩
theorem ev_isN {j} {v : V} {p2 : Pos} (ha : EV X a ρ M (.val v) M1) : EV X (.Compare a [.Is] [.Constant .none j p2] pos) ρ M (dB (decide (v = .non))) M1 :=
  (pe_cmp (pc_isN ha)).mono fun σ H Q ⟨G, sa, k⟩ => ⟨G, sa, fun v1 G1 H1 g1 sh1 r1 => by rw [r1.of_val]; exact k _ G1 H1 g1 sh1 (.val _)⟩
theorem tv_isN {j} {v : V} {p2 : Pos} (ha : EV X a ρ M (.val v) M1) : TV X (.Compare a [.Is] [.Constant .none j p2] pos) ρ M (decide (v = .non)) M1 :=
  (pt_cmp (pc_isN ha)).mono fun σ H Q ⟨G, sa, k⟩ => ⟨G, sa, fun v1 G1 H1 g1 sh1 r1 => by rw [r1.of_val]; exact ⟨_, rfl, k G1 H1 g1 sh1⟩⟩
theorem tv_isND {j} {b : Bool} {p2 : Pos} (ha : EV X a ρ M d M1) (h : ∀ v, d ≠ .val v) : TV X (.Compare a [.Is] [.Constant .none j p2] pos) ρ M false M1 :=
  (pt_cmp (pc_isN ha)).mono fun σ H Q ⟨G, sa, k⟩ => ⟨G, sa, fun v1 G1 H1 g1 sh1 r1 => by
    cases r1 with
    | val _ => exact absurd rfl (h _)
    | tup _ _ => exact ⟨_, rfl, k G1 H1 g1 sh1⟩
    | lst _ _ => exact ⟨_, rfl, k G1 H1 g1 sh1⟩
    | dic _ => exact ⟨_, rfl, k G1 H1 g1 sh1⟩⟩

/-! ### lists -/
/-- list(x) of a tree: a new list that stands as it is -/
theorem ev_listL {b : Bool} {p : Pos} (hm : X.mg "list" = none) (ha : EV X e ρ M (sq b ds) M1) (hg : Gl X "list" := by rfl) (hst : starEach [e] X.env = [(false, eval e X.env)] := by rfl) : EV X (.Call (.Name "list" p) [e] [] pos) ρ M (.lst ds) M1 :=
  (pe_callTy call_list_of hg hm boot_list (av_cons ha av_nil hst) (he := hst)).mono fun σ H Q ⟨G, sa, k⟩ => ⟨G, sa, fun vs' G1 H1 g1 sh1 r1 => by
    cases r1 with
    | cons h t =>
      cases t
      cases b with
      | true =>
        cases (show Rep X.K G1 _ (.lst ds) from h) with
        | lst q r => exact ⟨_, _, rfl, .inl (sqlUp sh1.le q), fun l hl => by
            obtain ⟨sh2, g2⟩ := sh1.new (o := .lst _) hl
            exact k _ _ _ (g1.trans g2) sh2 (.lst (.inl (.inl upd_same)) (r.up g2))⟩
      | false =>
        cases (show Rep X.K G1 _ (.tup ds) from h) with
        | tup q r => exact ⟨_, _, rfl, .inr (sqtUp sh1.le q), fun l hl => by
            obtain ⟨sh2, g2⟩ := sh1.new (o := .lst _) hl
            exact k _ _ _ (g1.trans g2) sh2 (.lst (.inl (.inl upd_same)) (r.up g2))⟩⟩
/-- tuple(x) of a tree -/
theorem ev_tupOf {b : Bool} {p : Pos} (hm : X.mg "tuple" = none) (ha : EV X e ρ M (sq b ds) M1) (hg : Gl X "tuple" := by rfl) (hst : starEach [e] X.env = [(false, eval e X.env)] := by rfl) : EV X (.Call (.Name "tuple" p) [e] [] pos) ρ M (.tup ds) M1 :=
  (pe_callTy call_tuple_of hg hm boot_tuple (av_cons ha av_nil hst) (he := hst)).mono fun σ H Q ⟨G, sa, k⟩ => ⟨G, sa, fun vs' G1 H1 g1 sh1 r1 => by
    cases r1 with
    | cons h t =>
      cases t
      cases b with
      | true =>
        cases (show Rep X.K G1 _ (.lst ds) from h) with
        | lst q r => exact ⟨_, _, rfl, .inl ⟨sqlUp sh1.le q, fun l hl => by
            obtain ⟨sh2, g2⟩ := sh1.new (o := .tup _) hl
            exact k _ _ _ (g1.trans g2) sh2 (.tup (.inl (.inl upd_same)) (r.up g2))⟩⟩
      | false =>
        cases (show Rep X.K G1 _ (.tup ds) from h) with
        | tup q r => exact ⟨_, _, rfl, .inr ⟨sqtUp sh1.le q, k _ G1 H1 g1 sh1 (.tup q r)⟩⟩⟩
theorem ev_ixQ {b' : Bool} {i : Int} (ha : EV X a ρ M (sq b' ds) M1) (hb : EV X b ρ M1 (dI i) M2) (h : atI ds i = some d) (hs : PlainIx b := by (intro _ _; rfl)) : EV X (.Subscript a b pos) ρ M d M2 := by
  cases b' with
  | true => exact ev_ixL ha hb h hs
  | false => exact ev_ixT ha hb h hs
theorem ev_lenQ {b' : Bool} {p : Pos} (hm : X.mg "len" = none) (ha : EV X e ρ M (sq b' ds) M1) (hg : Gl X "len" := by rfl) (hst : starEach [e] X.env = [(false, eval e X.env)] := by rfl) : EV X (.Call (.Name "len" p) [e] [] pos) ρ M (dI ds.length) M1 := by
  cases b' with
  | true => exact ev_lenL hm ha hg hst
  | false => exact ev_lenT hm ha hg hst
/-- all(x) of a list of bools -/
theorem ev_all {bs : List Bool} {p : Pos} (hc : X.calm = true) (hm : X.mg "all" = none) (ha : EV X e ρ M (.lst (bs.map dB)) M1) (hg : Gl X "all" := by rfl) (hst : starEach [e] X.env = [(false, eval e X.env)] := by rfl) : EV X (.Call (.Name "all" p) [e] [] pos) ρ M (dB (bs.all id)) M1 :=
  (pe_callB (cr_all hc) hg hm boot_all (av_cons ha av_nil hst) (he := hst)).mono fun σ H Q ⟨G, sa, k⟩ => ⟨G, sa, fun vs' G1 H1 g1 sh1 r1 => by
    cases r1 with
    | cons h t =>
      cases t
      cases h with
      | lst q r =>
        have e : bs.map dB = (bs.map V.bl).map D.val := by rw [List.map_map] <;> rfl
        rw [e] at r
        rw [RepL.of_vals r] at q
        exact ⟨_, bs, rfl, sqlUp sh1.le q, k _ G1 H1 g1 sh1 (.val _)⟩⟩
/-- tuple + tuple -/
theorem ev_catT {es : List D} (ha : EV X a ρ M (.tup ds) M1) (hb : EV X b ρ M1 (.tup es) M2) (hl : ds.length + es.length ≤ sizeLine) : EV X (.BinOp a .Add b pos) ρ M (.tup (ds ++ es)) M2 :=
  (pe_op op_catA ha hb).mono fun σ H Q ⟨G, sa, k⟩ => ⟨G, sa, fun v1 G1 H1 g1 sh1 r1 => ⟨G1, ⟨sh1, sa.sl.up g1⟩, fun v2 G2 H2 g2 sh2 r2 => by
    cases r1 with
    | tup q r =>
      cases r2 with
      | tup q2 r2 =>
        have rr := r.up g2
        refine ⟨_, _, _, _, rfl, rfl, sqtUp sh2.le (sqtUp g2 q), sqtUp sh2.le q2, by rw [r.len, r2.len]; exact hl, fun e => ?_, fun _ e => ?_, fun _ _ p hp => ?_⟩
        · subst e
          cases rr
          exact k _ G2 H2 (g1.trans g2) sh2 (.tup q2 r2)
        · subst e
          cases r2
          rw [List.append_nil] at k
          exact k _ G2 H2 (g1.trans g2) sh2 (.tup (sqtUp g2 q) rr)
        · obtain ⟨sh3, g3⟩ := sh2.new (o := .tup _) hp
          exact k _ _ _ ((g1.trans g2).trans g3) sh3 (.tup (.inl (.inl upd_same)) ((rr.append r2).up g3))⟩⟩
/-- xs.append(e), xs a list of the memory -/
theorem sv_append {p : Addr} {ap cp : Pos} (ho : EV X a ρ M (dP p) M1) (ha : EV X e ρ M1 d M2) (hm1 : ∃ es, M1 p = some (.lst es)) (hm : M2 p = some (.lst ds)) (hl : ds.length < sizeLine) (hΨ : Ψ (.nx ρ (M2.set p (.lst (ds ++ [d])))))
    (h1 : attributeBase a "append" X.env (eval a X.env) = eval a X.env := by rfl) (h3 : (ap.endLine == cp.line) = true := by decide) (h4 : starEach [e] X.env = (false, eval e X.env) :: starEach [] X.env := by rfl)
    (h2 : (((((backTo cp (starEach [e] X.env)).all fun x => !x.fst) && (backToKw cp (keywordEach [] X.env)).all fun x => x.fst.isSome) && decide (([e].length + ([] : List Keyword).length + if ([] : List Keyword).isEmpty = true then 0 else 1) < 30)) = true) := by rfl)
    (h5 : (((backTo cp (starEach [] X.env)).any fun x => x.fst) = false) := by rfl)
    (hs : swapsWith (.Call (.Attribute a "append" ap) [e] [] cp) none pos.line X.env = pure false := by rfl) : SV X (.Expr (.Call (.Attribute a "append" ap) [e] [] cp) pos) ρ M Ψ :=
  (ps_expr (pe_bm PySem.F.plainAttrs_list PySem.F.slot_list_append PySem.F.type_list_append mt_append ho (av_cons ha av_nil h4) h1 h2 h3 h4 h5) hs).mono fun E σ H ⟨G, sa, k⟩ => ⟨G, sa, fun v1 G1 H1 g1 sh1 r1 => by
    obtain ⟨es, hes⟩ := hm1
    obtain ⟨_, vs1, hv1, _⟩ := sh1.mem p _ hes
    rw [r1.of_val]
    refine ⟨.inl ⟨rfl, _, .inl (.inl hv1)⟩, G1, ⟨sh1, sa.sl.up g1⟩, fun vs G2 H2 g2 sh2 r2 => ?_⟩
    cases r2 with
    | cons r2 t =>
      cases t
      obtain ⟨_, vs2, hv2, rl⟩ := sh2.mem p _ hm
      exact ⟨p, vs2, _, rfl, rfl, hv2, by rw [rl.len]; exact hl, k _ hΨ σ G2 _ (g1.trans g2) ⟨sh2.put hm (rl.append (.cons r2 .nil)), (sa.sl.up g1).up g2⟩⟩⟩
/-- xs.pop(i) -/
theorem ev_pop {p : Addr} {i : Nat} {ap : Pos} (ho : EV X a ρ M (dP p) M1) (ha : EV X e ρ M1 (dI i) M2) (hm1 : ∃ es, M1 p = some (.lst es)) (hm : M2 p = some (.lst ds)) (hi : ds[i]? = some d)
    (h1 : attributeBase a "pop" X.env (eval a X.env) = eval a X.env := by rfl) (h3 : (ap.endLine == pos.line) = true := by decide) (h4 : starEach [e] X.env = (false, eval e X.env) :: starEach [] X.env := by rfl)
    (h2 : (((((backTo pos (starEach [e] X.env)).all fun x => !x.fst) && (backToKw pos (keywordEach [] X.env)).all fun x => x.fst.isSome) && decide (([e].length + ([] : List Keyword).length + if ([] : List Keyword).isEmpty = true then 0 else 1) < 30)) = true) := by rfl)
    (h5 : (((backTo pos (starEach [] X.env)).any fun x => x.fst) = false) := by rfl) (hz : ds.length < 2 ^ 62) : EV X (.Call (.Attribute a "pop" ap) [e] [] pos) ρ M d (M2.set p (.lst (ds.eraseIdx i))) :=
  (pe_bm PySem.F.plainAttrs_list PySem.F.slot_list_pop PySem.F.type_list_pop mt_popAt ho (av_cons ha av_nil h4) h1 h2 h3 h4 h5).mono fun σ H Q ⟨G, sa, k⟩ => ⟨G, sa, fun v1 G1 H1 g1 sh1 r1 => by
    obtain ⟨es, hes⟩ := hm1
    obtain ⟨_, vs1, hv1, _⟩ := sh1.mem p _ hes
    rw [r1.of_val]
    refine ⟨.inl ⟨rfl, _, .inl (.inl hv1)⟩, G1, ⟨sh1, sa.sl.up g1⟩, fun vs G2 H2 g2 sh2 r2 => ?_⟩
    rw [RepL.of_vals (xs := [.int i]) r2]
    obtain ⟨_, vs2, hv2, rl⟩ := sh2.mem p _ hm
    obtain ⟨v, hv, rv⟩ := rl.get hi
    have hlt : i < vs2.length := (List.getElem?_eq_some_iff.mp hv).1
    have hll := rl.len
    refine ⟨p, vs2, i, i, v, rfl, rfl, hv2, by omega, by omega, ?_, hv, k _ G2 _ (g1.trans g2) (sh2.put hm (rl.erase i)) rv⟩
    unfold seqIndex?
    have e1 : ¬ ((i : Int) < 0) := by omega
    simp only [e1, if_false]
    rw [if_pos (by simp only [Bool.and_eq_true, decide_eq_true_eq]; omega)]
    rfl⟩
/-- xs[i] = e -/
theorem sv_setItem {p : Addr} {i : Nat} {tp : Pos} (he : EV X e ρ M d M1) (ho : EV X a ρ M1 (dP p) M2) (hi : EV X b ρ M2 (dI i) M3) (hm : M3 p = some (.lst ds)) (hlt : i < ds.length) (hΨ : Ψ (.nx ρ (M3.set p (.lst (ds.set i d)))))
    (ha : ∀ v, assign (.Subscript a b tp) X.env v = (do
      let ov ← holding [v] (eval a X.env)
      let iv ← holding [v, ov] (eval b X.env)
      standAt tp
      holding [v, ov, iv] (setItem ov iv v)
      release [v, ov, iv] []) := by intro _; rfl)
    (hs : swapsWithSole [.Subscript a b tp] e pos.line X.env = pure false := by rfl) (hw : swappedStores [.Subscript a b tp] e X.env = pure none := by rfl)
    (h1 : (assignEach [.Subscript a b tp] X.env).map (·.2) = [assign (.Subscript a b tp) X.env] := by rfl) : SV X (.Assign [.Subscript a b tp] e pos) ρ M Ψ :=
  (ps_asg he (pg_sub ho hi set_list ha) hs hw h1).mono fun E σ H ⟨G, sa, k⟩ => ⟨G, sa, fun v G1 H1 g1 sh1 r1 => ⟨G1, ⟨sh1, sa.sl.up g1⟩, fun v2 G2 H2 g2 sh2 r2 => ⟨G2, ⟨sh2, (sa.sl.up g1).up g2⟩, fun v3 G3 H3 g3 sh3 r3 => by
    obtain ⟨_, vs, hv, rl⟩ := sh3.mem p _ hm
    refine ⟨p, vs, i, i, r2.of_val, r3.of_val, hv, ?_, k _ hΨ σ G3 _ ((g1.trans g2).trans g3) ⟨sh3.put hm (rl.set ((r1.up g2).up g3) i), ((sa.sl.up g1).up g2).up g3⟩⟩
    have hl := rl.len
    unfold ixN
    rw [if_pos (by omega), if_pos (by omega)]
    simp⟩⟩⟩

/-! ### targets -/
/-- g stores d: the slots are ρ' then -/
def TG1 (K : PySem.W.Frag) (g : TG) (ρ : Sl) (d : D) (ρ' : Sl) : Prop := ∀ v σ G H Q, Same G H → RepS K G σ ρ → Rep K G v d → (∀ σ', RepS K G σ' ρ' → Q σ' H) → g v σ H Q
def TG2 (K : PySem.W.Frag) (g : TGs) (ρ : Sl) (ds : List D) (ρ' : Sl) : Prop := ∀ vs σ G H Q, Same G H → RepS K G σ ρ → RepL K G vs ds → (∀ σ', RepS K G σ' ρ' → Q σ' H) → g vs σ H Q
variable {K : PySem.W.Frag} {ρ' ρ'' : Sl} {g : TG} {gs : TGs}
theorem tg_name {i : Nat} : TG1 K (gName i) ρ d (ρ.set i (some d)) := fun v σ G H Q e h r k => k _ (h.set i r)
theorem tg_nil : TG2 K gNil ρ [] ρ := fun vs σ G H Q e h r k => by
  cases r
  exact ⟨rfl, k σ h⟩
theorem tg_cons (h1 : TG1 K g ρ d ρ') (h2 : TG2 K gs ρ' ds ρ'') : TG2 K (gCons g gs) ρ (d :: ds) ρ'' := fun vs σ G H Q e h r k => by
  cases r with
  | cons r t => exact ⟨_, _, rfl, h1 _ σ G H _ e h r fun σ' h' => h2 _ σ' G H _ e h' t k⟩
theorem tg_tup {n : Nat} (h : TG2 K gs ρ ds ρ') (hl : ds.length = n := by rfl) : TG1 K (gTup K n gs) ρ (.tup ds) ρ' := fun v σ G H Q e h0 r k => by
  cases r with
  | tup q r => exact ⟨_, _, rfl, sqtUp e q, r.len.trans hl, h _ σ G H _ e h0 r k⟩
theorem tg_lst {n : Nat} (h : TG2 K gs ρ ds ρ') (hl : ds.length = n := by rfl) : TG1 K (gUnl K n gs) ρ (.lst ds) ρ' := fun v σ G H Q e h0 r k => by
  cases r with
  | lst q r => exact ⟨_, _, rfl, sqlUp e q, r.len.trans hl, h _ σ G H _ e h0 r k⟩
/-- target = e -/
theorem sv_asg {tg : Expr} (he : EV X e ρ M d M1) (hg : PG X tg g) (ht : TG1 X.K g ρ d ρ') (hΨ : Ψ (.nx ρ' M1)) (hs : swapsWithSole [tg] e pos.line X.env = pure false := by rfl) (hw : swappedStores [tg] e X.env = pure none := by rfl)
    (h1 : (assignEach [tg] X.env).map (·.2) = [assign tg X.env] := by rfl) : SV X (.Assign [tg] e pos) ρ M Ψ :=
  (ps_asg he hg hs hw h1).mono fun E σ H ⟨G, sa, k⟩ => ⟨G, sa, fun v G1 H1 g1 sh1 r1 => ht v σ G1 H1 _ sh1.le (sa.sl.up g1) r1 fun σ' h' => k _ hΨ σ' G1 H1 g1 ⟨sh1, h'⟩⟩

/-! ### what is walked -/
def JW (K : PySem.W.Frag) (J : It) (G : Hp) (ds : List D) : Prop := ∀ (i : Nat) H, Same G H → (∀ d, ds[i]? = some d → J.go i H ∧ ∀ x H', J.yld i H x H' → H' = H ∧ Rep K G x d) ∧ (ds.length ≤ i → J.stop i H)
def tI (K : PySem.W.Frag) (ρ : Sl) (M : Mem) (ds : List D) (M1 : Mem) : TI := fun σ H R => ∃ G, SA K G H σ ρ M ∧ ∀ J G' H', Same G G' → SH K G' H' M1 → JW K J G' ds → R J H'
abbrev IV (X : Cx) (tg iter : Expr) (ρ : Sl) (M : Mem) (ds : List D) (M1 : Mem) : Prop := PI X tg iter (tI X.K ρ M ds M1)
theorem _root_.L2.PI.mono {tg iter : Expr} {t t' : TI} (h : PI X tg iter t) (i : ∀ σ H R, t' σ H R → t σ H R) : PI X tg iter t' := ⟨fun pins s σ H R I q => h.run pins s σ H R I (i σ H R q)⟩
theorem JW.range {lo : Int} {n : Nat} {G : Hp} : JW K (Itr lo n) G ((List.range n).map fun i => dI (lo + (i : Nat))) := fun i H e => ⟨fun d h => by
    rw [List.getElem?_map] at h
    have hi : i < n := by
      rcases Nat.lt_or_ge i n with q | q
      · exact q
      · rw [List.getElem?_eq_none (by simpa using q)] at h; cases h
    rw [List.getElem?_range hi] at h
    cases h
    exact ⟨hi, fun x H' ⟨e1, e2⟩ => ⟨e1, by rw [e2]; exact .val _⟩⟩, fun h => by
    rw [List.length_map, List.length_range] at h
    exact h⟩
theorem JW.list {p : Addr} {vs : List V} {G : Hp} (q : SqL K G p vs) (r : RepL K G vs ds) : JW K (Itl K p) G ds := fun i H e => ⟨fun d h => by
    obtain ⟨v, hv, rv⟩ := r.get h
    exact ⟨⟨vs, v, sqlUp e q, hv⟩, fun x H' ⟨e1, e2⟩ => ⟨e1, by
      have := e2 vs (sqlUp e q)
      rw [hv] at this
      cases this
      exact rv⟩⟩, fun h => ⟨vs, sqlUp e q, by rw [r.len]; exact h⟩⟩
theorem JW.tup {p : Addr} {vs : List V} {G : Hp} (q : SqT K G p vs) (r : RepL K G vs ds) : JW K (Itt K p) G ds := fun i H e => ⟨fun d h => by
    obtain ⟨v, hv, rv⟩ := r.get h
    exact ⟨⟨vs, v, sqtUp e q, hv⟩, fun x H' ⟨e1, e2⟩ => ⟨e1, by
      have := e2 vs (sqtUp e q)
      rw [hv] at this
      cases this
      exact rv⟩⟩, fun h => ⟨vs, sqtUp e q, by rw [r.len]; exact h⟩⟩
theorem iv_list {tg : Expr} (h : EV X e ρ M (.lst ds) M1) : IV X tg e ρ M ds M1 :=
  (pi_list h).mono fun σ H R ⟨G, sa, k⟩ => ⟨G, sa, fun v G1 H1 g1 sh1 r1 => by
    cases r1 with
    | lst q r => exact ⟨_, rfl, ⟨_, sqlUp sh1.le q⟩, k _ G1 H1 g1 sh1 (JW.list q r)⟩⟩
theorem iv_tup {tg : Expr} (h : EV X e ρ M (.tup ds) M1) : IV X tg e ρ M ds M1 :=
  (pi_tup h).mono fun σ H R ⟨G, sa, k⟩ => ⟨G, sa, fun v G1 H1 g1 sh1 r1 => by
    cases r1 with
    | tup q r => exact ⟨_, rfl, ⟨_, sqtUp sh1.le q⟩, k _ G1 H1 g1 sh1 (JW.tup q r)⟩⟩
def rgD (lo : Int) (n : Nat) : List D := (List.range n).map fun i => dI (lo + (i : Nat))
theorem rgD_len {lo : Int} {n : Nat} : (rgD lo n).length = n := by unfold rgD; rw [List.length_map, List.length_range]
theorem rgD_get {lo : Int} {n i : Nat} {d : D} (h : (rgD lo n)[i]? = some d) : i < n ∧ d = dI (lo + (i : Nat)) := by
  have hi : i < n := by
    rcases Nat.lt_or_ge i n with q | q
    · exact q
    · rw [List.getElem?_eq_none (by rw [rgD_len]; exact q)] at h; cases h
  unfold rgD at h
  rw [List.getElem?_map, List.getElem?_range hi] at h
  cases h
  exact ⟨hi, rfl⟩
theorem iv_range1 {tg : Expr} {j : Int} {p : Pos} (hm : X.mg "range" = none) (h : EV X e ρ M (dI j) M1) (hj : -(2 ^ 62) ≤ j ∧ j < 2 ^ 62) (hg : Gl X "range" := by rfl) (hst : starEach [e] X.env = [(false, eval e X.env)] := by rfl) : IV X tg (.Call (.Name "range" p) [e] [] pos) ρ M (rgD 0 j.toNat) M1 :=
  (pi_range1 hg hm (av_cons h av_nil hst) hst).mono fun σ H R ⟨G, sa, k⟩ => ⟨G, sa, fun vs G1 H1 g1 sh1 r1 => by
    rw [RepL.of_vals (xs := [.int j]) r1]
    exact ⟨j, rfl, hj.1, hj.2, k _ G1 H1 g1 sh1 JW.range⟩⟩
theorem iv_range2 {tg : Expr} {i j : Int} {p : Pos} (hm : X.mg "range" = none) (ha : EV X a ρ M (dI i) M1) (hb : EV X b ρ M1 (dI j) M2) (hj : -(2 ^ 62) ≤ i ∧ i < 2 ^ 62 ∧ -(2 ^ 62) ≤ j ∧ j < 2 ^ 62) (hg : Gl X "range" := by rfl)
    (hst : starEach [a, b] X.env = [(false, eval a X.env), (false, eval b X.env)] := by rfl) (hs2 : starEach [b] X.env = [(false, eval b X.env)] := by rfl) : IV X tg (.Call (.Name "range" p) [a, b] [] pos) ρ M (rgD i (j - i).toNat) M2 :=
  (pi_range2 hg hm (av_cons ha (av_cons hb av_nil hs2) (by rw [hst, hs2])) hst hs2).mono fun σ H R ⟨G, sa, k⟩ => ⟨G, sa, fun vs G1 H1 g1 sh1 r1 => by
    rw [RepL.of_vals (xs := [.int i, .int j]) r1]
    exact ⟨i, j, rfl, hj, k _ G1 H1 g1 sh1 JW.range⟩⟩

/-! ### for -/
def loopR (Inv : Nat → Sl → Mem → Prop) (Ψ : Out → Prop) (i : Nat) : Out → Prop
  | .nx ρ M => Inv (i + 1) ρ M
  | .ct ρ M => Inv (i + 1) ρ M
  | .bk ρ M => Ψ (.nx ρ M)
  | .ret d M => Ψ (.ret d M)
theorem sv_for {tg iter : Expr} {body : List Stmt} (hc : X.calm = true) (hi : IV X tg iter ρ M ds M1) (hg : PG X tg g) (Iv : Nat → Sl → Mem → Prop) (start : Iv 0 ρ M1)
    (step : ∀ i d ρ' M', ds[i]? = some d → Iv i ρ' M' → ∃ ρ'', TG1 X.K g ρ' d ρ'' ∧ BV X body ρ'' M' (loopR Iv Ψ i)) (done : ∀ ρ' M', Iv ds.length ρ' M' → Ψ (.nx ρ' M'))
    (hp : PassesOwn (model X.prog X.w) X.A X.env X.xe := by exact PassesOwn.never) (hs : ∀ x, foldedSetIterable iter X.env x = pure x := by intro _; rfl) : SV X (.For tg iter body [] pos) ρ M Ψ := by
  refine (ps_for (tb := fun E σ H => ∃ ρ M Ψ', BV X body ρ M Ψ' ∧ tS X.K ρ M Ψ' E σ H) hp hc hi hg ⟨fun pins s σ H E I ⟨ρ', M', Ψ', hb, q⟩ => hb.run pins s σ H E I q⟩ hs).mono fun E σ H ⟨G, sa, k⟩ => ⟨G, sa, fun J G1 H1 g1 sh1 jw => ?_⟩
  refine ⟨fun i m σ H => m = ds.length - i ∧ i ≤ ds.length ∧ ∃ G ρ M, Same G1 G ∧ SA X.K G H σ ρ M ∧ Iv i ρ M, ⟨ds.length, by simp, Nat.zero_le _, G1, ρ, M1, Same.refl _, ⟨sh1, sa.sl.up g1⟩, start⟩, ?_⟩
  rintro i m σ2 H2 ⟨rfl, hi, G2, ρ2, M2, g2, sa2, iv⟩
  obtain ⟨j1, j2⟩ := jw i H2 (g2.trans sa2.sh.le)
  by_cases hlt : i < ds.length
  · have hd : ds[i]? = some ds[i] := List.getElem?_eq_getElem hlt
    obtain ⟨go, yl⟩ := j1 _ hd
    refine .inr ⟨go, fun σ3 H3 => ∃ G ρ M, Same G1 G ∧ SA X.K G H3 σ3 ρ M ∧ Iv (i + 1) ρ M, fun σ' H' p' => ⟨ds.length - (i + 1), by omega, rfl, hlt, p'⟩, fun x H' y => ?_⟩
    obtain ⟨e, rx⟩ := yl x H' y
    subst e
    obtain ⟨ρ3, tg3, bv⟩ := step i _ ρ2 M2 hd iv
    refine tg3 x σ2 G2 H' _ sa2.sh.le sa2.sl (rx.up g2) fun σ3 rs3 => ⟨ρ3, M2, _, bv, G2, ⟨sa2.sh, rs3⟩, fun o ho => ?_⟩
    cases o with
    | nx ρ4 M4 => exact fun σ4 G4 H4 g4 sa4 => ⟨G4, ρ4, M4, g2.trans g4, sa4, ho⟩
    | ct ρ4 M4 => exact fun σ4 G4 H4 g4 sa4 => ⟨G4, ρ4, M4, g2.trans g4, sa4, ho⟩
    | bk ρ4 M4 => exact fun σ4 G4 H4 g4 sa4 => k _ ho σ4 G4 H4 ((g1.trans g2).trans g4) sa4
    | ret d4 M4 => exact fun v G4 H4 g4 sh4 r4 => k _ ho v G4 H4 ((g1.trans g2).trans g4) sh4 r4
  · have e : i = ds.length := by omega
    subst e
    exact .inl ⟨j2 (Nat.le_refl _), k _ (done ρ2 M2 iv) σ2 G2 H2 (g1.trans g2) sa2⟩

/-! ### a list comprehension (one clause, no test) -/
def wipeD (ρ : Sl) : List Nat → Sl
  | [] => ρ
  | v :: vs => (wipeD ρ vs).set v none
theorem wipe_rep {G : Hp} {σ : L2.St} (h : RepS K G σ ρ) : ∀ vs, RepS K G (wipe σ vs) (wipeD ρ vs)
  | [] => h
  | v :: vs => (wipe_rep h vs).none v
/-- g stores d in slots that are the block's own -/
def TGb (K : PySem.W.Frag) (g : TG) (vs : List Nat) (ρ : Sl) (d : D) (ρ' : Sl) : Prop := ∀ v σ G H Q, Same G H → RepS K G (wipe σ vs) ρ → Rep K G v d → (∀ σ', RepS K G σ' ρ' → wipe σ' vs = wipe σ vs → Q σ' H) → g v (wipe σ vs) H Q
theorem tgb_name {i : Nat} : TGb K (gName i) [i] ρ d (ρ.set i (some d)) := fun v σ G H Q e h r k => k _ (h.set i r) (by
  show ((wipe σ [i]).set i (some v)).set i none = (wipe σ [i])
  show ((σ.set i none).set i (some v)).set i none = σ.set i none
  rw [List.set_set, List.set_set])
/-- the reading of a list comprehension -/
theorem lc_read {elt tg iter : Expr} {scope : Scope} {own : List (Str × Nat)}
    (f : Nat → D) (m : Nat → Mem) (h0 : m 0 = M1) (hm : ∀ i p, M1 p = none → m i p = none) (hlen : ds.length ≤ sizeLine)
    (step : ∀ i d, ds[i]? = some d → ∃ ρ', TGb X.K g (own.map (·.2)) (wipeD ρ (own.map (·.2))) d ρ' ∧ ∀ (p : Addr) (acc : List D), M1 p = none → ∀ (s : Shared) (H : Hp) (C : Addr) (cl : List (Str × Addr)) (fp : List Addr),
      EV (X.blk s H scope (compEnvC scope cl C X.env) fp) elt ρ' ((m i).set p (.lst acc)) (f i) ((m (i + 1)).set p (.lst acc))) (σ : L2.St) (H : Hp) (Q : VK) (h : tE X.K ρ M (.lst ((List.range ds.length).map f)) (m ds.length) σ H Q) :
    tLc (tI X.K ρ M ds M1) g tYes (fun σ H Q => ∃ ρ' M' d' M'', (∀ (s : Shared) (H : Hp) (C : Addr) (cl : List (Str × Addr)) (fp : List Addr), EV (X.blk s H scope (compEnvC scope cl C X.env) fp) elt ρ' M' d' M'') ∧ tE X.K ρ' M' d' M'' σ H Q) (own.map (·.2)) σ H Q := by
  obtain ⟨G, sa, k⟩ := h
  refine ⟨G, sa, fun J G1 H1 g1 sh1 jw => fun p hp => ?_⟩
  obtain ⟨shp, mp, gp⟩ := sh1.newM hp (RepL.nil (K := X.K) (G := G1))
  refine ⟨fun i mm H => mm = ds.length - i ∧ i ≤ ds.length ∧ ∃ G, Same G1 G ∧ SH X.K G H ((m i).set p (.lst ((List.range i).map f))), ⟨ds.length, by simp, Nat.zero_le _, G1, Same.refl _, by rw [h0]; exact shp⟩, ?_⟩
  rintro i mm H2 ⟨rfl, hi, G2, g2, sh2⟩
  obtain ⟨j1, j2⟩ := jw i H2 (g2.trans sh2.le)
  by_cases hlt : i < ds.length
  · have hd : ds[i]? = some ds[i] := List.getElem?_eq_getElem hlt
    obtain ⟨go, yl⟩ := j1 _ hd
    refine .inr ⟨go, fun H3 => ∃ G, Same G1 G ∧ SH X.K G H3 ((m (i + 1)).set p (.lst ((List.range (i + 1)).map f))), fun H' p' => ⟨ds.length - (i + 1), by omega, rfl, hlt, p'⟩, fun x H' y => ?_⟩
    obtain ⟨e, rx⟩ := yl x H' y
    subst e
    obtain ⟨ρ3, tg3, ev⟩ := step i _ hd
    refine tg3 x σ G2 H' _ sh2.le (wipe_rep ((sa.sl.up g1).up g2) _) (rx.up g2) fun σ3 rs3 hw => ⟨hw, ?_⟩
    show ∃ ρ' M' d' M'', _ ∧ tE X.K ρ' M' d' M'' σ3 H' _
    refine ⟨ρ3, _, _, _, ev p _ mp, G2, ⟨sh2, rs3⟩, fun v G4 H4 g4 sh4 r4 => ?_⟩
    obtain ⟨_, vs, hv, rl⟩ := sh4.mem p _ Mem.set_same
    refine ⟨vs, hv, ?_, G4, g2.trans g4, ?_⟩
    · rw [rl.len, List.length_map, List.length_range]
      exact Nat.lt_of_lt_of_le hlt hlen
    · have q := sh4.put (ds := (List.range i).map f ++ [f i]) Mem.set_same (rl.append (.cons r4 .nil))
      rw [Mem.set_set] at q
      rw [List.range_succ, List.map_append]
      exact q
  · have e : i = ds.length := by omega
    subst e
    obtain ⟨vs, sh3, g3, rl⟩ := sh2.freeze (hm _ p mp)
    exact .inl ⟨j2 (Nat.le_refl _), k _ _ H2 ((g1.trans g2).trans g3) sh3 (.lst (.inl (.inl upd_same)) (rl.up g3))⟩
theorem ev_lc {elt tg iter : Expr} {scope : Scope} {own : List (Str × Nat)} (hc : X.calm = true) (hN : X.N.Nodup) (hi : IV X tg iter ρ M ds M1) (ok : BlkOk X.N X.env.scope scope own)
    (hg : ∀ (s : Shared) (H : Hp) (C : Addr) (cl : List (Str × Addr)) (fp : List Addr), PG (X.blk s H scope (compEnvC scope cl C X.env) fp) tg g)
    (f : Nat → D) (m : Nat → Mem) (h0 : m 0 = M1) (hm : ∀ i p, M1 p = none → m i p = none) (hlen : ds.length ≤ sizeLine)
    (step : ∀ i d, ds[i]? = some d → ∃ ρ', TGb X.K g (own.map (·.2)) (wipeD ρ (own.map (·.2))) d ρ' ∧ ∀ (p : Addr) (acc : List D), M1 p = none → ∀ (s : Shared) (H : Hp) (C : Addr) (cl : List (Str × Addr)) (fp : List Addr),
      EV (X.blk s H scope (compEnvC scope cl C X.env) fp) elt ρ' ((m i).set p (.lst acc)) (f i) ((m (i + 1)).set p (.lst acc)))
    (hs : ∀ x, foldedSetIterable iter X.env x = pure x := by intro _; rfl) : EV X (.ListComp elt [⟨tg, iter, [], 0⟩] scope pos) ρ M (.lst ((List.range ds.length).map f)) (m ds.length) :=
  (pe_lc hc hN hi ok hg (fun _ _ _ _ _ => pts_nil) (fun s H C cl fp => ⟨fun pins s' σ H' Q I ⟨ρ', M', d', M'', hb, q⟩ => (hb s H C cl fp).run pins s' σ H' Q I q⟩) hs).mono (lc_read (tg := tg) (iter := iter) f m h0 hm hlen step)
/-- y = [e for x in ..] -/
theorem sv_setLc (i : Nat) {y : Str} {py : Pos} {elt tg iter : Expr} {scope : Scope} {own : List (Str × Nat)} {spos : Pos} (hc : X.calm = true) (hN : X.N.Nodup) (hy : X.N[i]? = some y) (hl : X.env.scope.names.lookup y = some .local)
    (hw : swapsWith (.ListComp elt [⟨tg, iter, [], 0⟩] scope pos) (some (.Name y py)) spos.line X.env = pure true) (hi : IV X tg iter ρ M ds M1) (ok : BlkOk X.N X.env.scope scope own)
    (hg : ∀ (s : Shared) (H : Hp) (C : Addr) (cl : List (Str × Addr)) (fp : List Addr), PG (X.blk s H scope (compEnvC scope cl C X.env) fp) tg g)
    (f : Nat → D) (m : Nat → Mem) (h0 : m 0 = M1) (hm : ∀ i p, M1 p = none → m i p = none) (hlen : ds.length ≤ sizeLine)
    (step : ∀ i d, ds[i]? = some d → ∃ ρ', TGb X.K g (own.map (·.2)) (wipeD ρ (own.map (·.2))) d ρ' ∧ ∀ (p : Addr) (acc : List D), M1 p = none → ∀ (s : Shared) (H : Hp) (C : Addr) (cl : List (Str × Addr)) (fp : List Addr),
      EV (X.blk s H scope (compEnvC scope cl C X.env) fp) elt ρ' ((m i).set p (.lst acc)) (f i) ((m (i + 1)).set p (.lst acc)))
    (hΨ : Ψ (.nx (ρ.set i (some (.lst ((List.range ds.length).map f)))) (m ds.length))) (hs : ∀ x, foldedSetIterable iter X.env x = pure x := by intro _; rfl) : SV X (.Assign [.Name y py] (.ListComp elt [⟨tg, iter, [], 0⟩] scope pos) spos) ρ M Ψ :=
  (ps_setLc hc hN hy hl hw hi ok hg (fun _ _ _ _ _ => pts_nil) (fun s H C cl fp => ⟨fun pins s' σ H' Q I ⟨ρ', M', d', M'', hb, q⟩ => (hb s H C cl fp).run pins s' σ H' Q I q⟩) hs).mono fun E σ H ⟨G, sa, k⟩ =>
    lc_read (tg := tg) (iter := iter) f m h0 hm hlen step σ H _ ⟨G, sa, fun v G1 H1 g1 sh1 r1 => k _ hΨ _ G1 H1 g1 ⟨sh1, (sa.sl.up g1).set i r1⟩⟩
end
end Vt
namespace Vt
open PySem PySem.Spec PyProof.Rows L2
/-! ### new lists that may be changed -/
def tN (K : PySem.W.Frag) (ρ : Sl) (M : Mem) (ds : List D) (M' : Mem) : TE := fun σ H Q => ∃ G, SA K G H σ ρ M ∧ ∀ p G' H', Same G G' → M' p = none → SH K G' H' (M'.set p (.lst ds)) → Q (.ref p) H'
abbrev EN (X : Cx) (e : Expr) (ρ : Sl) (M : Mem) (ds : List D) (M' : Mem) : Prop := PE X e (tN X.K ρ M ds M')
def spN (K : PySem.W.Frag) (Pr : List D → Mem → List D → Mem → Prop) : Sp := fun vs H Q _ => ∃ G ds M es M', SH K G H M ∧ RepL K G vs ds ∧ Pr ds M es M' ∧ ∀ p G' H', Same G G' → M' p = none → SH K G' H' (M'.set p (.lst es)) → Q (.ref p) H'
theorem Mem.set_comm {M : Mem} {a b : Addr} {o u : MO} (h : a ≠ b) : (M.set a o).set b u = (M.set b u).set a o := by
  funext c
  unfold Mem.set
  by_cases h1 : c = a
  · by_cases h2 : c = b
    · exact absurd (h1.symm.trans h2) h
    · rw [if_neg h2, if_pos h1, if_pos h1]
  · by_cases h2 : c = b
    · rw [if_pos h2, if_neg h1, if_pos h2]
    · rw [if_neg h2, if_neg h1, if_neg h1, if_neg h2]
theorem mle_new {M M' : Mem} {p : Addr} {o : MO} (h : Mle M M') (hp : M p = none) : Mle M (M'.set p o) := fun b u e => by
  rw [Mem.set_ne (fun q => by rw [q, hp] at e; cases e)]
  exact h b u e
/-- what a def that makes a list promises, by its body -/
def FinN (es : List D) (M' : Mem) : Out → Prop
  | .ret d M'' => ∃ p, d = dP p ∧ M' p = none ∧ Mle (M'.set p (.lst es)) M''
  | _ => False
section
variable {X : Cx} {ρ : Sl} {M M1 M2 M3 : Mem} {a b c e : Expr} {es : List Expr} {d d1 d2 : D} {ds : List D} {pos : Pos} {Ψ : Out → Prop}
theorem en_lst (h : AV X es ρ M ds M1) (hl : ds.length ≤ sizeLine := by first | (simp only [List.length_cons, List.length_nil]; decide) | decide) : EN X (.List es pos) ρ M ds M1 :=
  (pe_lst h).mono fun σ H Q ⟨G, sa, k⟩ => ⟨G, sa, fun vs G1 H1 g1 sh1 r1 => ⟨by rw [r1.len]; exact hl, fun p hp => by
    obtain ⟨sh2, mp, gp⟩ := sh1.newM hp r1
    exact k p _ _ g1 mp sh2⟩⟩
theorem en_listRg {n : Int} {p p2 pos2 : Pos} (hc : X.calm = true) (hm : X.mg "list" = none) (hm2 : X.mg "range" = none) (h : EV X e ρ M (dI n) M1) (hn : 0 ≤ n ∧ n ≤ 16777216) (hg : Gl X "list" := by rfl) (hg2 : Gl X "range" := by rfl)
    (n1 : starEach [e] X.env = (false, eval e X.env) :: starEach [] X.env := by rfl)
    (n2 : starEach [.Call (.Name "range" p2) [e] [] pos2] X.env = (false, eval (.Call (.Name "range" p2) [e] [] pos2) X.env) :: starEach [] X.env := by rfl) : EN X (.Call (.Name "list" p) [.Call (.Name "range" p2) [e] [] pos2] [] pos) ρ M (rgD 0 n.toNat) M1 :=
  (pe_listRg hc hg hm (prg_1 hg2 hm2 h n1) n2).mono fun σ H Q ⟨G, sa, k⟩ => ⟨G, sa, fun v G1 H1 g1 sh1 r1 => ⟨n, r1.of_val, RgOk.of_le (by omega) hn.2 (by omega) hn.1, fun p hp => by
    have r : RepL X.K G1 (rgV 0 n) (rgD 0 n.toNat) := by
      have q := RepL.vals (K := X.K) (G := G1) (rgV 0 n)
      have e : (rgV 0 n).map D.val = rgD 0 n.toNat := by
        unfold rgV rgD
        rw [List.map_map, Int.sub_zero]
        rfl
      rw [e] at q
      exact q
    obtain ⟨sh2, mp, gp⟩ := sh1.newM hp r
    exact k p _ _ g1 mp sh2⟩⟩
theorem sv_setN (i : Nat) {x : Str} {pos' : Pos} (hN : X.N.Nodup) (he : EN X e ρ M ds M1) (hΨ : ∀ p, M1 p = none → Ψ (.nx (ρ.set i (some (dP p))) (M1.set p (.lst ds)))) (hi : X.N[i]? = some x := by rfl) (hx : L2.Loc X.env.scope x := by first | exact Or.inl rfl | exact Or.inr rfl)
    (hs : swapsWith e (some (.Name x pos')) pos.line X.env = pure false := by rfl) (hf : X.fn x = true ∨ X.env.scope.names.lookup x = some .local := by first | exact .inl rfl | exact .inr rfl) : SV X (.Assign [.Name x pos'] e pos) ρ M Ψ :=
  (ps_set hN hi hx he hs hf).mono fun E σ H ⟨G, sa, k⟩ => ⟨G, sa, fun p G1 H1 g1 mp sh1 => k _ (hΨ p mp) _ G1 H1 g1 ⟨sh1, (sa.sl.up g1).set i (.val _)⟩⟩
theorem sv_retNew (he : EN X e ρ M ds M1) (hΨ : ∀ p, M1 p = none → Ψ (.ret (dP p) (M1.set p (.lst ds)))) : SV X (.Return (some e) pos) ρ M Ψ :=
  (ps_ret he).mono fun E σ H ⟨G, sa, k⟩ => ⟨G, sa, fun p G1 H1 g1 mp sh1 => k _ (hΨ p mp) _ G1 H1 g1 sh1 (.val _)⟩
theorem en_call {k : Nat} {x : Str} {Pr : List D → Mem → List D → Mem → Prop} {es' : List D} {p : Pos} (C : Cal X.prog X.w X.K X.mg X.base k x (spN X.K Pr)) (hr : Room k X.A) (ha : AV X (e :: es) ρ M ds M1) (hp : Pr ds M1 es' M2) (hg : Gl X x := by rfl)
    (hd : (x == ("__debug__" : Str)) = false := by decide) (hst : starEach (e :: es) X.env = (false, eval e X.env) :: starEach es X.env := by rfl) (hpl : (backTo pos (starEach es X.env)).any (·.1) = false := by rfl) : EN X (.Call (.Name x p) (e :: es) [] pos) ρ M es' M2 := by
  obtain ⟨f, fd, ps, hm, hk, hb, F⟩ := C.ex
  refine (pe_call F hr hg hm hk hb .nil pass0 ha (hdb := hd) (he := hst) (hpl := hpl)).mono fun σ H Q ⟨G, sa, k⟩ => ⟨G, sa, fun vs G1 H1 g1 sh1 r1 => ?_⟩
  show spN X.K Pr (vs ++ []) H1 Q E0
  rw [List.append_nil]
  exact ⟨G1, ds, M1, es', M2, sh1, r1, hp, fun q G' H' g mq sh => k q G' H' (g1.trans g) mq sh⟩
theorem calN_of {P : Program} {w : World} {K : PySem.W.Frag} {mg : Str → Option Value} {base : Heap} {x qual : Str} {sd : Stmt} {f : Addr} {fd : FuncData} {N ps : List Str} {k : Nat} {Pr : List D → Mem → List D → Mem → Prop} (F : Fun K x qual sd f fd) (S : FnScope N ps (defScope sd)) (hm : mg x = some (.ref f))
    (hbind : ∀ (kV doc pm : Value) (an : Option Addr) (cdv ct : Value) (us : List Value), us.length = ps.length → bindArgs (PySem.W.fnOf x qual (defArgs sd) (defBody sd) (defScope sd) .none kV doc pm an cdv ct) ⟨us, []⟩ = pure (ps.zip us))
    (len : ∀ ds M es M', Pr ds M es M' → ds.length = ps.length)
    (hb : ∀ (cdv : Value) (A : Around) (outer : List Env) (s : Shared) (H : Hp) (E : XK) (ds : List D) (M : Mem) (es : List D) (M' : Mem), Room k (A.deeper (envOfC qual (defScope sd) s.heap.objs.size f cdv)) → Pr ds M es M' →
      BV (cxOf CX0 P w K mg base N qual (defScope sd) f cdv A outer s H E).nox (defBody sd) (startD N ds) M (FinN es M')) : Cal P w K mg base (k + 1) x (spN K Pr) := by
  refine ⟨f, fd, ps, hm, F.kp, F.binds hbind, F.ok S (fun vs H Q E ⟨G, ds, M, es, M', sh, r, p, q⟩ => by rw [r.len]; exact len _ _ _ _ p) fun cdv A outer s H vs Q E hr ⟨G, ds, M, es, M', sh, r, p, q⟩ => ?_⟩
  refine ⟨_, hb cdv A outer s H E ds M es M' hr p, G, ⟨sh, start_rep r⟩, fun o ho => ?_⟩
  cases o with
  | ret d' M'' =>
    obtain ⟨p, rfl, mp, hm⟩ := ho
    exact fun v G' H' g sh' r' => by
      rw [r'.of_val]
      exact q p G' H' g mp (sh'.weak hm)
  | nx ρ M'' => exact ho.elim
  | bk _ _ => exact ho.elim
  | ct _ _ => exact ho.elim
/-- [F(x) for x in ..] that changes nothing -/
theorem range_getD {α β : Type} (x0 : α) (g : α → β) : ∀ (xs : List α), (List.range xs.length).map (fun i => g (xs.getD i x0)) = xs.map g := fun xs => by
  apply List.ext_getElem?
  intro i
  rw [List.getElem?_map, List.getElem?_map]
  rcases Nat.lt_or_ge i xs.length with h | h
  · rw [List.getElem?_range h, List.getElem?_eq_getElem h]
    show some (g (xs.getD i x0)) = some (g xs[i])
    rw [List.getD_eq_getElem?_getD, List.getElem?_eq_getElem h]
    rfl
  · rw [List.getElem?_eq_none (by simpa using h), List.getElem?_eq_none h]
    rfl
theorem getD_of {α : Type} {xs : List α} {i : Nat} {x x0 : α} (h : xs[i]? = some x) : xs.getD i x0 = x := by
  rw [List.getD_eq_getElem?_getD, h]
  rfl
theorem ev_lcM {elt tg iter : Expr} {scope : Scope} {own : List (Str × Nat)} {g : TG} (hc : X.calm = true) (hN : X.N.Nodup) (hi : IV X tg iter ρ M ds M1) (ok : BlkOk X.N X.env.scope scope own)
    (hg : ∀ (s : Shared) (H : Hp) (C : Addr) (cl : List (Str × Addr)) (fp : List Addr), PG (X.blk s H scope (compEnvC scope cl C X.env) fp) tg g) (F : D → D) (hlen : ds.length ≤ sizeLine)
    (step : ∀ (i : Nat) d, ds[i]? = some d → ∃ ρ', TGb X.K g (own.map (·.2)) (wipeD ρ (own.map (·.2))) d ρ' ∧ ∀ (M2 : Mem), ∀ (s : Shared) (H : Hp) (C : Addr) (cl : List (Str × Addr)) (fp : List Addr), EV (X.blk s H scope (compEnvC scope cl C X.env) fp) elt ρ' M2 (F d) M2)
    (hs : ∀ x, foldedSetIterable iter X.env x = pure x := by intro _; rfl) : EV X (.ListComp elt [⟨tg, iter, [], 0⟩] scope pos) ρ M (.lst (ds.map F)) M1 := by
  have q := ev_lc (f := fun i => F (ds.getD i dN)) (m := fun _ => M1) (pos := pos) hc hN hi ok hg rfl (fun _ _ h => h) hlen (fun i d h => by
    obtain ⟨ρ', h1, h2⟩ := step i d h
    refine ⟨ρ', h1, fun p acc _ s H C cl fp => ?_⟩
    show EV _ elt ρ' _ (F (ds.getD i dN)) _
    rw [getD_of h]
    exact h2 _ s H C cl fp) hs
  rw [range_getD dN F ds] at q
  exact q
end
end Vt
namespace Vt
open PySem PySem.Spec PyProof.Rows L2
/-! ### == and != of equal trees -/
mutual
def D.py : D → PyData
  | .val .non => .none
  | .val (.bl b) => .bool b
  | .val (.int i) => .int i
  | .val (.str x) => .str x
  | .val _ => .none
  | .tup ds => .tuple (D.pyL ds)
  | .lst ds => .list (D.pyL ds)
  | .dic => .none
def D.pyL : List D → List PyData
  | [] => []
  | d :: ds => D.py d :: D.pyL ds
end

mutual
def D.plain : D → Bool
  | .val .non => true
  | .val (.bl _) => true
  | .val (.int _) => true
  | .val (.str _) => true
  | .val _ => false
  | .tup ds => D.plainL ds
  | .lst ds => D.plainL ds
  | .dic => false
def D.plainL : List D → Bool
  | [] => true
  | d :: ds => D.plain d && D.plainL ds
end
section
variable {K : PySem.W.Frag} {G H : Hp}
mutual
theorem dp_of (e : Same G H) : ∀ (v : V) (d : D), D.plain d = true → Rep K G v d → Dp K H v (D.py d)
  | v, .val u, hp, r => by
    have q := r.of_val
    subst q
    cases v with
    | non => exact .non
    | bl b => exact .bl b
    | int i => exact .int i
    | str x => exact .str x
    | _ => cases hp
  | _, .tup ds, hp, .tup q r => .tup (sqtUp e q) (dpL_of e _ ds hp r)
  | _, .lst ds, hp, .lst q r => .lst (sqlUp e q) (dpL_of e _ ds hp r)
  | _, .dic, hp, _ => nomatch hp
theorem dpL_of (e : Same G H) : ∀ (vs : List V) (ds : List D), D.plainL ds = true → RepL K G vs ds → DpAll K H vs (D.pyL ds)
  | _, [], _, .nil => .nil
  | _, d :: ds, hp, .cons h t => by
    have q := (Bool.and_eq_true_iff.mp hp)
    exact .cons (dp_of e _ d q.1 h) (dpL_of e _ ds q.2 t)
end
end
section
variable {X : Cx} {ρ : Sl} {M M1 M2 M3 : Mem} {a b c e : Expr} {es : List Expr} {d d1 d2 : D} {ds : List D} {pos : Pos} {Ψ : Out → Prop}
theorem shaped_eqv {p : PyData} (h : SeqAt.shaped p = true) : PyData.eqv p p = true := SeqAt.eqv_refl p (SeqAt.canLay_of_shaped h)
theorem ev_eqD (hu : X.A.units + 64 < cLine) (ha : EV X a ρ M d1 M1) (hb : EV X b ρ M1 d2 M2) (p1 : D.plain d1 = true) (p2 : D.plain d2 = true) (s1 : SeqAt.shaped d1.py = true) (s2 : SeqAt.shaped d2.py = true) (hm : behindInMarks .Eq b = false) :
    EV X (.Compare a [.Eq] [b] pos) ρ M (dB (PyData.eqv d1.py d2.py)) M2 :=
  (pe_cmpR (op_eqD hu) ha hb hm).mono fun σ H Q ⟨G, sa, k⟩ => ⟨G, sa, fun v1 G1 H1 g1 sh1 r1 => ⟨G1, ⟨sh1, sa.sl.up g1⟩, fun v2 G2 H2 g2 sh2 r2 =>
    ⟨_, _, dp_of sh2.le _ _ p1 (r1.up g2), dp_of sh2.le _ _ p2 r2, s1, s2, k _ G2 H2 (g1.trans g2) sh2 (.val _)⟩⟩⟩
theorem tv_eqD (hu : X.A.units + 64 < cLine) (ha : EV X a ρ M d1 M1) (hb : EV X b ρ M1 d2 M2) (p1 : D.plain d1 = true) (p2 : D.plain d2 = true) (s1 : SeqAt.shaped d1.py = true) (s2 : SeqAt.shaped d2.py = true) (hm : behindInMarks .Eq b = false) :
    TV X (.Compare a [.Eq] [b] pos) ρ M (PyData.eqv d1.py d2.py) M2 :=
  (pt_cmpR (op_eqD hu) ha hb hm).mono fun σ H Q ⟨G, sa, k⟩ => ⟨G, sa, fun v1 G1 H1 g1 sh1 r1 => ⟨G1, ⟨sh1, sa.sl.up g1⟩, fun v2 G2 H2 g2 sh2 r2 =>
    ⟨_, _, dp_of sh2.le _ _ p1 (r1.up g2), dp_of sh2.le _ _ p2 r2, s1, s2, _, rfl, k G2 H2 (g1.trans g2) sh2⟩⟩⟩
theorem ev_neD (hu : X.A.units + 64 < cLine) (ha : EV X a ρ M d1 M1) (hb : EV X b ρ M1 d2 M2) (p1 : D.plain d1 = true) (p2 : D.plain d2 = true) (s1 : SeqAt.shaped d1.py = true) (s2 : SeqAt.shaped d2.py = true) (hm : behindInMarks .NotEq b = false) :
    EV X (.Compare a [.NotEq] [b] pos) ρ M (dB (!PyData.eqv d1.py d2.py)) M2 :=
  (pe_cmpR (op_neD hu) ha hb hm).mono fun σ H Q ⟨G, sa, k⟩ => ⟨G, sa, fun v1 G1 H1 g1 sh1 r1 => ⟨G1, ⟨sh1, sa.sl.up g1⟩, fun v2 G2 H2 g2 sh2 r2 =>
    ⟨_, _, dp_of sh2.le _ _ p1 (r1.up g2), dp_of sh2.le _ _ p2 r2, s1, s2, k _ G2 H2 (g1.trans g2) sh2 (.val _)⟩⟩⟩
theorem tv_neD (hu : X.A.units + 64 < cLine) (ha : EV X a ρ M d1 M1) (hb : EV X b ρ M1 d2 M2) (p1 : D.plain d1 = true) (p2 : D.plain d2 = true) (s1 : SeqAt.shaped d1.py = true) (s2 : SeqAt.shaped d2.py = true) (hm : behindInMarks .NotEq b = false) :
    TV X (.Compare a [.NotEq] [b] pos) ρ M (!PyData.eqv d1.py d2.py) M2 :=
  (pt_cmpR (op_neD hu) ha hb hm).mono fun σ H Q ⟨G, sa, k⟩ => ⟨G, sa, fun v1 G1 H1 g1 sh1 r1 => ⟨G1, ⟨sh1, sa.sl.up g1⟩, fun v2 G2 H2 g2 sh2 r2 =>
    ⟨_, _, dp_of sh2.le _ _ p1 (r1.up g2), dp_of sh2.le _ _ p2 r2, s1, s2, _, rfl, k G2 H2 (g1.trans g2) sh2⟩⟩⟩
/-- of one tree: != is false -/
theorem tv_neSame (hu : X.A.units + 64 < cLine) (ha : EV X a ρ M d M1) (hb : EV X b ρ M1 d M2) (p1 : D.plain d = true) (s1 : SeqAt.shaped d.py = true) (hm : behindInMarks .NotEq b = false) : TV X (.Compare a [.NotEq] [b] pos) ρ M false M2 := by
  have q := tv_neD (pos := pos) hu ha hb p1 p1 s1 s1 hm
  rw [shaped_eqv s1] at q
  exact q
theorem tv_eqSame (hu : X.A.units + 64 < cLine) (ha : EV X a ρ M d M1) (hb : EV X b ρ M1 d M2) (p1 : D.plain d = true) (s1 : SeqAt.shaped d.py = true) (hm : behindInMarks .Eq b = false) : TV X (.Compare a [.Eq] [b] pos) ρ M true M2 := by
  have q := tv_eqD (pos := pos) hu ha hb p1 p1 s1 s1 hm
  rw [shaped_eqv s1] at q
  exact q

/-! ### values that are known by what they meet alone -/
def tW (K : PySem.W.Frag) (ρ : Sl) (M : Mem) (Φ : D → Mem → Prop) : TE := fun σ H Q => ∃ G, SA K G H σ ρ M ∧ ∀ v G' H' d M', Φ d M' → Same G G' → SH K G' H' M' → Rep K G' v d → Q v H'
abbrev EW (X : Cx) (e : Expr) (ρ : Sl) (M : Mem) (Φ : D → Mem → Prop) : Prop := PE X e (tW X.K ρ M Φ)
def spW (K : PySem.W.Frag) (R : List D → Mem → (D → Mem → Prop) → Prop) : Sp := fun vs H Q _ => ∃ G ds M Φ, SH K G H M ∧ RepL K G vs ds ∧ R ds M Φ ∧ ∀ v G' H' d M', Φ d M' → Same G G' → SH K G' H' M' → Rep K G' v d → Q v H'
variable {Φ Φ' : D → Mem → Prop}
theorem ew_ev (h : EV X e ρ M d M1) (q : Φ d M1) : EW X e ρ M Φ := h.mono fun σ H Q ⟨G, sa, k⟩ => ⟨G, sa, fun v G1 H1 g1 sh1 r1 => k v G1 H1 d M1 q g1 sh1 r1⟩
theorem ew_to (h : EW X e ρ M Φ) (q : ∀ d M, Φ d M → Φ' d M) : EW X e ρ M Φ' := h.mono fun σ H Q ⟨G, sa, k⟩ => ⟨G, sa, fun v G1 H1 d M1 p => k v G1 H1 d M1 (q _ _ p)⟩
theorem ew_call {k : Nat} {x : Str} {R : List D → Mem → (D → Mem → Prop) → Prop} {p : Pos} (C : Cal X.prog X.w X.K X.mg X.base k x (spW X.K R)) (hr : Room k X.A) (ha : AV X (e :: es) ρ M ds M1) (hp : R ds M1 Φ) (hg : Gl X x := by rfl)
    (hd : (x == ("__debug__" : Str)) = false := by decide) (hst : starEach (e :: es) X.env = (false, eval e X.env) :: starEach es X.env := by rfl) (hpl : (backTo pos (starEach es X.env)).any (·.1) = false := by rfl) : EW X (.Call (.Name x p) (e :: es) [] pos) ρ M Φ := by
  obtain ⟨f, fd, ps, hm, hk, hb, F⟩ := C.ex
  refine (pe_call F hr hg hm hk hb .nil pass0 ha (hdb := hd) (he := hst) (hpl := hpl)).mono fun σ H Q ⟨G, sa, k⟩ => ⟨G, sa, fun vs G1 H1 g1 sh1 r1 => ?_⟩
  show spW X.K R (vs ++ []) H1 Q E0
  rw [List.append_nil]
  exact ⟨G1, ds, M1, Φ, sh1, r1, hp, fun v G' H' d M' q g sh r => k v G' H' d M' q (g1.trans g) sh r⟩
/-- x = e -/
theorem sv_setW (i : Nat) {x : Str} {pos' : Pos} (hN : X.N.Nodup) (he : EW X e ρ M Φ) (hΨ : ∀ d M1, Φ d M1 → Ψ (.nx (ρ.set i (some d)) M1)) (hi : X.N[i]? = some x := by rfl) (hx : L2.Loc X.env.scope x := by first | exact Or.inl rfl | exact Or.inr rfl) (hs : swapsWith e (some (.Name x pos')) pos.line X.env = pure false := by rfl)
    (hf : X.fn x = true ∨ X.env.scope.names.lookup x = some .local := by first | exact .inl rfl | exact .inr rfl) : SV X (.Assign [.Name x pos'] e pos) ρ M Ψ :=
  (ps_set hN hi hx he hs hf).mono fun E σ H ⟨G, sa, k⟩ => ⟨G, sa, fun v G1 H1 d M1 p g1 sh1 r1 => k _ (hΨ d M1 p) _ G1 H1 g1 ⟨sh1, (sa.sl.up g1).set i r1⟩⟩
theorem sv_retW (he : EW X e ρ M Φ) (hΨ : ∀ d M1, Φ d M1 → Ψ (.ret d M1)) : SV X (.Return (some e) pos) ρ M Ψ :=
  (ps_ret he).mono fun E σ H ⟨G, sa, k⟩ => ⟨G, sa, fun v G1 H1 d M1 p g1 sh1 r1 => k _ (hΨ d M1 p) v G1 H1 g1 sh1 r1⟩
/-- target = e -/
theorem sv_asgW {tg : Expr} {g : TG} (he : EW X e ρ M Φ) (hg : PG X tg g) (ht : ∀ d M1, Φ d M1 → ∃ ρ', TG1 X.K g ρ d ρ' ∧ Ψ (.nx ρ' M1)) (hs : swapsWithSole [tg] e pos.line X.env = pure false := by rfl) (hw : swappedStores [tg] e X.env = pure none := by rfl)
    (h1 : (assignEach [tg] X.env).map (·.2) = [assign tg X.env] := by rfl) : SV X (.Assign [tg] e pos) ρ M Ψ :=
  (ps_asg he hg hs hw h1).mono fun E σ H ⟨G, sa, k⟩ => ⟨G, sa, fun v G1 H1 d M1 p g1 sh1 r1 => by
    obtain ⟨ρ', t, q⟩ := ht d M1 p
    exact t v σ G1 H1 _ sh1.le (sa.sl.up g1) r1 fun σ' h' => k _ q σ' G1 H1 g1 ⟨sh1, h'⟩⟩
/-- a and b, a true -/
theorem ew_and {rest : List Expr} {Φ1 : Mem → Prop} (ha : EW X a ρ M (fun d M1 => d = dB true ∧ Φ1 M1)) (hb : ∀ M1, Φ1 M1 → EW X (.BoolOp .And (b :: rest) pos) ρ M1 Φ) : EW X (.BoolOp .And (a :: b :: rest) pos) ρ M Φ :=
  (pe_and (tb := fun σ H Q => ∃ M1, EW X (.BoolOp .And (b :: rest) pos) ρ M1 Φ ∧ tW X.K ρ M1 Φ σ H Q) ha ⟨fun pins s σ H Q I ⟨M1, hb, q⟩ => hb.run pins s σ H Q I q⟩).mono fun σ H Q ⟨G, sa, k⟩ => ⟨G, sa, fun v1 G1 H1 d M1 ⟨e, p⟩ g1 sh1 r1 => by
    subst e
    refine ⟨true, r1.of_val, ?_⟩
    show ∃ M1, EW X (.BoolOp .And (b :: rest) pos) ρ M1 Φ ∧ tW X.K ρ M1 Φ σ H1 Q
    exact ⟨M1, hb M1 p, G1, ⟨sh1, sa.sl.up g1⟩, fun v G2 H2 d2 M2 p2 g2 sh2 r2 => k v G2 H2 d2 M2 p2 (g1.trans g2) sh2 r2⟩⟩
theorem ew_one {op} (h : EW X e ρ M Φ) : EW X (.BoolOp op [e] pos) ρ M Φ := pe_one h
/-- a test of such a value: if e: as else: bs -/
theorem sv_ifW {as bs : List Stmt} (hc : EW X c ρ M Φ) (h : ∀ d M1, Φ d M1 → ∃ p, d = dB p ∧ (p = true → BV X as ρ M1 Ψ) ∧ (p = false → BV X bs ρ M1 Ψ)) (he : ∀ whole, isTrue c X.env whole = (do let v ← whole; standAt c.pos; holding [v] (truthy v)) := by intro _; rfl) : SV X (.If c as bs pos) ρ M Ψ :=
  (ps_if (t := fun E σ H => ∃ M1, BV X as ρ M1 Ψ ∧ tS X.K ρ M1 Ψ E σ H) (u := fun E σ H => ∃ M1, BV X bs ρ M1 Ψ ∧ tS X.K ρ M1 Ψ E σ H) (pt_val hc he) ⟨fun pins s σ H E I ⟨M1, hb, q⟩ => hb.run pins s σ H E I q⟩ ⟨fun pins s σ H E I ⟨M1, hb, q⟩ => hb.run pins s σ H E I q⟩).mono
    fun E σ H ⟨G, sa, k⟩ => ⟨G, sa, fun v G1 H1 d M1 p g1 sh1 r1 => by
      obtain ⟨b, rfl, h1, h2⟩ := h d M1 p
      refine ⟨b, r1.of_val, ?_⟩
      cases b with
      | true => exact ⟨M1, h1 rfl, G1, ⟨sh1, sa.sl.up g1⟩, fun o ho => (k o ho).up g1⟩
      | false => exact ⟨M1, h2 rfl, G1, ⟨sh1, sa.sl.up g1⟩, fun o ho => (k o ho).up g1⟩⟩
def FinW (Φ : D → Mem → Prop) : Out → Prop
  | .ret d M'' => ∃ M', Φ d M' ∧ Mle M' M''
  | .nx _ M'' => ∃ M', Φ dN M' ∧ Mle M' M''
  | _ => False
theorem calW_of {P : Program} {w : World} {K : PySem.W.Frag} {mg : Str → Option Value} {base : Heap} {x qual : Str} {sd : Stmt} {f : Addr} {fd : FuncData} {N ps : List Str} {k : Nat} {R : List D → Mem → (D → Mem → Prop) → Prop} (F : Fun K x qual sd f fd) (S : FnScope N ps (defScope sd)) (hm : mg x = some (.ref f))
    (hbind : ∀ (kV doc pm : Value) (an : Option Addr) (cdv ct : Value) (us : List Value), us.length = ps.length → bindArgs (PySem.W.fnOf x qual (defArgs sd) (defBody sd) (defScope sd) .none kV doc pm an cdv ct) ⟨us, []⟩ = pure (ps.zip us))
    (len : ∀ ds M Φ, R ds M Φ → ds.length = ps.length)
    (hb : ∀ (cdv : Value) (A : Around) (outer : List Env) (s : Shared) (H : Hp) (E : XK) (ds : List D) (M : Mem) (Φ : D → Mem → Prop), Room k (A.deeper (envOfC qual (defScope sd) s.heap.objs.size f cdv)) → R ds M Φ →
      BV (cxOf CX0 P w K mg base N qual (defScope sd) f cdv A outer s H E).nox (defBody sd) (startD N ds) M (FinW Φ)) : Cal P w K mg base (k + 1) x (spW K R) := by
  refine ⟨f, fd, ps, hm, F.kp, F.binds hbind, F.ok S (fun vs H Q E ⟨G, ds, M, Φ, sh, r, p, q⟩ => by rw [r.len]; exact len _ _ _ p) fun cdv A outer s H vs Q E hr ⟨G, ds, M, Φ, sh, r, p, q⟩ => ?_⟩
  refine ⟨_, hb cdv A outer s H E ds M Φ hr p, G, ⟨sh, start_rep r⟩, fun o ho => ?_⟩
  cases o with
  | ret d' M'' =>
    obtain ⟨M', hp, hm⟩ := ho
    exact fun v G' H' g sh' r' => q v G' H' d' M' hp g (sh'.weak hm) r'
  | nx ρ M'' =>
    obtain ⟨M', hp, hm⟩ := ho
    exact fun σ' G' H' g sa' => q .non G' H' dN M' hp g (sa'.sh.weak hm) (.val _)
  | bk _ _ => exact ho.elim
  | ct _ _ => exact ho.elim
/-- the law's own promise: of a list of at most 63 ints it hands back True -/
def spLaw (K : PySem.W.Frag) : Sp := fun vs H Q _ => ∃ (a : Addr) (ns : List Int), vs = [.ref a] ∧ SqL K H a (ns.map V.int) ∧ ns.length ≤ 63 ∧ ∀ H', Q (.bl true) H'
def FinL : Out → Prop
  | .ret d _ => d = dB true
  | _ => False
theorem law_of {P : Program} {w : World} {K : PySem.W.Frag} {mg : Str → Option Value} {base : Heap} {sd : Stmt} {f : Addr} {fd : FuncData} {N : List Str} {k : Nat} (F : Fun K "law" "law" sd f fd) (S : FnScope N ["script"] (defScope sd))
    (hb : ∀ (cdv : Value) (A : Around) (outer : List Env) (s : Shared) (H : Hp) (E : XK) (ns : List Int), Room k (A.deeper (envOfC "law" (defScope sd) s.heap.objs.size f cdv)) → ns.length ≤ 63 →
      BV (cxOf CX0 P w K mg base N "law" (defScope sd) f cdv A outer s H E).nox (defBody sd) (startD N [.lst (ns.map dI)]) (fun _ => none) FinL) : FnOk P w K mg base CX0 (k + 1) f fd ["script"] (spLaw K) := by
  refine F.ok S (fun vs H Q E ⟨a, ns, e, _⟩ => by rw [e]; rfl) fun cdv A outer s H vs Q E hr ⟨a, ns, e, hs, hl, q⟩ => ?_
  subst e
  have r : RepL K H [V.ref a] [.lst (ns.map dI)] := by
    refine .cons (.lst hs ?_) .nil
    have e := RepL.vals (K := K) (G := H) (ns.map V.int)
    rw [List.map_map] at e
    exact e
  refine ⟨_, hb cdv A outer s H E ns hr hl, H, ⟨⟨Same.refl _, fun b mo e => by cases e⟩, start_rep r⟩, fun o ho => ?_⟩
  cases o with
  | ret d M'' =>
    have e : d = dB true := ho
    subst e
    exact fun v G' H' g sh' r' => by
      rw [r'.of_val]
      exact q H'
  | nx ρ M'' => exact ho.elim
  | bk _ _ => exact ho.elim
  | ct _ _ => exact ho.elim
theorem walk {l : PySem.W.OpenLaw} {q : Program} {loose : List Str} {XP : (Str → Option Value) → Heap → Prop} {YP : World → Heap → Prop} {d : DefRec} {K : Params → PySem.W.Frag} {k : Nat} (hk : Room k callerA) (hn : l.most = some 63) (hdf : d.params.defaults = [])
    (hY : ∀ (w : World) (h : Heap), YP w h → (K w.params).In h)
    (F : ∀ (w : World) (mg : Str → Option Value) (fa : Addr) (h : Heap), (K w.params).In h → h.Ns mainGlobals mg → mg d.name = some (.ref fa) →
      ∃ fd : FuncData, (∀ (s : Shared) (u : Value), BindsTo s fd ⟨[u], []⟩ [("script", u)]) ∧ ∀ base : Heap, (K w.params).In base → base.Ns mainGlobals mg → FnOk l.prog w (K w.params) mg base CX0 k fa fd ["script"] (spLaw (K w.params))) :
    PySem.W.WalkO q loose XP YP l.row.toRowW d [] (fun f vs => PySem.call f vs) :=
  L2.walk_of (n := 63) (k := k) (x := "script") (CX := fun _ => CX0) (sp := fun w => spLaw (K w.params)) hn (by decide) hdf hk hY F (fun _ _ a ns hl _ hS => ⟨a, ns, rfl, hS, hl, fun _ => rfl⟩) fun _ _ _ _ _ z => z
end
end Vt
namespace Vt
open PySem PySem.Spec PyProof.Rows L2
/-! ### sorted of pairs of ints -/
def kOf (h : Heap) : Value → Int × Int
  | .ref t => match h.get? t with
    | some o => match o.data with
      | .seq arr _ => match arr.toList with
        | [.int i _, .int j _] => (i, j)
        | _ => (0, 0)
      | _ => (0, 0)
    | none => (0, 0)
  | _ => (0, 0)
def IsPr (K : PySem.W.Frag) (H : Hp) (x : V) (pr : Int × Int) : Prop := ∃ t, x = V.ref t ∧ SqT K H t [.int pr.1, .int pr.2]
def rSq (K : PySem.W.Frag) : List V → Hp → VK → Prop := fun vs H Q => ∃ (a : Addr) (xs : List V) (prs : List (Int × Int)) (G : Hp), vs = [V.ref a] ∧ SqL K H a xs ∧ Same G H ∧ Paired (IsPr K G) xs prs ∧
  ∀ ys qs p, Paired (IsPr K G) ys qs → qs.Perm prs → qs.Pairwise (fun a b => SrtO.lexB b a = false) → H p = none → Q (.ref p) (upd H p (.lst ys))
section
variable {X : Cx} {pins : List (Addr × Obj)} {s : Shared} {σ : L2.St} {G H : Hp}
theorem pr_val (I : Inv X pins σ H s) (g : Same G H) {x : V} {pr : Int × Int} {u : Value} (h : IsPr X.K G x pr) (r : RelV x u) : kOf s.heap u = pr ∧ Srt.IsPair s.heap u pr.1 pr.2 ∧ ∃ t, u = Value.ref t ∧ x = V.ref t := by
  obtain ⟨t, rfl, q⟩ := h
  obtain rfl : u = Value.ref t := r
  obtain ⟨its, rv, ⟨o, ho, hc, n, hd⟩, _⟩ := I.tuple (sqtUp g q)
  obtain ⟨u1, u2, rfl, ri, rj⟩ := vals2 rv
  obtain ⟨t1, rfl⟩ := ri
  obtain ⟨t2, rfl⟩ := rj
  refine ⟨?_, ⟨t, o, t1, t2, n, rfl, ho, hc, hd⟩, t, rfl, rfl⟩
  unfold kOf
  simp only [ho, hd]
theorem prs_val (I : Inv X pins σ H s) (g : Same G H) : ∀ {xs : List V} {prs : List (Int × Int)} {us : List Value}, Paired (IsPr X.K G) xs prs → Vals xs us →
    us.map (kOf s.heap) = prs ∧ ∀ u ∈ us, Srt.IsPair s.heap u (kOf s.heap u).1 (kOf s.heap u).2 ∧ ∃ t, u = Value.ref t ∧ IsPr X.K G (.ref t) (kOf s.heap u)
  | _, _, _, .nil, .nil => ⟨rfl, fun u hu => absurd hu (by simp)⟩
  | _, _, _, .cons h t, .cons r rr => by
    obtain ⟨e1, e2⟩ := prs_val I g t rr
    obtain ⟨k1, k2, t', k3, k4⟩ := pr_val I g h r
    refine ⟨by rw [List.map_cons, k1, e1], fun u hu => ?_⟩
    rcases List.mem_cons.mp hu with e | hu
    · subst e
      rw [k1]
      refine ⟨k2, t', k3, ?_⟩
      rw [← k4]
      exact h
    · exact e2 u hu
theorem paired_map {α β γ : Type} {F : β → γ → Prop} {f : α → β} {g : α → γ} : ∀ (l : List α), (∀ x ∈ l, F (f x) (g x)) → Paired F (l.map f) (l.map g)
  | [], _ => .nil
  | x :: l, h => .cons (h x List.mem_cons_self) (paired_map l fun y hy => h y (List.mem_cons_of_mem _ hy))
theorem cr_sq : CallR X (.builtin "sorted") (rSq X.K) := by
  intro pins s σ H vs us Q I r h
  obtain ⟨a, xs, prs, G, rfl, hs, g, hp, q⟩ := h
  obtain ⟨its, rv, hl, hz⟩ := I.list hs
  obtain ⟨u, rfl, ru⟩ := vals1 r
  obtain rfl : u = Value.ref a := ru
  obtain ⟨e1, e2⟩ := prs_val I g hp rv
  have hzz : its.length ≤ sizeLine := by
    have := rv.length
    omega
  refine SrtO.sorted_pairsO (k := kOf s.heap) hl.isList hzz (fun v hv => (e2 v hv).1) fun h' d out h1 h2 kp hd hn => ?_
  obtain ⟨n, hn⟩ := hn
  have hmem : ∀ u ∈ out, u ∈ its := fun u hu => h2.perm.mem_iff.mp hu
  have hv : Vals (out.map backV) out := by
    have : ∀ l : List Value, (∀ u ∈ l, u ∈ its) → Vals (l.map backV) l := fun l => by
      induction l with
      | nil => exact fun _ => .nil
      | cons u l ih =>
        intro hl
        obtain ⟨t, e, _⟩ := (e2 u (hl u List.mem_cons_self)).2
        refine .cons ?_ (ih fun v hv => hl v (List.mem_cons_of_mem _ hv))
        subst e
        rfl
    exact this out hmem
  refine ⟨.ref d, upd H d (.lst (out.map backV)), I.laid (t' := s.toks) kp hd (show ObjOk X.prog X.w _ _ _ (.lst (out.map backV)) from ⟨?_, out, n, hv, hn⟩), rfl, q _ (out.map (kOf s.heap)) d (paired_map out fun u hu => ?_) ?_ ?_ (I.hok.fresh hd)⟩
  · rw [List.length_map, h2.perm.length_eq]
    exact hzz
  · obtain ⟨t, e, h3⟩ := (e2 u (hmem u hu)).2
    subst e
    exact h3
  · rw [← e1]
    exact h2.perm.map _
  · exact List.pairwise_map.mpr h1
end
abbrev pD (pr : Int × Int) : D := .tup [dI pr.1, dI pr.2]
theorem pr_rep {K : PySem.W.Frag} {G : Hp} : ∀ {vs : List V} {prs : List (Int × Int)}, RepL K G vs (prs.map pD) → Paired (IsPr K G) vs prs
  | [], [], .nil => .nil
  | _ :: _, pr :: prs, .cons h t => by
    refine .cons ?_ (pr_rep t)
    cases h with
    | tup q r =>
      refine ⟨_, rfl, ?_⟩
      have e2 := RepL.of_vals (xs := [.int pr.1, .int pr.2]) r
      rw [e2] at q
      exact q
theorem rep_pr {K : PySem.W.Frag} {G : Hp} : ∀ {vs : List V} {prs : List (Int × Int)}, Paired (IsPr K G) vs prs → RepL K G vs (prs.map pD)
  | _, _, .nil => .nil
  | _, _, .cons h t => by
    obtain ⟨a, rfl, q⟩ := h
    exact .cons (.tup q (RepL.vals (K := K) (G := G) [.int _, .int _])) (rep_pr t)
/-- what is sorted and has the same items is the same -/
theorem lex_uniq : ∀ {l m : List (Int × Int)}, l.Pairwise (fun a b => SrtO.lexB b a = false) → m.Pairwise (fun a b => SrtO.lexB b a = false) → l.Perm m → l = m
  | [], m, _, _, h => (List.Perm.eq_nil h.symm).symm
  | x :: l, [], _, _, h => absurd h.length_eq (by simp)
  | x :: l, y :: m, hl, hm, h => by
    have hx : x ∈ y :: m := h.mem_iff.mp List.mem_cons_self
    have hy : y ∈ x :: l := h.mem_iff.mpr List.mem_cons_self
    have e : x = y := by
      rcases List.mem_cons.mp hx with e | hx
      · exact e
      · rcases List.mem_cons.mp hy with e | hy
        · exact e.symm
        · have h1 := (List.pairwise_cons.mp hm).1 x hx
          have h2 := (List.pairwise_cons.mp hl).1 y hy
          have q1 := SrtO.lexB_no.mp h1
          have q2 := SrtO.lexB_no.mp h2
          apply Prod.ext <;> omega
    subst e
    rw [lex_uniq (List.pairwise_cons.mp hl).2 (List.pairwise_cons.mp hm).2 h.cons_inv]
section
variable {X : Cx} {ρ : Sl} {M M1 M2 M3 : Mem} {a b c e : Expr} {es : List Expr} {d d1 d2 : D} {ds : List D} {pos : Pos} {Ψ : Out → Prop}
theorem ev_sortedM {q : Addr} {prs qs : List (Int × Int)} {p : Pos} (hm : X.mg "sorted" = none) (ha : EV X e ρ M (dP q) M1) (h : M1 q = some (.lst (prs.map pD))) (hq : qs.Pairwise (fun a b => SrtO.lexB b a = false)) (hp : qs.Perm prs) (hg : Gl X "sorted" := by rfl)
    (hst : starEach [e] X.env = [(false, eval e X.env)] := by rfl) : EV X (.Call (.Name "sorted" p) [e] [] pos) ρ M (.lst (qs.map pD)) M1 :=
  (pe_callB cr_sq hg hm boot_sorted (av_cons ha av_nil hst) (he := hst)).mono fun σ H Q ⟨G, sa, k⟩ => ⟨G, sa, fun vs' G1 H1 g1 sh1 r1 => by
    obtain ⟨gq, vs, hv, r⟩ := sh1.mem q _ h
    rw [RepL.of_vals (xs := [.ref q]) r1]
    refine ⟨q, vs, prs, G1, rfl, .inl (.inl hv), sh1.le, pr_rep r, fun ys qs' l hys hperm hsort hl => ?_⟩
    have e : qs' = qs := lex_uniq hsort hq (hperm.trans hp.symm)
    subst e
    obtain ⟨sh2, g2⟩ := sh1.new (o := .lst ys) hl
    exact k _ _ _ (g1.trans g2) sh2 (.lst (.inl (.inl upd_same)) ((rep_pr hys).up g2))⟩
theorem ev_abs {i : Int} {p : Pos} (hm : X.mg "abs" = none) (ha : EV X e ρ M (dI i) M1) (hg : Gl X "abs" := by rfl) (hst : starEach [e] X.env = [(false, eval e X.env)] := by rfl) : EV X (.Call (.Name "abs" p) [e] [] pos) ρ M (dI (if i < 0 then -i else i)) M1 :=
  (pe_callB call_abs hg hm boot_abs (av_cons ha av_nil hst) (he := hst)).mono fun σ H Q ⟨G, sa, k⟩ => ⟨G, sa, fun vs' G1 H1 g1 sh1 r1 => by
    rw [RepL.of_vals (xs := [.int i]) r1]
    exact ⟨i, rfl, k _ G1 H1 g1 sh1 (.val _)⟩⟩
theorem JW.rangeC {K : PySem.W.Frag} {lo c : Int} {n : Nat} {G : Hp} : JW K (Itc lo c n) G ((List.range n).map fun i => dI (lo + (i : Nat) * c)) := fun i H e => ⟨fun d h => by
    rw [List.getElem?_map] at h
    have hi : i < n := by
      rcases Nat.lt_or_ge i n with q | q
      · exact q
      · rw [List.getElem?_eq_none (by simpa using q)] at h; cases h
    rw [List.getElem?_range hi] at h
    cases h
    exact ⟨hi, fun x H' ⟨e1, e2⟩ => ⟨e1, by rw [e2]; exact .val _⟩⟩, fun h => by
    rw [List.length_map, List.length_range] at h
    exact h⟩
theorem iv_range3 {tg : Expr} {i j k : Int} {n : Nat} {p : Pos} (hm : X.mg "range" = none) (ha : EV X a ρ M (dI i) M1) (hb : EV X b ρ M1 (dI j) M2) (hc : EV X c ρ M2 (dI k) M3) (hr : RgC i j k n) (hg : Gl X "range" := by rfl)
    (h1 : starEach [a, b, c] X.env = (false, eval a X.env) :: starEach [b, c] X.env := by rfl) (h2 : starEach [b, c] X.env = (false, eval b X.env) :: starEach [c] X.env := by rfl) (h3 : starEach [c] X.env = (false, eval c X.env) :: starEach [] X.env := by rfl)
    (hpl : (backTo pos (starEach [b, c] X.env)).any (·.1) = false := by rfl) : IV X tg (.Call (.Name "range" p) [a, b, c] [] pos) ρ M ((List.range n).map fun m => dI (i + (m : Nat) * k)) M3 :=
  (pi_range3 hg hm (av_cons ha (av_cons hb (av_cons hc av_nil h3) h2) h1) h1 hpl).mono fun σ H R ⟨G, sa, kk⟩ => ⟨G, sa, fun vs G1 H1 g1 sh1 r1 => by
    rw [RepL.of_vals (xs := [.int i, .int j, .int k]) r1]
    exact ⟨i, j, k, n, rfl, hr, kk _ G1 H1 g1 sh1 JW.rangeC⟩⟩
theorem rgC_up {i j k : Int} {n : Nat} (h1 : -1000000000 < i ∧ i < 1000000000) (h2 : -1000000000 < j ∧ j < 1000000000) (h3 : 0 < k ∧ k < 1000000000) (hn : Builtin.Range.rangeSize i j k = n) (hs : Builtin.Range.small i j k = true) : RgC i j k n :=
  ⟨by omega, by omega, hs, hn⟩
end
end Vt
namespace Vt
open PySem PySem.Spec PyProof.Rows L2
/-! ### texts by their signs -/
def S (l : List Nat) : Str := ⟨l.toArray⟩
theorem S_list (l : List Nat) : (S l).cps.toList = l := by show l.toArray.toList = l; simp
theorem S_len (l : List Nat) : (S l).length = l.length := by show l.toArray.size = _; simp
theorem S_of (z : Str) : S z.cps.toList = z := by
  cases z with
  | mk c => show (⟨c.toList.toArray⟩ : Str) = ⟨c⟩; simp
theorem S_app (l m : List Nat) : S l ++ S m = S (l ++ m) := by
  show (⟨l.toArray ++ m.toArray⟩ : Str) = ⟨(l ++ m).toArray⟩
  simp
theorem S_one (c : Nat) : (⟨#[c]⟩ : Str) = S [c] := rfl
theorem S_inj {l m : List Nat} (h : S l = S m) : l = m := by
  have := congrArg (fun z : Str => z.cps.toList) h
  simpa [S] using this
theorem fold_app : ∀ (n : Nat) (c : Nat) (acc : Array Nat), (List.replicate n #[c]).foldl (· ++ ·) acc = acc ++ (List.replicate n c).toArray
  | 0, c, acc => by simp
  | n + 1, c, acc => by
    rw [List.replicate_succ, List.foldl_cons, fold_app n c, List.replicate_succ]
    apply Array.ext'
    simp
/-- one sign, so many times -/
def rRepS : R2 := fun x y H Q => ∃ (c : Nat) (n : Int), x = .str (S [c]) ∧ y = .int n ∧ (-1000000 ≤ n ∧ n ≤ 1000000) ∧ Q (.str (S (List.replicate n.toNat c))) H
section
variable {X : Cx}
theorem op_repS : OpR X (binaryOp .Mult) rRepS := by
  intro pins s σ H x y v u Q I rx ry h
  obtain ⟨c, n, rfl, rfl, hn, q⟩ := h
  obtain ⟨t, rfl⟩ := rx
  obtain ⟨t', rfl⟩ := ry
  refine P.mul_str (x := S [c]) ?_ (fun h1 _ => ?_) (fun h1 _ => ?_) ?_
  · rw [decide_eq_false (by omega), decide_eq_false (by omega)]
    rfl
  · show ¬ (((1 : Nat) : Int) > (2 ^ 63 - 1) / n)
    have : (1 : Int) ≤ (2 ^ 63 - 1) / n := by
      rw [Int.le_ediv_iff_mul_le (by omega)]
      omega
    omega
  · have : (S [c]).length * n.toNat ≤ 1000000 := by
      rw [S_len]
      show 1 * n.toNat ≤ 1000000
      omega
    show decide _ = false
    refine decide_eq_false ?_
    have e : (1000000 : Nat) ≤ sizeLine := by decide
    omega
  · by_cases h1 : n < 1
    · rw [if_pos h1]
      have e : n.toNat = 0 := by omega
      rw [e] at q
      exact ⟨by decide, .str _, H, I.tok _, ⟨_, rfl⟩, q⟩
    · rw [if_neg h1]
      by_cases h2 : (n == 1 || (S [c]).length == 0) = true
      · rw [if_pos h2]
        have e : n = 1 := by
          rw [Bool.or_eq_true, beq_iff_eq, beq_iff_eq, S_len] at h2
          rcases h2 with h2 | h2
          · exact h2
          · cases h2
        subst e
        exact ⟨.str (S [c]), H, I, ⟨_, rfl⟩, q⟩
      · rw [if_neg h2]
        have e : (⟨(List.replicate n.toNat (S [c]).cps).foldl (· ++ ·) #[]⟩ : Str) = S (List.replicate n.toNat c) := by
          have e2 := fold_app n.toNat c #[]
          show (⟨(List.replicate n.toNat #[c]).foldl (· ++ ·) #[]⟩ : Str) = ⟨_⟩
          rw [e2]
          simp
        rw [e]
        refine ⟨?_, .str _, H, I.tok _, ⟨_, rfl⟩, q⟩
        rw [S_len, List.length_replicate]
        exact Nat.le_trans (show n.toNat ≤ 1000000 by omega) (by decide)
end
section
variable {X : Cx} {ρ : Sl} {M M1 M2 M3 : Mem} {a b c e : Expr} {es : List Expr} {d d1 d2 : D} {ds : List D} {pos : Pos} {Ψ : Out → Prop}
theorem ev_repS {ch : Nat} {n : Int} (ha : EV X a ρ M (dS (S [ch])) M1) (hb : EV X b ρ M1 (dI n) M2) (hn : -1000000 ≤ n ∧ n ≤ 1000000) : EV X (.BinOp a .Mult b pos) ρ M (dS (S (List.replicate n.toNat ch))) M2 :=
  ev_op op_repS ha hb fun H Q q => ⟨ch, n, rfl, rfl, hn, q⟩
theorem ev_catS {l m : List Nat} (ha : EV X a ρ M (dS (S l)) M1) (hb : EV X b ρ M1 (dS (S m)) M2) (hn : l.length + m.length ≤ 1000000) : EV X (.BinOp a .Add b pos) ρ M (dS (S (l ++ m))) M2 :=
  ev_op op_add_str ha hb fun H Q q => ⟨S l, S m, rfl, rfl, by rw [S_len, S_len]; exact Nat.le_trans hn (by decide), by rw [S_app]; exact q⟩
theorem ev_strI {i : Int} {p : Pos} (hm : X.mg "str" = none) (ha : EV X e ρ M (dI i) M1) (hi : -1000000000 < i ∧ i < 1000000000) (hg : Gl X "str" := by rfl) (hst : starEach [e] X.env = [(false, eval e X.env)] := by rfl) : EV X (.Call (.Name "str" p) [e] [] pos) ρ M (dS (toString i : String)) M1 :=
  (pe_callTy call_str_int hg hm boot_str (av_cons ha av_nil hst) (he := hst)).mono fun σ H Q ⟨G, sa, k⟩ => ⟨G, sa, fun vs' G1 H1 g1 sh1 r1 => by
    rw [RepL.of_vals (xs := [.int i]) r1]
    refine ⟨i, rfl, ?_, k _ G1 H1 g1 sh1 (.val _)⟩
    have h1 : i.natAbs < 1000000000 := by omega
    have h2 : i.natAbs < 2 ^ 30 := by omega
    rcases Nat.eq_zero_or_pos i.natAbs with h0 | h0
    · rw [h0]; decide
    · exact Nat.lt_trans ((Nat.log2_lt (by omega)).mpr h2) (by decide)⟩
theorem ev_intS {z : Str} {n : Int} {p : Pos} (hm : X.mg "int" = none) (ha : EV X e ρ M (dS z) M1) (hz : PySem.intText? z = some n) (hl : z.length ≤ 640) (hg : Gl X "int" := by rfl) (hst : starEach [e] X.env = [(false, eval e X.env)] := by rfl) : EV X (.Call (.Name "int" p) [e] [] pos) ρ M (dI n) M1 :=
  (pe_callTy call_int_str hg hm (by decide +kernel) (av_cons ha av_nil hst) (he := hst)).mono fun σ H Q ⟨G, sa, k⟩ => ⟨G, sa, fun vs' G1 H1 g1 sh1 r1 => by
    rw [RepL.of_vals (xs := [.str z]) r1]
    exact ⟨z, n, rfl, hz, hl, k _ G1 H1 g1 sh1 (.val _)⟩⟩
/-- c in z -/
theorem rs_inC {ch : Nat} {z : Str} : RS (fun x y H Q => ∃ (c : Nat) (z : Str), x = .str ⟨#[c]⟩ ∧ y = .str z ∧ Q (.bl (decide (c ∈ z.cps.toList))) H) (.str (S [ch])) (.str z) (.bl (decide (ch ∈ z.cps.toList))) := fun H Q q => ⟨ch, z, rfl, rfl, q⟩
theorem ov_none : OV X none ρ M none M := po_none.mono fun σ H Q ⟨G, sa, k⟩ => k G H (Same.refl G) sa.sh
theorem ov_some {i : Int} (h : EV X e ρ M (dI i) M1) : OV X (some e) ρ M (some i) M1 := (po_some h).mono fun σ H Q ⟨G, sa, k⟩ => ⟨G, sa, fun v G1 H1 g1 sh1 r1 => ⟨i, r1.of_val, k G1 H1 g1 sh1⟩⟩
theorem ev_sliceS {lo hi : Option Expr} {l : List Nat} {o1 o2 : Option Int} {p2 : Pos} (ha : EV X a ρ M (dS (S l)) M1) (h1 : OV X lo ρ M1 o1 M2) (h2 : OV X hi ρ M2 o2 M3) (hl : l.length ≤ 1000000) :
    EV X (.Subscript a (.Slice lo hi none p2) pos) ρ M (dS (S ((l.drop (HT.sIx l.length 0 o1)).take (HT.sIx l.length l.length o2 - HT.sIx l.length 0 o1)))) M3 :=
  (pe_slice sl_str ha h1 h2).mono fun σ H Q ⟨G, sa, k⟩ => ⟨G, sa, fun v G1 H1 g1 sh1 r1 => ⟨G1, ⟨sh1, sa.sl.up g1⟩, fun G2 H2 g2 sh2 => ⟨G2, ⟨sh2, (sa.sl.up g1).up g2⟩, fun G3 H3 g3 sh3 => by
    rw [r1.of_val]
    refine ⟨S l, rfl, by rw [S_len]; exact Nat.le_trans hl (by decide), ?_⟩
    have e : cutS (S l) o1 o2 = S ((l.drop (HT.sIx l.length 0 o1)).take (HT.sIx l.length l.length o2 - HT.sIx l.length 0 o1)) := by
      unfold cutS
      rw [S_list, S_len]
      rfl
    rw [e]
    exact k _ G3 H3 ((g1.trans g2).trans g3) sh3 (.val _)⟩⟩⟩
/-- a method of a text with texts as arguments -/
theorem ev_bmS {name : Str} {id : String} {r : V → List V → Hp → VK → Prop} {z : Str} {vs : List V} {y : V} {ap : Pos} (pa : PlainAttrs "str") (slot : Slot "str" name id) (hty : typeOf (.builtin id) = pure (.type "method_descriptor")) (hm : MtR X id r) (ho : EV X a ρ M (dS z) M1) (ha : AV X (e :: es) ρ M1 (vs.map D.val) M2)
    (hr : ∀ H Q, Q y H → r (.str z) vs H Q) (h1 : attributeBase a name X.env (eval a X.env) = eval a X.env := by rfl) (h3 : (ap.endLine == pos.line) = true := by decide) (h4 : starEach (e :: es) X.env = (false, eval e X.env) :: starEach es X.env := by rfl)
    (h2 : (((((backTo pos (starEach (e :: es) X.env)).all fun x => !x.fst) && (backToKw pos (keywordEach [] X.env)).all fun x => x.fst.isSome) && decide (((e :: es).length + ([] : List Keyword).length + if ([] : List Keyword).isEmpty = true then 0 else 1) < 30)) = true) := by rfl)
    (h5 : (((backTo pos (starEach es X.env)).any fun x => x.fst) = false) := by rfl) : EV X (.Call (.Attribute a name ap) (e :: es) [] pos) ρ M (.val y) M2 :=
  (pe_bm pa slot hty hm ho ha h1 h2 h3 h4 h5).mono fun σ H Q ⟨G, sa, k⟩ => ⟨G, sa, fun v1 G1 H1 g1 sh1 r1 => by
    rw [r1.of_val]
    refine ⟨(show tyV X.K "str" (.str z) H1 from rfl), G1, ⟨sh1, sa.sl.up g1⟩, fun vs' G2 H2 g2 sh2 r2 => ?_⟩
    rw [RepL.of_vals r2]
    exact hr H2 Q (k _ G2 H2 (g1.trans g2) sh2 (.val _))⟩
theorem drop_while (p : Nat → Bool) : ∀ l : List Nat, l.drop (l.takeWhile p).length = l.dropWhile p
  | [] => rfl
  | x :: l => by
    by_cases h : p x = true
    · rw [List.takeWhile_cons_of_pos h, List.dropWhile_cons_of_pos h]
      exact drop_while p l
    · rw [List.takeWhile_cons_of_neg h, List.dropWhile_cons_of_neg h]
      rfl
theorem lstripS (l m : List Nat) : Txt.lstripChars (S l) (S m) = S (l.dropWhile fun c => m.contains c) := by
  unfold Txt.lstripChars
  rw [PyProof.Rows.stripBy_eq]
  show (⟨(S l).cps.extract _ _⟩ : Str) = ⟨_⟩
  have e1 : (fun c => (S m).cps.contains c) = fun c => m.contains c := by
    funext c
    show m.toArray.contains c = _
    simp
  have e2 : stripLo (S m).cps.contains true (S l) = (l.takeWhile fun c => m.contains c).length := by
    simp only [stripLo, if_true]
    rw [show (S m).cps.contains = fun c => m.contains c from e1, S_list]
  have e3 : ∀ k, stripHi (S m).cps.contains false (S l) k = l.length := fun k => by
    simp only [stripHi, Bool.false_eq_true, if_false]
    exact S_len l
  rw [e2, e3]
  refine congrArg Str.mk ?_
  rw [← drop_while]
  show l.toArray.extract _ l.length = _
  rw [List.extract_toArray]
  simp [List.extract]
  exact List.take_of_length_le (by rw [List.length_drop]; exact Nat.le_refl _)
/-- z.lstrip(chars) -/
theorem ev_lstrip {l m : List Nat} {ap : Pos} (ho : EV X a ρ M (dS (S l)) M1) (ha : EV X e ρ M1 (dS (S m)) M2) (hl : l.length ≤ 1000000) (h1 : attributeBase a "lstrip" X.env (eval a X.env) = eval a X.env := by rfl) (h3 : (ap.endLine == pos.line) = true := by decide) (h4 : starEach [e] X.env = (false, eval e X.env) :: starEach [] X.env := by rfl)
    (h2 : (((((backTo pos (starEach [e] X.env)).all fun x => !x.fst) && (backToKw pos (keywordEach [] X.env)).all fun x => x.fst.isSome) && decide (([e].length + ([] : List Keyword).length + if ([] : List Keyword).isEmpty = true then 0 else 1) < 30)) = true) := by rfl)
    (h5 : (((backTo pos (starEach [] X.env)).any fun x => x.fst) = false) := by rfl) : EV X (.Call (.Attribute a "lstrip" ap) [e] [] pos) ρ M (dS (S (l.dropWhile fun c => m.contains c))) M2 :=
  ev_bmS (vs := [.str (S m)]) PySem.F.plainAttrs_str PySem.F.slot_str_lstrip PySem.F.type_str_lstrip mt_lstripChars ho (av_cons ha av_nil h4) (fun H Q q => ⟨S l, S m, rfl, rfl, by rw [S_len]; exact Nat.le_trans hl (by decide), by rw [lstripS]; exact q⟩) h1 h3 h4 h2 h5
theorem ev_find {z y : Str} {i : Int} {ap : Pos} (ho : EV X a ρ M (dS z) M1) (ha : EV X e ρ M1 (dS y) M2) (hi : Txt.find z y = i) (h1 : attributeBase a "find" X.env (eval a X.env) = eval a X.env := by rfl) (h3 : (ap.endLine == pos.line) = true := by decide) (h4 : starEach [e] X.env = (false, eval e X.env) :: starEach [] X.env := by rfl)
    (h2 : (((((backTo pos (starEach [e] X.env)).all fun x => !x.fst) && (backToKw pos (keywordEach [] X.env)).all fun x => x.fst.isSome) && decide (([e].length + ([] : List Keyword).length + if ([] : List Keyword).isEmpty = true then 0 else 1) < 30)) = true) := by rfl)
    (h5 : (((backTo pos (starEach [] X.env)).any fun x => x.fst) = false) := by rfl) : EV X (.Call (.Attribute a "find" ap) [e] [] pos) ρ M (dI i) M2 :=
  ev_bmS (vs := [.str y]) PySem.F.plainAttrs_str PySem.F.slot_str_find PySem.F.type_str_find mt_find ho (av_cons ha av_nil h4) (fun H Q q => ⟨z, y, rfl, rfl, by rw [hi]; exact q⟩) h1 h3 h4 h2 h5
theorem ev_count {z y : Str} {i : Int} {ap : Pos} (ho : EV X a ρ M (dS z) M1) (ha : EV X e ρ M1 (dS y) M2) (hi : Txt.count z y = i) (h1 : attributeBase a "count" X.env (eval a X.env) = eval a X.env := by rfl) (h3 : (ap.endLine == pos.line) = true := by decide) (h4 : starEach [e] X.env = (false, eval e X.env) :: starEach [] X.env := by rfl)
    (h2 : (((((backTo pos (starEach [e] X.env)).all fun x => !x.fst) && (backToKw pos (keywordEach [] X.env)).all fun x => x.fst.isSome) && decide (([e].length + ([] : List Keyword).length + if ([] : List Keyword).isEmpty = true then 0 else 1) < 30)) = true) := by rfl)
    (h5 : (((backTo pos (starEach [] X.env)).any fun x => x.fst) = false) := by rfl) : EV X (.Call (.Attribute a "count" ap) [e] [] pos) ρ M (dI i) M2 :=
  ev_bmS (vs := [.str y]) PySem.F.plainAttrs_str PySem.F.slot_str_count PySem.F.type_str_count mt_count ho (av_cons ha av_nil h4) (fun H Q q => ⟨z, y, rfl, rfl, by rw [hi]; exact q⟩) h1 h3 h4 h2 h5
theorem JW.str {K : PySem.W.Frag} {l : List Nat} {G : Hp} : JW K (Its (S l)) G (l.map fun c => dS (S [c])) := fun i H e => ⟨fun d h => by
    rw [List.getElem?_map] at h
    cases q : l[i]? with
    | none => rw [q] at h; cases h
    | some c =>
      rw [q] at h
      cases h
      refine ⟨?_, fun x H' ⟨e1, c', e2, e3⟩ => ⟨e1, ?_⟩⟩
      · show i < l.toArray.size
        have := (List.getElem?_eq_some_iff.mp q).1
        simpa using this
      · have e4 : l.toArray[i]? = some c' := e2
        rw [List.getElem?_toArray, q] at e4
        cases e4
        rw [e3]
        exact .val _, fun h => by
    show l.toArray.size ≤ i
    rw [List.length_map] at h
    simpa using h⟩
theorem iv_str {tg : Expr} {l : List Nat} (h : EV X e ρ M (dS (S l)) M1) : IV X tg e ρ M (l.map fun c => dS (S [c])) M1 :=
  (pi_str h).mono fun σ H R ⟨G, sa, k⟩ => ⟨G, sa, fun v G1 H1 g1 sh1 r1 => ⟨S l, r1.of_val, k _ G1 H1 g1 sh1 JW.str⟩⟩
/-- a <= b <= c of ints -/
theorem tv_chain {op op' : CmpOp} {g g' : Int → Int → Bool} {i j k : Int} (ho : OpR X (compareOp op) (rI0 fun i j => .bl (g i j))) (ho' : OpR X (compareOp op') (rI0 fun i j => .bl (g' i j))) (ha : EV X a ρ M (dI i) M1) (hb : EV X b ρ M1 (dI j) M2) (hc : EV X c ρ M2 (dI k) M2) (hm : lastMarks [op, op'] [b, c] = false := by rfl) :
    TV X (.Compare a [op, op'] [b, c] pos) ρ M (g i j && g' j k) M2 :=
  (pt_chain ho ho' ha hb hc hm).mono fun σ H Q ⟨G, sa, kk⟩ => ⟨G, sa, fun v1 G1 H1 g1 sh1 r1 => ⟨G1, ⟨sh1, sa.sl.up g1⟩, fun v2 G2 H2 g2 sh2 r2 => by
    rw [r1.of_val, r2.of_val]
    refine ⟨i, j, rfl, rfl, g i j, rfl, ?_⟩
    cases q : g i j with
    | true =>
      rw [if_pos rfl]
      refine ⟨G2, ⟨sh2, (sa.sl.up g1).up g2⟩, fun v3 G3 H3 g3 sh3 r3 => ?_⟩
      rw [r3.of_val]
      rw [q] at kk
      exact ⟨j, k, rfl, rfl, _, rfl, kk G3 H3 ((g1.trans g2).trans g3) sh3⟩
    | false =>
      rw [if_neg Bool.false_ne_true]
      rw [q] at kk
      exact ⟨_, rfl, kk G2 H2 (g1.trans g2) sh2⟩⟩⟩
theorem ev_chain {op op' : CmpOp} {g g' : Int → Int → Bool} {i j k : Int} (ho : OpR X (compareOp op) (rI0 fun i j => .bl (g i j))) (ho' : OpR X (compareOp op') (rI0 fun i j => .bl (g' i j))) (ha : EV X a ρ M (dI i) M1) (hb : EV X b ρ M1 (dI j) M2) (hc : EV X c ρ M2 (dI k) M2) (hm : lastMarks [op, op'] [b, c] = false := by rfl) :
    EV X (.Compare a [op, op'] [b, c] pos) ρ M (dB (g i j && g' j k)) M2 :=
  (pe_chain ho ho' ha hb hc hm).mono fun σ H Q ⟨G, sa, kk⟩ => ⟨G, sa, fun v1 G1 H1 g1 sh1 r1 => ⟨G1, ⟨sh1, sa.sl.up g1⟩, fun v2 G2 H2 g2 sh2 r2 => by
    rw [r1.of_val, r2.of_val]
    refine ⟨i, j, rfl, rfl, g i j, rfl, ?_⟩
    cases q : g i j with
    | true =>
      rw [if_pos rfl]
      refine ⟨G2, ⟨sh2, (sa.sl.up g1).up g2⟩, fun v3 G3 H3 g3 sh3 r3 => ?_⟩
      rw [r3.of_val]
      rw [q] at kk
      exact ⟨j, k, rfl, rfl, kk _ G3 H3 ((g1.trans g2).trans g3) sh3 (.val _)⟩
    | false =>
      rw [if_neg Bool.false_ne_true]
      rw [q] at kk
      exact kk _ G2 H2 (g1.trans g2) sh2 (.val _)⟩⟩
/-- isinstance(a, (list, tuple)) -/
theorem ev_isi2 {x y : Str} {T1 T2 t : String} {r1 r2 : Bool} {p p2 p3 p4 : Pos} {k1 : Nat} (hm : X.mg "isinstance" = none) (hT1 : X.mg x = none) (hv1 : bootBuiltins x = some (.type T1)) (hT2 : X.mg y = none) (hv2 : bootBuiltins y = some (.type T2)) (ha : EV X a ρ M d M1) (ht : tyD d = some t) (hk1 : kitB t T1 = some r1) (hk2 : kitB t T2 = some r2)
    (hg : Gl X "isinstance" := by rfl) (hg1 : Gl X x := by rfl) (hg2 : Gl X y := by rfl) (hn1 : x ≠ "__name__" := by decide) (hd1 : (x == ("__debug__" : Str)) = false := by decide) (hn2 : y ≠ "__name__" := by decide) (hd2 : (y == ("__debug__" : Str)) = false := by decide)
    (s1 : starEach [a, .Tuple [.Name x p2, .Name y p3] k1 p4] X.env = (false, eval a X.env) :: starEach [.Tuple [.Name x p2, .Name y p3] k1 p4] X.env := by rfl) (s2 : starEach [.Tuple [.Name x p2, .Name y p3] k1 p4] X.env = (false, eval (.Tuple [.Name x p2, .Name y p3] k1 p4) X.env) :: starEach [] X.env := by rfl)
    (s3 : starEach [.Name x p2, .Name y p3] X.env = (false, eval (.Name x p2) X.env) :: starEach [.Name y p3] X.env := by rfl) (s4 : starEach [.Name y p3] X.env = (false, eval (.Name y p3) X.env) :: starEach [] X.env := by rfl)
    (hpl : (backTo pos (starEach [.Tuple [.Name x p2, .Name y p3] k1 p4] X.env)).any (·.1) = false := by rfl) :
    EV X (.Call (.Name "isinstance" p) [a, .Tuple [.Name x p2, .Name y p3] k1 p4] [] pos) ρ M (dB (r1 || r2)) M1 :=
  (pe_callB call_isiT hg hm boot_isinstance (pa_cons ha (pa_cons (pe_tup (pa_cons (pe_bltn (v := .ty T1) hg1 hT1 hv1 rfl hn1 hd1) (pa_cons (pe_bltn (v := .ty T2) hg2 hT2 hv2 rfl hn2 hd2) pa_nil s4) s3)) pa_nil s2) s1) (hpl := hpl) (he := s1)).mono fun σ H Q ⟨G, sa, k⟩ => ⟨G, sa, fun v1 G1 H1 g1 sh1 rr => ⟨by show 2 ≤ sizeLine; decide, fun q hq => by
    obtain ⟨sh2, g2⟩ := sh1.new (o := .tup [.ty T1, .ty T2]) hq
    refine ⟨v1, q, _, .type t, [.type T1, .type T2], r1 || r2, rfl, upd_same, .cons (.ty T1) (.cons (.ty T2) .nil), tyx_of sh2.le (rr.up g2) ht, kitAny_cons (kit_ty hk1) (fun e => ?_) (fun e => ?_), k _ _ _ (g1.trans g2) sh2 (.val _)⟩
    · subst e
      exact kitAny_cons (kit_ty hk2) (fun e => by subst e; exact kitAny_nil) (fun e => by rw [e]; rfl)
    · rw [e]; rfl⟩⟩
/-- code that is not come to -/
theorem sv_never {st : Stmt} (h : False) : SV X st ρ M Ψ := h.elim
end
/-! ### tuples of ints that stand at the top -/
theorem kVals {ns : List Int} {its : List Value} (h : Vals (ns.map V.int) its) : Vals (ns.map V.int) its := h
theorem rep_kT {K : PySem.W.Frag} {G : Hp} {a : Addr} {o : Obj} {its : Array Value} {n : Nat} {ns : List Int} (hk : K.lookup a = some o) (hc : o.cls = .type "tuple") (hd : o.data = .seq its n) (hz : its.size ≤ sizeLine) (hv : Vals (ns.map V.int) its.toList) : Rep K G (.ref a) (.tup (ns.map dI)) := by
  refine .tup (.inr ⟨o, its, n, hk, hc, hd, hz, hv⟩) ?_
  have e := RepL.vals (K := K) (G := G) (ns.map V.int)
  rw [List.map_map] at e
  exact e
/-! ### further rules: in, is not None, truth of a list, += -/
section
variable {X : Cx} {ρ : Sl} {M M1 M2 M3 : Mem} {a b c e : Expr} {es : List Expr} {d d1 d2 : D} {ds : List D} {pos : Pos} {Ψ : Out → Prop}
theorem ev_inT {x : V} {xs : List V} (ha : EV X a ρ M (.val x) M1) (hb : EV X b ρ M1 (.tup (xs.map D.val)) M2) (fx : flatV x = true) (fs : xs.all flatV = true) (hm : behindInMarks .In b = false) : EV X (.Compare a [.In] [b] pos) ρ M (dB (inV x xs)) M2 :=
  (pe_cmpR op_in_seq ha hb hm).mono fun σ H Q ⟨G, sa, k⟩ => ⟨G, sa, fun v1 G1 H1 g1 sh1 r1 => ⟨G1, ⟨sh1, sa.sl.up g1⟩, fun v2 G2 H2 g2 sh2 r2 => by
    rw [r1.of_val]
    cases r2 with
    | tup q r =>
      rw [RepL.of_vals r] at q
      exact ⟨_, xs, rfl, .inr (sqtUp sh2.le q), fx, fs, k _ G2 H2 (g1.trans g2) sh2 (.val _)⟩⟩⟩
theorem tv_lstM {p : Addr} (ha : EV X e ρ M (dP p) M1) (h : M1 p = some (.lst ds)) (he : ∀ whole, isTrue e X.env whole = (do let v ← whole; standAt e.pos; holding [v] (truthy v)) := by intro _; rfl) : TV X e ρ M (!ds.isEmpty) M1 :=
  (pt_truth ha he).mono fun σ H Q ⟨G, sa, k⟩ => ⟨G, sa, fun v1 G1 H1 g1 sh1 r1 => by
    obtain ⟨_, vs, hv, r⟩ := sh1.mem p _ h
    rw [r1.of_val]
    refine ⟨_, .inl ⟨vs, .inl (.inl hv), rfl⟩, ?_⟩
    have e1 : (!vs.isEmpty) = !ds.isEmpty := by
      have := r.len
      cases vs <;> cases ds <;> first | rfl | cases this
    rw [e1]
    exact k G1 H1 g1 sh1⟩
theorem tv_notN {j} {v : V} {p2 : Pos} (ha : EV X a ρ M (.val v) M1) : TV X (.Compare a [.IsNot] [.Constant .none j p2] pos) ρ M (!decide (v = .non)) M1 :=
  (pt_cmp (pc_notN ha)).mono fun σ H Q ⟨G, sa, k⟩ => ⟨G, sa, fun v1 G1 H1 g1 sh1 r1 => by rw [r1.of_val]; exact ⟨_, rfl, k G1 H1 g1 sh1⟩⟩
theorem tv_notND {j} {p2 : Pos} (ha : EV X a ρ M (.tup ds) M1) : TV X (.Compare a [.IsNot] [.Constant .none j p2] pos) ρ M true M1 :=
  (pt_cmp (pc_notN ha)).mono fun σ H Q ⟨G, sa, k⟩ => ⟨G, sa, fun v1 G1 H1 g1 sh1 r1 => by
    cases r1 with
    | tup q r => exact ⟨_, by rw [decide_eq_false (fun h => V.noConfusion h)]; rfl, k G1 H1 g1 sh1⟩⟩
theorem sv_augI (i : Nat) {x : Str} {n m : Int} {pos' : Pos} (hN : X.N.Nodup) (h0 : ρ[i]? = some (some (dI n))) (he : EV X e ρ M (dI m) M1) (hΨ : Ψ (.nx (ρ.set i (some (dI (n + m)))) M1)) (hi : X.N[i]? = some x := by rfl) (hx : L2.Loc X.env.scope x := by first | exact Or.inl rfl | exact Or.inr rfl)
    (hf : X.fn x = true ∨ X.env.scope.names.lookup x = some .local := by first | exact .inl rfl | exact .inr rfl) : SV X (.AugAssign (.Name x pos') .Add e pos) ρ M Ψ :=
  (ps_aug hN hi hx he ip_add hf).mono fun E σ H ⟨G, sa, k⟩ => by
    obtain ⟨v, e1, r⟩ := sa.sl.2 i _ h0
    refine ⟨v, e1, G, sa, fun y G1 H1 g1 sh1 r1 => ?_⟩
    rw [r.of_val, r1.of_val]
    exact ⟨n, m, rfl, rfl, k _ hΨ _ G1 H1 g1 ⟨sh1, (sa.sl.up g1).set i (.val _)⟩⟩
end
/-! ### try with clauses of all forms that the laws have: tuples of classes that do not match, a class as a name -/
inductive HD where
  | skip (cs : List Value)
  | as (c : Value) (i : Nat) (ts : Addr → Value → Option Addr → TS)
def wG (K : PySem.W.Frag) (Wout : WX) (D : Ends) : List HD → WX
  | [] => Wout
  | .skip cs :: r => fun cls d σ H => PySem.W.exmAny K cls cs = some false ∧ wG K Wout D r cls d σ H
  | .as c i ts :: r => fun cls d σ H => ∃ b, PySem.W.exmOne K cls c = some b ∧ (b = true → ∀ a, H a = none → ts a cls d { nx := fun σ' H' => D.nx (σ'.set i none) H', rt := D.rt, bk := fun σ' H' => D.bk (σ'.set i none) H', ct := fun σ' H' => D.ct (σ'.set i none) H' } (σ.set i (some (.ref a))) H) ∧
      (b = false → wG K Wout D r cls d σ H)
inductive HdsG (X : Cx) : List ExceptHandler → List HD → Prop
  | nil : HdsG X [] []
  | skip2 {x y : Str} {c1 c2 : Value} {b₀ : Stmt} {suite : List Stmt} {p1 p2 p3 pos' : Pos} {kk : Nat} {nm : Option Str} {hds : List ExceptHandler} {l : List HD} (h1 : Names X x c1) (h2 : Names X y c2) (r : HdsG X hds l) :
      HdsG X (.ExceptHandler (some (.Tuple [.Name x p1, .Name y p2] kk p3)) nm (b₀ :: suite) pos' :: hds) (.skip [c1, c2] :: l)
  | as {x n : Str} {c : Value} {i : Nat} {ts : Addr → Value → Option Addr → TS} {b₀ : Stmt} {suite : List Stmt} {np pos' : Pos} {hds : List ExceptHandler} {l : List HD} (hc : Names X x c) (hN : X.N.Nodup) (hi : X.N[i]? = some n) (hln : X.env.kindOf n = some .local)
      (hsu : ∀ (a : Addr) (oe : Obj) (cls : Value) (d : Option Addr) (pn : List (Addr × Obj)), Zc cls d oe → (∃ vs, oe.data = .fields vs) → PSs (X.suite a ((a, oe) :: pn)) (b₀ :: suite) (ts a cls d)) (r : HdsG X hds l) :
      HdsG X (.ExceptHandler (some (.Name x np)) (some n) (b₀ :: suite) pos' :: hds) (.as c i ts :: l)
theorem fly_keeps {base h h' : Heap} {l : List Env} {e : Addr} {Z : Obj → Prop} (R : HandSPX.FlyingZ base l e Z h) (k : ∀ b o, h.get? b = some o → h'.get? b = some o) : HandSPX.FlyingZ base l e Z h' := by
  obtain ⟨f1, f2, f3, oe, ws, T, oT, ts, he, hz, hd, h1, hn, hne, hT, hdT, h3⟩ := R
  exact ⟨fun b o q => k b o (f1 b o q), f2, f3.of_keeps fun b o q _ => ⟨o, k b o q, rfl⟩, oe, ws, T, oT, ts, k _ _ he, hz, hd, h1, hn, hne, k _ _ hT, hdT, h3⟩
section
variable {X : Cx} {body : List Stmt} {h₀ : ExceptHandler} {hds : List ExceptHandler} {l : List HD} {pos : Pos} {tb : WX → TS} {Wout : WX}
theorem ps_try_g (hs : X.stack = X.env :: X.outer) (hf : X.env.frame = some X.env.locals) (tk : Takes X Wout)
    (hb : ∀ (W : WX) (pn : List (Addr × Obj)) (xe : Value → Shared → Prop), Takes (X.tr pn xe) W → PassesOwn (model X.prog X.w) X.A X.env xe → PSs (X.tr pn xe) body (tb W))
    (hh : HdsG X (h₀ :: hds) l) : PS X (.Try body (h₀ :: hds) [] [] pos) (fun D σ H => tb (wG X.K Wout D l) D σ H) := by
  refine ⟨fun pins s σ H D I h => ?_⟩
  have ok := I.ok
  have hfr : X.A.frames = some (X.env :: X.outer) := by rw [ok.frames, hs]
  refine wpAny_Try_except ?_
  refine wpAny_mono ((hb (wG X.K Wout D l) (X.pn ++ pins) (fun e s₁ => wpAny (model X.prog X.w) X.A (noteFrame e X.env) (fun _ s₂ => wpAny (model X.prog X.w) X.A (setFlight e none) (fun _ s₃ =>
    wpAny (model X.prog X.w) X.A (handleBy e X.env (h₀ :: hds)) (SP X pins D) X.xe s₃) X.xe s₂) X.xe s₁) (fun u s' xx => ?_) PassesOwn.looking).run [] s σ H D (I.toTry _) h) (fun f s1 hsp => ?_) (fun e s1 he => he)
  · obtain ⟨a, B, sI, pins', σ', H', cls, d, rfl, J', nb, up, sky, na, os, ag, w⟩ := xx
    have J : Inv X pins σ' H' sI := J'.ofTry ok
    have sky' : Sky B (X.env :: X.outer) a (Zc cls d) X.env.locals s'.heap := by rw [← hs]; exact sky
    show wpAny (model X.prog X.w) X.A (noteFrame (.ref a) X.env) _ _ _
    refine Sky.land Zc.steady hfr hf sky' fun h3 fl3 up3 => ?_
    have go : ∀ {hds' : List ExceptHandler} {l' : List HD}, HdsG X hds' l' → wG X.K Wout D l' cls d σ' H' → ∀ h3, HandSPX.FlyingZ B (X.env :: X.outer) a (Zc cls d) h3 → s'.heap.UpToSlots h3 →
        wpAny (model X.prog X.w) X.A (handleBy (.ref a) X.env hds') (SP X pins D) X.xe { s' with heap := h3 } := by
      intro hds' l' hk
      have notFr : ∀ {h : Heap} {o : Obj} {vs : Array Value}, h.FunFrames B (X.env :: X.outer) → h.get? a = some o → o.data = .fields vs → a ∉ frs (X.env :: X.outer) := fun {h o vs} ff e dd hm => by
        obtain ⟨_, o', e', hnf⟩ := ff.mem hm
        rw [e] at e'; cases e'
        exact hnf _ dd
      have pre : ∀ h3, HandSPX.FlyingZ B (X.env :: X.outer) a (Zc cls d) h3 → s'.heap.UpToSlots h3 → ∃ oe3 vs3, h3.get? a = some oe3 ∧ Zc cls d oe3 ∧ oe3.data = .fields vs3 ∧ a ≠ X.env.locals ∧ a ∉ X.fs ∧ Inv X pins σ' H' { s' with heap := h3 } := fun h3 fl3 up3 => by
        have J3 : Inv X pins σ' H' { s' with heap := h3 } := J.landed nb fl3.1 (up.trans up3) os ag
        obtain ⟨oe3, vs3, he3, hz3, hd3⟩ := fl3.there
        have nfr := notFr fl3.2.2.1 he3 hd3
        refine ⟨oe3, vs3, he3, hz3, hd3, fun z => nfr (List.mem_filterMap.mpr ⟨X.env, List.mem_cons_self, by rw [hf, z]⟩), fun hm => ?_, J3⟩
        obtain ⟨e, he, q⟩ := List.mem_filterMap.mp hm
        exact nfr (List.mem_filterMap.mpr ⟨e, List.mem_cons_of_mem _ he, q⟩)
      have test : ∀ {x : Str} {c : Value} {np : Pos}, Names X x c → ∀ h3, HandSPX.FlyingZ B (X.env :: X.outer) a (Zc cls d) h3 → s'.heap.UpToSlots h3 → ∀ {Q : Value → Shared → Prop} {E : Value → Shared → Prop}, Q c { s' with heap := h3 } → wpAny (model X.prog X.w) (X.A.mark (some (.ref a))) (eval (.Name x np) X.env) Q E { s' with heap := h3 } := fun {x c np} hc h3 fl3 up3 {Q E} q => by
        obtain ⟨oe3, vs3, he3, hz3, hd3, nL, nF, J3⟩ := pre h3 fl3 up3
        have S3 := J3.suite he3 hd3 na nL nF
        obtain ⟨hg, hdbg, hm | ⟨hm, hv, hnn⟩⟩ := hc
        · exact ld_glob (X := X.suite a ((a, oe3) :: (X.pn ++ pins))) S3 hg hm q hdbg
        · exact ld_blt (X := X.suite a ((a, oe3) :: (X.pn ++ pins))) S3 hg hm hv q hnn hdbg
      induction hk with
      | nil =>
        intro w h3 fl3 up3
        obtain ⟨oe3, vs3, he3, hz3, hd3, nL, nF, J3⟩ := pre h3 fl3 up3
        refine wpAny_handleBy_nil ?_
        obtain ⟨k1, k2, k3, oe, vs, T, oT, ts', he, hz, hd, h1, hr⟩ := id fl3
        unfold PySem.passOn
        refine wpAny_bind (wpAny_field he hd h1 ?_)
        rw [if_neg (show ¬ ((Value.ref T == Value.none) = true) from by simp)]
        have fin : wpAny (model X.prog X.w) X.A (setFlight (.ref a) X.env.frame) (fun _ s4 => wpAny (model X.prog X.w) X.A (throw (.ref a) : Sem Flow) (SP X pins D) X.xe s4) X.xe { s' with heap := h3 } := by
          rw [hf]
          refine HandSPX.setFlight_upZ fl3 fun h4 hh4 up4 => wpAny_throw (tk _ _ ?_)
          exact ⟨a, B, sI, pins, σ', H', cls, d, rfl, J, nb, (up.trans up3).trans up4, .inr (.inr (by rw [hs]; exact hh4)), na, os, ag, w⟩
        first
          | exact wpAny_bind (wpAny_pure (wpAny_bind fin))
          | exact wpAny_bind fin
      | skip2 h1 h2 r ih =>
        intro w h3 fl3 up3
        obtain ⟨he, w⟩ := w
        obtain ⟨oe3, vs3, he3, hz3, hd3, nL, nF, J3⟩ := pre h3 fl3 up3
        have LT : PySem.W.Looks (model X.prog X.w) h3 (typeOf (.ref a)) cls := fun A Q E s k q => wpAny_typeOf_ref (k _ _ he3) (by rw [hz3.1]; exact q)
        refine wpAny_handleBy_cons (codeAny_handlers_test ?_) (by intro q; cases q)
        refine wpAny_Tuple ?_
        refine wpAny_items_cons (test h1 h3 fl3 up3 ?_)
        refine wpAny_items_cons (test h2 h3 fl3 up3 ?_)
        refine wpAny_items_nil ⟨by size_fits, ?_⟩
        rename_i c1 c2 _ _ _ _ _ _ _ _ _ _
        have kp : ∀ q o, h3.get? q = some o → (h3.push { cls := .type "tuple", data := .seq [c1, c2].toArray }).get? q = some o := fun _ _ z => Heap.get?_push_of_some _ z
        exact (PySem.W.exm_tup2 (M := model X.prog X.w) ((J3.kIn).keeps kp) (LT.keeps kp) (Heap.get?_push_size h3 rfl) he).here (ih w _ (fly_keeps fl3 kp) (up3.trans (Heap.UpToSlots.of_keeps kp)))
      | @as x n c i ts b₀ suite np pos' hds2 l2 hc hN hi hln hsu r ih =>
        intro w h3 fl3 up3
        obtain ⟨b, hb1, hyes, hno⟩ := w
        obtain ⟨oe3, vs3, he3, hz3, hd3, nL, nF, J3⟩ := pre h3 fl3 up3
        have LT : PySem.W.Looks (model X.prog X.w) h3 (typeOf (.ref a)) cls := fun A Q E s k q => wpAny_typeOf_ref (k _ _ he3) (by rw [hz3.1]; exact q)
        refine wpAny_handleBy_cons (codeAny_handlers_test ?_) (by intro q; cases q)
        have LM := PySem.W.exm_one (M := model X.prog X.w) (J3.kIn) LT hb1
        refine test hc h3 fl3 up3 (LM.here ?_)
        cases b with
        | true =>
          refine codeAny_handlers_suite_as ?_
          refine HandSPX.lands_againZ fl3 fun h4 fl4 up4 => ?_
          have J4 : Inv X pins σ' H' { s' with heap := h4 } := J.landed nb fl4.1 ((up.trans up3).trans up4) os ag
          obtain ⟨oe4, vs4, he4, hz4, hd4⟩ := fl4.there
          have S4 := J4.suite he4 hd4 na nL nF
          refine store_ok (X := X.suite a ((a, oe4) :: (X.pn ++ pins))) (v := .ref a) S4 hN hi (.inl hln) rfl (fun s5 S5 => ?_) (.inr hln)
          refine wpAny_mono ((hsu a oe4 cls d (X.pn ++ pins) hz4 ⟨_, hd4⟩).run [] s5 _ H' _ S5 (hyes rfl a na)) (fun f s6 hsp => ?_) (fun _ _ z => False.elim z)
          have end_ : ∀ {σ6 : L2.St} {H6 : Hp} {Q : Shared → Prop}, Inv (X.suite a ((a, oe4) :: (X.pn ++ pins))) [] σ6 H6 s6 → (∀ s7, Inv X pins (σ6.set i none) H6 s7 → Q s7) →
              wpAny (model X.prog X.w) X.A (do bindName X.env n .none; unbindBehindTheSuite X.env n pos') (fun _ s7 => Q s7) X.xe s6 := fun {σ6 H6 Q} S6 hq => gone_ok (S6.unsuite ok) hN hi hln hq
          cases f with
          | next =>
            obtain ⟨σ6, H6, S6, q6⟩ := hsp
            exact end_ S6 fun s7 J7 => ⟨_, _, J7, q6⟩
          | brk =>
            obtain ⟨σ6, H6, S6, q6⟩ := hsp
            exact end_ S6 fun s7 J7 => ⟨_, _, J7, q6⟩
          | cont =>
            obtain ⟨σ6, H6, S6, q6⟩ := hsp
            exact end_ S6 fun s7 J7 => ⟨_, _, J7, q6⟩
          | ret u =>
            obtain ⟨v6, σ6, H6, S6, r6, q6⟩ := hsp
            exact end_ S6 fun s7 J7 => ⟨_, _, _, J7, r6, q6⟩
        | false =>
          show wpAny _ X.A (handleBy (.ref a) X.env hds2) _ _ _
          exact ih (hno rfl) h3 fl3 up3
    exact go hh w h3 fl3 up3
  · cases f with
    | next =>
      obtain ⟨σ', H', J', q⟩ := hsp
      exact wpAny_execs_nil ⟨σ', H', J'.ofTry ok, q⟩
    | brk =>
      obtain ⟨σ', H', J', q⟩ := hsp
      exact ⟨σ', H', J'.ofTry ok, q⟩
    | cont =>
      obtain ⟨σ', H', J', q⟩ := hsp
      exact ⟨σ', H', J'.ofTry ok, q⟩
    | ret u =>
      obtain ⟨v, σ', H', J', r, q⟩ := hsp
      exact ⟨v, σ', H', J'.ofTry ok, r, q⟩
end
/-! ### what raises: an exception of a class of the program, made without a dict -/
def tX (K : PySem.W.Frag) (W : WX) (ρ : Sl) (M : Mem) (cls : Value) (ρ' : Sl) (M' : Mem) : L2.St → Hp → Prop := fun σ H => ∃ G, SA K G H σ ρ M ∧ ∀ G' H' σ', Same G G' → SA K G' H' σ' ρ' M' → W cls none σ' H'
abbrev EX (X : Cx) (W : WX) (e : Expr) (ρ : Sl) (M : Mem) (cls : Value) (M' : Mem) : Prop := PE X e (fun σ H _ => tX X.K W ρ M cls ρ M' σ H)
abbrev SX (X : Cx) (W : WX) (st : Stmt) (ρ : Sl) (M : Mem) (cls : Value) (ρ' : Sl) (M' : Mem) : Prop := PS X st (fun _ σ H => tX X.K W ρ M cls ρ' M' σ H)
abbrev BX (X : Cx) (W : WX) (sts : List Stmt) (ρ : Sl) (M : Mem) (cls : Value) (ρ' : Sl) (M' : Mem) : Prop := PSs X sts (fun _ σ H => tX X.K W ρ M cls ρ' M' σ H)
def spX (K : PySem.W.Frag) (R : List D → Mem → Value → Mem → Prop) : Sp := fun vs H _ E => ∃ G ds M cls M', SH K G H M ∧ RepL K G vs ds ∧ R ds M cls M' ∧ ∀ G' H', Same G G' → SH K G' H' M' → E cls none H'
structure CalX (P : Program) (w : World) (K : PySem.W.Frag) (mg : Str → Option Value) (base : Heap) (k : Nat) (x : Str) (sp : Sp) : Prop where
  ex : ∃ f fd ps, mg x = some (.ref f) ∧ PySem.W.keepIn K (.ref f) = true ∧ Binds K fd ps [] ∧ FnOk P w K mg base (L2.CX P w) k f fd ps sp
section
variable {X : Cx} {W : WX} {ρ ρ1 ρ' : Sl} {M M1 M2 M' : Mem} {a b c e : Expr} {es : List Expr} {d : D} {ds : List D} {pos : Pos} {cls : Value} {st : Stmt} {rest : List Stmt} {Ψ : Out → Prop}
theorem ex_call {k : Nat} {x : Str} {R : List D → Mem → Value → Mem → Prop} {p : Pos} (C : CalX X.prog X.w X.K X.mg X.base k x (spX X.K R)) (tk : Takes X W) (hr : Room k X.A) (ha : AV X (e :: es) ρ M ds M1) (hp : R ds M1 cls M2) (hg : Gl X x := by rfl)
    (hd : (x == ("__debug__" : Str)) = false := by decide) (hst : starEach (e :: es) X.env = (false, eval e X.env) :: starEach es X.env := by rfl) (hpl : (backTo pos (starEach es X.env)).any (·.1) = false := by rfl) : EX X W (.Call (.Name x p) (e :: es) [] pos) ρ M cls M2 := by
  obtain ⟨f, fd, ps, hm, hk, hb, F⟩ := C.ex
  refine (pe_callS (E := WE W) F hr hg hm hk hb (passAt tk) ha (hdb := hd) (he := hst) (hpl := hpl)).mono fun σ H Q ⟨G, sa, k⟩ => ⟨G, sa, fun vs G1 H1 g1 sh1 r1 => ?_⟩
  exact ⟨G1, ds, M1, cls, M2, sh1, r1, hp, fun G' H' g sh => k G' H' σ (g1.trans g) ⟨sh, (sa.sl.up g1).up g⟩⟩
/-- a op b, a raises -/
theorem ex_opL {op : Operator} {r : R2} (ho : OpR X (binaryOp op) r) (ha : EX X W a ρ M cls M') : EX X W (.BinOp a op b pos) ρ M cls M' :=
  (pe_op (tb := fun _ _ _ => False) ho ha ⟨fun _ _ _ _ _ _ h => h.elim⟩).mono fun _ _ _ h => h
/-- f(a), a raises, f a def of the program -/
theorem ex_arg {k : Nat} {x : Str} {sp : Sp} {p : Pos} (C : Cal X.prog X.w X.K X.mg X.base k x sp) (hr : Room k X.A) (ha : EX X W e ρ M cls M') (hg : Gl X x := by rfl)
    (hd : (x == ("__debug__" : Str)) = false := by decide) (hst : starEach [e] X.env = (false, eval e X.env) :: starEach [] X.env := by rfl) (hpl : (backTo pos (starEach [] X.env)).any (·.1) = false := by rfl) : EX X W (.Call (.Name x p) [e] [] pos) ρ M cls M' := by
  obtain ⟨f, fd, ps, hm, hk, hb, F⟩ := C.ex
  exact (pe_call F hr hg hm hk hb .nil pass0 (pa_cons ha pa_nil hst) (hdb := hd) (he := hst) (hpl := hpl)).mono fun σ H Q h => h
theorem sx_set (i : Nat) {x : Str} {pos' : Pos} (hN : X.N.Nodup) (he : EX X W e ρ M cls M') (hi : X.N[i]? = some x := by rfl) (hx : L2.Loc X.env.scope x := by first | exact Or.inl rfl | exact Or.inr rfl) (hs : swapsWith e (some (.Name x pos')) pos.line X.env = pure false := by rfl)
    (hf : X.fn x = true ∨ X.env.scope.names.lookup x = some .local := by first | exact .inl rfl | exact .inr rfl) : SX X W (.Assign [.Name x pos'] e pos) ρ M cls ρ M' :=
  (ps_set hN hi hx he hs hf).mono fun _ _ _ h => h
theorem sx_ret (he : EX X W e ρ M cls M') : SX X W (.Return (some e) pos) ρ M cls ρ M' := (ps_ret he).mono fun _ _ _ h => h
theorem sx_ifT {as bs : List Stmt} (hc : TV X c ρ M true M1) (ha : BX X W as ρ M1 cls ρ' M') : SX X W (.If c as bs pos) ρ M cls ρ' M' :=
  (ps_if (u := fun _ _ _ => False) hc ha ⟨fun _ _ _ _ _ _ h => h.elim⟩).mono fun E σ H ⟨G, sa, k⟩ => ⟨G, sa, fun G1 H1 g1 sh1 => (⟨G1, ⟨sh1, sa.sl.up g1⟩, fun G' H' σ' g q => k G' H' σ' (g1.trans g) q⟩ : tX _ _ _ _ _ _ _ σ H1)⟩
theorem sx_ifF {as bs : List Stmt} (hc : TV X c ρ M false M1) (hb : BX X W bs ρ M1 cls ρ' M') : SX X W (.If c as bs pos) ρ M cls ρ' M' :=
  (ps_if (t := fun _ _ _ => False) hc ⟨fun _ _ _ _ _ _ h => h.elim⟩ hb).mono fun E σ H ⟨G, sa, k⟩ => ⟨G, sa, fun G1 H1 g1 sh1 => (⟨G1, ⟨sh1, sa.sl.up g1⟩, fun G' H' σ' g q => k G' H' σ' (g1.trans g) q⟩ : tX _ _ _ _ _ _ _ σ H1)⟩
theorem bx_head (h : SX X W st ρ M cls ρ' M') : BX X W (st :: rest) ρ M cls ρ' M' :=
  (pss_cons (u := fun _ _ _ => False) h ⟨fun _ _ _ _ _ _ h => h.elim⟩).mono fun _ _ _ h => h
theorem bx_cons (h : SV X st ρ M (fun o => match o with | .nx ρ1 M1 => BX X W rest ρ1 M1 cls ρ' M' | _ => False)) : BX X W (st :: rest) ρ M cls ρ' M' := by
  refine (pss_cons (u := fun E σ H => ∃ ρ1 M1, BX X W rest ρ1 M1 cls ρ' M' ∧ tX X.K W ρ1 M1 cls ρ' M' σ H) h ⟨fun pins s σ H E I ⟨ρ1, M1, hb, q⟩ => hb.run pins s σ H E I q⟩).mono fun E σ H ⟨G, sa, k⟩ => ⟨G, sa, fun o ho => ?_⟩
  cases o with
  | nx ρ1 M1 => exact fun σ1 G1 H1 g sa1 => ⟨ρ1, M1, ho, G1, sa1, fun G' H' σ' g' q => k G' H' σ' (g.trans g') q⟩
  | ret d M1 => exact ho.elim
  | bk ρ1 M1 => exact ho.elim
  | ct ρ1 M1 => exact ho.elim
/-- raise C('m'), C a class of the program without own __init__ -/
theorem sx_raise {x m : Str} {j : Nat} {p p2 pos' : Pos} {C : Addr} {bmB : List Value} {B newId initId : String} (hc : X.calm = true) (tk : Takes X W) (F : ExcBaseFacts B newId initId bmB) (q : PySem.W.excIn X.K C bmB newId = true) (gC : X.mg x = some (.ref C)) (kC : PySem.W.keepIn X.K (.ref C) = true)
    (h1 : PySem.W.subIn X.K (.ref C) (.type "BaseException") = some true) (h2 : PySem.W.typeIn X.K (.ref C) = some (.type "type")) (hg : Gl X x := by rfl) (hdb : (x == ("__debug__" : Str)) = false := by decide) :
    SX X W (.Raise (some (.Call (.Name x p) [.Constant (.str m) j p2] [] pos)) none pos') ρ M (.ref C) ρ M :=
  (L2.ps_raise hc tk (L2.pmk_own F q gC kC (raises_own h1 h2) hg hdb)).mono fun E σ H ⟨G, sa, k⟩ => k G H σ (Same.refl G) sa
/-- a try whose body raises nothing -/
theorem sv_tryThru {body : List Stmt} {h₀ : ExceptHandler} {hs : List ExceptHandler} (hb : BV X.nox body ρ M Ψ) : SV X (.Try body (h₀ :: hs) [] [] pos) ρ M Ψ := ps_try_thru0 hb
/-- a try whose body raises: two clauses, the first a tuple of two other classes, the second one takes it and returns -/
theorem sv_try2 {body suite : List Stmt} {b₀ : Stmt} {x y z n : Str} {p1 p2 p3 p4 p5 p6 : Pos} {kk i : Nat} {nm : Option Str} {c0 : Stmt} {cr : List Stmt} {c1 c2 : Value} {C : Addr} (hs : X.stack = X.env :: X.outer) (hf : X.env.frame = some X.env.locals) (tk : Takes X (fun _ _ _ _ => False))
    (hb : ∀ (W : WX) (pn : List (Addr × Obj)) (xe : Value → Shared → Prop), Takes (X.tr pn xe) W → BX (X.tr pn xe) W body ρ M (.ref C) ρ' M')
    (h1 : Names X x c1) (h2 : Names X y c2) (h3 : Names X z (.ref C)) (hno : PySem.W.exmAny X.K (.ref C) [c1, c2] = some false) (hyes : PySem.W.exmOne X.K (.ref C) (.ref C) = some true) (hN : X.N.Nodup) (hi : X.N[i]? = some n) (hln : X.env.kindOf n = some .local)
    (hsu : ∀ (a : Addr) (oe : Obj) (pn : List (Addr × Obj)), Zc (.ref C) none oe → (∃ vs, oe.data = .fields vs) → BV (X.suite a ((a, oe) :: pn)) (b₀ :: suite) (ρ'.set i (some (dP a))) M' (fun o => match o with | .ret d M2 => Ψ (.ret d M2) | _ => False)) :
    SV X (.Try body [.ExceptHandler (some (.Tuple [.Name x p1, .Name y p2] kk p3)) nm (c0 :: cr) p4, .ExceptHandler (some (.Name z p5)) (some n) (b₀ :: suite) p6] [] [] pos) ρ M Ψ := by
  refine (ps_try_g (tb := fun W _ σ H => tX X.K W ρ M (.ref C) ρ' M' σ H) (Wout := fun _ _ _ _ => False) (l := [.skip [c1, c2], .as (.ref C) i (fun a cls d D σ H => cls = .ref C ∧ d = none ∧ tS X.K (ρ'.set i (some (dP a))) M' (fun o => match o with | .ret d M2 => Ψ (.ret d M2) | _ => False) D σ H)])
    hs hf tk (fun W pn xe tk' _ => hb W pn xe tk') (.skip2 h1 h2 (.as h3 hN hi hln (fun a oe cls d pn hz hd => ⟨fun pins s σ H D I ⟨e1, e2, h⟩ => ?_⟩) .nil))).mono fun E σ H ⟨G, sa, k⟩ => ⟨G, sa, fun G' H' σ' g q => ⟨hno, true, hyes, fun _ a na => ⟨rfl, rfl, G', ⟨q.sh, q.sl.set i (.val _)⟩, fun o ho => ?_⟩, fun h => nomatch h⟩⟩
  · subst e1 e2
    exact (hsu a oe pn hz hd).run pins s σ H D I h
  · cases o with
    | ret d M2 => exact (k _ ho).up g
    | nx _ _ => exact ho.elim
    | bk _ _ => exact ho.elim
    | ct _ _ => exact ho.elim
/-- isinstance(e, c) in an except suite -/
theorem ev_isE {n x : Str} {a C : Addr} {oe : Obj} {pn : List (Addr × Obj)} {cv : Value} {vc : V} {r : Bool} {p p2 p3 : Pos} {i : Nat} (hm : X.mg "isinstance" = none) (EC : ExcC X.K C) (hz : Zc (.ref C) none oe) (hf : ∃ vs, oe.data = .fields vs)
    (hv : ∀ u, RelV vc u → u = cv) (hk : PySem.W.kitOne X.K (.ref C) cv = some r) (ha : AV (X.suite a ((a, oe) :: pn)) [e, .Name x p2] ρ M [dP a, .val vc] M) (hg : Gl (X.suite a ((a, oe) :: pn)) "isinstance" := by rfl)
    (h1 : starEach [e, .Name x p2] X.env = (false, eval e X.env) :: starEach [.Name x p2] X.env := by rfl) (hpl : (backTo pos (starEach [.Name x p2] X.env)).any (·.1) = false := by rfl) :
    EV (X.suite a ((a, oe) :: pn)) (.Call (.Name "isinstance" p) [e, .Name x p2] [] pos) ρ M (dB r) M :=
  (pe_callB (call_isE EC hz hf) hg hm boot_isinstance ha (hpl := hpl) (he := h1)).mono fun σ H Q ⟨G, sa, k⟩ => ⟨G, sa, fun vs G1 H1 g1 sh1 r1 => by
    rw [RepL.of_vals (xs := [.ref a, vc]) r1]
    exact ⟨vc, cv, r, rfl, hv, hk, k _ G1 H1 g1 sh1 (.val _)⟩⟩
end
theorem calX_of {P : Program} {w : World} {K : PySem.W.Frag} {mg : Str → Option Value} {base : Heap} {x qual : Str} {sd : Stmt} {f : Addr} {fd : FuncData} {N ps : List Str} {k : Nat} {R : List D → Mem → Value → Mem → Prop} (F : Fun K x qual sd f fd) (S : FnScope N ps (defScope sd)) (hm : mg x = some (.ref f))
    (hbind : ∀ (kV doc pm : Value) (an : Option Addr) (cdv ct : Value) (us : List Value), us.length = ps.length → bindArgs (PySem.W.fnOf x qual (defArgs sd) (defBody sd) (defScope sd) .none kV doc pm an cdv ct) ⟨us, []⟩ = pure (ps.zip us))
    (len : ∀ ds M cls M', R ds M cls M' → ds.length = ps.length)
    (hb : ∀ (cdv : Value) (A : Around) (outer : List Env) (s : Shared) (H : Hp) (E : XK) (ds : List D) (M : Mem) (cls : Value) (M' : Mem), Room k (A.deeper (envOfC qual (defScope sd) s.heap.objs.size f cdv)) → R ds M cls M' →
      ∀ W, W = (fun cls d _ H' => E cls d H' : WX) → Takes (cxOf (L2.CX P w) P w K mg base N qual (defScope sd) f cdv A outer s H E) W →
      ∃ ρ', BX (cxOf (L2.CX P w) P w K mg base N qual (defScope sd) f cdv A outer s H E) W (defBody sd) (startD N ds) M cls ρ' M') : CalX P w K mg base (k + 1) x (spX K R) :=
  ⟨f, fd, ps, hm, F.kp, F.binds hbind, F.okX S (fun vs H Q E ⟨G, ds, M, cls, M', sh, r, p, q⟩ => by rw [r.len]; exact len _ _ _ _ p) fun cdv A outer s H vs Q E hr ⟨G, ds, M, cls, M', sh, r, p, q⟩ => by
    obtain ⟨ρ', h⟩ := hb cdv A outer s H E ds M cls M' hr p _ rfl (takes_of (E := E) rfl rfl rfl rfl)
    exact ⟨_, h, G, ⟨sh, start_rep r⟩, fun G' H' σ' g sa => q G' H' g sa.sh⟩⟩
section
variable {X : Cx} {ρ : Sl} {M M1 M2 : Mem} {a e : Expr} {pos : Pos}
theorem ev_sindex {z y : Str} {i : Nat} {rest : List Nat} {ap : Pos} (ho : EV X a ρ M (dS z) M1) (ha : EV X e ρ M1 (dS y) M2) (hi : Builtin.Str.occurrences z y 0 z.length 1 = i :: rest) (h1 : attributeBase a "index" X.env (eval a X.env) = eval a X.env := by rfl) (h3 : (ap.endLine == pos.line) = true := by decide) (h4 : starEach [e] X.env = (false, eval e X.env) :: starEach [] X.env := by rfl)
    (h2 : (((((backTo pos (starEach [e] X.env)).all fun x => !x.fst) && (backToKw pos (keywordEach [] X.env)).all fun x => x.fst.isSome) && decide (([e].length + ([] : List Keyword).length + if ([] : List Keyword).isEmpty = true then 0 else 1) < 30)) = true) := by rfl)
    (h5 : (((backTo pos (starEach [] X.env)).any fun x => x.fst) = false) := by rfl) : EV X (.Call (.Attribute a "index" ap) [e] [] pos) ρ M (dI (i : Int)) M2 :=
  ev_bmS (vs := [.str y]) PySem.F.plainAttrs_str PySem.F.slot_str_index PySem.F.type_str_index mt_sindex ho (av_cons ha av_nil h4) (fun H Q q => ⟨z, y, i, rest, rfl, rfl, hi, q⟩) h1 h3 h4 h2 h5
end
end Vt
namespace Vt
open PySem PySem.Spec PyProof.Rows L2
/-! ### defs that run where no guard is up: repr of trees -/
structure FnG (P : Program) (w : World) (K : PySem.W.Frag) (mg : Str → Option Value) (base : Heap) (k : Nat) (f : Addr) (fd : FuncData) (ps : List Str) (sp : Sp) : Prop where
  size : ∀ vs H Q E, sp vs H Q E → vs.length = ps.length
  goes : ∀ (A : Around) (out : List Env) (s : Shared) (H : Hp) (args : Args) (us : List Value) (vs : List V) (Q : VK) (E : XK), A.guards = some [] → Room k A → Env0 P w K mg base A out s H → BindsTo s fd args (ps.zip us) → Vals vs us → sp vs H Q E → codeAny (model P w) A (.call (.ref f) args) (CR CX0 out P w H s Q E) s
def bodyEnds (Q : VK) : Ends := { nx := fun _ H' => Q .non H', rt := Q }
theorem okG {P : Program} {w : World} {K : PySem.W.Frag} {mg : Str → Option Value} {base : Heap} {x qual : Str} {sd : Stmt} {f : Addr} {fd : FuncData} {N ps : List Str} {k : Nat} {sp : Sp} (F : Fun K x qual sd f fd) (S : FnScope N ps (defScope sd)) (size : ∀ vs H Q E, sp vs H Q E → vs.length = ps.length)
    (body : ∀ (cdv : Value) (A : Around) (out : List Env) (s : Shared) (H : Hp) (vs : List V) (Q : VK) (E : XK), (A.deeper (envOfC qual (defScope sd) s.heap.objs.size f cdv)).guards = some [] → Room k (A.deeper (envOfC qual (defScope sd) s.heap.objs.size f cdv)) → sp vs H Q E →
      ∃ t, PSs (cxOf CX0 P w K mg base N qual (defScope sd) f cdv A out s H E).nox (defBody sd) t ∧ t (bodyEnds Q) (L2.start N vs) H) : FnG P w K mg base (k + 1) f fd ps sp := by
  obtain ⟨_, _, _, _, _, _, cdv, _, _, rfl, found, code⟩ := F.ex
  refine ⟨size, fun A out s H args us vs Q E g room env bind rel want => ?_⟩
  have same := size _ _ _ _ want
  have up : ∀ b o, base.get? b = some o → s.heap.get? b = some o := fun b o z => (env.bs b o z).1
  have Kin : K.In s.heap := env.mod.kin.keeps up
  have noL : s.heap.NoLimit := env.mod.nolimit.keeps up
  have kinds : ∀ y ∈ ps.zip us, (defScope sd).names.lookup y.1 = some .local ∨ ((defScope sd).names.lookup y.1 = some .cell ∧ ((cellsFrom (s.heap.objs.size + 1) (defScope sd).names []).lookup y.1).isSome = true) := by
    rintro ⟨n, v⟩ hy
    exact (S.par n (List.of_mem_zip hy).1).imp id fun q => ⟨q, PySem.W.cellsFrom_some _ _ _ (.inl q)⟩
  apply codeAny_call_function room.depth (Kin _ _ found) rfl S.co S.gen rfl (PySem.W.codeRec_of Kin code)
  apply bind
  apply wpAny_newFunctionEnv_cells S.kind kinds
  rintro env1 rfl s1 x
  refine ⟨noL.keeps x.toInCall.keep, codeAny_func ?_⟩
  obtain ⟨t, ht0, atStart⟩ := body cdv A out s H vs Q E g (room.deeper _) want
  have ht := ht0.nox
  have J0 : Inv (cxOf CX0 P w K mg base N qual (defScope sd) f cdv A out s H E) [] (L2.start N vs) H s1 := inv_start S room.hd env same rel x
  refine wpAny_mono (ht.run [] s1 (L2.start N vs) H _ J0 atStart) ?_ (fun _ _ z => z)
  rintro fl s' end_
  match fl, end_ with
  | .ret u, ⟨v, _, H', J, rv, q⟩ => exact ⟨v, H', J.os, J.bare, J.base, J.hok, rv, q⟩
  | .next, ⟨_, H', J, q⟩ => exact ⟨.non, H', J.os, J.bare, J.base, J.hok, rfl, q⟩
  | .brk, ⟨_, _, _, q⟩ => exact q.elim
  | .cont, ⟨_, _, _, q⟩ => exact q.elim
section
variable {X : Cx} {ρ : Sl} {M M1 M2 M3 : Mem} {a b c e : Expr} {es : List Expr} {d d1 d2 : D} {ds : List D} {pos : Pos} {Ψ : Out → Prop}
theorem run_g {k : Nat} {f : Addr} {fd : FuncData} {ps : List Str} {sp : Sp} {pins : List (Addr × Obj)} {σ : L2.St} {H : Hp} {s : Shared} {Q : VK} {us : List Value} {vs : List V} (F : FnG X.prog X.w X.K X.mg X.base k f fd ps sp) (g : X.A.guards = some []) (hr : Room k X.A) (hb : L2.Binds X.K fd ps [])
    (I : Inv X pins σ H s) (r : Vals vs us) (h : sp vs H Q E0) : wpAny (model X.prog X.w) X.A (call (.ref f) us) (EP X pins σ Q) X.xe s := by
  have n : (us ++ []).length = ps.length := by rw [List.append_nil, ← r.length]; exact F.size _ _ _ _ h
  have b := hb s us I.kIn n
  rw [List.append_nil] at b
  refine wpAny_call (codeAny_mono (F.goes X.A X.stack s H ⟨us, []⟩ us vs Q E0 g hr I.env0 b r h) ?_)
  rintro (e | fl) s' hq
  · exact pass0 pins σ H s e s' I hq
  · match fl, hq with
    | .ret u, hq => exact I.after hq
    | .next, hq => exact hq.elim
    | .brk, hq => exact hq.elim
    | .cont, hq => exact hq.elim
structure CalG (P : Program) (w : World) (K : PySem.W.Frag) (mg : Str → Option Value) (base : Heap) (k : Nat) (x : Str) (sp : Sp) : Prop where
  ex : ∃ (f : Addr) (fd : FuncData) (ps : List Str), mg x = some (.ref f) ∧ PySem.W.keepIn K (.ref f) = true ∧ L2.Binds K fd ps [] ∧ FnG P w K mg base k f fd ps sp
theorem pe_callG {k : Nat} {f : Addr} {fd : FuncData} {ps : List Str} {sp : Sp} {x : Str} {p : Pos} {t : TA} (F : FnG X.prog X.w X.K X.mg X.base k f fd ps sp) (g : X.A.guards = some []) (hr : Room k X.A) (hg : Gl X x) (hm : X.mg x = some (.ref f)) (hk : PySem.W.keepIn X.K (.ref f) = true) (hb : L2.Binds X.K fd ps [])
    (ha : PA X (e :: es) t) (hdb : (x == ("__debug__" : Str)) = false) (he : starEach (e :: es) X.env = (false, eval e X.env) :: starEach es X.env) (hpl : (backTo pos (starEach es X.env)).any (·.1) = false) :
    PE X (.Call (.Name x p) (e :: es) [] pos) (fun σ H Q => t σ H fun vs H1 => sp vs H1 Q E0) :=
  ⟨fun pins s σ H Q I h => wpAny_Call_Name_kw (ld_glob I hg hm (PySem.W.callWith_K (h₀ := X.base) I.ok.mod.kin hk (thn (ha.run pos pins s σ H _ I h) fun _ _ ⟨_, _, J, r, q⟩ => ⟨J.kIn, run_g F g hr hb J r q⟩) he hpl) hdb)⟩
theorem ev_callG {k : Nat} {x : Str} {Pr : List D → Mem → D → Mem → Prop} {p : Pos} (C : CalG X.prog X.w X.K X.mg X.base k x (spD X.K Pr)) (g : X.A.guards = some []) (hr : Room k X.A) (ha : AV X (e :: es) ρ M ds M1) (hp : Pr ds M1 d M2) (hg : Gl X x := by rfl)
    (hd : (x == ("__debug__" : Str)) = false := by decide) (hst : starEach (e :: es) X.env = (false, eval e X.env) :: starEach es X.env := by rfl) (hpl : (backTo pos (starEach es X.env)).any (·.1) = false := by rfl) : EV X (.Call (.Name x p) (e :: es) [] pos) ρ M d M2 := by
  obtain ⟨f, fd, ps, hm, hk, hb, F⟩ := C.ex
  exact (pe_callG F g hr hg hm hk hb ha hd hst hpl).mono fun σ H Q ⟨G, sa, k⟩ => ⟨G, sa, fun vs G1 H1 g1 sh1 r1 => ⟨G1, ds, M1, d, M2, sh1, r1, hp, fun v G' H' g2 sh r => k v G' H' (g1.trans g2) sh r⟩⟩
/-- repr(x) of a tree -/
theorem ev_repr {p : Pos} (g : X.A.guards = some []) (hu : X.A.units + 64 < cLine) (hm : X.mg "repr" = none) (ha : EV X e ρ M d M1) (pl : D.plain d = true) (nv : ∀ v, d ≠ .val v) (nd : d.py.hasDict = false) (ss : d.py.showable = true) (dd : d.py.depth < 60) (sz : d.py.shown.length ≤ sizeLine) (hg : Gl X "repr" := by rfl) (hst : starEach [e] X.env = [(false, eval e X.env)] := by rfl) :
    EV X (.Call (.Name "repr" p) [e] [] pos) ρ M (dS d.py.shown) M1 := by
  have cr : CallR X (.builtin "repr") (fun vs H Q => ∃ a, vs = [V.ref a] ∧ Dp X.K H (.ref a) d.py ∧ Q (.str d.py.shown) H) := by
    intro pins s σ H vs us Q I r h
    obtain ⟨a, rfl, dp, q⟩ := h
    obtain ⟨u, rfl, ru⟩ := vals1 r
    obtain rfl : u = Value.ref a := ru
    obtain ⟨as, rd⟩ := Dp.reads I _ _ _ dp rfl
    refine repr_of_reads' rd ss (fun z => by rw [nd] at z; cases z) g (by omega) (fun _ _ z => z) (fun h' u tk hk => ?_) sz
    exact ⟨.str d.py.shown, H, I.kept hk, ⟨_, rfl⟩, q⟩
  refine (pe_callB cr hg hm boot_repr (av_cons ha av_nil hst) (he := hst) (hpl := by rfl)).mono fun σ H Q ⟨G, sa, k⟩ => ⟨G, sa, fun vs G1 H1 g1 sh1 r1 => ?_⟩
  cases r1 with
  | cons h t =>
    cases t
    have dp := dp_of sh1.le _ _ pl h
    cases h with
    | val => exact absurd rfl (nv _)
    | tup q r => exact ⟨_, rfl, dp, k _ G1 H1 g1 sh1 (.val _)⟩
    | lst q r => exact ⟨_, rfl, dp, k _ G1 H1 g1 sh1 (.val _)⟩
    | dic q => cases pl
end
end Vt
namespace Vt
open PySem PySem.Spec PyProof.Rows L2
/-! ### the end of a law whose body asks repr -/
/-- what may be tracked at the entry: the script alone -/
def soleH (K : PySem.W.Frag) (a : Addr) (o : Obj) (xs : List V) : Hp := fun b => if b = a ∧ (K.lookup a).isNone = true then some (.frz o (.lst xs)) else none
theorem soleH_of {K : PySem.W.Frag} {a b : Addr} {o : Obj} {xs : List V} {u : HO} (h : soleH K a o xs b = some u) : b = a ∧ K.lookup a = none ∧ u = .frz o (.lst xs) := by
  unfold soleH at h
  by_cases c : b = a ∧ (K.lookup a).isNone = true
  · rw [if_pos c] at h
    exact ⟨c.1, Option.isNone_iff_eq_none.mp c.2, (Option.some.inj h).symm⟩
  · rw [if_neg c] at h
    cases h
theorem law_runG {P : Program} {w : World} {K : PySem.W.Frag} {mg mb : Str → Option Value} {k : Nat} {fa a : Addr} {fd : FuncData} {x : Str} {s : Shared} {vs : List Value} {ns : List Int}
    (kin : K.In s.heap) (glob : s.heap.Ns mainGlobals mg) (blt : s.heap.Ns builtinsNs mb) (bltE : ∀ z : Str, z ≠ "__name__" → mb z = bootBuiltins z) (noL : s.heap.NoLimit) (gens : s.gens = #[])
    (at_ : s.heap.get? a = some { cls := .type "list", data := .seq vs.toArray }) (are : IntsAre vs ns) (short : ns.length ≤ 63) (room : Room k callerA)
    (F : ∀ base : Heap, K.In base → base.Ns mainGlobals mg → FnG P w K mg base k fa fd [x] (spLaw K)) (binds : ∀ (s : Shared) (u : Value), BindsTo s fd ⟨[u], []⟩ [(x, u)]) :
    codeAny (model P w) callerA (.call (.ref fa) ⟨[.ref a], []⟩) (fun r s' => r = .ok (.ret (.bool true)) ∧ OldK s.heap s'.heap ∧ s'.os = s.os ∧ AllBare s'.gens) s := by
  have rv := vals_ints are
  have size : ns.length ≤ sizeLine := Nat.le_trans short (by decide)
  let o : Obj := { cls := .type "list", data := .seq vs.toArray }
  let H : Hp := soleH K a o (ns.map V.int)
  have only : ∀ {b : Addr} {u : HO}, H b = some u → b = a ∧ K.lookup a = none ∧ u = .frz o (.lst (ns.map V.int)) := fun h => soleH_of h
  have apart : ∀ {b : Addr} {ob : Obj}, s.heap.get? b = some ob → (b = a → K.lookup a = none → False) → (hidT s.heap H).get? b = some ob := fun {b ob} e no => hidT_get e (by
    cases q : H b with
    | none => rfl
    | some u => exact (no (only q).1 (only q).2.1).elim)
  have names : ∀ {b : Addr} {m : Str → Option Value}, s.heap.Ns b m → (hidT s.heap H).Ns b m := by
    rintro b m ⟨ob, es, ep, e, d, r⟩
    refine ⟨ob, es, ep, apart e (fun z _ => ?_), d, r⟩
    rw [z, at_] at e
    cases e
    cases d
  have kin' : K.In (hidT s.heap H) := fun b ob e => apart (kin b ob e) fun z n => by
    rw [z, n] at e
    cases e
  have lst : SqL K H a (ns.map V.int) := by
    cases q : K.lookup a with
    | none => exact .inl (.inr ⟨o, if_pos ⟨rfl, by rw [q]; rfl⟩⟩)
    | some oa =>
      have e := kin a oa q
      rw [at_] at e
      cases e
      refine .inr ⟨_, vs.toArray, _, q, rfl, rfl, rfl, ?_, by simpa using rv⟩
      rw [List.size_toArray, are.length]
      exact size
  have hok : HOk P w H s.heap := fun b u e => by
    obtain ⟨rfl, _, rfl⟩ := only e
    exact ⟨at_, by rw [List.length_map]; exact size, vs, _, rv, at_⟩
  have env : Env0 P w K mg (hidT s.heap H) callerA [] s H :=
    ⟨rfl, ⟨kin', names glob, ⟨mb, names blt, bltE⟩, let ⟨mc, h1, h2⟩ := noL; ⟨mc, names h1, h2⟩⟩, fun b ob e => of_hidT e, Nat.le_of_eq (hidT_size _ _), trivial, fun b hb => absurd hb List.not_mem_nil, hok, .of_eq gens⟩
  refine codeAny_mono ((F _ kin' (names glob)).goes callerA [] s H ⟨[.ref a], []⟩ [.ref a] [.ref a] (fun v _ => v = .bl true) (fun _ _ _ => False) rfl room env (binds s (.ref a)) (.cons rfl .nil) ⟨a, ns, rfl, lst, short, fun _ => rfl⟩) ?_
  rintro (e | fl) s' end_
  · exact (end_ : False).elim
  · match fl, end_ with
    | .next, z => exact z.elim
    | .brk, z => exact z.elim
    | .cont, z => exact z.elim
    | .ret u, ⟨v, H', os, bare, un, hok', ru, q⟩ =>
      have q : v = .bl true := q
      subst q
      obtain rfl : u = Value.bool true := ru
      have old : ∀ b ob, s.heap.get? b = some ob → s'.heap.get? b = some ob := fun b ob e => by
        cases q : H b with
        | none => exact un.keep b ob e q (fun z => absurd z List.not_mem_nil) (fun z => absurd z List.not_mem_nil)
        | some u =>
          obtain ⟨rfl, _, rfl⟩ := only q
          obtain ⟨e1, _⟩ := hok b _ q
          obtain ⟨e2, _⟩ := hok' b _ (un.frzs b o _ q)
          rw [e] at e1
          cases e1
          exact e2
      exact ⟨rfl, ⟨fun b ob e => .inl (old b ob e), fun b ob e => ⟨ob, old b ob e⟩⟩, os, bare⟩
theorem walkG {l : PySem.W.OpenLaw} {q : Program} {loose : List Str} {XP : (Str → Option Value) → Heap → Prop} {YP : World → Heap → Prop} {d : DefRec} {K : Params → PySem.W.Frag} {k : Nat} (hk : Room k callerA) (hn : l.most = some 63) (hdf : d.params.defaults = [])
    (hY : ∀ (w : World) (h : Heap), YP w h → (K w.params).In h)
    (F : ∀ (w : World) (mg : Str → Option Value) (fa : Addr) (h : Heap), (K w.params).In h → h.Ns mainGlobals mg → mg d.name = some (.ref fa) →
      ∃ fd : FuncData, (∀ (s : Shared) (u : Value), BindsTo s fd ⟨[u], []⟩ [("script", u)]) ∧ ∀ base : Heap, (K w.params).In base → base.Ns mainGlobals mg → FnG l.prog w (K w.params) mg base k fa fd ["script"] (spLaw (K w.params))) :
    PySem.W.WalkO q loose XP YP l.row.toRowW d [] (fun f vs => PySem.call f vs) := by
  refine Att.attach_call hn hdf fun w s₀ s₁ mg mb fa o pm cd doc a vs ns G Y ho hd hcd hmg hobj hints hlen hg => ?_
  obtain ⟨fd, hb, hF⟩ := F w mg fa _ (hY w _ Y) G.T.g hmg
  exact law_runG (hY w _ Y) G.T.g G.T.b G.T.builtins G.T.nolimit hg hobj hints hlen hk hF hb
theorem law_ofG {P : Program} {w : World} {K : PySem.W.Frag} {mg : Str → Option Value} {base : Heap} {sd : Stmt} {f : Addr} {fd : FuncData} {N : List Str} {k : Nat} (F : Fun K "law" "law" sd f fd) (S : FnScope N ["script"] (defScope sd))
    (hb : ∀ (cdv : Value) (A : Around) (outer : List Env) (s : Shared) (H : Hp) (E : XK) (ns : List Int), (A.deeper (envOfC "law" (defScope sd) s.heap.objs.size f cdv)).guards = some [] → Room k (A.deeper (envOfC "law" (defScope sd) s.heap.objs.size f cdv)) → ns.length ≤ 63 →
      BV (cxOf CX0 P w K mg base N "law" (defScope sd) f cdv A outer s H E).nox (defBody sd) (startD N [.lst (ns.map dI)]) (fun _ => none) FinL) : FnG P w K mg base (k + 1) f fd ["script"] (spLaw K) := by
  refine okG F S (fun vs H Q E ⟨a, ns, e, _⟩ => by rw [e]; rfl) fun cdv A outer s H vs Q E g hr ⟨a, ns, e, hs, hl, q⟩ => ?_
  subst e
  have rl : ∀ xs : List Int, RepL K H (xs.map V.int) (xs.map dI) := fun xs => by
    have e := RepL.vals (K := K) (G := H) (xs.map V.int)
    rwa [List.map_map] at e
  have r : RepL K H [V.ref a] [.lst (ns.map dI)] := .cons (.lst hs (rl ns)) .nil
  refine ⟨_, hb cdv A outer s H E ns g hr hl, H, ⟨⟨Same.refl _, fun b mo e => nomatch e⟩, start_rep r⟩, fun o ho => ?_⟩
  cases o with
  | ret d M =>
    have ho : d = dB true := ho
    subst ho
    exact fun v G' H' g sh r => by
      rw [r.of_val]
      exact q H'
  | nx ρ M => exact (show False from ho).elim
  | bk _ _ => exact (show False from ho).elim
  | ct _ _ => exact (show False from ho).elim
end Vt
namespace Vt
open PySem PySem.Spec PyProof.Rows L2
/-! ### the relational calculus: what follows is told in the place of the answer -/
def tAW (K : PySem.W.Frag) (ρ : Sl) (M : Mem) (Φ : List D → Mem → Prop) : TA := fun σ H Q => ∃ G, SA K G H σ ρ M ∧ ∀ vs G' H' ds M', Φ ds M' → Same G G' → SH K G' H' M' → RepL K G' vs ds → Q vs H'
def tTW (K : PySem.W.Frag) (ρ : Sl) (M : Mem) (Φ : Bool → Mem → Prop) : TT := fun σ H Q => ∃ G, SA K G H σ ρ M ∧ ∀ b G' H' M', Φ b M' → Same G G' → SH K G' H' M' → Q b H'
abbrev AW (X : Cx) (es : List Expr) (ρ : Sl) (M : Mem) (Φ : List D → Mem → Prop) : Prop := PA X es (tAW X.K ρ M Φ)
abbrev TW (X : Cx) (e : Expr) (ρ : Sl) (M : Mem) (Φ : Bool → Mem → Prop) : Prop := PT X e (tTW X.K ρ M Φ)
abbrev WW (X : Cx) (e : Expr) (ρ : Sl) (M : Mem) (Φ : Bool → Mem → Prop) : Prop := PW X e (tTW X.K ρ M Φ)
def pkE (X : Cx) (e : Expr) (ρ : Sl) : TE := fun σ H Q => ∃ M Φ, EW X e ρ M Φ ∧ tW X.K ρ M Φ σ H Q
theorem pk_e {X : Cx} {e : Expr} {ρ : Sl} : PE X e (pkE X e ρ) := ⟨fun pins s σ H Q I ⟨_, _, h, q⟩ => h.run pins s σ H Q I q⟩
def pkA (X : Cx) (es : List Expr) (ρ : Sl) : TA := fun σ H Q => ∃ M Φ, AW X es ρ M Φ ∧ tAW X.K ρ M Φ σ H Q
theorem pk_a {X : Cx} {es : List Expr} {ρ : Sl} : PA X es (pkA X es ρ) := ⟨fun pos pins s σ H Q I ⟨_, _, h, q⟩ => h.run pos pins s σ H Q I q⟩
def pkT (X : Cx) (e : Expr) (ρ : Sl) : TT := fun σ H Q => ∃ M Φ, TW X e ρ M Φ ∧ tTW X.K ρ M Φ σ H Q
theorem pk_t {X : Cx} {e : Expr} {ρ : Sl} : PT X e (pkT X e ρ) := ⟨fun pins s σ H Q I ⟨_, _, h, q⟩ => h.run pins s σ H Q I q⟩
def pkW (X : Cx) (e : Expr) (ρ : Sl) : TT := fun σ H Q => ∃ M Φ, WW X e ρ M Φ ∧ tTW X.K ρ M Φ σ H Q
theorem pk_w {X : Cx} {e : Expr} {ρ : Sl} : PW X e (pkW X e ρ) := ⟨fun wh pins s σ H Q I ⟨_, _, h, q⟩ => h.run wh pins s σ H Q I q⟩
def pkB (X : Cx) (sts : List Stmt) (ρ : Sl) (Ψ : Out → Prop) : TS := fun E σ H => ∃ M, BV X sts ρ M Ψ ∧ tS X.K ρ M Ψ E σ H
theorem pk_b {X : Cx} {sts : List Stmt} {ρ : Sl} {Ψ : Out → Prop} : PSs X sts (pkB X sts ρ Ψ) := ⟨fun pins s σ H E I ⟨_, h, q⟩ => h.run pins s σ H E I q⟩
section
variable {X : Cx} {ρ : Sl} {M M1 M2 M3 : Mem} {a b c e : Expr} {es : List Expr} {d d1 d2 : D} {ds : List D} {pos : Pos} {Ψ : Out → Prop} {Φ : D → Mem → Prop} {ΦA : List D → Mem → Prop} {ΦT : Bool → Mem → Prop}
theorem aw_av (h : AV X es ρ M ds M1) (q : ΦA ds M1) : AW X es ρ M ΦA := h.mono fun σ H Q ⟨G, sa, k⟩ => ⟨G, sa, fun vs G1 H1 g1 sh1 r1 => k vs G1 H1 ds M1 q g1 sh1 r1⟩
theorem tw_tv {p : Bool} (h : TV X e ρ M p M1) (q : ΦT p M1) : TW X e ρ M ΦT := h.mono fun σ H Q ⟨G, sa, k⟩ => ⟨G, sa, fun G1 H1 g1 sh1 => k p G1 H1 M1 q g1 sh1⟩
theorem ww_wv {p : Bool} (h : WV X e ρ M p M1) (q : ΦT p M1) : WW X e ρ M ΦT := h.mono fun σ H Q ⟨G, sa, k⟩ => ⟨G, sa, fun G1 H1 g1 sh1 => k p G1 H1 M1 q g1 sh1⟩
theorem aw_nil (q : ΦA [] M) : AW X [] ρ M ΦA := aw_av av_nil q
theorem aw_cons (h : EW X e ρ M (fun d M1 => AW X es ρ M1 (fun ds M2 => ΦA (d :: ds) M2))) (hs : starEach (e :: es) X.env = (false, eval e X.env) :: starEach es X.env := by rfl) : AW X (e :: es) ρ M ΦA :=
  (pa_cons h pk_a hs).mono fun σ H Q ⟨G, sa, k⟩ => ⟨G, sa, fun v1 G1 H1 d M1 h g1 sh1 r1 => ⟨M1, _, h, G1, ⟨sh1, sa.sl.up g1⟩, fun vs G2 H2 ds M2 p g2 sh2 r2 => k _ G2 H2 _ M2 p (g1.trans g2) sh2 (.cons (r1.up g2) r2)⟩⟩
theorem ew_op {op : Operator} {r : R2} (ho : OpR X (binaryOp op) r) (h : EW X a ρ M (fun d1 M1 => ∃ x, d1 = .val x ∧ EW X b ρ M1 (fun d2 M2 => ∃ y z, d2 = .val y ∧ RS r x y z ∧ Φ (.val z) M2))) : EW X (.BinOp a op b pos) ρ M Φ :=
  (pe_op ho h pk_e).mono fun σ H Q ⟨G, sa, k⟩ => ⟨G, sa, fun v1 G1 H1 d1 M1 ⟨x, e1, h⟩ g1 sh1 r1 => ⟨M1, _, h, G1, ⟨sh1, sa.sl.up g1⟩, fun v2 G2 H2 d2 M2 ⟨y, z, e2, hr, p⟩ g2 sh2 r2 => by
    subst e1 e2
    rw [r1.of_val, r2.of_val]
    exact hr H2 Q (k _ G2 H2 _ M2 p (g1.trans g2) sh2 (.val _))⟩⟩
theorem ew_un {op : UnaryOp} {r : V → Hp → VK → Prop} (ho : UnR X (unaryOp op) r) (h : EW X a ρ M (fun d1 M1 => ∃ x z, d1 = .val x ∧ RU r x z ∧ Φ (.val z) M1)) : EW X (.UnaryOp op a pos) ρ M Φ :=
  (pe_un ho h).mono fun σ H Q ⟨G, sa, k⟩ => ⟨G, sa, fun v1 G1 H1 d1 M1 ⟨x, z, e1, hr, p⟩ g1 sh1 r1 => by
    subst e1
    rw [r1.of_val]
    exact hr H1 Q (k _ G1 H1 _ M1 p g1 sh1 (.val _))⟩
theorem ew_cmp {op : CmpOp} {r : R2} (ho : OpR X (compareOp op) r) (h : EW X a ρ M (fun d1 M1 => ∃ x, d1 = .val x ∧ EW X b ρ M1 (fun d2 M2 => ∃ y z, d2 = .val y ∧ RS r x y z ∧ Φ (.val z) M2))) (hm : behindInMarks op b = false) : EW X (.Compare a [op] [b] pos) ρ M Φ :=
  (pe_cmpR ho h pk_e hm).mono fun σ H Q ⟨G, sa, k⟩ => ⟨G, sa, fun v1 G1 H1 d1 M1 ⟨x, e1, h⟩ g1 sh1 r1 => ⟨M1, _, h, G1, ⟨sh1, sa.sl.up g1⟩, fun v2 G2 H2 d2 M2 ⟨y, z, e2, hr, p⟩ g2 sh2 r2 => by
    subst e1 e2
    rw [r1.of_val, r2.of_val]
    exact hr H2 Q (k _ G2 H2 _ M2 p (g1.trans g2) sh2 (.val _))⟩⟩
theorem tw_cmp {op : CmpOp} {r : R2} (ho : OpR X (compareOp op) r) (h : EW X a ρ M (fun d1 M1 => ∃ x, d1 = .val x ∧ EW X b ρ M1 (fun d2 M2 => ∃ y z, d2 = .val y ∧ RS r x y (.bl z) ∧ ΦT z M2))) (hm : behindInMarks op b = false) : TW X (.Compare a [op] [b] pos) ρ M ΦT :=
  (pt_cmpR ho h pk_e hm).mono fun σ H Q ⟨G, sa, k⟩ => ⟨G, sa, fun v1 G1 H1 d1 M1 ⟨x, e1, h⟩ g1 sh1 r1 => ⟨M1, _, h, G1, ⟨sh1, sa.sl.up g1⟩, fun v2 G2 H2 d2 M2 ⟨y, z, e2, hr, p⟩ g2 sh2 r2 => by
    subst e1 e2
    rw [r1.of_val, r2.of_val]
    exact hr H2 _ ⟨z, rfl, k z G2 H2 M2 p (g1.trans g2) sh2⟩⟩⟩
theorem tw_val (h : EW X e ρ M (fun d M1 => ∃ p, d = dB p ∧ ΦT p M1)) (he : ∀ whole, isTrue e X.env whole = (do let v ← whole; standAt e.pos; holding [v] (truthy v)) := by intro _; rfl) : TW X e ρ M ΦT :=
  (pt_val h he).mono fun σ H Q ⟨G, sa, k⟩ => ⟨G, sa, fun v1 G1 H1 d M1 ⟨p, e1, q⟩ g1 sh1 r1 => by
    subst e1
    exact ⟨p, r1.of_val, k p G1 H1 M1 q g1 sh1⟩⟩
theorem tw_not (h : TW X e ρ M (fun p M1 => ΦT (!p) M1)) : TW X (.UnaryOp .Not e pos) ρ M ΦT :=
  (pt_not h).mono fun σ H Q ⟨G, sa, k⟩ => ⟨G, sa, fun p G1 H1 M1 q g1 sh1 => k _ G1 H1 M1 q g1 sh1⟩
theorem ww_one_and (h : TW X e ρ M ΦT) : WW X (.BoolOp .And [e] pos) ρ M ΦT := pw_and1 h
theorem ww_one_or (h : TW X e ρ M ΦT) : WW X (.BoolOp .Or [e] pos) ρ M ΦT := pw_or1 h
theorem ww_and {rest : List Expr} (h : TW X a ρ M (fun p M1 => (p = true → WW X (.BoolOp .And (b :: rest) pos) ρ M1 ΦT) ∧ (p = false → ΦT false M1))) : WW X (.BoolOp .And (a :: b :: rest) pos) ρ M ΦT :=
  (pw_and h pk_w).mono fun σ H Q ⟨G, sa, k⟩ => ⟨G, sa, fun p G1 H1 M1 ⟨h1, h2⟩ g1 sh1 => by
    cases p with
    | true => exact (⟨M1, _, h1 rfl, G1, ⟨sh1, sa.sl.up g1⟩, fun p G2 H2 M2 q g2 sh2 => k p G2 H2 M2 q (g1.trans g2) sh2⟩ : pkW X _ ρ σ H1 Q)
    | false => exact (k false G1 H1 M1 (h2 rfl) g1 sh1 : Q false H1)⟩
theorem ww_or {rest : List Expr} (h : TW X a ρ M (fun p M1 => (p = false → WW X (.BoolOp .Or (b :: rest) pos) ρ M1 ΦT) ∧ (p = true → ΦT true M1))) : WW X (.BoolOp .Or (a :: b :: rest) pos) ρ M ΦT :=
  (pw_or h pk_w).mono fun σ H Q ⟨G, sa, k⟩ => ⟨G, sa, fun p G1 H1 M1 ⟨h1, h2⟩ g1 sh1 => by
    cases p with
    | false => exact (⟨M1, _, h1 rfl, G1, ⟨sh1, sa.sl.up g1⟩, fun p G2 H2 M2 q g2 sh2 => k p G2 H2 M2 q (g1.trans g2) sh2⟩ : pkW X _ ρ σ H1 Q)
    | true => exact (k true G1 H1 M1 (h2 rfl) g1 sh1 : Q true H1)⟩
/-- a and b as values: bools -/
theorem ew_andB {rest : List Expr} (h : EW X a ρ M (fun d M1 => ∃ p, d = dB p ∧ (p = true → EW X (.BoolOp .And (b :: rest) pos) ρ M1 Φ) ∧ (p = false → Φ (dB false) M1))) : EW X (.BoolOp .And (a :: b :: rest) pos) ρ M Φ :=
  (pe_and h pk_e).mono fun σ H Q ⟨G, sa, k⟩ => ⟨G, sa, fun v1 G1 H1 d M1 ⟨p, e1, h1, h2⟩ g1 sh1 r1 => by
    subst e1
    refine ⟨p, r1.of_val, ?_⟩
    cases p with
    | true => exact (⟨M1, _, h1 rfl, G1, ⟨sh1, sa.sl.up g1⟩, fun v G2 H2 d2 M2 q g2 sh2 r2 => k v G2 H2 d2 M2 q (g1.trans g2) sh2 r2⟩ : pkE X _ ρ σ H1 Q)
    | false => exact (k _ G1 H1 _ M1 (h2 rfl) g1 sh1 (.val _) : Q (.bl false) H1)⟩
theorem ew_orB {rest : List Expr} (h : EW X a ρ M (fun d M1 => ∃ p, d = dB p ∧ (p = false → EW X (.BoolOp .Or (b :: rest) pos) ρ M1 Φ) ∧ (p = true → Φ (dB true) M1))) : EW X (.BoolOp .Or (a :: b :: rest) pos) ρ M Φ :=
  (pe_or h pk_e).mono fun σ H Q ⟨G, sa, k⟩ => ⟨G, sa, fun v1 G1 H1 d M1 ⟨p, e1, h1, h2⟩ g1 sh1 r1 => by
    subst e1
    refine ⟨p, r1.of_val, ?_⟩
    cases p with
    | false => exact (⟨M1, _, h1 rfl, G1, ⟨sh1, sa.sl.up g1⟩, fun v G2 H2 d2 M2 q g2 sh2 r2 => k v G2 H2 d2 M2 q (g1.trans g2) sh2 r2⟩ : pkE X _ ρ σ H1 Q)
    | true => exact (k _ G1 H1 _ M1 (h2 rfl) g1 sh1 (.val _) : Q (.bl true) H1)⟩
theorem ew_notB (h : EW X e ρ M (fun d M1 => ∃ p, d = dB p ∧ Φ (dB (!p)) M1)) : EW X (.UnaryOp .Not e pos) ρ M Φ :=
  (pe_not h).mono fun σ H Q ⟨G, sa, k⟩ => ⟨G, sa, fun v1 G1 H1 d M1 ⟨p, e1, q⟩ g1 sh1 r1 => by
    subst e1
    exact ⟨p, r1.of_val, k _ G1 H1 _ M1 q g1 sh1 (.val _)⟩⟩
theorem ew_if (h : TW X c ρ M (fun p M1 => (p = true → EW X a ρ M1 Φ) ∧ (p = false → EW X b ρ M1 Φ))) : EW X (.IfExp c a b pos) ρ M Φ :=
  (pe_ifExp h pk_e pk_e).mono fun σ H Q ⟨G, sa, k⟩ => ⟨G, sa, fun p G1 H1 M1 ⟨h1, h2⟩ g1 sh1 => by
    cases p with
    | true => exact (⟨M1, _, h1 rfl, G1, ⟨sh1, sa.sl.up g1⟩, fun v G2 H2 d2 M2 q g2 sh2 r2 => k v G2 H2 d2 M2 q (g1.trans g2) sh2 r2⟩ : pkE X _ ρ σ H1 Q)
    | false => exact (⟨M1, _, h2 rfl, G1, ⟨sh1, sa.sl.up g1⟩, fun v G2 H2 d2 M2 q g2 sh2 r2 => k v G2 H2 d2 M2 q (g1.trans g2) sh2 r2⟩ : pkE X _ ρ σ H1 Q)⟩
theorem ew_tup {x1} (h : AW X es ρ M (fun ds M1 => ds.length ≤ sizeLine ∧ Φ (.tup ds) M1)) : EW X (.Tuple es x1 pos) ρ M Φ :=
  (pe_tup h).mono fun σ H Q ⟨G, sa, k⟩ => ⟨G, sa, fun vs G1 H1 ds M1 ⟨hl, q⟩ g1 sh1 r1 => ⟨by rw [r1.len]; exact hl, fun p hp => by
    obtain ⟨sh2, g2⟩ := sh1.new (o := .tup vs) hp
    exact k _ _ _ _ M1 q (g1.trans g2) sh2 (.tup (.inl (.inl upd_same)) (r1.up g2))⟩⟩
theorem ew_lst (h : AW X es ρ M (fun ds M1 => ds.length ≤ sizeLine ∧ Φ (.lst ds) M1)) : EW X (.List es pos) ρ M Φ :=
  (pe_lst h).mono fun σ H Q ⟨G, sa, k⟩ => ⟨G, sa, fun vs G1 H1 ds M1 ⟨hl, q⟩ g1 sh1 r1 => ⟨by rw [r1.len]; exact hl, fun p hp => by
    obtain ⟨sh2, g2⟩ := sh1.new (o := .lst vs) hp
    exact k _ _ _ _ M1 q (g1.trans g2) sh2 (.lst (.inl (.inl upd_same)) (r1.up g2))⟩⟩
theorem ew_ixQ (h : EW X a ρ M (fun d1 M1 => ∃ q ds, d1 = sq q ds ∧ EW X b ρ M1 (fun d2 M2 => ∃ i d, d2 = dI i ∧ atI ds i = some d ∧ Φ d M2))) (hs : PlainIx b := by (intro _ _; rfl)) : EW X (.Subscript a b pos) ρ M Φ :=
  (pe_ix ix_seq h pk_e hs).mono fun σ H Q ⟨G, sa, k⟩ => ⟨G, sa, fun v1 G1 H1 d1 M1 ⟨q, ds, e1, h2⟩ g1 sh1 r1 => ⟨M1, _, h2, G1, ⟨sh1, sa.sl.up g1⟩, fun v2 G2 H2 d2 M2 ⟨i, d, e2, hat, p⟩ g2 sh2 r2 => by
    subst e1 e2
    cases q with
    | true =>
      cases (show Rep X.K G1 v1 (.lst ds) from r1) with
      | lst q r =>
        obtain ⟨v, e, rv⟩ := atI_up (r.up g2) hat
        exact .inl ⟨_, _, i, v, rfl, r2.of_val, sqlUp sh2.le (sqlUp g2 q), e, k _ G2 H2 _ M2 p (g1.trans g2) sh2 rv⟩
    | false =>
      cases (show Rep X.K G1 v1 (.tup ds) from r1) with
      | tup q r =>
        obtain ⟨v, e, rv⟩ := atI_up (r.up g2) hat
        exact .inr (.inl ⟨_, _, i, v, rfl, r2.of_val, sqtUp sh2.le (sqtUp g2 q), e, k _ G2 H2 _ M2 p (g1.trans g2) sh2 rv⟩)⟩⟩
end
end Vt
namespace Vt
open PySem PySem.Spec PyProof.Rows L2
section
variable {X : Cx} {ρ : Sl} {M M1 M2 M3 : Mem} {a b c e : Expr} {es : List Expr} {d d1 d2 : D} {ds : List D} {pos : Pos} {Ψ : Out → Prop} {Φ : D → Mem → Prop} {ΦA : List D → Mem → Prop} {ΦT : Bool → Mem → Prop}
/-! calls -/
theorem ew_callD {k : Nat} {x : Str} {Pr : List D → Mem → D → Mem → Prop} {p : Pos} (C : Cal X.prog X.w X.K X.mg X.base k x (spD X.K Pr)) (hr : Room k X.A) (h : AW X (e :: es) ρ M (fun ds M1 => ∃ d M2, Pr ds M1 d M2 ∧ Φ d M2)) (hg : Gl X x := by rfl)
    (hd : (x == ("__debug__" : Str)) = false := by decide) (hst : starEach (e :: es) X.env = (false, eval e X.env) :: starEach es X.env := by rfl) (hpl : (backTo pos (starEach es X.env)).any (·.1) = false := by rfl) : EW X (.Call (.Name x p) (e :: es) [] pos) ρ M Φ := by
  obtain ⟨f, fd, ps, hm, hk, hb, F⟩ := C.ex
  refine (pe_call F hr hg hm hk hb .nil pass0 h (hdb := hd) (he := hst) (hpl := hpl)).mono fun σ H Q ⟨G, sa, k⟩ => ⟨G, sa, fun vs G1 H1 ds M1 ⟨d, M2, hp, q⟩ g1 sh1 r1 => ?_⟩
  show spD X.K Pr (vs ++ []) H1 Q E0
  rw [List.append_nil]
  exact ⟨G1, ds, M1, d, M2, sh1, r1, hp, fun v G' H' g sh r => k v G' H' d M2 q (g1.trans g) sh r⟩
theorem ew_callW {k : Nat} {x : Str} {R : List D → Mem → (D → Mem → Prop) → Prop} {p : Pos} (C : Cal X.prog X.w X.K X.mg X.base k x (spW X.K R)) (hr : Room k X.A) (h : AW X (e :: es) ρ M (fun ds M1 => R ds M1 Φ)) (hg : Gl X x := by rfl)
    (hd : (x == ("__debug__" : Str)) = false := by decide) (hst : starEach (e :: es) X.env = (false, eval e X.env) :: starEach es X.env := by rfl) (hpl : (backTo pos (starEach es X.env)).any (·.1) = false := by rfl) : EW X (.Call (.Name x p) (e :: es) [] pos) ρ M Φ := by
  obtain ⟨f, fd, ps, hm, hk, hb, F⟩ := C.ex
  refine (pe_call F hr hg hm hk hb .nil pass0 h (hdb := hd) (he := hst) (hpl := hpl)).mono fun σ H Q ⟨G, sa, k⟩ => ⟨G, sa, fun vs G1 H1 ds M1 hp g1 sh1 r1 => ?_⟩
  show spW X.K R (vs ++ []) H1 Q E0
  rw [List.append_nil]
  exact ⟨G1, ds, M1, Φ, sh1, r1, hp, fun v G' H' d M' q g sh r => k v G' H' d M' q (g1.trans g) sh r⟩
theorem ew_callN {k : Nat} {x : Str} {Pr : List D → Mem → List D → Mem → Prop} {p : Pos} (C : Cal X.prog X.w X.K X.mg X.base k x (spN X.K Pr)) (hr : Room k X.A) (h : AW X (e :: es) ρ M (fun ds M1 => ∃ es' M2, Pr ds M1 es' M2 ∧ ∀ q, M2 q = none → Φ (dP q) (M2.set q (.lst es')))) (hg : Gl X x := by rfl)
    (hd : (x == ("__debug__" : Str)) = false := by decide) (hst : starEach (e :: es) X.env = (false, eval e X.env) :: starEach es X.env := by rfl) (hpl : (backTo pos (starEach es X.env)).any (·.1) = false := by rfl) : EW X (.Call (.Name x p) (e :: es) [] pos) ρ M Φ := by
  obtain ⟨f, fd, ps, hm, hk, hb, F⟩ := C.ex
  refine (pe_call F hr hg hm hk hb .nil pass0 h (hdb := hd) (he := hst) (hpl := hpl)).mono fun σ H Q ⟨G, sa, k⟩ => ⟨G, sa, fun vs G1 H1 ds M1 ⟨es', M2, hp, q⟩ g1 sh1 r1 => ?_⟩
  show spN X.K Pr (vs ++ []) H1 Q E0
  rw [List.append_nil]
  exact ⟨G1, ds, M1, es', M2, sh1, r1, hp, fun p G' H' g mp sh => k _ G' H' _ _ (q p mp) (g1.trans g) sh (.val _)⟩
/-- a new list that is going to be changed -/
theorem ew_lstN (h : AW X es ρ M (fun ds M1 => ds.length ≤ sizeLine ∧ ∀ p, M1 p = none → Φ (dP p) (M1.set p (.lst ds)))) : EW X (.List es pos) ρ M Φ :=
  (pe_lst h).mono fun σ H Q ⟨G, sa, k⟩ => ⟨G, sa, fun vs G1 H1 ds M1 ⟨hl, q⟩ g1 sh1 r1 => ⟨by rw [r1.len]; exact hl, fun p hp => by
    obtain ⟨sh2, mp, gp⟩ := sh1.newM hp r1
    exact k _ _ _ _ _ (q p mp) g1 sh2 (.val _)⟩⟩
/-! built-ins -/
theorem aw_one (h : EW X e ρ M (fun d M1 => ΦA [d] M1)) (hs : starEach [e] X.env = (false, eval e X.env) :: starEach [] X.env := by rfl) : AW X [e] ρ M ΦA := aw_cons (ew_to h fun _ _ q => aw_nil q) hs
theorem ew_intI {p : Pos} (hm : X.mg "int" = none) (h : EW X e ρ M (fun d M1 => ∃ i, d = dI i ∧ Φ (dI i) M1)) (hg : Gl X "int" := by rfl) (hst : starEach [e] X.env = [(false, eval e X.env)] := by rfl) : EW X (.Call (.Name "int" p) [e] [] pos) ρ M Φ :=
  (pe_callTy call_int1 hg hm (by decide +kernel) (aw_one (ΦA := fun ds M1 => ∃ i, ds = [dI i] ∧ Φ (dI i) M1) (ew_to h fun d M1 ⟨i, e, q⟩ => ⟨i, by rw [e], q⟩) hst) (he := hst)).mono fun σ H Q ⟨G, sa, k⟩ => ⟨G, sa, fun vs G1 H1 ds M1 ⟨i, e, q⟩ g1 sh1 r1 => by
    subst e
    rw [RepL.of_vals (xs := [.int i]) r1]
    exact .inl ⟨i, rfl, k _ G1 H1 _ M1 q g1 sh1 (.val _)⟩⟩
theorem ew_lenQ {p : Pos} (hm : X.mg "len" = none) (h : EW X e ρ M (fun d M1 => ∃ q ds, d = sq q ds ∧ Φ (dI ds.length) M1)) (hg : Gl X "len" := by rfl) (hst : starEach [e] X.env = [(false, eval e X.env)] := by rfl) : EW X (.Call (.Name "len" p) [e] [] pos) ρ M Φ :=
  (pe_callB call_len_seq hg hm PySem.boot_len (aw_one (ΦA := fun ds M1 => ∃ q es, ds = [sq q es] ∧ Φ (dI es.length) M1) (ew_to h fun d M1 ⟨i, es, e, q⟩ => ⟨i, es, by rw [e], q⟩) hst) (he := hst)).mono fun σ H Q ⟨G, sa, k⟩ => ⟨G, sa, fun vs G1 H1 ds M1 ⟨q, es, e, p⟩ g1 sh1 r1 => by
    subst e
    cases r1 with
    | cons h t =>
      cases t
      cases q with
      | true =>
        cases (show Rep X.K G1 _ (.lst es) from h) with
        | lst q r => exact ⟨_, _, rfl, .inl (sqlUp sh1.le q), by rw [r.len]; exact k _ G1 H1 _ M1 p g1 sh1 (.val _)⟩
      | false =>
        cases (show Rep X.K G1 _ (.tup es) from h) with
        | tup q r => exact ⟨_, _, rfl, .inr (sqtUp sh1.le q), by rw [r.len]; exact k _ G1 H1 _ M1 p g1 sh1 (.val _)⟩⟩
theorem ew_tupOf {p : Pos} (hm : X.mg "tuple" = none) (h : EW X e ρ M (fun d M1 => ∃ q ds, d = sq q ds ∧ Φ (.tup ds) M1)) (hg : Gl X "tuple" := by rfl) (hst : starEach [e] X.env = [(false, eval e X.env)] := by rfl) : EW X (.Call (.Name "tuple" p) [e] [] pos) ρ M Φ :=
  (pe_callTy call_tuple_of hg hm boot_tuple (aw_one (ΦA := fun ds M1 => ∃ q es, ds = [sq q es] ∧ Φ (.tup es) M1) (ew_to h fun d M1 ⟨i, es, e, q⟩ => ⟨i, es, by rw [e], q⟩) hst) (he := hst)).mono fun σ H Q ⟨G, sa, k⟩ => ⟨G, sa, fun vs' G1 H1 ds M1 ⟨b, es, e, p⟩ g1 sh1 r1 => by
    subst e
    cases r1 with
    | cons h t =>
      cases t
      cases b with
      | true =>
        cases (show Rep X.K G1 _ (.lst es) from h) with
        | lst q r => exact ⟨_, _, rfl, .inl ⟨sqlUp sh1.le q, fun l hl => by
            obtain ⟨sh2, g2⟩ := sh1.new (o := .tup _) hl
            exact k _ _ _ _ M1 p (g1.trans g2) sh2 (.tup (.inl (.inl upd_same)) (r.up g2))⟩⟩
      | false =>
        cases (show Rep X.K G1 _ (.tup es) from h) with
        | tup q r => exact ⟨_, _, rfl, .inr ⟨sqtUp sh1.le q, k _ G1 H1 _ M1 p g1 sh1 (.tup q r)⟩⟩⟩
theorem ew_listL {p : Pos} (hm : X.mg "list" = none) (h : EW X e ρ M (fun d M1 => ∃ q ds, d = sq q ds ∧ Φ (.lst ds) M1)) (hg : Gl X "list" := by rfl) (hst : starEach [e] X.env = [(false, eval e X.env)] := by rfl) : EW X (.Call (.Name "list" p) [e] [] pos) ρ M Φ :=
  (pe_callTy call_list_of hg hm boot_list (aw_one (ΦA := fun ds M1 => ∃ q es, ds = [sq q es] ∧ Φ (.lst es) M1) (ew_to h fun d M1 ⟨i, es, e, q⟩ => ⟨i, es, by rw [e], q⟩) hst) (he := hst)).mono fun σ H Q ⟨G, sa, k⟩ => ⟨G, sa, fun vs' G1 H1 ds M1 ⟨b, es, e, p⟩ g1 sh1 r1 => by
    subst e
    cases r1 with
    | cons h t =>
      cases t
      cases b with
      | true =>
        cases (show Rep X.K G1 _ (.lst es) from h) with
        | lst q r => exact ⟨_, _, rfl, .inl (sqlUp sh1.le q), fun l hl => by
            obtain ⟨sh2, g2⟩ := sh1.new (o := .lst _) hl
            exact k _ _ _ _ M1 p (g1.trans g2) sh2 (.lst (.inl (.inl upd_same)) (r.up g2))⟩
      | false =>
        cases (show Rep X.K G1 _ (.tup es) from h) with
        | tup q r => exact ⟨_, _, rfl, .inr (sqtUp sh1.le q), fun l hl => by
            obtain ⟨sh2, g2⟩ := sh1.new (o := .lst _) hl
            exact k _ _ _ _ M1 p (g1.trans g2) sh2 (.lst (.inl (.inl upd_same)) (r.up g2))⟩⟩
theorem ew_all {p : Pos} (hc : X.calm = true) (hm : X.mg "all" = none) (h : EW X e ρ M (fun d M1 => ∃ bs : List Bool, d = .lst (bs.map dB) ∧ Φ (dB (bs.all id)) M1)) (hg : Gl X "all" := by rfl) (hst : starEach [e] X.env = [(false, eval e X.env)] := by rfl) : EW X (.Call (.Name "all" p) [e] [] pos) ρ M Φ :=
  (pe_callB (cr_all hc) hg hm boot_all (aw_one (ΦA := fun ds M1 => ∃ bs : List Bool, ds = [.lst (bs.map dB)] ∧ Φ (dB (bs.all id)) M1) (ew_to h fun d M1 ⟨bs, e, q⟩ => ⟨bs, by rw [e], q⟩) hst) (he := hst)).mono fun σ H Q ⟨G, sa, k⟩ => ⟨G, sa, fun vs' G1 H1 ds M1 ⟨bs, e, p⟩ g1 sh1 r1 => by
    subst e
    cases r1 with
    | cons h t =>
      cases t
      cases h with
      | lst q r =>
        have e : bs.map dB = (bs.map V.bl).map D.val := by rw [List.map_map] <;> rfl
        rw [e] at r
        rw [RepL.of_vals r] at q
        exact ⟨_, bs, rfl, sqlUp sh1.le q, k _ G1 H1 _ M1 p g1 sh1 (.val _)⟩⟩
end
end Vt
namespace Vt
open PySem PySem.Spec PyProof.Rows L2
/-! statements -/
section
variable {X : Cx} {ρ ρ' : Sl} {M M1 M2 M3 : Mem} {a b c e : Expr} {es : List Expr} {d d1 d2 : D} {ds : List D} {pos : Pos} {Ψ : Out → Prop} {Φ : D → Mem → Prop} {g : TG}
theorem sw_set (i : Nat) {x : Str} {pos' : Pos} (hN : X.N.Nodup) (he : EW X e ρ M (fun d M1 => Ψ (.nx (ρ.set i (some d)) M1))) (hi : X.N[i]? = some x := by rfl) (hx : L2.Loc X.env.scope x := by first | exact Or.inl rfl | exact Or.inr rfl) (hs : swapsWith e (some (.Name x pos')) pos.line X.env = pure false := by rfl)
    (hf : X.fn x = true ∨ X.env.scope.names.lookup x = some .local := by first | exact .inl rfl | exact .inr rfl) : SV X (.Assign [.Name x pos'] e pos) ρ M Ψ := sv_setW i hN he (fun _ _ h => h) hi hx hs hf
theorem sw_ret (he : EW X e ρ M (fun d M1 => Ψ (.ret d M1))) : SV X (.Return (some e) pos) ρ M Ψ := sv_retW he fun _ _ h => h
theorem sw_expr (h : EW X e ρ M (fun _ M1 => Ψ (.nx ρ M1))) (hs : swapsWith e none pos.line X.env = pure false := by rfl) : SV X (.Expr e pos) ρ M Ψ :=
  (ps_expr h hs).mono fun E σ H ⟨G, sa, k⟩ => ⟨G, sa, fun v G1 H1 d M1 q g1 sh1 r1 => k _ q σ G1 H1 g1 ⟨sh1, sa.sl.up g1⟩⟩
theorem sw_if {as bs : List Stmt} (hc : TW X c ρ M (fun p M1 => (p = true → BV X as ρ M1 Ψ) ∧ (p = false → BV X bs ρ M1 Ψ))) : SV X (.If c as bs pos) ρ M Ψ :=
  (ps_if hc pk_b pk_b).mono fun E σ H ⟨G, sa, k⟩ => ⟨G, sa, fun p G1 H1 M1 ⟨h1, h2⟩ g1 sh1 => by
    cases p with
    | true => exact (⟨M1, h1 rfl, G1, ⟨sh1, sa.sl.up g1⟩, fun o ho => (k o ho).up g1⟩ : pkB X as ρ Ψ E σ H1)
    | false => exact (⟨M1, h2 rfl, G1, ⟨sh1, sa.sl.up g1⟩, fun o ho => (k o ho).up g1⟩ : pkB X bs ρ Ψ E σ H1)⟩
theorem sw_asg {tg : Expr} (hg : PG X tg g) (he : EW X e ρ M (fun d M1 => ∃ ρ', TG1 X.K g ρ d ρ' ∧ Ψ (.nx ρ' M1))) (hs : swapsWithSole [tg] e pos.line X.env = pure false := by rfl) (hw : swappedStores [tg] e X.env = pure none := by rfl)
    (h1 : (assignEach [tg] X.env).map (·.2) = [assign tg X.env] := by rfl) : SV X (.Assign [tg] e pos) ρ M Ψ := sv_asgW he hg (fun _ _ h => h) hs hw h1
/-- xs.append(e), xs a list of the memory -/
theorem sw_append {p : Addr} {ap cp : Pos} (ho : EV X a ρ M (dP p) M1) (hm1 : ∃ es, M1 p = some (.lst es)) (ha : EW X e ρ M1 (fun d M2 => ∃ ds, M2 p = some (.lst ds) ∧ ds.length < sizeLine ∧ Ψ (.nx ρ (M2.set p (.lst (ds ++ [d]))))))
    (h1 : attributeBase a "append" X.env (eval a X.env) = eval a X.env := by rfl) (h3 : (ap.endLine == cp.line) = true := by decide) (h4 : starEach [e] X.env = (false, eval e X.env) :: starEach [] X.env := by rfl)
    (h2 : (((((backTo cp (starEach [e] X.env)).all fun x => !x.fst) && (backToKw cp (keywordEach [] X.env)).all fun x => x.fst.isSome) && decide (([e].length + ([] : List Keyword).length + if ([] : List Keyword).isEmpty = true then 0 else 1) < 30)) = true) := by rfl)
    (h5 : (((backTo cp (starEach [] X.env)).any fun x => x.fst) = false) := by rfl)
    (hs : swapsWith (.Call (.Attribute a "append" ap) [e] [] cp) none pos.line X.env = pure false := by rfl) : SV X (.Expr (.Call (.Attribute a "append" ap) [e] [] cp) pos) ρ M Ψ :=
  (ps_expr (pe_bm PySem.F.plainAttrs_list PySem.F.slot_list_append PySem.F.type_list_append mt_append ho (aw_one (ΦA := fun ds' M2 => ∃ d ds, ds' = [d] ∧ M2 p = some (.lst ds) ∧ ds.length < sizeLine ∧ Ψ (.nx ρ (M2.set p (.lst (ds ++ [d]))))) (ew_to ha fun d M2 ⟨ds, q1, q2, q3⟩ => ⟨d, ds, rfl, q1, q2, q3⟩) h4) h1 h2 h3 h4 h5) hs).mono fun E σ H ⟨G, sa, k⟩ => ⟨G, sa, fun v1 G1 H1 g1 sh1 r1 => by
    obtain ⟨es, hes⟩ := hm1
    obtain ⟨_, vs1, hv1, _⟩ := sh1.mem p _ hes
    rw [r1.of_val]
    refine ⟨.inl ⟨rfl, _, .inl (.inl hv1)⟩, G1, ⟨sh1, sa.sl.up g1⟩, fun vs G2 H2 ds' M2 ⟨d, ds, e, hm, hl, hΨ⟩ g2 sh2 r2 => ?_⟩
    subst e
    cases r2 with
    | cons r2 t =>
      cases t
      obtain ⟨_, vs2, hv2, rl⟩ := sh2.mem p _ hm
      exact ⟨p, vs2, _, rfl, rfl, hv2, by rw [rl.len]; exact hl, k _ hΨ σ G2 _ (g1.trans g2) ⟨sh2.put hm (rl.append (.cons r2 .nil)), (sa.sl.up g1).up g2⟩⟩⟩
/-! what is walked -/
/-- what is walked may make new items -/
def JW2 (K : PySem.W.Frag) (J : It) (G : Hp) (ds : List D) : Prop := ∀ (i : Nat) H, Same G H → (∀ d, ds[i]? = some d → J.go i H ∧ ∀ x H', J.yld i H x H' → ∀ G2 M, Same G G2 → SH K G2 H M → ∃ G3, Same G2 G3 ∧ SH K G3 H' M ∧ Rep K G3 x d) ∧ (ds.length ≤ i → J.stop i H)
theorem JW.two {K : PySem.W.Frag} {J : It} {G : Hp} {ds : List D} (h : JW K J G ds) : JW2 K J G ds := fun i H e => ⟨fun d hd => ⟨((h i H e).1 d hd).1, fun x H' y G2 M g2 sh => by
  obtain ⟨e2, r⟩ := ((h i H e).1 d hd).2 x H' y
  subst e2
  exact ⟨G2, Same.refl _, sh, r.up g2⟩⟩, (h i H e).2⟩
def tIW (K : PySem.W.Frag) (ρ : Sl) (M : Mem) (Φ : List D → Mem → Prop) : TI := fun σ H R => ∃ G, SA K G H σ ρ M ∧ ∀ J G' H' ds M1, Φ ds M1 → Same G G' → SH K G' H' M1 → JW2 K J G' ds → R J H'
abbrev IW (X : Cx) (tg iter : Expr) (ρ : Sl) (M : Mem) (Φ : List D → Mem → Prop) : Prop := PI X tg iter (tIW X.K ρ M Φ)
variable {tg iter : Expr} {ΦI : List D → Mem → Prop}
theorem iw_iv (h : IV X tg iter ρ M ds M1) (q : ΦI ds M1) : IW X tg iter ρ M ΦI := h.mono fun σ H R ⟨G, sa, k⟩ => ⟨G, sa, fun J G1 H1 g1 sh1 jw => k J G1 H1 ds M1 q g1 sh1 jw.two⟩
theorem iw_list (h : EW X e ρ M (fun d M1 => ∃ ds, d = .lst ds ∧ ΦI ds M1)) : IW X tg e ρ M ΦI :=
  (pi_list h).mono fun σ H R ⟨G, sa, k⟩ => ⟨G, sa, fun v G1 H1 d M1 ⟨ds, e, p⟩ g1 sh1 r1 => by
    subst e
    cases r1 with
    | lst q r => exact ⟨_, rfl, ⟨_, sqlUp sh1.le q⟩, k _ G1 H1 _ M1 p g1 sh1 (JW.list q r).two⟩⟩
theorem iw_tup (h : EW X e ρ M (fun d M1 => ∃ ds, d = .tup ds ∧ ΦI ds M1)) : IW X tg e ρ M ΦI :=
  (pi_tup h).mono fun σ H R ⟨G, sa, k⟩ => ⟨G, sa, fun v G1 H1 d M1 ⟨ds, e, p⟩ g1 sh1 r1 => by
    subst e
    cases r1 with
    | tup q r => exact ⟨_, rfl, ⟨_, sqtUp sh1.le q⟩, k _ G1 H1 _ M1 p g1 sh1 (JW.tup q r).two⟩⟩
theorem iw_range1 {p : Pos} (hm : X.mg "range" = none) (h : EW X e ρ M (fun d M1 => ∃ j : Int, d = dI j ∧ (-(2 ^ 62) ≤ j ∧ j < 2 ^ 62) ∧ ΦI (rgD 0 j.toNat) M1)) (hg : Gl X "range" := by rfl) (hst : starEach [e] X.env = [(false, eval e X.env)] := by rfl) : IW X tg (.Call (.Name "range" p) [e] [] pos) ρ M ΦI :=
  (pi_range1 hg hm (aw_one (ΦA := fun ds M1 => ∃ j : Int, ds = [dI j] ∧ (-(2 ^ 62) ≤ j ∧ j < 2 ^ 62) ∧ ΦI (rgD 0 j.toNat) M1) (ew_to h fun d M1 ⟨j, e, q1, q2⟩ => ⟨j, by rw [e], q1, q2⟩) hst) hst).mono fun σ H R ⟨G, sa, k⟩ => ⟨G, sa, fun vs G1 H1 ds M1 ⟨j, e, hj, q⟩ g1 sh1 r1 => by
    subst e
    rw [RepL.of_vals (xs := [.int j]) r1]
    exact ⟨j, rfl, hj.1, hj.2, k _ G1 H1 _ M1 q g1 sh1 JW.range.two⟩⟩
/-- for: Iv i is what holds ahead of turn i -/
theorem sw_for {body : List Stmt} (hc : X.calm = true) (hg : PG X tg g)
    (hi : IW X tg iter ρ M (fun ds M1 => ∃ Iv : Nat → Sl → Mem → Prop, Iv 0 ρ M1 ∧ (∀ i d ρ' M', ds[i]? = some d → Iv i ρ' M' → ∃ ρ'', TG1 X.K g ρ' d ρ'' ∧ BV X body ρ'' M' (loopR Iv Ψ i)) ∧ ∀ ρ' M', Iv ds.length ρ' M' → Ψ (.nx ρ' M')))
    (hp : PassesOwn (model X.prog X.w) X.A X.env X.xe := by exact PassesOwn.never) (hs : ∀ x, foldedSetIterable iter X.env x = pure x := by intro _; rfl) : SV X (.For tg iter body [] pos) ρ M Ψ := by
  refine (ps_for (tb := fun E σ H => ∃ ρ M Ψ', BV X body ρ M Ψ' ∧ tS X.K ρ M Ψ' E σ H) hp hc hi hg ⟨fun pins s σ H E I ⟨ρ', M', Ψ', hb, q⟩ => hb.run pins s σ H E I q⟩ hs).mono fun E σ H ⟨G, sa, k⟩ => ⟨G, sa, fun J G1 H1 ds M1 ⟨Iv, iv0, step, done⟩ g1 sh1 jw => ?_⟩
  refine ⟨fun i m σ H => m = ds.length - i ∧ i ≤ ds.length ∧ ∃ G ρ M, Same G1 G ∧ SA X.K G H σ ρ M ∧ Iv i ρ M, ⟨ds.length, by simp, Nat.zero_le _, G1, ρ, M1, Same.refl _, ⟨sh1, sa.sl.up g1⟩, iv0⟩, ?_⟩
  rintro i m σ2 H2 ⟨rfl, hi, G2, ρ2, M2, g2, sa2, iv⟩
  obtain ⟨j1, j2⟩ := jw i H2 (g2.trans sa2.sh.le)
  by_cases hlt : i < ds.length
  · have hd : ds[i]? = some ds[i] := List.getElem?_eq_getElem hlt
    obtain ⟨go, yl⟩ := j1 _ hd
    refine .inr ⟨go, fun σ3 H3 => ∃ G ρ M, Same G1 G ∧ SA X.K G H3 σ3 ρ M ∧ Iv (i + 1) ρ M, fun σ' H' p' => ⟨ds.length - (i + 1), by omega, rfl, hlt, p'⟩, fun x H' y => ?_⟩
    obtain ⟨G3, g3, sh3, rx⟩ := yl x H' y G2 M2 g2 sa2.sh
    have g2 := g2.trans g3
    obtain ⟨ρ3, tg3, bv⟩ := step i _ ρ2 M2 hd iv
    refine tg3 x σ2 G3 H' _ sh3.le (sa2.sl.up g3) rx fun σ3 rs3 => ⟨ρ3, M2, _, bv, G3, ⟨sh3, rs3⟩, fun o ho => ?_⟩
    cases o with
    | nx ρ4 M4 => exact fun σ4 G4 H4 g4 sa4 => ⟨G4, ρ4, M4, g2.trans g4, sa4, ho⟩
    | ct ρ4 M4 => exact fun σ4 G4 H4 g4 sa4 => ⟨G4, ρ4, M4, g2.trans g4, sa4, ho⟩
    | bk ρ4 M4 => exact fun σ4 G4 H4 g4 sa4 => k _ ho σ4 G4 H4 ((g1.trans g2).trans g4) sa4
    | ret d4 M4 => exact fun v G4 H4 g4 sh4 r4 => k _ ho v G4 H4 ((g1.trans g2).trans g4) sh4 r4
  · have e : i = ds.length := by omega
    subst e
    exact .inl ⟨j2 (Nat.le_refl _), k _ (done ρ2 M2 iv) σ2 G2 H2 (g1.trans g2) sa2⟩
/-- [e for x in ..]: Iv i acc is what holds of the memory ahead of turn i (without the list that is being made) -/
def LcI (X : Cx) (g : TG) (own : List (Str × Nat)) (scope : Scope) (elt : Expr) (ρ : Sl) (Φ : D → Mem → Prop) (ds : List D) (M1 : Mem) : Prop :=
  ds.length ≤ sizeLine ∧ ∃ Iv : Nat → List D → Mem → Prop, Iv 0 [] M1 ∧
    (∀ i d acc M, ds[i]? = some d → acc.length = i → Iv i acc M → ∃ ρ', TGb X.K g (own.map (·.2)) (wipeD ρ (own.map (·.2))) d ρ' ∧ ∀ (p : Addr), M p = none → ∀ (s : Shared) (H : Hp) (C : Addr) (cl : List (Str × Addr)) (fp : List Addr),
      EW (X.blk s H scope (compEnvC scope cl C X.env) fp) elt ρ' (M.set p (.lst acc)) (fun d' M' => ∃ M2, M' = M2.set p (.lst acc) ∧ M2 p = none ∧ Iv (i + 1) (acc ++ [d']) M2)) ∧
    ∀ acc M, acc.length = ds.length → Iv ds.length acc M → Φ (.lst acc) M
theorem lcw_read {elt : Expr} {scope : Scope} {own : List (Str × Nat)} (σ : L2.St) (H : Hp) (Q : VK) (hΦ : ∃ G, SA X.K G H σ ρ M ∧ ∀ v G' H' d M', Φ d M' → Same G G' → SH X.K G' H' M' → Rep X.K G' v d → Q v H') :
    tLc (tIW X.K ρ M (LcI X g own scope elt ρ Φ)) g tYes (fun σ H Q => ∃ ρ' M' Φ', (∀ (s : Shared) (H : Hp) (C : Addr) (cl : List (Str × Addr)) (fp : List Addr), EW (X.blk s H scope (compEnvC scope cl C X.env) fp) elt ρ' M' Φ') ∧ tW X.K ρ' M' Φ' σ H Q) (own.map (·.2)) σ H Q := by
  obtain ⟨G, sa, k⟩ := hΦ
  refine ⟨G, sa, fun J G1 H1 ds M1 ⟨hlen, Iv, h0, step, done⟩ g1 sh1 jw => fun p hp => ?_⟩
  obtain ⟨shp, mp, gp⟩ := sh1.newM hp (RepL.nil (K := X.K) (G := G1))
  refine ⟨fun i mm H => mm = ds.length - i ∧ i ≤ ds.length ∧ ∃ G acc M, Same G1 G ∧ acc.length = i ∧ M p = none ∧ Iv i acc M ∧ SH X.K G H (M.set p (.lst acc)), ⟨ds.length, by simp, Nat.zero_le _, G1, [], M1, Same.refl _, rfl, mp, h0, shp⟩, ?_⟩
  rintro i mm H2 ⟨rfl, hi, G2, acc, M2, g2, hacc, hmp, iv, sh2⟩
  obtain ⟨j1, j2⟩ := jw i H2 (g2.trans sh2.le)
  by_cases hlt : i < ds.length
  · have hd : ds[i]? = some ds[i] := List.getElem?_eq_getElem hlt
    obtain ⟨go, yl⟩ := j1 _ hd
    refine .inr ⟨go, fun H3 => ∃ G acc M, Same G1 G ∧ acc.length = i + 1 ∧ M p = none ∧ Iv (i + 1) acc M ∧ SH X.K G H3 (M.set p (.lst acc)), fun H' p' => ⟨ds.length - (i + 1), by omega, rfl, hlt, p'⟩, fun x H' y => ?_⟩
    obtain ⟨G3, g3, sh3, rx⟩ := yl x H' y G2 _ g2 sh2
    have g2 := g2.trans g3
    obtain ⟨ρ3, tg3, ev⟩ := step i _ acc M2 hd hacc iv
    refine tg3 x σ G3 H' _ sh3.le (wipe_rep ((sa.sl.up g1).up g2) _) rx fun σ3 rs3 hw => ⟨hw, ?_⟩
    show ∃ ρ' M' Φ', _ ∧ tW X.K ρ' M' Φ' σ3 H' _
    refine ⟨ρ3, _, _, ev p hmp, G3, ⟨sh3, rs3⟩, fun v G4 H4 d4 M4 ⟨M5, e5, n5, iv5⟩ g4 sh4 r4 => ?_⟩
    subst e5
    obtain ⟨_, vs, hv, rl⟩ := sh4.mem p _ Mem.set_same
    refine ⟨vs, hv, ?_, G4, acc ++ [d4], M5, g2.trans g4, by rw [List.length_append, hacc]; rfl, n5, iv5, ?_⟩
    · rw [rl.len, hacc]
      exact Nat.lt_of_lt_of_le hlt hlen
    · have q := sh4.put (ds := acc ++ [d4]) Mem.set_same (rl.append (.cons r4 .nil))
      rw [Mem.set_set] at q
      exact q
  · have e : i = ds.length := by omega
    subst e
    obtain ⟨vs, sh3, g3, rl⟩ := sh2.freeze hmp
    exact .inl ⟨j2 (Nat.le_refl _), k _ _ H2 _ M2 (done acc M2 hacc iv) ((g1.trans g2).trans g3) sh3 (.lst (.inl (.inl upd_same)) (rl.up g3))⟩
theorem ew_lc {elt : Expr} {scope : Scope} {own : List (Str × Nat)} (hc : X.calm = true) (hN : X.N.Nodup) (ok : BlkOk X.N X.env.scope scope own)
    (hg : ∀ (s : Shared) (H : Hp) (C : Addr) (cl : List (Str × Addr)) (fp : List Addr), PG (X.blk s H scope (compEnvC scope cl C X.env) fp) tg g) (hi : IW X tg iter ρ M (LcI X g own scope elt ρ Φ))
    (hs : ∀ x, foldedSetIterable iter X.env x = pure x := by intro _; rfl) : EW X (.ListComp elt [⟨tg, iter, [], 0⟩] scope pos) ρ M Φ :=
  (pe_lc hc hN hi ok hg (fun _ _ _ _ _ => pts_nil) (fun s H C cl fp => ⟨fun pins s' σ H' Q I ⟨ρ', M', Φ', hb, q⟩ => (hb s H C cl fp).run pins s' σ H' Q I q⟩) hs).mono fun σ H Q h => lcw_read σ H Q h
theorem sw_setLc (i : Nat) {y : Str} {py : Pos} {elt : Expr} {scope : Scope} {own : List (Str × Nat)} {spos : Pos} (hc : X.calm = true) (hN : X.N.Nodup) (ok : BlkOk X.N X.env.scope scope own)
    (hg : ∀ (s : Shared) (H : Hp) (C : Addr) (cl : List (Str × Addr)) (fp : List Addr), PG (X.blk s H scope (compEnvC scope cl C X.env) fp) tg g) (hi : IW X tg iter ρ M (LcI X g own scope elt ρ (fun d M1 => Ψ (.nx (ρ.set i (some d)) M1))))
    (hw : swapsWith (.ListComp elt [⟨tg, iter, [], 0⟩] scope pos) (some (.Name y py)) spos.line X.env = pure true := by rfl) (hy : X.N[i]? = some y := by rfl) (hl : X.env.scope.names.lookup y = some .local := by rfl)
    (hs : ∀ x, foldedSetIterable iter X.env x = pure x := by intro _; rfl) : SV X (.Assign [.Name y py] (.ListComp elt [⟨tg, iter, [], 0⟩] scope pos) spos) ρ M Ψ :=
  (ps_setLc hc hN hy hl hw hi ok hg (fun _ _ _ _ _ => pts_nil) (fun s H C cl fp => ⟨fun pins s' σ H' Q I ⟨ρ', M', Φ', hb, q⟩ => (hb s H C cl fp).run pins s' σ H' Q I q⟩) hs).mono fun E σ H ⟨G, sa, k⟩ =>
    lcw_read (Φ := fun d M1 => Ψ (.nx (ρ.set i (some d)) M1)) σ H _ ⟨G, sa, fun v G1 H1 d M1 q g1 sh1 r1 => k _ q _ G1 H1 g1 ⟨sh1, (sa.sl.up g1).set i r1⟩⟩
end
end Vt
namespace Vt
open PySem PySem.Spec PyProof.Rows L2
section
variable {X : Cx} {ρ : Sl} {M M1 : Mem} {a b c e : Expr} {pos : Pos} {Ψ : Out → Prop}
/-- x, y = a, b -/
theorem sw_par (i j : Nat) {x y : Str} {px py pt pt2 : Pos} {kt k2} (hc : X.calm = true) (hN : X.N.Nodup) (h : AW X [a, b] ρ M (fun ds M1 => ∃ d1 d2, ds = [d1, d2] ∧ Ψ (.nx ((ρ.set i (some d1)).set j (some d2)) M1)))
    (hij : i ≠ j := by decide) (hi : X.N[i]? = some x := by rfl) (hj : X.N[j]? = some y := by rfl) (hx : X.env.scope.names.lookup x = some .local := by rfl) (hy : X.env.scope.names.lookup y = some .local := by rfl)
    (hw : swappedStores [.Tuple [.Name x px, .Name y py] kt pt] (.Tuple [a, b] k2 pt2) X.env = pure (some [x, y]) := by rfl) : SV X (.Assign [.Tuple [.Name x px, .Name y py] kt pt] (.Tuple [a, b] k2 pt2) pos) ρ M Ψ :=
  (ps_par hc hN hi hj hij hx hy h hw).mono fun E σ H ⟨G, sa, k⟩ => ⟨G, sa, fun vs G1 H1 ds M1 ⟨d1, d2, e, q⟩ g1 sh1 r1 => by
    subst e
    match vs, r1 with
    | [v1, v2], .cons r1 (.cons r2 .nil) => exact ⟨v1, v2, rfl, k _ q _ G1 H1 g1 ⟨sh1, ((sa.sl.up g1).set i r1).set j r2⟩⟩⟩
theorem sw_par3 (i j l : Nat) {x y z : Str} {px py pz pt pt2 : Pos} {kt k2} (hc : X.calm = true) (hN : X.N.Nodup) (h : AW X [a, b, c] ρ M (fun ds M1 => ∃ d1 d2 d3, ds = [d1, d2, d3] ∧ Ψ (.nx (((ρ.set i (some d1)).set j (some d2)).set l (some d3)) M1)))
    (hij : i ≠ j := by decide) (hil : i ≠ l := by decide) (hjl : j ≠ l := by decide) (hi : X.N[i]? = some x := by rfl) (hj : X.N[j]? = some y := by rfl) (hl : X.N[l]? = some z := by rfl) (hx : X.env.scope.names.lookup x = some .local := by rfl) (hy : X.env.scope.names.lookup y = some .local := by rfl) (hz : X.env.scope.names.lookup z = some .local := by rfl)
    (hw : swappedStores [.Tuple [.Name x px, .Name y py, .Name z pz] kt pt] (.Tuple [a, b, c] k2 pt2) X.env = pure (some [x, y, z]) := by rfl) : SV X (.Assign [.Tuple [.Name x px, .Name y py, .Name z pz] kt pt] (.Tuple [a, b, c] k2 pt2) pos) ρ M Ψ :=
  (ps_par3 hc hN hi hj hl hij hil hjl hx hy hz h hw).mono fun E σ H ⟨G, sa, k⟩ => ⟨G, sa, fun vs G1 H1 ds M1 ⟨d1, d2, d3, e, q⟩ g1 sh1 r1 => by
    subst e
    match vs, r1 with
    | [v1, v2, v3], .cons r1 (.cons r2 (.cons r3 .nil)) => exact ⟨v1, v2, v3, rfl, k _ q _ G1 H1 g1 ⟨sh1, (((sa.sl.up g1).set i r1).set j r2).set l r3⟩⟩⟩
end
end Vt
namespace Vt
open PySem PySem.Spec PyProof.Rows L2
/-! targets and walks over tuples or lists -/
def gSq (K : PySem.W.Frag) (b : Bool) (n : Nat) (t : TGs) : TG := if b = true then gUnl K n t else gTup K n t
section
variable {X : Cx} {K : PySem.W.Frag} {ρ ρ' ρ'' : Sl} {M M1 : Mem} {e : Expr} {es : List Expr} {d : D} {ds : List D} {pos : Pos} {g : TG} {gs : TGs} {tg : Expr}
theorem pg_sq (b : Bool) {k n : Nat} (hc : X.calm = true) (h : PGs X es gs) (hn : (assignEach es X.env).length = n := by rfl) (hst : (assignEach es X.env).findIdx? (·.1) = none := by rfl) : PG X (.Tuple es k pos) (gSq X.K b n gs) := by
  cases b with
  | true => exact pg_unl hc h hn hst
  | false => exact pg_tup hc h hn hst
theorem tg_sq {b : Bool} {n : Nat} (h : TG2 K gs ρ ds ρ') (hl : ds.length = n := by rfl) : TG1 K (gSq K b n gs) ρ (sq b ds) ρ' := by
  cases b with
  | true => exact tg_lst h hl
  | false => exact tg_tup h hl
theorem iv_sq {b : Bool} (h : EV X e ρ M (sq b ds) M1) : IV X tg e ρ M ds M1 := by
  cases b with
  | true => exact iv_list h
  | false => exact iv_tup h
/-- the same within a comprehension: what is stored in are slots of the block's own, vs -/
def TBs (K : PySem.W.Frag) (gs : TGs) (vs : List Nat) (ρ : Sl) (ds : List D) (ρ' : Sl) : Prop := ∀ xs σ0 σ G H Q, Same G H → RepS K G σ ρ → wipe σ vs = wipe σ0 vs → RepL K G xs ds → (∀ σ', RepS K G σ' ρ' → wipe σ' vs = wipe σ0 vs → Q σ' H) → gs xs σ H Q
def TB (K : PySem.W.Frag) (g : TG) (vs : List Nat) (ρ : Sl) (d : D) (ρ' : Sl) : Prop := ∀ x σ0 σ G H Q, Same G H → RepS K G σ ρ → wipe σ vs = wipe σ0 vs → Rep K G x d → (∀ σ', RepS K G σ' ρ' → wipe σ' vs = wipe σ0 vs → Q σ' H) → g x σ H Q
theorem wipe_set {vs : List Nat} {i : Nat} {x : Option V} (hi : i ∈ vs) : ∀ {σ : L2.St}, wipe (σ.set i x) vs = wipe σ vs := by
  induction vs with
  | nil => cases hi
  | cons v vs ih =>
    intro σ
    show (wipe (σ.set i x) vs).set v none = (wipe σ vs).set v none
    by_cases hv : i ∈ vs
    · rw [ih hv]
    · have e : i = v := by
        rcases List.mem_cons.mp hi with e | e
        · exact e
        · exact absurd e hv
      subst e
      have key : ∀ (ws : List Nat), i ∉ ws → ∀ σ : L2.St, wipe (σ.set i x) ws = (wipe σ ws).set i x := by
        intro ws
        induction ws with
        | nil => intro _ σ; rfl
        | cons w ws ihw =>
          intro hw σ
          show (wipe (σ.set i x) ws).set w none = ((wipe σ ws).set w none).set i x
          rw [ihw (fun z => hw (List.mem_cons_of_mem _ z)), List.set_comm _ _ (fun z => hw (by rw [z]; exact List.mem_cons_self))]
      rw [key vs hv, List.set_set]
theorem wipe_wipe {vs : List Nat} : ∀ {σ : L2.St}, wipe (wipe σ vs) vs = wipe σ vs := by
  have key : ∀ (ws vs : List Nat), (∀ v ∈ vs, v ∈ ws) → ∀ σ : L2.St, wipe (wipe σ vs) ws = wipe σ ws := by
    intro ws vs
    induction vs with
    | nil => intro _ σ; rfl
    | cons v vs ih =>
      intro h σ
      show wipe ((wipe σ vs).set v none) ws = _
      rw [wipe_set (h v List.mem_cons_self), ih (fun u hu => h u (List.mem_cons_of_mem _ hu))]
  exact fun {σ} => key vs vs (fun _ h => h) σ
theorem tb_name {vs : List Nat} {i : Nat} (hi : i ∈ vs := by decide) : TB K (gName i) vs ρ d (ρ.set i (some d)) := fun x σ0 σ G H Q e h hw r k => k _ (h.set i r) (by rw [wipe_set hi]; exact hw)
theorem tbs_nil {vs : List Nat} : TBs K gNil vs ρ [] ρ := fun xs σ0 σ G H Q e h hw r k => by
  cases r
  exact ⟨rfl, k σ h hw⟩
theorem tbs_cons {vs : List Nat} (h1 : TB K g vs ρ d ρ') (h2 : TBs K gs vs ρ' ds ρ'') : TBs K (gCons g gs) vs ρ (d :: ds) ρ'' := fun xs σ0 σ G H Q e h hw r k => by
  cases r with
  | cons r t => exact ⟨_, _, rfl, h1 _ σ0 σ G H _ e h hw r fun σ' h' hw' => h2 _ σ0 σ' G H _ e h' hw' t k⟩
theorem tb_tup {vs : List Nat} {n : Nat} (h : TBs K gs vs ρ ds ρ') (hl : ds.length = n := by rfl) : TB K (gTup K n gs) vs ρ (.tup ds) ρ' := fun x σ0 σ G H Q e h0 hw r k => by
  cases r with
  | tup q r => exact ⟨_, _, rfl, sqtUp e q, r.len.trans hl, h _ σ0 σ G H _ e h0 hw r k⟩
theorem tb_sq {vs : List Nat} {b : Bool} {n : Nat} (h : TBs K gs vs ρ ds ρ') (hl : ds.length = n := by rfl) : TB K (gSq K b n gs) vs ρ (sq b ds) ρ' := by
  cases b with
  | false => exact tb_tup h hl
  | true =>
    intro x σ0 σ G H Q e h0 hw r k
    cases (show Rep K G x (.lst ds) from r) with
    | lst q r => exact ⟨_, _, rfl, sqlUp e q, r.len.trans hl, h _ σ0 σ G H _ e h0 hw r k⟩
theorem tgb_of {vs : List Nat} (h : TB K g vs ρ d ρ') : TGb K g vs ρ d ρ' := fun x σ G H Q e hs r k => h x σ (wipe σ vs) G H Q e hs wipe_wipe r k
end
end Vt
namespace Vt
open PySem PySem.Spec PyProof.Rows L2
/-! ### enumerate of a tuple -/
end Vt
namespace VtEnum
open PySem
open PySem.Sem (wp)
open AutoSeq1 (wpAny_loadPart')
/-- what enumerate(t) makes: the walk of t, and the enumeration -/
def walkO (t : Addr) : Obj := { cls := .type "tuple_iterator", data := .fields #[.ref t, .int 0 0] }
def enumO (it : Addr) (i : Int) (old : Value) : Obj := { cls := .type "enumerate", data := .fields #[.none, .bool false, .ref it, rawInt i, .none, old] }
theorem meets_new (t : Addr) (items : Array Value) (n : Nat) (dd : Option Addr) (sl : Array (Option Value)) :
    Meets (Builtin.«enumerate.__new__» ⟨[.type "enumerate", .ref t], []⟩) (fun _ R s => s.heap.get? t = some { cls := .type "tuple", dict := dd, data := .seq items n, slots := sl } ∧
      R (.ok (.ret (.ref (s.heap.push (walkO t)).objs.size))) { s with heap := (s.heap.push (walkO t)).push (enumO s.heap.objs.size 0 .none) }) :=
  .of_wp fun prog w A R s z => by
    obtain ⟨hp, gens, dr, tk, os⟩ := s
    obtain ⟨ht, z⟩ := z
    have sub := sub_enumerate
    have isT : Heap.IsTuple (Shared.heap ⟨hp, gens, dr, tk, os⟩) t items := ⟨_, ht, rfl, n, rfl⟩
    wp_walk using wpAny_loadPart' ht
    refine wpAny_stack_any fun _ => wpAny_pure ?_
    split
    · rename_i c _ _ _ _ _
      cases (c == Value.type "enumerate") <;>
      · wp_walk using wpAny_loadPart' ht, wpAny_pyIter_tuple isT
        exact ⟨_, rfl, z⟩
    · wp_walk using wpAny_loadPart' ht, wpAny_pyIter_tuple isT
      exact ⟨_, rfl, z⟩
section
variable {prog : Program} {w : World} {A : Around} {E : Value → Shared → Prop} {s : Shared}
theorem call_new {t : Addr} {items : Array Value} {Q : Value → Shared → Prop} (isT : s.heap.IsTuple t items)
    (k : ∀ h', IsEnum h' (s.heap.objs.size + 1) s.heap.objs.size 0 .none → h'.IsTupleIter s.heap.objs.size t 0 → (∀ b o, s.heap.get? b = some o → h'.get? b = some o) → Q (.ref (s.heap.objs.size + 1)) { s with heap := h' }) :
    wpAny (model prog w) A (call (.type "enumerate") [.ref t]) Q E s := by
  obtain ⟨⟨c, dct, dt, sl⟩, ht, hc, n, hd⟩ := isT
  have hc : c = .type "tuple" := hc
  have hd : dt = .seq items n := hd
  subst hc hd
  have sz : (s.heap.push (walkO t)).objs.size = s.heap.objs.size + 1 := Heap.size_push ..
  have e1 : IsEnum ((s.heap.push (walkO t)).push (enumO s.heap.objs.size 0 .none)) (s.heap.objs.size + 1) s.heap.objs.size 0 .none := by
    have q := Heap.get?_push_size (s.heap.push (walkO t)) (o := enumO s.heap.objs.size 0 .none) rfl
    rwa [sz] at q
  refine callType_new F.called_enumerate (by decide) (F.typeCall_enumerate_1 _) (F.newCall_enumerate_1 _) (fun obj => F.args_object_init_2 obj _) F.entry_enumerate_new (meets_new t items n dct sl) ⟨ht, ?_⟩
  show _ ∧ _
  rw [sz]
  exact ⟨⟨_, e1, rfl⟩, k _ e1 ⟨_, Heap.get?_push_of_some _ (Heap.get?_push_size _ rfl), rfl, rfl⟩ fun b o x => Heap.get?_push_of_some _ (Heap.get?_push_of_some _ x)⟩
/-- a turn -/
theorem turn_item {e it t : Addr} {i : Nat} {items : Array Value} {x old : Value} {Q : Value → Shared → Prop} (en : IsEnum s.heap e it i old) (wk : s.heap.IsTupleIter it t i) (tp : s.heap.IsTuple t items) (hx : items[i]? = some x) (apart : e ≠ it)
    (k : ∀ h', IsEnumOut h' e it ((i : Int) + 1) x s.heap.objs.size → h'.IsTupleIter it t (i + 1) → h'.get? s.heap.objs.size = some { cls := .type "tuple", data := .seq #[.int i s.toks, x] } →
      (∀ b o, b ≠ e → b ≠ it → s.heap.get? b = some o → h'.get? b = some o) → Q (.ref s.heap.objs.size) { s with heap := h', toks := s.toks + 1 }) :
    wpAny (model prog w) A (Builtin.«enumerate.__next__» ⟨[.ref e], []⟩) (fun fin s' => ∃ v, fin = .done (.ret v) ∧ Q v s') E s := by
  obtain ⟨h0, gens, dr, tk, os⟩ := s
  have back := apart.symm
  show wpAny _ _ (field (.ref e) 2 >>= _) _ _ _
  apply wpAny_bind
  refine wpAny_field en rfl (x := .ref it) rfl (wpAny_bind (RZ.nextOf_tuple_item wk tp hx fun h1 wk1 (q1 : Heap.SameBut it h0 h1) => ?_))
  have en1 : IsEnum h1 e it i old := (q1.2 e apart).trans en
  show wpAny _ _ (field (.ref e) 3 >>= _) _ _ ⟨h1, gens, dr, tk, os⟩
  refine wpAny_bind (wpAny_field en1 rfl (x := rawInt i) rfl ?_)
  show wpAny _ _ (field (.ref e) 4 >>= _) _ _ ⟨h1, gens, dr, tk, os⟩
  refine wpAny_bind (wpAny_field en1 rfl (x := .none) rfl ?_)
  show wpAny _ _ (mkInt i >>= _) _ _ ⟨h1, gens, dr, tk, os⟩
  refine wpAny_bind (wpAny_mkInt ?_)
  show wpAny _ _ (setField (.ref e) 3 (rawInt ((i : Int) + 1)) >>= _) _ _ ⟨h1, gens, dr, tk + 1, os⟩
  refine wpAny_bind (wpAny_setField_rec en1 (by simp) fun h2 (en2 : IsEnum h2 e it ((i : Int) + 1) old) (q2 : Heap.SameBut e h1 h2) => ?_)
  show wpAny _ _ (setField (.ref e) 4 .none >>= _) _ _ ⟨h2, gens, dr, tk + 1, os⟩
  refine wpAny_bind (wpAny_setField_rec en2 (by simp) fun h3 (en3 : IsEnum h3 e it ((i : Int) + 1) old) (q3 : Heap.SameBut e h2 h3) => ?_)
  show wpAny _ _ (newTuple [.int i tk, x] >>= _) _ _ ⟨h3, gens, dr, tk + 1, os⟩
  refine wpAny_bind (wpAny_newTuple ?_)
  have s3 : h3.objs.size = h0.objs.size := by rw [q3.1, q2.1, q1.1]
  have below : e < h0.objs.size := Heap.lt_size en
  obtain ⟨h4, e4⟩ : ∃ h4, h4 = h3.push { cls := .type "tuple", data := .seq #[.int i tk, x] } := ⟨_, rfl⟩
  have en4 : IsEnum h4 e it ((i : Int) + 1) old := by rw [e4]; exact Heap.get?_push_of_some _ en3
  have new4 : h4.get? h0.objs.size = some { cls := .type "tuple", data := .seq #[.int i tk, x] } := by rw [e4, ← s3]; exact Heap.get?_push_size _ rfl
  have old4 : ∀ b o, b ≠ e → b ≠ it → h0.get? b = some o → h4.get? b = some o := fun b o n1 n2 hb => by
    rw [e4]
    exact Heap.get?_push_of_some _ (q3.extBut b o n1 (q2.extBut b o n1 (q1.extBut b o n2 hb)))
  have wk4 : h4.IsTupleIter it t (i + 1) := by
    obtain ⟨o, ho, r⟩ := (wk1.extBut q2.extBut back).extBut q3.extBut back
    rw [e4]
    exact ⟨o, Heap.get?_push_of_some _ ho, r⟩
  show wpAny _ _ (Builtin.SmallTypes.ownedTupleIsFree (.ref e) >>= _) _ _ ⟨_, gens, dr, tk + 1, os⟩
  rw [← e4, s3]
  clear e4 en3 q3 en2 q2 en1 q1 wk1 s3
  refine wpAny_bind ?_
  unfold Builtin.SmallTypes.ownedTupleIsFree
  refine wpAny_bind (wpAny_field en4 rfl (x := .none) rfl (wpAny_pure ?_))
  simp only [if_true]
  refine wpAny_bind (wpAny_rule (wpAny_bind (wpAny_field en4 rfl (x := old) rfl (wpAny_bind (wpAny_setField_rec en4 (by simp) fun h5 (en5 : IsEnum h5 e it ((i : Int) + 1) x) (q5 : Heap.SameBut e h4 h5) => ?_)))))
  show wpAny _ _ (Builtin.SmallTypes.ownedTupleHandOut (.ref e) (.ref h0.objs.size) >>= _) _ _ ⟨h5, gens, dr, tk + 1, os⟩
  refine wpAny_bind ?_
  unfold Builtin.SmallTypes.ownedTupleHandOut
  refine wpAny_bind (wpAny_setField_rec en5 (by simp) fun h6 (en6 : IsEnumOut h6 e it ((i : Int) + 1) x h0.objs.size) (q6 : Heap.SameBut e h5 h6) => ?_)
  refine wpAny_setField_rec en6 (by simp) fun h7 (en7 : IsEnumOut h7 e it ((i : Int) + 1) x h0.objs.size) (q7 : Heap.SameBut e h6 h7) => ?_
  have on : ∀ b o, b ≠ e → h4.get? b = some o → h7.get? b = some o := fun b o n hb => q7.extBut b o n (q6.extBut b o n (q5.extBut b o n hb))
  refine wpAny_bind (wpAny_letGo (wpAny_pure ⟨_, rfl, k h7 en7 ?_ (on _ _ (Nat.ne_of_gt below) new4) fun b o n1 n2 hb => on b o n1 (old4 b o n1 n2 hb)⟩))
  exact ((wk4.extBut q5.extBut back).extBut q6.extBut back).extBut q7.extBut back
theorem next_item {e it t : Addr} {i : Nat} {items : Array Value} {x old : Value} {Q : Option Value → Shared → Prop} (en : IsEnum s.heap e it i old) (wk : s.heap.IsTupleIter it t i) (tp : s.heap.IsTuple t items) (hx : items[i]? = some x) (apart : e ≠ it)
    (k : ∀ h', IsEnumOut h' e it ((i : Int) + 1) x s.heap.objs.size → h'.IsTupleIter it t (i + 1) → h'.get? s.heap.objs.size = some { cls := .type "tuple", data := .seq #[.int i s.toks, x] } →
      (∀ b o, b ≠ e → b ≠ it → s.heap.get? b = some o → h'.get? b = some o) → Q (some (.ref s.heap.objs.size)) { s with heap := h', toks := s.toks + 1 }) : wpAny (model prog w) A (pyNext (.ref e)) Q E s := by
  have ty : s.TypeIs (.ref e) "enumerate" := ⟨_, en, rfl⟩
  unfold pyNext
  refine wpAny_bind (wpAny_attempt (wpAny_callSpecial?_slot (name := Str.ofString "__next__") ty F.slot_enumerate_next (wpAny_call_entry F.slot_enumerate_next ty F.entry_enumerate_next ?_ (F.args_enumerate_next_1 _))))
  exact turn_item en wk tp hx apart fun h' a b c d => wpAny_pure (k h' a b c d)
theorem next_end {e it t : Addr} {i : Nat} {items : Array Value} {old : Value} {Q : Option Value → Shared → Prop} (hh : A.handled = none) (en : IsEnum s.heap e it i old) (wk : s.heap.IsTupleIter it t i) (tp : s.heap.IsTuple t items) (hx : items[i]? = none)
    (k : ∀ h', Heap.ExtBut it s.heap h' → Q none { s with heap := h' }) : wpAny (model prog w) A (pyNext (.ref e)) Q E s := by
  have ty : s.TypeIs (.ref e) "enumerate" := ⟨_, en, rfl⟩
  unfold pyNext
  refine wpAny_bind (wpAny_attempt (wpAny_callSpecial?_slot (name := Str.ofString "__next__") ty F.slot_enumerate_next (wpAny_call_entry F.slot_enumerate_next ty F.entry_enumerate_next ?_ (F.args_enumerate_next_1 _))))
  show wpAny _ _ (field (.ref e) 2 >>= _) _ _ _
  refine wpAny_bind (wpAny_field en rfl (x := .ref it) rfl (wpAny_bind (RZ.nextOf_tuple_end hh wk tp hx fun h' y ext ⟨o, ho, hc⟩ => ?_)))
  exact wpAny_bind (wpAny_isInstance (T := "StopIteration") (b := true) ⟨o, ho, hc⟩ isSubtype_stop (wpAny_pure (k _ ext)))
end
end VtEnum
namespace Vt
open PySem PySem.Spec PyProof.Rows L2
/-- the tuple at a, its items in new pairs -/
def Ite2 (K : PySem.W.Frag) (a : Addr) : It :=
  ⟨fun i H => ∃ (xs : List V) (x : V), SqT K H a xs ∧ xs[i]? = some x, fun i H v H' => ∃ T x, v = .ref T ∧ H T = none ∧ H' = upd H T (.tup [.int (i : Nat), x]) ∧ ∀ xs, SqT K H a xs → xs[i]? = some x, fun i H => ∃ xs : List V, SqT K H a xs ∧ xs.length ≤ i⟩
theorem turn_enumT {P : Program} {w : World} {K : PySem.W.Frag} {elts : List Expr} {kk : Nat} {tpos : Pos} (a e it : Addr) :
    Turn P w K (.Tuple elts kk tpos) (Ite2 K a) [e, it] e (fun i h => (∃ old, IsEnum h e it ((i : Nat) : Int) old) ∧ h.IsTupleIter it a i ∧ e ≠ it) where
  mem := List.mem_cons_self
  obj := by
    rintro i h ⟨⟨old, en⟩, ⟨o, ho, _, hd⟩, _⟩ b hb
    rcases List.mem_cons.mp hb with rfl | hb
    · exact ⟨_, en, fun v z => nomatch z⟩
    · rw [List.mem_singleton.mp hb]
      exact ⟨o, ho, fun v z => by rw [hd] at z; cases z⟩
  keep := by
    rintro i h h' ⟨⟨old, en⟩, wk, ne⟩ k
    exact ⟨⟨old, k e List.mem_cons_self _ en⟩, wk.at fun o z => k it (List.mem_cons_of_mem _ List.mem_cons_self) o z, ne⟩
  item := by
    intro X hP hw hK hc i pins s σ H E I hf st hg
    subst hP hw hK
    obtain ⟨⟨old, en⟩, wk, ne⟩ := st
    obtain ⟨xs, x, hq, hx⟩ := hg
    obtain ⟨its, rv, p, hz⟩ := I.tuple hq
    obtain ⟨u, hu, ru⟩ := rv.get hx
    have le : e < s.heap.objs.size := Heap.lt_size en
    have li : it < s.heap.objs.size := by obtain ⟨_, z, _⟩ := wk; exact Heap.lt_size z
    refine VtEnum.next_item en wk p (x := u) (by simpa using hu) ne fun h' out wk' hT hk => ⟨_, rfl, wpAny_letOwnedTupleGo_enum (s := { s with heap := h', toks := s.toks + 1 }) out fun h'' en' sb => ?_⟩
    have hT2 : h''.get? s.heap.objs.size = some { cls := .type "tuple", data := .seq #[.int i s.toks, u] } := (sb.2 _ (Nat.ne_of_gt le)).trans hT
    have fresh : ObjOk X.prog X.w (upd H s.heap.objs.size (.tup [.int (i : Nat), x])) h'' s.heap.objs.size (.tup [.int (i : Nat), x]) := ⟨by show 2 ≤ sizeLine; decide, [.int i s.toks, u], .cons ⟨_, rfl⟩ (.cons ru .nil), ⟨_, hT2, rfl, _, rfl⟩⟩
    have two : ∀ b, b ∈ [e, it] → b = e ∨ b = it := fun b hb => by simpa using hb
    have J := I.turnedNew (t' := s.toks + 1) (ch := [e, it]) (fun b ob hb z => (sb.2 b (fun y => hb (by simp [y]))).trans (hk b ob (fun y => hb (by simp [y])) (fun y => hb (by simp [y])) z)) hf (Nat.le_refl _) fresh
    refine ⟨.ref s.heap.objs.size, _, J, rfl, ⟨_, x, rfl, I.hok.fresh (Nat.le_refl _), rfl, fun ys hy => by rw [I.tuple_inj hy hq]; exact hx⟩, ⟨⟨u, ?_⟩, wk'.at fun o z => (sb.2 it ne.symm).trans z, ne⟩, fun b hb => ?_⟩
    · rw [show ((i + 1 : Nat) : Int) = (i : Int) + 1 by omega]
      exact en'
    · have lb : b < s.heap.objs.size := by rcases two b hb with z | z <;> rw [z] <;> assumption
      rw [upd_ne (Nat.ne_of_lt lb)]
      exact (hf b hb).1
  done := by
    intro X hP hw hK hc i pins s σ H E I hf st hg
    subst hP hw hK
    obtain ⟨⟨old, en⟩, wk, ne⟩ := st
    obtain ⟨xs, hq, hx⟩ := hg
    obtain ⟨its, rv, p, hz⟩ := I.tuple hq
    obtain ⟨f0, f1, f2, f3, f4, f5⟩ := hf it (by simp)
    have hl := rv.length
    exact VtEnum.next_end (I.ok.hd hc) en wk p (by simp; omega) fun h' eb => ⟨rfl, I.turned (t' := s.toks) (fun b o hb z => eb b o hb z) f0 f1 f3 f4 f5⟩
  self := fun A i s Q E ⟨⟨_, en⟩, _⟩ h => wpAny_pyIter_enum en h
theorem pi_enumT {X : Cx} {e : Expr} {ta : TA} {p pos tpos : Pos} {elts : List Expr} {kk : Nat} (hg : Gl X "enumerate") (hm : X.mg "enumerate" = none) (ha : PA X [e] ta) (hs : starEach [e] X.env = [(false, eval e X.env)]) :
    PI X (.Tuple elts kk tpos) (.Call (.Name "enumerate" p) [e] [] pos) (fun σ H R => ta σ H fun vs H1 => ∃ a xs, vs = [.ref a] ∧ SqT X.K H1 a xs ∧ R (Ite2 X.K a) H1) := by
  refine ⟨fun pins s σ H R I h => Call_ (ld_blt I hg hm boot_enumerate (PyProof.Rows.callWith_type1 (thn (ha.run pos pins s σ H _ I h) fun us s1 ⟨vs, H1, I1, r1, q1⟩ => ?_) hs rfl))⟩
  obtain ⟨a, xs, rfl, hq, q⟩ := q1
  obtain ⟨u, rfl, ru⟩ := vals1 r1
  obtain rfl : u = Value.ref a := ru
  obtain ⟨its, rv, tp, hz⟩ := I1.tuple hq
  refine VtEnum.call_new tp fun h' en wk hk => wpAny_pyIter_enum en ?_
  have I2 : Inv X pins σ H1 { s1 with heap := h' } := I1.kept (t' := s1.toks) hk
  refine ⟨s1.heap.objs.size + 1, [s1.heap.objs.size + 1, s1.heap.objs.size], _, _, H1, rfl, I2, turn_enumT a (s1.heap.objs.size + 1) s1.heap.objs.size, ⟨⟨.none, en⟩, wk, Nat.succ_ne_self _⟩, fun b hb => ?_, q⟩
  have hle : s1.heap.objs.size ≤ b := by
    rcases List.mem_cons.mp hb with z | hb
    · rw [z]; exact Nat.le_succ _
    · rw [List.mem_singleton.mp hb]; exact Nat.le_refl _
  exact I1.fpOk hle (I1.hok.fresh hle)
end Vt
namespace Vt
open PySem PySem.Spec PyProof.Rows L2
/-! ### more of the relational calculus -/
def enD : Nat → List D → List D
  | _, [] => []
  | k, d :: ds => .tup [dI (k : Int), d] :: enD (k + 1) ds
theorem enD_len : ∀ (ds : List D) (k : Nat), (enD k ds).length = ds.length
  | [], _ => rfl
  | _ :: ds, k => congrArg (· + 1) (enD_len ds (k + 1))
theorem enD_get : ∀ {ds : List D} {k i : Nat} {d : D}, (enD k ds)[i]? = some d → ∃ e, ds[i]? = some e ∧ d = .tup [dI ((k + i : Nat) : Int), e]
  | [], _, _, _, h => by simp [enD] at h
  | e :: ds, k, 0, d, h => ⟨e, rfl, by simpa [enD] using h.symm⟩
  | e :: ds, k, i + 1, d, h => by
    obtain ⟨e', h1, h2⟩ := enD_get (ds := ds) (k := k + 1) (i := i) (by simpa [enD] using h)
    exact ⟨e', by simpa using h1, by rw [h2, show k + 1 + i = k + (i + 1) by omega]⟩
theorem enD_at : ∀ {ds : List D} {k i : Nat} {e : D}, ds[i]? = some e → (enD k ds)[i]? = some (.tup [dI ((k + i : Nat) : Int), e])
  | [], _, _, _, h => by simp at h
  | e :: ds, k, 0, _, h => by
    cases h
    rfl
  | e :: ds, k, i + 1, d, h => by
    have q := enD_at (ds := ds) (k := k + 1) (i := i) (e := d) (by simpa using h)
    rw [show k + 1 + i = k + (i + 1) by omega] at q
    simpa [enD] using q
theorem RepL.rev {K : PySem.W.Frag} {G : Hp} : ∀ {vs : List V} {ds : List D}, RepL K G vs ds → RepL K G vs.reverse ds.reverse
  | _, _, .nil => .nil
  | _, _, .cons h t => by
    rw [List.reverse_cons, List.reverse_cons]
    exact (RepL.rev t).append (.cons h .nil)
theorem RepL.drop {K : PySem.W.Frag} {G : Hp} : ∀ {vs : List V} {ds : List D} (n : Nat), RepL K G vs ds → RepL K G (vs.drop n) (ds.drop n)
  | _, _, 0, h => h
  | _, _, _ + 1, .nil => .nil
  | _, _, n + 1, .cons _ t => RepL.drop n t
theorem RepL.take {K : PySem.W.Frag} {G : Hp} : ∀ {vs : List V} {ds : List D} (n : Nat), RepL K G vs ds → RepL K G (vs.take n) (ds.take n)
  | _, _, 0, _ => .nil
  | _, _, _ + 1, .nil => .nil
  | _, _, n + 1, .cons h t => .cons h (RepL.take n t)
def cutD (ds : List D) (lo hi : Option Int) : List D := (ds.drop (HT.sIx ds.length 0 lo)).take (HT.sIx ds.length ds.length hi - HT.sIx ds.length 0 lo)
theorem cut_rep {K : PySem.W.Frag} {G : Hp} {vs : List V} {ds : List D} {lo hi : Option Int} (r : RepL K G vs ds) : RepL K G (cutV vs lo hi) (cutD ds lo hi) := by
  unfold cutV cutD
  rw [r.len]
  exact (r.drop _).take _
section
variable {X : Cx} {K : PySem.W.Frag} {ρ ρ' : Sl} {M M1 M2 M3 : Mem} {a b c e : Expr} {es : List Expr} {d d1 d2 : D} {ds : List D} {pos : Pos} {Ψ : Out → Prop} {Φ : D → Mem → Prop} {ΦI : List D → Mem → Prop}
theorem pairR {G : Hp} {H : Hp} {M : Mem} {T : Addr} {i : Int} {x : V} {d : D} (sh : SH K G H M) (hT : H T = none) (r : Rep K G x d) : ∃ G3, Same G G3 ∧ SH K G3 (upd H T (.tup [.int i, x])) M ∧ Rep K G3 (.ref T) (.tup [dI i, d]) := by
  obtain ⟨sh2, g2⟩ := sh.new (o := .tup [V.int i, x]) hT
  exact ⟨_, g2, sh2, .tup (.inl (.inl upd_same)) (.cons (.val _) (.cons (r.up g2) .nil))⟩
theorem JW2.enumL {p : Addr} {vs : List V} {G : Hp} (q : SqL K G p vs) (r : RepL K G vs ds) : JW2 K (Ite K p) G (enD 0 ds) := fun i H g => ⟨fun d h => by
    obtain ⟨e, h1, rfl⟩ := enD_get h
    obtain ⟨v, hv, rv⟩ := r.get h1
    refine ⟨⟨vs, v, sqlUp g q, hv⟩, ?_⟩
    rintro x H' ⟨T, y, rfl, hT, rfl, e2⟩ G2 M g2 sh
    have := e2 vs (sqlUp g q)
    rw [hv] at this
    cases this
    rw [Nat.zero_add]
    exact pairR sh hT (rv.up g2), fun h => ⟨vs, sqlUp g q, by rw [r.len]; rw [enD_len] at h; exact h⟩⟩
theorem JW2.enumT {p : Addr} {vs : List V} {G : Hp} (q : SqT K G p vs) (r : RepL K G vs ds) : JW2 K (Ite2 K p) G (enD 0 ds) := fun i H g => ⟨fun d h => by
    obtain ⟨e, h1, rfl⟩ := enD_get h
    obtain ⟨v, hv, rv⟩ := r.get h1
    refine ⟨⟨vs, v, sqtUp g q, hv⟩, ?_⟩
    rintro x H' ⟨T, y, rfl, hT, rfl, e2⟩ G2 M g2 sh
    have := e2 vs (sqtUp g q)
    rw [hv] at this
    cases this
    rw [Nat.zero_add]
    exact pairR sh hT (rv.up g2), fun h => ⟨vs, sqtUp g q, by rw [r.len]; rw [enD_len] at h; exact h⟩⟩
/-- for .. in enumerate(x), x a tree -/
theorem iw_enum (b : Bool) {elts : List Expr} {kk : Nat} {tpos p : Pos} (hm : X.mg "enumerate" = none) (h : EV X e ρ M (sq b ds) M1) (q : ΦI (enD 0 ds) M1) (hg : Gl X "enumerate" := by rfl) (hst : starEach [e] X.env = [(false, eval e X.env)] := by rfl) : IW X (.Tuple elts kk tpos) (.Call (.Name "enumerate" p) [e] [] pos) ρ M ΦI := by
  cases b with
  | true => exact (pi_enum hg hm (av_cons h av_nil hst) hst).mono fun σ H R ⟨G, sa, k⟩ => ⟨G, sa, fun vs G1 H1 g1 sh1 r1 => by
      cases r1 with
      | cons r t =>
        cases t
        cases (show Rep X.K G1 _ (.lst ds) from r) with
        | lst q' r => exact ⟨_, _, rfl, sqlUp sh1.le q', k _ G1 H1 _ M1 q g1 sh1 (JW2.enumL q' r)⟩⟩
  | false => exact (pi_enumT hg hm (av_cons h av_nil hst) hst).mono fun σ H R ⟨G, sa, k⟩ => ⟨G, sa, fun vs G1 H1 g1 sh1 r1 => by
      cases r1 with
      | cons r t =>
        cases t
        cases (show Rep X.K G1 _ (.tup ds) from r) with
        | tup q' r => exact ⟨_, _, rfl, sqtUp sh1.le q', k _ G1 H1 _ M1 q g1 sh1 (JW2.enumT q' r)⟩⟩
/-- xs[::-1], xs a tree or a list of the memory -/
theorem ew_rev {kk : Nat} {p1 p2 p3 : Pos} (h : EW X e ρ M (fun d M1 => ∃ ds, (d = .lst ds ∨ ∃ p, d = dP p ∧ M1 p = some (.lst ds)) ∧ Φ (.lst ds.reverse) M1)) : EW X (.Subscript e (.Slice none none (some (.UnaryOp .USub (.Constant (.int 1) kk p1) p2)) p3) pos) ρ M Φ :=
  (pe_revL h).mono fun σ H Q ⟨G, sa, k⟩ => ⟨G, sa, fun v G1 H1 d M1 ⟨ds, c, q⟩ g1 sh1 r1 => by
    have key : ∃ p vs, v = .ref p ∧ SqL X.K H1 p vs ∧ RepL X.K G1 vs ds := by
      rcases c with rfl | ⟨p, rfl, hp⟩
      · cases r1 with
        | lst q' r => exact ⟨_, _, rfl, sqlUp sh1.le q', r⟩
      · obtain ⟨_, vs, hv, r⟩ := sh1.mem p _ hp
        exact ⟨p, vs, r1.of_val, .inl (.inl hv), r⟩
    obtain ⟨p, vs, rfl, hs, r⟩ := key
    have rr : RepL X.K G1 vs.reverse ds.reverse := r.rev
    refine ⟨p, vs, rfl, hs, fun p' hp' => ?_⟩
    obtain ⟨sh2, g2⟩ := sh1.new (o := .lst vs.reverse) hp'
    exact k _ _ _ _ M1 q (g1.trans g2) sh2 (.lst (.inl (.inl upd_same)) (rr.up g2))⟩
/-- xs[i] = e, any sign -/
theorem sw_setItem {tp : Pos} (he : EW X e ρ M (fun d M1 => ∃ p i ds j, EV X a ρ M1 (dP p) M1 ∧ EV X b ρ M1 (dI i) M1 ∧ M1 p = some (.lst ds) ∧ ixN ds.length i = some j ∧ Ψ (.nx ρ (M1.set p (.lst (ds.set j d))))))
    (ha : ∀ v, assign (.Subscript a b tp) X.env v = (do
      let ov ← holding [v] (eval a X.env)
      let iv ← holding [v, ov] (eval b X.env)
      standAt tp
      holding [v, ov, iv] (setItem ov iv v)
      release [v, ov, iv] []) := by intro _; rfl)
    (hs : swapsWithSole [.Subscript a b tp] e pos.line X.env = pure false := by rfl) (hw : swappedStores [.Subscript a b tp] e X.env = pure none := by rfl)
    (h1 : (assignEach [.Subscript a b tp] X.env).map (·.2) = [assign (.Subscript a b tp) X.env] := by rfl) : SV X (.Assign [.Subscript a b tp] e pos) ρ M Ψ :=
  (ps_asg he (pg_sub (pk_e (ρ := ρ)) (pk_e (ρ := ρ)) set_list ha) hs hw h1).mono fun E σ H ⟨G, sa, k⟩ => ⟨G, sa, fun v G1 H1 d M1 ⟨p, i, ds, j, ho, hi, hm, hj, hΨ⟩ g1 sh1 r1 =>
    ⟨M1, fun d' M' => d' = dP p ∧ M' = M1, ew_ev ho ⟨rfl, rfl⟩, G1, ⟨sh1, sa.sl.up g1⟩, fun v2 G2 H2 d2 M2 ⟨e2, e2'⟩ g2 sh2 r2 => ⟨M1, fun d' M' => d' = dI i ∧ M' = M1, ew_ev hi ⟨rfl, rfl⟩, G2, ⟨by rw [e2'] at sh2; exact sh2, (sa.sl.up g1).up g2⟩, fun v3 G3 H3 d3 M3 ⟨e3, e3'⟩ g3 sh3 r3 => by
      subst e2 e3 e3'
      obtain ⟨_, vs, hv, rl⟩ := sh3.mem p _ hm
      exact ⟨p, vs, i, j, r2.of_val, r3.of_val, hv, by rw [rl.len]; exact hj, k _ hΨ σ G3 _ ((g1.trans g2).trans g3) ⟨sh3.put hm (rl.set ((r1.up g2).up g3) j), ((sa.sl.up g1).up g2).up g3⟩⟩⟩⟩⟩
/-- a tree's truth: a list, a tuple -/
theorem tv_sqT {b : Bool} (ha : EV X e ρ M (sq b ds) M1) (he : ∀ whole, isTrue e X.env whole = (do let v ← whole; standAt e.pos; holding [v] (truthy v)) := by intro _; rfl) : TV X e ρ M (!ds.isEmpty) M1 :=
  (pt_truth ha he).mono fun σ H Q ⟨G, sa, k⟩ => ⟨G, sa, fun v1 G1 H1 g1 sh1 r1 => by
    have emp : ∀ {vs : List V}, RepL X.K G1 vs ds → (!vs.isEmpty) = !ds.isEmpty := fun {vs} r => by
      have := r.len
      cases vs <;> cases ds <;> first | rfl | cases this
    cases b with
    | true =>
      cases (show Rep X.K G1 v1 (.lst ds) from r1) with
      | lst q r => exact ⟨_, .inl ⟨_, sqlUp sh1.le q, rfl⟩, by rw [emp r]; exact k G1 H1 g1 sh1⟩
    | false =>
      cases (show Rep X.K G1 v1 (.tup ds) from r1) with
      | tup q r => exact ⟨_, .inr (.inl ⟨_, sqtUp sh1.le q, rfl⟩), by rw [emp r]; exact k G1 H1 g1 sh1⟩⟩
/-- x[a:b] of a tree -/
theorem ev_sliceQ {b' : Bool} {lo hi : Option Expr} {o1 o2 : Option Int} {p2 : Pos} (ha : EV X a ρ M (sq b' ds) M1) (h1 : OV X lo ρ M1 o1 M2) (h2 : OV X hi ρ M2 o2 M3) : EV X (.Subscript a (.Slice lo hi none p2) pos) ρ M (sq b' (cutD ds o1 o2)) M3 := by
  cases b' with
  | true => exact (pe_slice sl_list ha h1 h2).mono fun σ H Q ⟨G, sa, k⟩ => ⟨G, sa, fun v G1 H1 g1 sh1 r1 => ⟨G1, ⟨sh1, sa.sl.up g1⟩, fun G2 H2 g2 sh2 => ⟨G2, ⟨sh2, (sa.sl.up g1).up g2⟩, fun G3 H3 g3 sh3 => by
      cases (show Rep X.K G1 v (.lst ds) from r1) with
      | lst q r =>
        refine ⟨_, _, rfl, sqlUp sh3.le (sqlUp g3 (sqlUp g2 q)), fun p hp => ?_⟩
        obtain ⟨sh4, g4⟩ := sh3.new (o := .lst _) hp
        exact k _ _ _ (((g1.trans g2).trans g3).trans g4) sh4 (.lst (.inl (.inl upd_same)) (cut_rep (((r.up g2).up g3).up g4)))⟩⟩⟩
  | false => exact (pe_slice sl_tupA ha h1 h2).mono fun σ H Q ⟨G, sa, k⟩ => ⟨G, sa, fun v G1 H1 g1 sh1 r1 => ⟨G1, ⟨sh1, sa.sl.up g1⟩, fun G2 H2 g2 sh2 => ⟨G2, ⟨sh2, (sa.sl.up g1).up g2⟩, fun G3 H3 g3 sh3 => by
      cases (show Rep X.K G1 v (.tup ds) from r1) with
      | tup q r =>
        refine ⟨_, _, rfl, sqtUp sh3.le (sqtUp g3 (sqtUp g2 q)), fun hw => ?_, fun hw p hp => ?_⟩
        · have e : cutD ds o1 o2 = ds := by
            rw [r.len] at hw
            unfold cutD
            rw [hw.1, hw.2, List.drop_zero, Nat.sub_zero, List.take_length]
          rw [e] at k
          exact k _ _ _ ((g1.trans g2).trans g3) sh3 (.tup (sqtUp g3 (sqtUp g2 q)) ((r.up g2).up g3))
        · obtain ⟨sh4, g4⟩ := sh3.new (o := .tup _) hp
          exact k _ _ _ (((g1.trans g2).trans g3).trans g4) sh4 (.tup (.inl (.inl upd_same)) (cut_rep (((r.up g2).up g3).up g4)))⟩⟩⟩
end
end Vt
namespace Vt
open PySem PySem.Spec PyProof.Rows L2
/-! is None of any tree -/
def D.isN : D → Bool
  | .val v => decide (v = .non)
  | .tup _ => false
  | .lst _ => false
  | .dic => false
section
variable {X : Cx} {ρ : Sl} {M M1 : Mem} {a e : Expr} {d : D} {pos : Pos} {Φ : D → Mem → Prop} {ΦT : Bool → Mem → Prop}
theorem isN_of {K : PySem.W.Frag} {G : Hp} {v : V} (r : Rep K G v d) : decide (v = .non) = d.isN := by
  cases r with
  | val v => rfl
  | tup _ _ => rfl
  | lst _ _ => rfl
  | dic _ => rfl
theorem ev_isNn {j} {p2 : Pos} (ha : EV X a ρ M d M1) : EV X (.Compare a [.Is] [.Constant .none j p2] pos) ρ M (dB d.isN) M1 :=
  (pe_cmp (pc_isN ha)).mono fun σ H Q ⟨G, sa, k⟩ => ⟨G, sa, fun v1 G1 H1 g1 sh1 r1 => by have q := k _ G1 H1 g1 sh1 (.val _); rw [← isN_of r1] at q; exact q⟩
theorem tv_isNn {j} {p2 : Pos} (ha : EV X a ρ M d M1) : TV X (.Compare a [.Is] [.Constant .none j p2] pos) ρ M d.isN M1 :=
  (pt_cmp (pc_isN ha)).mono fun σ H Q ⟨G, sa, k⟩ => ⟨G, sa, fun v1 G1 H1 g1 sh1 r1 => by have q := k G1 H1 g1 sh1; rw [← isN_of r1] at q; exact ⟨_, rfl, q⟩⟩
theorem ev_notNn {j} {p2 : Pos} (ha : EV X a ρ M d M1) : EV X (.Compare a [.IsNot] [.Constant .none j p2] pos) ρ M (dB (!d.isN)) M1 :=
  (pe_cmp (pc_notN ha)).mono fun σ H Q ⟨G, sa, k⟩ => ⟨G, sa, fun v1 G1 H1 g1 sh1 r1 => by have q := k _ G1 H1 g1 sh1 (.val _); rw [← isN_of r1] at q; exact q⟩
theorem tv_notNn {j} {p2 : Pos} (ha : EV X a ρ M d M1) : TV X (.Compare a [.IsNot] [.Constant .none j p2] pos) ρ M (!d.isN) M1 :=
  (pt_cmp (pc_notN ha)).mono fun σ H Q ⟨G, sa, k⟩ => ⟨G, sa, fun v1 G1 H1 g1 sh1 r1 => by have q := k G1 H1 g1 sh1; rw [← isN_of r1] at q; exact ⟨_, rfl, q⟩⟩
end
section
variable {X : Cx} {ρ : Sl} {M M1 : Mem} {a b e : Expr} {d : D} {ds : List D} {pos : Pos} {Φ : D → Mem → Prop} {ΦT : Bool → Mem → Prop}
/-- tuple + tuple -/
theorem ew_catT (h : EW X a ρ M (fun d1 M1 => ∃ ds, d1 = .tup ds ∧ EW X b ρ M1 (fun d2 M2 => ∃ es, d2 = .tup es ∧ ds.length + es.length ≤ sizeLine ∧ Φ (.tup (ds ++ es)) M2))) : EW X (.BinOp a .Add b pos) ρ M Φ :=
  (pe_op op_catA h pk_e).mono fun σ H Q ⟨G, sa, k⟩ => ⟨G, sa, fun v1 G1 H1 d1 M1 ⟨ds, e1, h⟩ g1 sh1 r1 => ⟨M1, _, h, G1, ⟨sh1, sa.sl.up g1⟩, fun v2 G2 H2 d2 M2 ⟨es, e2, hl, q⟩ g2 sh2 r2 => by
    subst e1 e2
    cases r1 with
    | tup q1 r =>
      cases r2 with
      | tup q2 r2 =>
        have rr := r.up g2
        refine ⟨_, _, _, _, rfl, rfl, sqtUp sh2.le (sqtUp g2 q1), sqtUp sh2.le q2, by rw [r.len, r2.len]; exact hl, fun e => ?_, fun _ e => ?_, fun _ _ p hp => ?_⟩
        · subst e
          cases rr
          exact k _ G2 H2 _ M2 q (g1.trans g2) sh2 (.tup q2 r2)
        · subst e
          cases r2
          rw [List.append_nil] at q
          exact k _ G2 H2 _ M2 q (g1.trans g2) sh2 (.tup (sqtUp g2 q1) rr)
        · obtain ⟨sh3, g3⟩ := sh2.new (o := .tup _) hp
          exact k _ _ _ _ M2 q ((g1.trans g2).trans g3) sh3 (.tup (.inl (.inl upd_same)) ((rr.append r2).up g3))⟩⟩
theorem atI_last {α : Type} {xs : List α} {x : α} (h : xs.getLast? = some x) : atI xs (-1) = some x := by
  rw [List.getLast?_eq_getElem?] at h
  have hl : 0 < xs.length := by
    rcases Nat.eq_zero_or_pos xs.length with e | e
    · rw [List.getElem?_eq_none (by omega)] at h
      cases h
    · exact e
  unfold atI ixN
  rw [if_neg (by omega), if_pos (by omega)]
  show xs[((-1 : Int) + xs.length).toNat]? = _
  rw [show ((-1 : Int) + (xs.length : Nat)).toNat = xs.length - 1 by omega]
  exact h
theorem ixN_last {n : Nat} (h : 0 < n) : ixN n (-1) = some (n - 1) := by
  unfold ixN
  rw [if_neg (by omega), if_pos (by omega), show ((-1 : Int) + n).toNat = n - 1 by omega]
end
end Vt
namespace Vt
open PySem PySem.Spec PyProof.Rows L2
/-! ### answers and errors: what an expression, a statement tells or raises -/
inductive Res where
  | ok (d : D)
  | ex (cls : Value) (dd : Option Addr)
inductive OutX where
  | o (o : Out)
  | ex (cls : Value) (dd : Option Addr) (ρ : Sl) (M : Mem)
def tU (K : PySem.W.Frag) (W : WX) (ρ : Sl) (M : Mem) (Φ : Res → Mem → Prop) : TE := fun σ H Q => ∃ G, SA K G H σ ρ M ∧ (∀ v G' H' d M', Φ (.ok d) M' → Same G G' → SH K G' H' M' → Rep K G' v d → Q v H') ∧
  ∀ cls dd G' H' M', Φ (.ex cls dd) M' → Same G G' → SH K G' H' M' → W cls dd σ H'
abbrev EU (X : Cx) (W : WX) (e : Expr) (ρ : Sl) (M : Mem) (Φ : Res → Mem → Prop) : Prop := PE X e (tU X.K W ρ M Φ)
def okX (K : PySem.W.Frag) (W : WX) (G0 : Hp) (E : Ends) : OutX → Prop
  | .o o => okE K G0 E o
  | .ex cls dd ρ M => ∀ σ G H, Same G0 G → SA K G H σ ρ M → W cls dd σ H
theorem okX.up {K : PySem.W.Frag} {W : WX} {G0 G1 : Hp} {E : Ends} {o : OutX} (e : Same G0 G1) (h : okX K W G0 E o) : okX K W G1 E o := by
  cases o with
  | o o => exact okE.up e h
  | ex cls dd ρ M => exact fun σ G H g => h σ G H (e.trans g)
def tSU (K : PySem.W.Frag) (W : WX) (ρ : Sl) (M : Mem) (Ψ : OutX → Prop) : TS := fun E σ H => ∃ G, SA K G H σ ρ M ∧ ∀ o, Ψ o → okX K W G E o
abbrev SU (X : Cx) (W : WX) (st : Stmt) (ρ : Sl) (M : Mem) (Ψ : OutX → Prop) : Prop := PS X st (tSU X.K W ρ M Ψ)
abbrev BU (X : Cx) (W : WX) (sts : List Stmt) (ρ : Sl) (M : Mem) (Ψ : OutX → Prop) : Prop := PSs X sts (tSU X.K W ρ M Ψ)
def pkU (X : Cx) (W : WX) (sts : List Stmt) (ρ : Sl) (Ψ : OutX → Prop) : TS := fun E σ H => ∃ M, BU X W sts ρ M Ψ ∧ tSU X.K W ρ M Ψ E σ H
theorem pk_u {X : Cx} {W : WX} {sts : List Stmt} {ρ : Sl} {Ψ : OutX → Prop} : PSs X sts (pkU X W sts ρ Ψ) := ⟨fun pins s σ H E I ⟨_, h, q⟩ => h.run pins s σ H E I q⟩
/-- a promise of a def that tells or raises -/
def spU (K : PySem.W.Frag) (R : List D → Mem → (Res → Mem → Prop) → Prop) : Sp := fun vs H Q E => ∃ G ds M Φ, SH K G H M ∧ RepL K G vs ds ∧ R ds M Φ ∧ (∀ v G' H' d M', Φ (.ok d) M' → Same G G' → SH K G' H' M' → Rep K G' v d → Q v H') ∧
  ∀ cls dd G' H' M', Φ (.ex cls dd) M' → Same G G' → SH K G' H' M' → E cls dd H'
section
variable {X : Cx} {W : WX} {ρ ρ1 ρ' : Sl} {M M1 M2 M' : Mem} {a b c e : Expr} {es : List Expr} {d : D} {ds : List D} {pos : Pos} {cls : Value} {st : Stmt} {rest : List Stmt} {Ψ : OutX → Prop} {Φ : Res → Mem → Prop}
theorem eu_ew {Φ' : D → Mem → Prop} (h : EW X e ρ M Φ') (q : ∀ d M, Φ' d M → Φ (.ok d) M) : EU X W e ρ M Φ := h.mono fun σ H Q ⟨G, sa, k, _⟩ => ⟨G, sa, fun v G1 H1 d M1 p => k v G1 H1 d M1 (q _ _ p)⟩
theorem eu_ev (h : EV X e ρ M d M1) (q : Φ (.ok d) M1) : EU X W e ρ M Φ := h.mono fun σ H Q ⟨G, sa, k, _⟩ => ⟨G, sa, fun v G1 H1 g1 sh1 r1 => k v G1 H1 d M1 q g1 sh1 r1⟩
theorem eu_call {k : Nat} {x : Str} {R : List D → Mem → (Res → Mem → Prop) → Prop} {p : Pos} (C : CalX X.prog X.w X.K X.mg X.base k x (spU X.K R)) (tk : Takes X W) (hr : Room k X.A) (h : AW X (e :: es) ρ M (fun ds M1 => R ds M1 Φ)) (hg : Gl X x := by rfl)
    (hd : (x == ("__debug__" : Str)) = false := by decide) (hst : starEach (e :: es) X.env = (false, eval e X.env) :: starEach es X.env := by rfl) (hpl : (backTo pos (starEach es X.env)).any (·.1) = false := by rfl) : EU X W (.Call (.Name x p) (e :: es) [] pos) ρ M Φ := by
  obtain ⟨f, fd, ps, hm, hk, hb, F⟩ := C.ex
  refine (pe_callS (E := WE W) F hr hg hm hk hb (passAt tk) h (hdb := hd) (he := hst) (hpl := hpl)).mono fun σ H Q ⟨G, sa, k1, k2⟩ => ⟨G, sa, fun vs G1 H1 ds M1 hp g1 sh1 r1 => ?_⟩
  exact ⟨G1, ds, M1, Φ, sh1, r1, hp, fun v G' H' d M' q g sh r => k1 v G' H' d M' q (g1.trans g) sh r, fun cls dd G' H' M' q g sh => k2 cls dd G' H' M' q (g1.trans g) sh⟩
theorem su_sv {Ψ' : Out → Prop} (h : SV X st ρ M Ψ') (q : ∀ o, Ψ' o → Ψ (.o o)) : SU X W st ρ M Ψ := h.mono fun E σ H ⟨G, sa, k⟩ => ⟨G, sa, fun o ho => k _ (q o ho)⟩
theorem bu_bv {Ψ' : Out → Prop} (h : BV X rest ρ M Ψ') (q : ∀ o, Ψ' o → Ψ (.o o)) : BU X W rest ρ M Ψ := h.mono fun E σ H ⟨G, sa, k⟩ => ⟨G, sa, fun o ho => k _ (q o ho)⟩
theorem su_to {Ψ' : OutX → Prop} (h : SU X W st ρ M Ψ') (q : ∀ o, Ψ' o → Ψ o) : SU X W st ρ M Ψ := h.mono fun E σ H ⟨G, sa, k⟩ => ⟨G, sa, fun o ho => k _ (q o ho)⟩
def thenU (X : Cx) (W : WX) (rest : List Stmt) (Ψ : OutX → Prop) : OutX → Prop
  | .o (.nx ρ M) => BU X W rest ρ M Ψ
  | o => Ψ o
theorem bu_nil (h : Ψ (.o (.nx ρ M))) : BU X W [] ρ M Ψ := pss_nil.mono fun E σ H ⟨G, sa, k⟩ => k _ h σ G H (Same.refl G) sa
theorem bu_cons (h : SU X W st ρ M (thenU X W rest Ψ)) : BU X W (st :: rest) ρ M Ψ := by
  refine (pss_cons (u := fun E σ H => ∃ ρ', pkU X W rest ρ' Ψ E σ H) h ⟨fun pins s σ H E I ⟨_, _, hb, q⟩ => hb.run pins s σ H E I q⟩).mono fun E σ H ⟨G, sa, k⟩ => ⟨G, sa, fun o ho => ?_⟩
  cases o with
  | ex cls dd ρ' M' => exact k _ ho
  | o o =>
    cases o with
    | nx ρ' M' => exact fun σ' G' H' g sa' => ⟨ρ', M', ho, G', sa', fun o' ho' => (k o' ho').up g⟩
    | ret d M' => exact k _ ho
    | bk ρ' M' => exact k _ ho
    | ct ρ' M' => exact k _ ho
theorem bu_one (h : SU X W st ρ M Ψ) : BU X W [st] ρ M Ψ := pss_one h
/-- a statement that raises nothing, ahead of others -/
theorem bu_sv (h : SV X st ρ M (fun o => match o with | .nx ρ' M' => BU X W rest ρ' M' Ψ | o => Ψ (.o o))) : BU X W (st :: rest) ρ M Ψ := bu_cons (su_sv h fun o ho => by
  cases o with
  | nx ρ' M' => exact ho
  | ret d M' => exact ho
  | bk ρ' M' => exact ho
  | ct ρ' M' => exact ho)
theorem su_if {as bs : List Stmt} (hc : TW X c ρ M (fun p M1 => (p = true → BU X W as ρ M1 Ψ) ∧ (p = false → BU X W bs ρ M1 Ψ))) : SU X W (.If c as bs pos) ρ M Ψ :=
  (ps_if hc pk_u pk_u).mono fun E σ H ⟨G, sa, k⟩ => ⟨G, sa, fun p G1 H1 M1 ⟨h1, h2⟩ g1 sh1 => by
    cases p with
    | true => exact (⟨M1, h1 rfl, G1, ⟨sh1, sa.sl.up g1⟩, fun o ho => (k o ho).up g1⟩ : pkU X W as ρ Ψ E σ H1)
    | false => exact (⟨M1, h2 rfl, G1, ⟨sh1, sa.sl.up g1⟩, fun o ho => (k o ho).up g1⟩ : pkU X W bs ρ Ψ E σ H1)⟩
theorem su_set (i : Nat) {x : Str} {pos' : Pos} (hN : X.N.Nodup) (he : EU X W e ρ M (fun r M1 => match r with | .ok d => Ψ (.o (.nx (ρ.set i (some d)) M1)) | .ex cls dd => Ψ (.ex cls dd ρ M1))) (hi : X.N[i]? = some x := by rfl) (hx : L2.Loc X.env.scope x := by first | exact Or.inl rfl | exact Or.inr rfl)
    (hs : swapsWith e (some (.Name x pos')) pos.line X.env = pure false := by rfl) (hf : X.fn x = true ∨ X.env.scope.names.lookup x = some .local := by first | exact .inl rfl | exact .inr rfl) : SU X W (.Assign [.Name x pos'] e pos) ρ M Ψ :=
  (ps_set hN hi hx he hs hf).mono fun E σ H ⟨G, sa, k⟩ => ⟨G, sa, fun v G1 H1 d M1 q g1 sh1 r1 => k _ q _ G1 H1 g1 ⟨sh1, (sa.sl.up g1).set i r1⟩, fun cls dd G1 H1 M1 q g1 sh1 => k _ q σ G1 H1 g1 ⟨sh1, sa.sl.up g1⟩⟩
theorem su_ret (he : EU X W e ρ M (fun r M1 => match r with | .ok d => Ψ (.o (.ret d M1)) | .ex cls dd => Ψ (.ex cls dd ρ M1))) : SU X W (.Return (some e) pos) ρ M Ψ :=
  (ps_ret he).mono fun E σ H ⟨G, sa, k⟩ => ⟨G, sa, fun v G1 H1 d M1 q g1 sh1 r1 => k _ q v G1 H1 g1 sh1 r1, fun cls dd G1 H1 M1 q g1 sh1 => k _ q σ G1 H1 g1 ⟨sh1, sa.sl.up g1⟩⟩
def loopU (Inv : Nat → Sl → Mem → Prop) (Ψ : OutX → Prop) (i : Nat) : OutX → Prop
  | .o (.nx ρ M) => Inv (i + 1) ρ M
  | .o (.ct ρ M) => Inv (i + 1) ρ M
  | .o (.bk ρ M) => Ψ (.o (.nx ρ M))
  | .o (.ret d M) => Ψ (.o (.ret d M))
  | .ex cls dd ρ M => Ψ (.ex cls dd ρ M)
theorem su_for {tg iter : Expr} {g : TG} {body : List Stmt} (hc : X.calm = true) (hg : PG X tg g)
    (hi : IW X tg iter ρ M (fun ds M1 => ∃ Iv : Nat → Sl → Mem → Prop, Iv 0 ρ M1 ∧ (∀ i d ρ' M', ds[i]? = some d → Iv i ρ' M' → ∃ ρ'', TG1 X.K g ρ' d ρ'' ∧ BU X W body ρ'' M' (loopU Iv Ψ i)) ∧ ∀ ρ' M', Iv ds.length ρ' M' → Ψ (.o (.nx ρ' M'))))
    (hp : PassesOwn (model X.prog X.w) X.A X.env X.xe) (hs : ∀ x, foldedSetIterable iter X.env x = pure x := by intro _; rfl) : SU X W (.For tg iter body [] pos) ρ M Ψ := by
  refine (ps_for (tb := fun E σ H => ∃ ρ Ψ', pkU X W body ρ Ψ' E σ H) hp hc hi hg ⟨fun pins s σ H E I ⟨_, _, _, hb, q⟩ => hb.run pins s σ H E I q⟩ hs).mono fun E σ H ⟨G, sa, k⟩ => ⟨G, sa, fun J G1 H1 ds M1 ⟨Iv, iv0, step, done⟩ g1 sh1 jw => ?_⟩
  refine ⟨fun i m σ H => m = ds.length - i ∧ i ≤ ds.length ∧ ∃ G ρ M, Same G1 G ∧ SA X.K G H σ ρ M ∧ Iv i ρ M, ⟨_, (Nat.sub_zero _).symm, Nat.zero_le _, G1, ρ, M1, Same.refl _, ⟨sh1, sa.sl.up g1⟩, iv0⟩, ?_⟩
  rintro i m σ2 H2 ⟨rfl, hi, G2, ρ2, M2, g2, sa2, iv⟩
  obtain ⟨j1, j2⟩ := jw i H2 (g2.trans sa2.sh.le)
  rcases Nat.lt_or_ge i ds.length with hlt | hge
  · obtain ⟨go, yl⟩ := j1 _ (List.getElem?_eq_getElem hlt)
    refine .inr ⟨go, fun σ3 H3 => ∃ G ρ M, Same G1 G ∧ SA X.K G H3 σ3 ρ M ∧ Iv (i + 1) ρ M, fun σ' H' p' => ⟨_, by omega, rfl, hlt, p'⟩, fun x H' y => ?_⟩
    obtain ⟨G3, g3, sh3, rx⟩ := yl x H' y G2 M2 g2 sa2.sh
    have g13 := g2.trans g3
    obtain ⟨ρ3, tg3, bv⟩ := step i _ ρ2 M2 (List.getElem?_eq_getElem hlt) iv
    refine tg3 x σ2 G3 H' _ sh3.le (sa2.sl.up g3) rx fun σ3 rs3 => ⟨ρ3, _, M2, bv, G3, ⟨sh3, rs3⟩, fun o ho => ?_⟩
    cases o with
    | ex cls dd ρ4 M4 => exact fun σ4 G4 H4 g4 sa4 => k _ ho σ4 G4 H4 ((g1.trans g13).trans g4) sa4
    | o o =>
      cases o with
      | nx ρ4 M4 => exact fun σ4 G4 H4 g4 sa4 => ⟨G4, ρ4, M4, g13.trans g4, sa4, ho⟩
      | ct ρ4 M4 => exact fun σ4 G4 H4 g4 sa4 => ⟨G4, ρ4, M4, g13.trans g4, sa4, ho⟩
      | bk ρ4 M4 => exact fun σ4 G4 H4 g4 sa4 => k _ ho σ4 G4 H4 ((g1.trans g13).trans g4) sa4
      | ret d4 M4 => exact fun v G4 H4 g4 sh4 r4 => k _ ho v G4 H4 ((g1.trans g13).trans g4) sh4 r4
  · obtain rfl : i = ds.length := by omega
    exact .inl ⟨j2 (Nat.le_refl _), k _ (done ρ2 M2 iv) σ2 G2 H2 (g1.trans g2) sa2⟩
end
def FinU (Φ : Res → Mem → Prop) : OutX → Prop
  | .o (.ret d M'') => ∃ M', Φ (.ok d) M' ∧ Mle M' M''
  | .o (.nx _ M'') => ∃ M', Φ (.ok dN) M' ∧ Mle M' M''
  | .ex cls dd _ M'' => ∃ M', Φ (.ex cls dd) M' ∧ Mle M' M''
  | _ => False
theorem calU_of {P : Program} {w : World} {K : PySem.W.Frag} {mg : Str → Option Value} {base : Heap} {x qual : Str} {sd : Stmt} {f : Addr} {fd : FuncData} {N ps : List Str} {k : Nat} {R : List D → Mem → (Res → Mem → Prop) → Prop} (F : Fun K x qual sd f fd) (S : FnScope N ps (defScope sd)) (hm : mg x = some (.ref f))
    (hbind : ∀ (kV doc pm : Value) (an : Option Addr) (cdv ct : Value) (us : List Value), us.length = ps.length → bindArgs (PySem.W.fnOf x qual (defArgs sd) (defBody sd) (defScope sd) .none kV doc pm an cdv ct) ⟨us, []⟩ = pure (ps.zip us))
    (len : ∀ ds M Φ, R ds M Φ → ds.length = ps.length)
    (hb : ∀ (cdv : Value) (A : Around) (outer : List Env) (s : Shared) (H : Hp) (E : XK) (ds : List D) (M : Mem) (Φ : Res → Mem → Prop), Room k (A.deeper (envOfC qual (defScope sd) s.heap.objs.size f cdv)) → R ds M Φ →
      ∀ W, Takes (cxOf (L2.CX P w) P w K mg base N qual (defScope sd) f cdv A outer s H E) W → PassesOwn (model P w) (cxOf (L2.CX P w) P w K mg base N qual (defScope sd) f cdv A outer s H E).A (cxOf (L2.CX P w) P w K mg base N qual (defScope sd) f cdv A outer s H E).env (cxOf (L2.CX P w) P w K mg base N qual (defScope sd) f cdv A outer s H E).xe →
      BU (cxOf (L2.CX P w) P w K mg base N qual (defScope sd) f cdv A outer s H E) W (defBody sd) (startD N ds) M (FinU Φ)) : CalX P w K mg base (k + 1) x (spU K R) :=
  ⟨f, fd, ps, hm, F.kp, F.binds hbind, F.okX S (fun vs H Q E ⟨G, ds, M, Φ, sh, r, p, q⟩ => by rw [r.len]; exact len _ _ _ p) fun cdv A outer s H vs Q E hr ⟨G, ds, M, Φ, sh, r, p, q1, q2⟩ => by
    refine ⟨_, hb cdv A outer s H E ds M Φ hr p (fun cls d _ H' => E cls d H') (takes_of (E := E) rfl rfl rfl rfl) (passes_of rfl), G, ⟨sh, start_rep r⟩, fun o ho => ?_⟩
    cases o with
    | ex cls dd ρ' M'' =>
      obtain ⟨M', hp, hm⟩ := ho
      exact fun σ' G' H' g sa' => q2 cls dd G' H' M' hp g (sa'.sh.weak hm)
    | o o =>
      cases o with
      | ret d' M'' =>
        obtain ⟨M', hp, hm⟩ := ho
        exact fun v G' H' g sh' r' => q1 v G' H' d' M' hp g (sh'.weak hm) r'
      | nx ρ' M'' =>
        obtain ⟨M', hp, hm⟩ := ho
        exact fun σ' G' H' g sa' => q1 _ G' H' dN M' hp g (sa'.sh.weak hm) (.val _)
      | bk ρ' M'' => exact ho.elim
      | ct ρ' M'' => exact ho.elim⟩
/-! ### defs as values -/
structure CalF (P : Program) (w : World) (K : PySem.W.Frag) (mg : Str → Option Value) (base : Heap) (k : Nat) (f : Addr) (sp : Sp) : Prop where
  ex : ∃ fd ps, PySem.W.keepIn K (.ref f) = true ∧ Binds K fd ps [] ∧ FnOk P w K mg base CX0 k f fd ps sp
theorem Cal.val {P : Program} {w : World} {K : PySem.W.Frag} {mg : Str → Option Value} {base : Heap} {k : Nat} {x : Str} {sp : Sp} (C : Cal P w K mg base k x sp) : ∃ f, mg x = some (.ref f) ∧ CalF P w K mg base k f sp :=
  let ⟨f, fd, ps, a, b, c, F⟩ := C.ex
  ⟨f, a, fd, ps, b, c, F⟩
section
variable {X : Cx} {ρ : Sl} {M M1 M2 : Mem} {e : Expr} {es : List Expr} {d : D} {ds : List D} {pos : Pos} {Φ : D → Mem → Prop}
/-- the name of a def, as a value -/
theorem ev_def {x : Str} {f : Addr} (hm : X.mg x = some (.ref f)) (hg : Gl X x := by rfl) (hd : (x == ("__debug__" : Str)) = false := by decide) : EV X (.Name x pos) ρ M (dP f) M :=
  ⟨fun pins s σ H Q I ⟨G, sa, k⟩ => ld_glob I hg hm ⟨.ref f, H, I, rfl, k _ G H (Same.refl G) sa.sh (.val _)⟩ hd⟩
theorem ev_callL {k : Nat} {x : Str} {f : Addr} {Pr : List D → Mem → D → Mem → Prop} {p : Pos} (i : Nat) (C : CalF X.prog X.w X.K X.mg X.base k f (spD X.K Pr)) (hr : Room k X.A) (hρ : ρ[i]? = some (some (dP f))) (ha : AV X (e :: es) ρ M ds M1) (hp : Pr ds M1 d M2) (hN : X.N[i]? = some x := by rfl) (hv : Vis X.env.scope x := by first | exact Or.inl rfl | exact Or.inr (Or.inl rfl) | exact Or.inr (Or.inr rfl))
    (hd : (x == ("__debug__" : Str)) = false := by decide) (hcd : (x == ("__classdict__" : Str)) = false := by decide) (hst : starEach (e :: es) X.env = (false, eval e X.env) :: starEach es X.env := by rfl) (hpl : (backTo pos (starEach es X.env)).any (·.1) = false := by rfl) : EV X (.Call (.Name x p) (e :: es) [] pos) ρ M d M2 := by
  obtain ⟨fd, ps, hk, hb, F⟩ := C.ex
  refine (pe_callL (i := i) (E := E0) F hr hN hv hk hb .nil (fun _ _ _ _ _ _ _ z => z.elim) ha hd hcd hst hpl).mono fun σ H Q ⟨G, sa, k⟩ => ?_
  obtain ⟨v, e1, r⟩ := sa.sl.2 i _ hρ
  rw [r.of_val] at e1
  refine ⟨e1, G, sa, fun vs G1 H1 g1 sh1 r1 => ?_⟩
  show spD X.K Pr (vs ++ []) H1 Q E0
  rw [List.append_nil]
  exact ⟨G1, ds, M1, d, M2, sh1, r1, hp, fun v G' H' g sh r => k v G' H' (g1.trans g) sh r⟩
end
end Vt
namespace Vt
open PySem PySem.Spec PyProof.Rows L2
/-! ### errors of the program with fields: made, raised, read -/
/-- what is known of the class at S whose __init__ is that of ValueError -/
structure BaseE (K : PySem.W.Frag) (S : Addr) : Prop where
  ga : PySem.W.specialIn K (.ref S) "__getattribute__" = some (some (.builtin "type.__getattribute__"))
  rd : PySem.W.readsIn K S (.type "type") = true
  ini : PySem.W.findCls K (.ref S) (.type "type") "__init__" = some (.val (.builtin "ValueError.__init__"))
theorem pe_seinit {X : Cx} {e : Expr} {es : List Expr} {p1 p2 pos : Pos} {ta : TA} {pl : Sem Bool} {S : Addr} (hg : Gl X "ScoreError") (hm : X.mg "ScoreError" = some (.ref S)) (B : BaseE X.K S) (ha : PA X (e :: es) ta)
    (hc : eval (.Call (.Attribute (.Name "ScoreError" p1) "__init__" p2) (e :: es) [] pos) X.env = (do
      let b ← eval (.Name "ScoreError" p1) X.env
      standAt p2.atName
      let (g, l) ← holding [b] (getMethod b "__init__" pl)
      callWith pos g l (backTo pos (starEach (e :: es) X.env)) (backToKw pos (keywordEach [] X.env))) := by rfl)
    (he : starEach (e :: es) X.env = (false, eval e X.env) :: starEach es X.env := by rfl) (hpl : (backTo pos (starEach es X.env)).any (·.1) = false := by rfl) :
    PE X (.Call (.Attribute (.Name "ScoreError" p1) "__init__" p2) (e :: es) [] pos) (tVeI X.K ta) := ⟨fun pins s σ H Q I h => by
  have run {s1 : Shared} (J : Inv X pins σ H s1) : wpAny (model X.prog X.w) X.A (callWith pos (Value.builtin "ValueError.__init__") [] (backTo pos (starEach (e :: es) X.env)) []) (fun u s2 => ∃ v H2, Inv X pins σ H2 s2 ∧ RelV v u ∧ Q v H2) X.xe s1 := by
    refine PyProof.Rows.callWith_method1 (thn (ha.run pos pins _ σ H _ J h) fun us s2 made => ?_) he hpl
    obtain ⟨vs, H2, I2, r, a, C, ws, rfl, short, T, at_, q⟩ := made
    cases r with
    | cons r1 r2 =>
      cases r1
      exact oinit_ok T I2 at_ (Nat.le_trans (Nat.le_of_eq (Paired.length r2).symm) (Nat.le_trans short (by decide))) fun s3 J3 => ⟨V.non, H2, J3, rfl, q⟩
  exact PySem.W.methodCall_KW (ld_glob I hg hm (PySem.W.method_cls I.kIn B.ga (PySem.W.cls_value I.kIn B.rd B.ini rfl (run (I.tok _)))) (by decide)) hc⟩
/-- what C(..) leaves: the fields' names, latest first, each with the place of its argument (behind self) -/
def spI (C : Addr) (fl : List (Str × Nat)) (pre : List V → Prop) : Sp := fun vs H Q _ => ∃ a args, vs = .ref a :: args ∧ H a = some (exo a C none) ∧ pre args ∧ ∀ dx, H dx = none → dx ≠ a → Q .non (upd (upd H dx (exd dx (fl.map fun p => (p.1, args.getD p.2 .non)))) a (exo a C (some dx)))
structure ErrC (P : Program) (w : World) (K : PySem.W.Frag) (mg : Str → Option Value) (base : Heap) (x : Str) (C : Addr) (fl : List (Str × Nat)) (pre : List V → Prop) : Prop where
  ok : OexC K C
  mgC : mg x = some (.ref C)
  ini : ∃ fI fd ps, PySem.W.findIn K (.ref C) "__init__" = some (some (.ref fI)) ∧ PySem.W.typeIn K (.ref fI) = some (.type "function") ∧ Binds K fd ps [] ∧ FnOk P w K mg base CX0 1 fI fd ps (spI C fl pre)
theorem exo_ne {a C dx : Addr} {fs : List (Str × V)} : exo a C none ≠ exd dx fs ∨ True := .inr trivial
/-- two fields stored -/
theorem upd_two {H : Hp} {a dx : Addr} {A A2 B B2 : HO} (n : dx ≠ a) : upd (upd (upd (upd H dx A) a B) dx A2) a B2 = upd (upd H dx A2) a B2 := by
  funext b
  by_cases ha : b = a
  · subst ha
    rw [upd_same, upd_same]
  · rw [upd_ne ha, upd_ne ha]
    by_cases hd : b = dx
    · subst hd
      rw [upd_same, upd_same]
    · rw [upd_ne hd, upd_ne ha, upd_ne hd, upd_ne hd]
/-- the second field behind the first -/
theorem upd_once {H : Hp} {a dx : Addr} {A A2 B : HO} (n : dx ≠ a) (hB : (upd (upd H dx A) a B) a = some B) : upd (upd (upd H dx A) a B) dx A2 = upd (upd H dx A2) a B := by
  funext b
  by_cases hd : b = dx
  · subst hd
    rw [upd_same, upd_ne n, upd_same]
  · rw [upd_ne hd]
    by_cases ha : b = a
    · subst ha
      rw [upd_same, upd_same]
    · rw [upd_ne ha, upd_ne ha, upd_ne hd, upd_ne hd]
theorem SH.newX {K : PySem.W.Frag} {G H : Hp} {M : Mem} {p : Addr} {o : HO} {mo : MO} (s : SH K G H M) (hp : H p = none) (r : AtM K G (upd H p o) p mo) : SH K G (upd H p o) (M.set p mo) ∧ M p = none := by
  have gp : G p = none := by
    cases e : G p with
    | none => rfl
    | some u =>
      have := s.le p u e
      rw [hp] at this
      cases this
  have mp : M p = none := by
    cases e : M p with
    | none => rfl
    | some mo =>
      obtain ⟨u, hu⟩ := (s.mem p mo e).2.some
      rw [hp] at hu
      cases hu
  refine ⟨⟨fun b u e => ?_, fun b mo' e => ?_⟩, mp⟩
  · rw [upd_ne (ne_of_none e gp)]
    exact s.le b u e
  · by_cases hb : b = p
    · subst hb
      rw [Mem.set_same] at e
      cases e
      exact ⟨gp, r⟩
    · rw [Mem.set_ne hb] at e
      exact ⟨(s.mem b mo' e).1, (s.mem b mo' e).2.up (Same.refl G) (upd_ne hb)⟩
theorem RepL.getD {K : PySem.W.Frag} {G : Hp} : ∀ {vs : List V} {ds : List D}, RepL K G vs ds → ∀ i, Rep K G (vs.getD i .non) (ds.getD i dN)
  | _, _, .nil, i => by
    rw [List.getD_eq_getElem?_getD, List.getD_eq_getElem?_getD, List.getElem?_nil, List.getElem?_nil]
    exact .val _
  | _, _, .cons r _, 0 => r
  | _, _, .cons _ t, i + 1 => RepL.getD t i
theorem repF_of {K : PySem.W.Frag} {G : Hp} {vs : List V} {ds : List D} (r : RepL K G vs ds) : ∀ fl : List (Str × Nat), RepF K G (fl.map fun p => (p.1, vs.getD p.2 .non)) (fl.map fun p => (p.1, ds.getD p.2 dN))
  | [] => .nil
  | (n, i) :: fl => .cons (r.getD i) (repF_of r fl)
section
variable {X : Cx} {W : WX} {ρ : Sl} {M M1 : Mem} {e : Expr} {es : List Expr} {pos pos' p : Pos} {Ψ : OutX → Prop}
theorem su_raiseF {x : Str} {C : Addr} {fl : List (Str × Nat)} {pre : List V → Prop} (hc : X.calm = true) (tk : Takes X W) (B : ErrC X.prog X.w X.K X.mg X.base x C fl pre) (hr : Room 2 X.A)
    (h : AW X (e :: es) ρ M (fun ds M1 => ds.length ≤ 1000 ∧ (∀ G vs, RepL X.K G vs ds → pre vs) ∧ ∀ dx, M1 dx = none → Ψ (.ex (.ref C) (some dx) ρ (M1.set dx (.xd (fl.map fun q => (q.1, ds.getD q.2 dN)))))))
    (hg : Gl X x := by rfl) (hdb : (x == ("__debug__" : Str)) = false := by decide) (he : starEach (e :: es) X.env = (false, eval e X.env) :: starEach es X.env := by rfl) (hpl : (backTo pos (starEach es X.env)).any (·.1) = false := by rfl) :
    SU X W (.Raise (some (.Call (.Name x p) (e :: es) [] pos)) none pos') ρ M Ψ := by
  obtain ⟨fI, fd, ps, i1, i2, i3, F⟩ := B.ini
  refine (L2.ps_raise hc tk (pmk_oex (dvs := []) B.ok i1 i2 F hr i3 .nil pass0 hg B.mgC h hdb he hpl)).mono fun E σ H ⟨G, sa, k⟩ => ⟨G, sa, fun vs G1 H1 ds M1 ⟨hl, hpre, q⟩ g1 sh1 r1 => ⟨by rw [r1.len]; exact hl, fun a ha => ?_⟩⟩
  show spI C fl pre (.ref a :: (vs ++ [])) _ _ _
  rw [List.append_nil]
  refine ⟨a, vs, rfl, upd_same, hpre _ _ r1, fun dx hdx hne => ⟨rfl, dx, _, upd_same, by rw [upd_ne hne]; exact upd_same, by rw [upd_ne hne] at hdx; exact hdx, ?_⟩⟩
  have hd1 : H1 dx = none := by rw [upd_ne hne] at hdx; exact hdx
  have eH : upd (L2.del (upd (upd (upd H1 a (exo a C none)) dx (exd dx (fl.map fun p => (p.1, vs.getD p.2 .non)))) a (exo a C (some dx))) a) dx (.xd (fl.map fun p => (p.1, vs.getD p.2 .non))) = upd H1 dx (.xd (fl.map fun p => (p.1, vs.getD p.2 .non))) := by
    funext b
    by_cases hb : b = dx
    · subst hb
      rw [upd_same, upd_same]
    · rw [upd_ne hb, upd_ne hb]
      by_cases hba : b = a
      · subst hba
        rw [del_same, ha]
      · rw [del_ne hba, upd_ne hba, upd_ne hb, upd_ne hba]
  rw [eH]
  obtain ⟨sh2, m0⟩ := sh1.newX (o := .xd (fl.map fun p => (p.1, vs.getD p.2 .non))) (mo := .xd (fl.map fun p => (p.1, ds.getD p.2 dN))) hd1 ⟨_, upd_same, repF_of r1 fl⟩
  exact k _ (q dx m0) σ G1 _ g1 ⟨sh2, sa.sl.up g1⟩
/-- e.f in the suite of an except -/
theorem ev_xfld {a C : Addr} {oe : Obj} {dd : Addr} {pn : List (Addr × Obj)} {n : Str} {d : D} {fs : List (Str × D)} (T : XfC X.K C) (hno : PySem.W.findIn X.K (.ref C) n = some none) (hz : Zc (.ref C) (some dd) oe) (hf : ∃ vs, oe.data = .fields vs)
    (he : EV (X.suite a ((a, oe) :: pn)) e ρ M (dP a) M) (hm : M dd = some (.xd fs)) (hl : fs.lookup n = some d) (hb : attributeBase e n X.env (eval e X.env) = eval e X.env := by rfl) : EV (X.suite a ((a, oe) :: pn)) (.Attribute e n pos) ρ M d M :=
  (pe_xf T hno hz hf he hb).mono fun σ H Q ⟨G, sa, k⟩ => ⟨G, sa, fun v G1 H1 g1 sh1 r1 => by
    obtain ⟨_, fv, hv, r⟩ := sh1.mem dd _ hm
    obtain ⟨u, e1, ru⟩ := r.get hl
    exact ⟨r1.of_val, rfl, dd, fv, u, rfl, hv, e1, k u G1 H1 g1 sh1 ru⟩⟩
theorem call_isF {a D : Addr} {oe : Obj} {dd : Option Addr} {pn : List (Addr × Obj)} (C : ExcC X.K D) (hcl : (PySem.W.clsIn X.K D).isSome = true) (hz : Zc (.ref D) dd oe) (hf : ∃ vs, oe.data = .fields vs) (hd : ∀ x, dd = some x → ∃ fs, M x = some (.xd fs)) :
    ∀ {ρ : Sl} {a1 : Expr} {e1 : Expr} {cv : Value} {vc : V} {r : Bool} {p pos : Pos}, (∀ u, RelV vc u → u = cv) → PySem.W.kitOne X.K (.ref D) cv = some r → X.mg "isinstance" = none → AV (X.suite a ((a, oe) :: pn)) [a1, e1] ρ M [dP a, .val vc] M → (hg : Gl (X.suite a ((a, oe) :: pn)) "isinstance") →
      (h1 : starEach [a1, e1] X.env = (false, eval a1 X.env) :: starEach [e1] X.env) → (hpl : (backTo pos (starEach [e1] X.env)).any (·.1) = false) → EV (X.suite a ((a, oe) :: pn)) (.Call (.Name "isinstance" p) [a1, e1] [] pos) ρ M (dB r) M := by
  intro ρ a1 e1 cv vc r p pos hcv hk hm ha hg h1 hpl
  refine (pe_callB (r := fun xs H Q => (∀ x, dd = some x → ∃ fs, H x = some (.xd fs)) ∧ xs = [.ref a, vc] ∧ Q (.bl r) H) ?_ hg hm boot_isinstance ha (hpl := hpl) (he := h1)).mono fun σ H Q ⟨G, sa, k⟩ => ⟨G, sa, fun vs G1 H1 g1 sh1 r1 => ?_⟩
  · intro pins s σ H xs us Q I rr h
    obtain ⟨hx, rfl, q⟩ := h
    cases rr with
    | cons rx rr =>
      cases rr with
      | cons rt rr =>
        cases rr
        cases rx
        obtain rfl := hcv _ rt
        obtain ⟨there, _⟩ := I.pin (a, oe) (List.mem_append.mpr (Or.inl List.mem_cons_self))
        obtain ⟨flds, isF⟩ := hf
        have at_ : ∃ od, PySem.W.InstAt s.heap a oe D od := by
          obtain ⟨z1, z2⟩ := hz
          have nc : PySem.W.notCls oe = true := by unfold PySem.W.notCls; rw [isF] <;> rfl
          cases dd with
          | none => exact ⟨none, there, z1, nc, by rw [z2]; trivial⟩
          | some x =>
            obtain ⟨fs, hfs⟩ := hx x rfl
            obtain ⟨mA, hns, _⟩ := (I.hok x _ hfs : ObjOk X.prog X.w H s.heap x (.xd fs))
            obtain ⟨ob, here, _⟩ := lookIn_ns hns
            exact ⟨some ob, there, z1, nc, by rw [z2]; exact here⟩
        obtain ⟨od, J⟩ := at_
        exact PySem.W.kia_one (PySem.W.kitx_exc (od := od) hcl C.hg C.hk C.hs C.ha C.hn C.ht C.hm) I.kIn J hk (fun z => nomatch z) fun tk => ⟨V.bl r, H, I.kept (t' := tk) fun _ _ z => z, rfl, q⟩
  · refine ⟨fun x hx => ?_, RepL.of_vals (xs := [.ref a, vc]) r1, k _ G1 H1 g1 sh1 (.val _)⟩
    obtain ⟨fs, hfs⟩ := hd x hx
    obtain ⟨_, fv, hv, _⟩ := sh1.mem x _ hfs
    exact ⟨fv, hv⟩
/-- isinstance(e, c) in the suite of an except, e with fields -/
theorem ev_isF {n x : Str} {a C : Addr} {oe : Obj} {dd : Option Addr} {pn : List (Addr × Obj)} {cv : Value} {vc : V} {r : Bool} {p2 p3 : Pos} {i : Nat} (hm : X.mg "isinstance" = none) (EC : ExcC X.K C) (hcl : (PySem.W.clsIn X.K C).isSome = true) (hz : Zc (.ref C) dd oe) (hf : ∃ vs, oe.data = .fields vs) (hd : ∀ x, dd = some x → ∃ fs, M x = some (.xd fs))
    (hv : ∀ u, RelV vc u → u = cv) (hk : PySem.W.kitOne X.K (.ref C) cv = some r) (ha : AV (X.suite a ((a, oe) :: pn)) [e, .Name x p2] ρ M [dP a, .val vc] M) (hg : Gl (X.suite a ((a, oe) :: pn)) "isinstance" := by rfl)
    (h1 : starEach [e, .Name x p2] X.env = (false, eval e X.env) :: starEach [.Name x p2] X.env := by rfl) (hpl : (backTo pos (starEach [.Name x p2] X.env)).any (·.1) = false := by rfl) :
    EV (X.suite a ((a, oe) :: pn)) (.Call (.Name "isinstance" p) [e, .Name x p2] [] pos) ρ M (dB r) M := call_isF EC hcl hz hf hd hv hk hm ha hg h1 hpl
end
end Vt
namespace Vt
open PySem PySem.Spec PyProof.Rows L2
/-! ### try around what tells or raises -/
def suiteR (i : Nat) (Ψ : Out → Prop) : Out → Prop
  | .ret d M => Ψ (.ret d M)
  | .nx ρ M => Ψ (.nx (ρ.set i none) M)
  | _ => False
section
variable {X : Cx} {ρ : Sl} {M : Mem} {pos : Pos} {Ψ : Out → Prop}
def tryR (X : Cx) (c1 c2 : Value) (C : Addr) (i : Nat) (suite : List Stmt) (Ψ : Out → Prop) : OutX → Prop
  | .o o => Ψ o
  | .ex cls dd ρ' M' => cls = .ref C ∧ ∀ (a : Addr) (oe : Obj) (pn : List (Addr × Obj)), Zc (.ref C) dd oe → (∃ vs, oe.data = .fields vs) → BV (X.suite a ((a, oe) :: pn)) suite (ρ'.set i (some (dP a))) M' (suiteR i Ψ)
theorem sv_tryU {body suite : List Stmt} {b₀ : Stmt} {x y z n : Str} {p1 p2 p3 p4 p5 p6 : Pos} {kk i : Nat} {nm : Option Str} {c0 : Stmt} {cr : List Stmt} {c1 c2 : Value} {C : Addr} (hs : X.stack = X.env :: X.outer) (hf : X.env.frame = some X.env.locals) (tk : Takes X (fun _ _ _ _ => False))
    (h1 : Names X x c1) (h2 : Names X y c2) (h3 : Names X z (.ref C)) (hno : PySem.W.exmAny X.K (.ref C) [c1, c2] = some false) (hyes : PySem.W.exmOne X.K (.ref C) (.ref C) = some true) (hN : X.N.Nodup) (hi : X.N[i]? = some n) (hln : X.env.kindOf n = some .local)
    (hb : ∀ (W : WX) (pn : List (Addr × Obj)) (xe : Value → Shared → Prop), Takes (X.tr pn xe) W → PassesOwn (model X.prog X.w) X.A X.env xe → BU (X.tr pn xe) W body ρ M (tryR X c1 c2 C i (b₀ :: suite) Ψ)) :
    SV X (.Try body [.ExceptHandler (some (.Tuple [.Name x p1, .Name y p2] kk p3)) nm (c0 :: cr) p4, .ExceptHandler (some (.Name z p5)) (some n) (b₀ :: suite) p6] [] [] pos) ρ M Ψ := by
  refine (ps_try_g (tb := fun W => tSU X.K W ρ M (tryR X c1 c2 C i (b₀ :: suite) Ψ)) (Wout := fun _ _ _ _ => False)
    (l := [.skip [c1, c2], .as (.ref C) i (fun a cls d D σ H => ∃ (ρ' : Sl) (M' : Mem), cls = .ref C ∧ (∀ (oe : Obj) (pn : List (Addr × Obj)), Zc (.ref C) d oe → (∃ vs, oe.data = .fields vs) → BV (X.suite a ((a, oe) :: pn)) (b₀ :: suite) (ρ'.set i (some (dP a))) M' (suiteR i Ψ)) ∧ tS X.K (ρ'.set i (some (dP a))) M' (suiteR i Ψ) D σ H)])
    hs hf tk (fun W pn xe tk' po => hb W pn xe tk' po) (.skip2 h1 h2 (.as h3 hN hi hln (fun a oe cls d pn hz hd => ⟨fun pins s σ H D I ⟨ρ', M', e1, run, q⟩ => ?_⟩) .nil))).mono fun E σ H ⟨G, sa, k⟩ => ⟨G, sa, fun o ho => ?_⟩
  · subst e1
    exact (run oe pn hz hd).run pins s σ H D I q
  · cases o with
    | o o => exact k o ho
    | ex cls dd ρ' M' =>
      obtain ⟨rfl, run⟩ := ho
      refine fun σ' G' H' g sa' => ⟨hno, true, hyes, fun _ a na => ⟨ρ', M', rfl, run a, G', ⟨sa'.sh, sa'.sl.set i (.val _)⟩, fun o ho => ?_⟩, fun h => nomatch h⟩
      cases o with
      | ret d M2 => exact (k _ ho).up g
      | nx ρ2 M2 => exact fun σ2 G2 H2 g2 sa2 => (k _ ho).up g _ G2 H2 g2 ⟨sa2.sh, sa2.sl.none i⟩
      | bk ρ2 M2 => exact ho.elim
      | ct ρ2 M2 => exact ho.elim
end
end Vt
namespace Vt
open PySem PySem.Spec PyProof.Rows L2
/-! ### targets that take tuples and lists -/
def gAny (K : PySem.W.Frag) (n : Nat) (gs : TGs) : TG := fun v σ H Q => gTup K n gs v σ H Q ∨ gUnl K n gs v σ H Q
section
variable {X : Cx} {K : PySem.W.Frag} {ρ ρ' : Sl} {es : List Expr} {ds : List D} {pos : Pos} {gs : TGs}
theorem pg_any {k n : Nat} (hc : X.calm = true) (h : PGs X es gs) (hn : (assignEach es X.env).length = n := by rfl) (hst : (assignEach es X.env).findIdx? (·.1) = none := by rfl) : PG X (.Tuple es k pos) (gAny X.K n gs) :=
  ⟨fun pins s σ H v u Q I r hw => hw.elim ((pg_tup hc h hn hst).run pins s σ H v u Q I r) ((pg_unl hc h hn hst).run pins s σ H v u Q I r)⟩
theorem tg_any {b : Bool} {n : Nat} (h : TG2 K gs ρ ds ρ') (hl : ds.length = n := by rfl) : TG1 K (gAny K n gs) ρ (sq b ds) ρ' := fun v σ G H Q e h0 r k => by
  cases b with
  | true => exact .inr (tg_lst h hl v σ G H Q e h0 r k)
  | false => exact .inl (tg_tup h hl v σ G H Q e h0 r k)
theorem tb_any {vs : List Nat} {b : Bool} {n : Nat} (h : TBs K gs vs ρ ds ρ') (hl : ds.length = n := by rfl) : TB K (gAny K n gs) vs ρ (sq b ds) ρ' := fun x σ0 σ G H Q e h0 hw r k => by
  cases b with
  | true => exact .inr (tb_sq (b := true) h hl x σ0 σ G H Q e h0 hw r k)
  | false => exact .inl (tb_sq (b := false) h hl x σ0 σ G H Q e h0 hw r k)
end
end Vt
namespace Vt
open PySem PySem.Spec PyProof.Rows L2
/-! ### more of lists and tuples -/
theorem tup_mul_one (l : Addr) (xs : Array Value) (n : Nat) (dd : Option Addr) (sl : Array (Option Value)) (u : Tok) :
    Meets (Builtin.«tuple.__mul__» ⟨[.ref l, .int 1 u], []⟩) (fun _ R s => s.heap.get? l = some { cls := .type "tuple", dict := dd, data := .seq xs n, slots := sl } ∧ R (.ok (.ret (.ref l))) s) :=
  .of_wp fun prog w A R s h => by
    obtain ⟨hp, g, d, tk, os⟩ := s
    obtain ⟨hl, h⟩ := h
    have f1 := AutoSeq1.idx_int
    have e1 : (xs.isEmpty || (1 : Int) == 1) = true := by cases xs.isEmpty <;> rfl
    wp_walk using wpAny_loadPart' hl
    repeat (first
      | (refine wpAny_ite_false (by decide) ?_; wp_walk using wpAny_loadPart' hl)
      | (refine wpAny_ite_true (by rw [e1]) ?_; wp_walk using wpAny_loadPart' hl)
      | (refine wpAny_ite_true (by decide) ?_; wp_walk using wpAny_loadPart' hl))
    exact ⟨_, rfl, h⟩
theorem tup_mul_none (l : Addr) (xs : Array Value) (n : Nat) (dd : Option Addr) (sl : Array (Option Value)) (k : Int) (u : Tok) (hk : k ≤ 0) (hk2 : -(2 ^ 63) ≤ k) (hx : xs.isEmpty = false) :
    Meets (Builtin.«tuple.__mul__» ⟨[.ref l, .int k u], []⟩) (fun _ R s => s.heap.get? l = some { cls := .type "tuple", dict := dd, data := .seq xs n, slots := sl } ∧
      R (.ok (.ret (Value.ref s.heap.objs.size))) { s with heap := s.heap.push { cls := Value.type "tuple", data := Data.seq #[] }, toks := s.toks }) :=
  .of_wp fun prog w A R s h => by
    obtain ⟨hp, g, d, tk, os⟩ := s
    obtain ⟨hl, h⟩ := h
    have f1 := AutoSeq1.idx_int
    have e0 : (decide (k < -(2 ^ 63)) || decide (k ≥ 2 ^ 63)) = false := by rw [decide_eq_false (by omega), decide_eq_false (by omega)]; rfl
    have e1 : (xs.isEmpty || k == 1) = false := by rw [hx, Bool.false_or]; exact beq_eq_false_iff_ne.mpr (by omega)
    have e2 : (decide (k ≤ 0) || xs.isEmpty) = true := by rw [decide_eq_true hk]; rfl
    wp_walk using wpAny_loadPart' hl
    repeat (first
      | (refine wpAny_ite_false (decide_eq_false (by rw [e0]; exact Bool.false_ne_true)) ?_; wp_walk using wpAny_loadPart' hl)
      | (refine wpAny_ite_false (decide_eq_false (by rw [e1]; exact Bool.false_ne_true)) ?_; wp_walk using wpAny_loadPart' hl)
      | (refine wpAny_ite_true (decide_eq_true (by rw [e2])) ?_; wp_walk using wpAny_loadPart' hl))
    exact ⟨_, rfl, h⟩
/-- (x, ..) * k for k up to 1 -/
def rRep1 (K : PySem.W.Frag) : R2 := fun x y H Q => ∃ l k xs, x = .ref l ∧ y = .int k ∧ SqT K H l xs ∧ xs ≠ [] ∧ ((k = 1 ∧ Q (.ref l) H) ∨ (-1000 ≤ k ∧ k ≤ 0 ∧ ∀ p, H p = none → Q (.ref p) (upd H p (.tup []))))
theorem op_rep1 {X : Cx} : OpR X (binaryOp .Mult) (rRep1 X.K) := fun pins s σ H x y v u Q I rx ry h => by
  obtain ⟨l, k, xs, rfl, rfl, hT, ne, q⟩ := h
  cases rx
  obtain ⟨t, rfl⟩ := ry
  obtain ⟨its, r, ⟨⟨c, dd, data, sl⟩, ho, hc, n, hd⟩, _⟩ := I.tuple hT
  dsimp only at hc hd
  subst hc hd
  have hi : its.toArray.isEmpty = false := by
    cases r with
    | nil => exact absurd rfl ne
    | cons _ _ => rfl
  rcases q with ⟨rfl, q⟩ | ⟨k0, k1, q⟩
  · exact wpAny_binaryOp_repeat_ref (T := "tuple") (U := "int") (by decide) ⟨_, ho, rfl⟩ (fun s' => typeIs_int s' 1 t) noFill_tuple_mul F.fills_int_mul F.slot_int_rmul repeat_tuple F.slot_int_index.lookup
      (call_meets F.slot_int_rmul (typeIs_int s 1 t) F.entry_int_rmul (F.args_int_rmul_2 _ _) (int_rmul_tuple 1 t l its.toArray n dd sl)
        ⟨ho, rfl, ⟨_, ho, rfl⟩, call_meets F.slot_tuple_mul ⟨_, ho, rfl⟩ F.entry_tuple_mul (F.args_tuple_mul_2 _ _) (tup_mul_one l its.toArray n dd sl t) ⟨ho, .ref l, H, I, rfl, q⟩⟩)
  · refine wpAny_binaryOp_repeat_ref (T := "tuple") (U := "int") (by decide) ⟨_, ho, rfl⟩ (fun s' => typeIs_int s' k t) noFill_tuple_mul F.fills_int_mul F.slot_int_rmul repeat_tuple F.slot_int_index.lookup
      (call_meets F.slot_int_rmul (typeIs_int s k t) F.entry_int_rmul (F.args_int_rmul_2 _ _) (int_rmul_tuple k t l its.toArray n dd sl)
        ⟨ho, rfl, ⟨_, ho, rfl⟩, call_meets F.slot_tuple_mul ⟨_, ho, rfl⟩ F.entry_tuple_mul (F.args_tuple_mul_2 _ _) (tup_mul_none l its.toArray n dd sl k t k1 (by omega) hi) ⟨ho, ?_⟩⟩)
    have new := I.laid (t' := s.toks) (a := s.heap.objs.size) (h' := s.heap.push { cls := Value.type "tuple", data := Data.seq #[] }) (o := .tup ([] : List V)) (fun b ob q => Heap.get?_push_of_some _ q) (Nat.le_refl _) ⟨Nat.zero_le _, [], .nil, IsTup.new _ _⟩
    exact ⟨.ref s.heap.objs.size, _, new, rfl, q _ (I.hok.fresh (Nat.le_refl _))⟩
section
variable {X : Cx} {ρ : Sl} {M M1 M2 : Mem} {a b e : Expr} {d : D} {ds es : List D} {pos : Pos} {Φ : D → Mem → Prop}
theorem rep_flat {K : PySem.W.Frag} {G : Hp} {vs : List V} {ds : List D} (r : RepL K G vs ds) : ∀ n, RepL K G (List.replicate n vs).flatten (List.replicate n ds).flatten
  | 0 => .nil
  | n + 1 => r.append (rep_flat r n)
theorem ev_mulT {k : Int} (ha : EV X a ρ M (.tup ds) M1) (hb : EV X b ρ M1 (dI k) M2) (hne : ds ≠ []) (hk : -1000 ≤ k ∧ k ≤ 1000) (hl : ds.length ≤ 1000) : EV X (.BinOp a .Mult b pos) ρ M (.tup (List.replicate k.toNat ds).flatten) M2 := by
  have ne {G : Hp} {vs : List V} (r : RepL X.K G vs ds) : vs ≠ [] := fun e => by
    rw [e] at r
    cases r
    exact hne rfl
  by_cases h2 : 2 ≤ k
  · exact (pe_op op_repT ha hb).mono fun σ H Q ⟨G, sa, kk⟩ => ⟨G, sa, fun v1 G1 H1 g1 sh1 r1 => ⟨G1, ⟨sh1, sa.sl.up g1⟩, fun v2 G2 H2 g2 sh2 r2 => by
      cases r1 with
      | tup q r =>
        refine ⟨_, k, _, rfl, r2.of_val, sqtUp sh2.le (sqtUp g2 q), ne r, h2, hk.2, by rw [r.len]; exact hl, fun p hp => ?_⟩
        obtain ⟨sh3, g3⟩ := sh2.new (o := .tup (List.replicate k.toNat _).flatten) hp
        exact kk _ _ _ ((g1.trans g2).trans g3) sh3 (.tup (.inl (.inl upd_same)) (rep_flat ((r.up g2).up g3) _))⟩⟩
  · refine (pe_op op_rep1 ha hb).mono fun σ H Q ⟨G, sa, kk⟩ => ⟨G, sa, fun v1 G1 H1 g1 sh1 r1 => ⟨G1, ⟨sh1, sa.sl.up g1⟩, fun v2 G2 H2 g2 sh2 r2 => ?_⟩⟩
    cases r1 with
    | tup q r =>
      by_cases h1 : k = 1
      · subst h1
        refine ⟨_, 1, _, rfl, r2.of_val, sqtUp sh2.le (sqtUp g2 q), ne r, .inl ⟨rfl, kk _ _ _ (g1.trans g2) sh2 ?_⟩⟩
        show Rep _ _ _ (.tup (ds ++ []))
        rw [List.append_nil]
        exact .tup (sqtUp g2 q) (r.up g2)
      · refine ⟨_, k, _, rfl, r2.of_val, sqtUp sh2.le (sqtUp g2 q), ne r, .inr ⟨hk.1, by omega, fun p hp => ?_⟩⟩
        obtain ⟨sh3, g3⟩ := sh2.new (o := .tup ([] : List V)) hp
        rw [show k.toNat = 0 by omega] at kk
        exact kk _ _ _ ((g1.trans g2).trans g3) sh3 (.tup (.inl (.inl upd_same)) .nil)
end
section
variable {X : Cx} {ρ : Sl} {M M1 : Mem} {d : D} {ds : List D} {pos : Pos} {Ψ : Out → Prop} {Φ : D → Mem → Prop} {tg iter : Expr} {g : TG}
/-- [e for x in ..], the list is going to be changed -/
def LcN (X : Cx) (g : TG) (own : List (Str × Nat)) (scope : Scope) (elt : Expr) (ρ : Sl) (Φ : D → Mem → Prop) (ds : List D) (M1 : Mem) : Prop :=
  ds.length ≤ sizeLine ∧ ∃ Iv : Nat → List D → Mem → Prop, Iv 0 [] M1 ∧
    (∀ i d acc M, ds[i]? = some d → acc.length = i → Iv i acc M → ∃ ρ', TGb X.K g (own.map (·.2)) (wipeD ρ (own.map (·.2))) d ρ' ∧ ∀ (p : Addr), M p = none → ∀ (s : Shared) (H : Hp) (C : Addr) (cl : List (Str × Addr)) (fp : List Addr),
      EW (X.blk s H scope (compEnvC scope cl C X.env) fp) elt ρ' (M.set p (.lst acc)) (fun d' M' => ∃ M2, M' = M2.set p (.lst acc) ∧ M2 p = none ∧ Iv (i + 1) (acc ++ [d']) M2)) ∧
    ∀ acc M, acc.length = ds.length → Iv ds.length acc M → ∀ p, M p = none → Φ (dP p) (M.set p (.lst acc))
theorem lcw_readN {elt : Expr} {scope : Scope} {own : List (Str × Nat)} (σ : L2.St) (H : Hp) (Q : VK) (hΦ : ∃ G, SA X.K G H σ ρ M ∧ ∀ v G' H' d M', Φ d M' → Same G G' → SH X.K G' H' M' → Rep X.K G' v d → Q v H') :
    tLc (tIW X.K ρ M (LcN X g own scope elt ρ Φ)) g tYes (fun σ H Q => ∃ ρ' M' Φ', (∀ (s : Shared) (H : Hp) (C : Addr) (cl : List (Str × Addr)) (fp : List Addr), EW (X.blk s H scope (compEnvC scope cl C X.env) fp) elt ρ' M' Φ') ∧ tW X.K ρ' M' Φ' σ H Q) (own.map (·.2)) σ H Q := by
  obtain ⟨G, sa, k⟩ := hΦ
  refine ⟨G, sa, fun J G1 H1 ds M1 ⟨hlen, Iv, h0, step, done⟩ g1 sh1 jw => fun p hp => ?_⟩
  obtain ⟨shp, mp, gp⟩ := sh1.newM hp (RepL.nil (K := X.K) (G := G1))
  refine ⟨fun i mm H => mm = ds.length - i ∧ i ≤ ds.length ∧ ∃ G acc M, Same G1 G ∧ acc.length = i ∧ M p = none ∧ Iv i acc M ∧ SH X.K G H (M.set p (.lst acc)), ⟨ds.length, by simp, Nat.zero_le _, G1, [], M1, Same.refl _, rfl, mp, h0, shp⟩, ?_⟩
  rintro i mm H2 ⟨rfl, hi, G2, acc, M2, g2, hacc, hmp, iv, sh2⟩
  obtain ⟨j1, j2⟩ := jw i H2 (g2.trans sh2.le)
  by_cases hlt : i < ds.length
  · have hd : ds[i]? = some ds[i] := List.getElem?_eq_getElem hlt
    obtain ⟨go, yl⟩ := j1 _ hd
    refine .inr ⟨go, fun H3 => ∃ G acc M, Same G1 G ∧ acc.length = i + 1 ∧ M p = none ∧ Iv (i + 1) acc M ∧ SH X.K G H3 (M.set p (.lst acc)), fun H' p' => ⟨ds.length - (i + 1), by omega, rfl, hlt, p'⟩, fun x H' y => ?_⟩
    obtain ⟨G3, g3, sh3, rx⟩ := yl x H' y G2 _ g2 sh2
    have g2 := g2.trans g3
    obtain ⟨ρ3, tg3, ev⟩ := step i _ acc M2 hd hacc iv
    refine tg3 x σ G3 H' _ sh3.le (wipe_rep ((sa.sl.up g1).up g2) _) rx fun σ3 rs3 hw => ⟨hw, ?_⟩
    show ∃ ρ' M' Φ', _ ∧ tW X.K ρ' M' Φ' σ3 H' _
    refine ⟨ρ3, _, _, ev p hmp, G3, ⟨sh3, rs3⟩, fun v G4 H4 d4 M4 ⟨M5, e5, n5, iv5⟩ g4 sh4 r4 => ?_⟩
    subst e5
    obtain ⟨_, vs, hv, rl⟩ := sh4.mem p _ Mem.set_same
    refine ⟨vs, hv, ?_, G4, acc ++ [d4], M5, g2.trans g4, by rw [List.length_append, hacc]; rfl, n5, iv5, ?_⟩
    · rw [rl.len, hacc]
      exact Nat.lt_of_lt_of_le hlt hlen
    · have q := sh4.put (ds := acc ++ [d4]) Mem.set_same (rl.append (.cons r4 .nil))
      rw [Mem.set_set] at q
      exact q
  · have e : i = ds.length := by omega
    subst e
    exact .inl ⟨j2 (Nat.le_refl _), k _ _ H2 _ _ (done acc M2 hacc iv p hmp) (g1.trans g2) sh2 (.val _)⟩
theorem ew_lcN {elt : Expr} {scope : Scope} {own : List (Str × Nat)} (hc : X.calm = true) (hN : X.N.Nodup) (ok : BlkOk X.N X.env.scope scope own)
    (hg : ∀ (s : Shared) (H : Hp) (C : Addr) (cl : List (Str × Addr)) (fp : List Addr), PG (X.blk s H scope (compEnvC scope cl C X.env) fp) tg g) (hi : IW X tg iter ρ M (LcN X g own scope elt ρ Φ))
    (hs : ∀ x, foldedSetIterable iter X.env x = pure x := by intro _; rfl) : EW X (.ListComp elt [⟨tg, iter, [], 0⟩] scope pos) ρ M Φ :=
  (pe_lc hc hN hi ok hg (fun _ _ _ _ _ => pts_nil) (fun s H C cl fp => ⟨fun pins s' σ H' Q I ⟨ρ', M', Φ', hb, q⟩ => (hb s H C cl fp).run pins s' σ H' Q I q⟩) hs).mono fun σ H Q h => lcw_readN σ H Q h
end
section
variable {X : Cx} {ρ : Sl} {M M1 M2 : Mem} {a b e : Expr} {d : D} {ds es : List D} {pos : Pos} {Φ : D → Mem → Prop} {Ψ : Out → Prop}
/-- xs + ys, both new lists -/
theorem ew_catL (h : EW X a ρ M (fun d1 M1 => ∃ p ds, d1 = dP p ∧ M1 p = some (.lst ds) ∧ EW X b ρ M1 (fun d2 M2 => ∃ q es, d2 = dP q ∧ M2 p = some (.lst ds) ∧ M2 q = some (.lst es) ∧ ds.length + es.length ≤ sizeLine ∧ Φ (.lst (ds ++ es)) M2))) : EW X (.BinOp a .Add b pos) ρ M Φ :=
  (pe_op op_cat h pk_e).mono fun σ H Q ⟨G, sa, k⟩ => ⟨G, sa, fun v1 G1 H1 d1 M1 ⟨p, ds, e1, m1, h2⟩ g1 sh1 r1 => ⟨M1, _, h2, G1, ⟨sh1, sa.sl.up g1⟩, fun v2 G2 H2 d2 M2 ⟨q, es, e2, m1', m2, hl, hp⟩ g2 sh2 r2 => by
    subst e1 e2
    obtain ⟨_, vs, hv, r⟩ := sh2.mem p _ m1'
    obtain ⟨_, ws, hw, s⟩ := sh2.mem q _ m2
    refine ⟨p, q, vs, ws, r1.of_val, r2.of_val, hv, hw, by rw [r.len, s.len]; exact hl, fun l hl => ?_⟩
    obtain ⟨sh3, g3⟩ := sh2.new (o := .lst (vs ++ ws)) hl
    exact k _ _ _ _ _ hp ((g1.trans g2).trans g3) sh3 (.lst (.inl (.inl upd_same)) ((r.append s).up g3))⟩⟩
end
end Vt
namespace Vt
open PySem PySem.Spec PyProof.Rows L2
/-! ### lists that are going to be changed; min, in, dict -/
section
variable {X : Cx} {ρ : Sl} {M M1 M2 : Mem} {a b e : Expr} {d : D} {ds es : List D} {pos : Pos} {Φ : D → Mem → Prop} {Ψ : Out → Prop}
theorem ew_listN {p : Pos} (hm : X.mg "list" = none) (h : EW X e ρ M (fun d M1 => ∃ q ds, d = sq q ds ∧ ∀ l, M1 l = none → Φ (dP l) (M1.set l (.lst ds)))) (hg : Gl X "list" := by rfl) (hst : starEach [e] X.env = [(false, eval e X.env)] := by rfl) : EW X (.Call (.Name "list" p) [e] [] pos) ρ M Φ :=
  (pe_callTy call_list_of hg hm boot_list (aw_one (ΦA := fun ds M1 => ∃ q es, ds = [sq q es] ∧ ∀ l, M1 l = none → Φ (dP l) (M1.set l (.lst es))) (ew_to h fun d M1 ⟨i, es, e, q⟩ => ⟨i, es, by rw [e], q⟩) hst) (he := hst)).mono fun σ H Q ⟨G, sa, k⟩ => ⟨G, sa, fun vs' G1 H1 ds M1 ⟨b, es, e, p⟩ g1 sh1 r1 => by
    subst e
    cases r1 with
    | cons h t =>
      cases t
      cases b with
      | true =>
        cases (show Rep X.K G1 _ (.lst es) from h) with
        | lst q r =>
          refine ⟨_, _, rfl, .inl (sqlUp sh1.le q), fun l hl => ?_⟩
          obtain ⟨sh2, m2, _⟩ := sh1.newM hl r
          exact k _ _ _ _ _ (p l m2) g1 sh2 (.val _)
      | false =>
        cases (show Rep X.K G1 _ (.tup es) from h) with
        | tup q r =>
          refine ⟨_, _, rfl, .inr (sqtUp sh1.le q), fun l hl => ?_⟩
          obtain ⟨sh2, m2, _⟩ := sh1.newM hl r
          exact k _ _ _ _ _ (p l m2) g1 sh2 (.val _)⟩
/-- xs[i] = e, i drawn behind e -/
theorem sw_setItemW {tp : Pos} (he : EW X e ρ M (fun d M1 => ∃ p, EV X a ρ M1 (dP p) M1 ∧ EW X b ρ M1 (fun d2 M2 => ∃ i ds j, d2 = dI i ∧ M2 p = some (.lst ds) ∧ ixN ds.length i = some j ∧ Ψ (.nx ρ (M2.set p (.lst (ds.set j d)))))))
    (ha : ∀ v, assign (.Subscript a b tp) X.env v = (do
      let ov ← holding [v] (eval a X.env)
      let iv ← holding [v, ov] (eval b X.env)
      standAt tp
      holding [v, ov, iv] (setItem ov iv v)
      release [v, ov, iv] []) := by intro _; rfl)
    (hs : swapsWithSole [.Subscript a b tp] e pos.line X.env = pure false := by rfl) (hw : swappedStores [.Subscript a b tp] e X.env = pure none := by rfl)
    (h1 : (assignEach [.Subscript a b tp] X.env).map (·.2) = [assign (.Subscript a b tp) X.env] := by rfl) : SV X (.Assign [.Subscript a b tp] e pos) ρ M Ψ :=
  (ps_asg he (pg_sub (pk_e (ρ := ρ)) (pk_e (ρ := ρ)) set_list ha) hs hw h1).mono fun E σ H ⟨G, sa, k⟩ => ⟨G, sa, fun v G1 H1 d M1 ⟨p, ho, hi⟩ g1 sh1 r1 =>
    ⟨M1, fun d' M' => d' = dP p ∧ M' = M1, ew_ev ho ⟨rfl, rfl⟩, G1, ⟨sh1, sa.sl.up g1⟩, fun v2 G2 H2 d2 M2 ⟨e2, e2'⟩ g2 sh2 r2 => ⟨M1, _, hi, G2, ⟨by rw [e2'] at sh2; exact sh2, (sa.sl.up g1).up g2⟩, fun v3 G3 H3 d3 M3 ⟨i, ds, j, e3, hm, hj, hΨ⟩ g3 sh3 r3 => by
      subst e2 e3
      obtain ⟨_, vs, hv, rl⟩ := sh3.mem p _ hm
      exact ⟨p, vs, i, j, r2.of_val, r3.of_val, hv, by rw [rl.len]; exact hj, k _ hΨ σ G3 _ ((g1.trans g2).trans g3) ⟨sh3.put hm (rl.set ((r1.up g2).up g3) j), ((sa.sl.up g1).up g2).up g3⟩⟩⟩⟩⟩
/-- x in xs, xs a list of ints of the memory -/
theorem any_eqI (x : Int) : ∀ xs : List Int, inV (.int x) (xs.map V.int) = decide (x ∈ xs)
  | [] => rfl
  | y :: ys => by
    have ih := any_eqI x ys
    show (eqV (.int y) (.int x) || inV (.int x) (ys.map V.int)) = _
    rw [ih]
    have e : eqV (.int y) (.int x) = decide (y = x) := rfl
    rw [e]
    by_cases h : y = x
    · subst h
      simp
    · have h2 : ¬ x = y := fun q => h q.symm
      simp [h, h2]
theorem flat_ints (xs : List Int) : (xs.map V.int).all flatV = true := by
  induction xs with
  | nil => rfl
  | cons x xs ih => rw [List.map_cons, List.all_cons, ih]; rfl
theorem tv_inM {x : Int} {xs : List Int} {p : Addr} (ha : EV X a ρ M (dI x) M1) (hb : EV X b ρ M1 (dP p) M2) (hm2 : M2 p = some (.lst (xs.map dI))) (hm : behindInMarks .In b = false) : TV X (.Compare a [.In] [b] pos) ρ M (decide (x ∈ xs)) M2 :=
  (pt_cmpR op_in_seq ha hb hm).mono fun σ H Q ⟨G, sa, k⟩ => ⟨G, sa, fun v1 G1 H1 g1 sh1 r1 => ⟨G1, ⟨sh1, sa.sl.up g1⟩, fun v2 G2 H2 g2 sh2 r2 => by
    obtain ⟨_, vs, hv, r⟩ := sh2.mem p _ hm2
    have ev : vs = xs.map V.int := RepL.of_vals (xs := xs.map V.int) (by rw [List.map_map]; exact r)
    subst ev
    refine ⟨p, xs.map V.int, r2.of_val, .inl (.inl (.inl hv)), by rw [r1.of_val]; rfl, flat_ints xs, ?_⟩
    rw [r1.of_val]
    exact ⟨_, congrArg V.bl (any_eqI x xs), k G2 H2 (g1.trans g2) sh2⟩⟩⟩
/-- min(xs), xs a list of ints of the memory -/
theorem ev_minM {xs : List Int} {m : Int} {p : Addr} {np : Pos} (hc : X.calm = true) (hm : X.mg "min" = none) (ha : EV X e ρ M (dP p) M1) (hm2 : M1 p = some (.lst (xs.map dI))) (h0 : m ∈ xs) (h1 : ∀ y ∈ xs, m ≤ y) (hg : Gl X "min" := by rfl) (hst : starEach [e] X.env = [(false, eval e X.env)] := by rfl) : EV X (.Call (.Name "min" np) [e] [] pos) ρ M (dI m) M1 :=
  (pe_callB (cr_min hc) hg hm boot_min (av_cons ha av_nil hst) (he := hst)).mono fun σ H Q ⟨G, sa, k⟩ => ⟨G, sa, fun vs' G1 H1 g1 sh1 r1 => by
    obtain ⟨_, vs, hv, r⟩ := sh1.mem p _ hm2
    have ev : vs = xs.map V.int := RepL.of_vals (xs := xs.map V.int) (by rw [List.map_map]; exact r)
    subst ev
    refine ⟨p, xs, RepL.of_vals (xs := [.ref p]) r1, .inl (.inl hv), List.length_pos_of_mem h0, fun m' i1 i2 => ?_⟩
    have := h1 m' i1
    have := i2 m h0
    obtain rfl : m' = m := by omega
    exact k _ G1 H1 g1 sh1 (.val _)⟩
/-- dict(pairs) -/
theorem pairs_rep {K : PySem.W.Frag} {G H : Hp} (le : Same G H) : ∀ {vs : List V} {kds : List (Int × D)}, RepL K G vs (kds.map fun p => .tup [dI p.1, p.2]) → ∃ (ps : List Addr) (kvs : List (Key × V)), vs = ps.map V.ref ∧ Paired (fun p kv => SqT K H p [kV kv.1, kv.2]) ps kvs
  | [], [], _ => ⟨[], [], rfl, .nil⟩
  | [], _ :: _, r => by cases r
  | _ :: _, [], r => by cases r
  | v :: vs, (k, d) :: kds, r => by
    cases r with
    | cons r t =>
      obtain ⟨ps, kvs, rfl, h⟩ := pairs_rep le (vs := vs) (kds := kds) t
      cases r with
      | tup q r =>
        cases r with
        | cons r1 r2 =>
          cases r2 with
          | cons r2 r3 =>
            cases r3
            rw [r1.of_val] at q
            exact ⟨_ :: ps, (.inl k, _) :: kvs, rfl, .cons (sqtUp le q) h⟩
theorem ew_dict {p : Pos} (hc : X.calm = true) (hm : X.mg "dict" = none) (h : EW X e ρ M (fun d M1 => ∃ kds : List (Int × D), d = .lst (kds.map fun p => .tup [dI p.1, p.2]) ∧ Φ .dic M1)) (hg : Gl X "dict" := by rfl) (hst : starEach [e] X.env = [(false, eval e X.env)] := by rfl) : EW X (.Call (.Name "dict" p) [e] [] pos) ρ M Φ :=
  (pe_callTy (call_dictP hc) hg hm PyProof.Rows.boot_dict (aw_one (ΦA := fun ds M1 => ∃ kds : List (Int × D), ds = [.lst (kds.map fun p => .tup [dI p.1, p.2])] ∧ Φ .dic M1) (ew_to h fun d M1 ⟨kds, e, q⟩ => ⟨kds, by rw [e], q⟩) hst) (he := hst)).mono fun σ H Q ⟨G, sa, k⟩ => ⟨G, sa, fun vs' G1 H1 ds M1 ⟨kds, e, p⟩ g1 sh1 r1 => by
    subst e
    cases r1 with
    | cons h t =>
      cases t
      cases h with
      | lst q r =>
        obtain ⟨ps, kvs, rfl, pr⟩ := pairs_rep sh1.le r
        refine ⟨_, ps, kvs, rfl, sqlUp sh1.le q, pr, fun l hl => ?_⟩
        obtain ⟨sh2, g2⟩ := sh1.new (o := .dK (mergeK [] kvs)) hl
        exact k _ _ _ _ _ p (g1.trans g2) sh2 (.dic upd_same)⟩
end
end Vt
namespace Vt
open PySem PySem.Spec PyProof.Rows L2
section
variable {X : Cx} {ρ : Sl} {M M1 : Mem} {e : Expr} {ds : List D} {pos : Pos}
/-- tuple(xs), xs a list of the memory -/
theorem ev_tupM {q : Addr} {p : Pos} (hm : X.mg "tuple" = none) (ha : EV X e ρ M (dP q) M1) (hq : M1 q = some (.lst ds)) (hg : Gl X "tuple" := by rfl) (hst : starEach [e] X.env = [(false, eval e X.env)] := by rfl) : EV X (.Call (.Name "tuple" p) [e] [] pos) ρ M (.tup ds) M1 :=
  (pe_callTy call_tuple_of hg hm boot_tuple (av_cons ha av_nil hst) (he := hst)).mono fun σ H Q ⟨G, sa, k⟩ => ⟨G, sa, fun vs' G1 H1 g1 sh1 r1 => by
    obtain ⟨_, vs, hv, r⟩ := sh1.mem q _ hq
    have e1 := RepL.of_vals (xs := [.ref q]) r1
    exact ⟨q, vs, e1, .inl ⟨.inl (.inl hv), fun l hl => by
      obtain ⟨sh2, g2⟩ := sh1.new (o := .tup vs) hl
      exact k _ _ _ (g1.trans g2) sh2 (.tup (.inl (.inl upd_same)) (r.up g2))⟩⟩⟩
end
section
variable {X : Cx} {ρ : Sl} {M M1 M2 : Mem} {a b e : Expr} {d : D} {ds es : List D} {pos : Pos} {Φ : D → Mem → Prop} {Ψ : Out → Prop}
theorem tv_ninM {x : Int} {xs : List Int} {p : Addr} (ha : EV X a ρ M (dI x) M1) (hb : EV X b ρ M1 (dP p) M2) (hm2 : M2 p = some (.lst (xs.map dI))) (hm : behindInMarks .NotIn b = false) : TV X (.Compare a [.NotIn] [b] pos) ρ M (!decide (x ∈ xs)) M2 :=
  (pt_cmpR op_notIn_seq ha hb hm).mono fun σ H Q ⟨G, sa, k⟩ => ⟨G, sa, fun v1 G1 H1 g1 sh1 r1 => ⟨G1, ⟨sh1, sa.sl.up g1⟩, fun v2 G2 H2 g2 sh2 r2 => by
    obtain ⟨_, vs, hv, r⟩ := sh2.mem p _ hm2
    have ev : vs = xs.map V.int := RepL.of_vals (xs := xs.map V.int) (by rw [List.map_map]; exact r)
    subst ev
    refine ⟨p, xs.map V.int, r2.of_val, .inl (.inl (.inl hv)), by rw [r1.of_val]; rfl, flat_ints xs, ?_⟩
    rw [r1.of_val]
    exact ⟨_, congrArg V.bl (congrArg (!·) (any_eqI x xs)), k G2 H2 (g1.trans g2) sh2⟩⟩⟩
end
end Vt
set_option Elab.async false
set_option linter.all false
set_option maxRecDepth 100000
set_option maxHeartbeats 2000000
namespace Vt
open PySem PySem.Spec PyProof.Rows L2
def top (i : Nat) : Stmt := PySem.Challenge.pw_counterheld_k08_whole_bars_and_faults.main.body.getD i (.Pass ⟨0, 0, 0, 0⟩)
abbrev s_p_is_row : Stmt := top 6
theorem sc_p_is_row : FnScope ["thing"] ["thing"] (defScope s_p_is_row) := ⟨rfl, rfl, rfl, by decide +kernel, rfl, by decide +kernel, by decide +kernel⟩
abbrev s_p_is_pair : Stmt := top 7
theorem sc_p_is_pair : FnScope ["thing"] ["thing"] (defScope s_p_is_pair) := ⟨rfl, rfl, rfl, by decide +kernel, rfl, by decide +kernel, by decide +kernel⟩
abbrev s_p_is_number : Stmt := top 8
theorem sc_p_is_number : FnScope ["thing"] ["thing"] (defScope s_p_is_number) := ⟨rfl, rfl, rfl, by decide +kernel, rfl, by decide +kernel, by decide +kernel⟩
abbrev s_p_is_whole : Stmt := top 9
theorem sc_p_is_whole : FnScope ["thing", "low", "high"] ["thing", "low", "high"] (defScope s_p_is_whole) := ⟨rfl, rfl, rfl, by decide +kernel, rfl, by decide +kernel, by decide +kernel⟩
abbrev s_p_is_tone : Stmt := top 10
theorem sc_p_is_tone : FnScope ["thing", "number"] ["thing"] (defScope s_p_is_tone) := ⟨rfl, rfl, rfl, by decide +kernel, rfl, by decide +kernel, by decide +kernel⟩
abbrev s_p_is_short_fraction : Stmt := top 11
theorem sc_p_is_short_fraction : FnScope ["thing", "number"] ["thing"] (defScope s_p_is_short_fraction) := ⟨rfl, rfl, rfl, by decide +kernel, rfl, by decide +kernel, by decide +kernel⟩
abbrev s_p_check_bar : Stmt := top 17
theorem sc_p_check_bar : FnScope ["columns", "voices", "number", "column", "reason"] ["columns"] (defScope s_p_check_bar) := ⟨rfl, rfl, rfl, by decide +kernel, rfl, by decide +kernel, by decide +kernel⟩
abbrev s_p_reason : Stmt := top 18
theorem sc_p_reason : FnScope ["column", "voices", "duration", "accent", "entries", "entry"] ["column", "voices"] (defScope s_p_reason) := ⟨rfl, rfl, rfl, by decide +kernel, rfl, by decide +kernel, by decide +kernel⟩
abbrev s_p_is_entry : Stmt := top 19
theorem sc_p_is_entry : FnScope ["thing"] ["thing"] (defScope s_p_is_entry) := ⟨rfl, rfl, rfl, by decide +kernel, rfl, by decide +kernel, by decide +kernel⟩
abbrev s_p_tuple_of : Stmt := top 20
theorem sc_p_tuple_of : FnScope ["tone", "f", "o"] ["tone"] (defScope s_p_tuple_of) := ⟨rfl, rfl, rfl, by decide +kernel, rfl, by decide +kernel, by decide +kernel⟩
abbrev s_p_as_tuples : Stmt := top 21
theorem sc_p_as_tuples : FnScope ["bar"] ["bar"] (defScope s_p_as_tuples) := ⟨rfl, rfl, rfl, by decide +kernel, rfl, by decide +kernel, by decide +kernel⟩
abbrev s_p_with_tones : Stmt := top 22
theorem sc_p_with_tones : FnScope ["bar", "change", "duration", "accent", "entries"] ["bar", "change"] (defScope s_p_with_tones) := ⟨rfl, rfl, rfl, by decide +kernel, rfl, by decide +kernel, by decide +kernel⟩
abbrev s_p_entries : Stmt := top 23
theorem sc_p_entries : FnScope ["entries", "change", "entry"] ["entries", "change"] (defScope s_p_entries) := ⟨rfl, rfl, rfl, by decide +kernel, rfl, by decide +kernel, by decide +kernel⟩
abbrev s_pool : Stmt := top 29
theorem sc_pool : FnScope ["script", "cell"] ["script"] (defScope s_pool) := ⟨rfl, rfl, rfl, by decide +kernel, rfl, by decide +kernel, by decide +kernel⟩
abbrev s_take : Stmt := top 30
theorem sc_take : FnScope ["pool", "many", "digit", "cell", "mixed"] ["pool", "many"] (defScope s_take) := ⟨rfl, rfl, rfl, by decide +kernel, rfl, by decide +kernel, by decide +kernel⟩
abbrev s_pick : Stmt := top 31
theorem sc_pick : FnScope ["pool", "rows"] ["pool", "rows"] (defScope s_pick) := ⟨rfl, rfl, rfl, by decide +kernel, rfl, by decide +kernel, by decide +kernel⟩
abbrev s_is_integer : Stmt := top 32
theorem sc_is_integer : FnScope ["actual"] ["actual"] (defScope s_is_integer) := ⟨rfl, rfl, rfl, by decide +kernel, rfl, by decide +kernel, by decide +kernel⟩
abbrev s_same : Stmt := top 33
theorem sc_same : FnScope ["actual", "due", "k"] ["actual", "due"] (defScope s_same) := ⟨rfl, rfl, rfl, by decide +kernel, rfl, by decide +kernel, by decide +kernel⟩
abbrev s_lowest : Stmt := top 34
theorem sc_lowest : FnScope ["n", "d", "one", "other", "turn"] ["n", "d"] (defScope s_lowest) := ⟨rfl, rfl, rfl, by decide +kernel, rfl, by decide +kernel, by decide +kernel⟩
abbrev s_duration : Stmt := top 35
theorem sc_duration : FnScope ["pool"] ["pool"] (defScope s_duration) := ⟨rfl, rfl, rfl, by decide +kernel, rfl, by decide +kernel, by decide +kernel⟩
abbrev s_tone : Stmt := top 36
theorem sc_tone : FnScope ["pool", "fifths"] ["pool"] (defScope s_tone) := ⟨rfl, rfl, rfl, by decide +kernel, rfl, by decide +kernel, by decide +kernel⟩
abbrev s_column : Stmt := top 37
theorem sc_column : FnScope ["pool", "voices", "before", "some", "entries", "voice", "kind", "entry", "held", "tone"] ["pool", "voices", "before", "some"] (defScope s_column) := ⟨rfl, rfl, rfl, by decide +kernel, rfl, by decide +kernel, by decide +kernel⟩
abbrev s_listed : Stmt := top 38
theorem sc_listed : FnScope ["thing", "part"] ["thing"] (defScope s_listed) := ⟨rfl, rfl, rfl, by decide +kernel, rfl, by decide +kernel, by decide +kernel⟩
abbrev s_wrong : Stmt := top 39
theorem sc_wrong : FnScope ["pool", "reason", "voices", "tone", "duration", "whole", "rows", "k"] ["pool", "reason", "voices"] (defScope s_wrong) := ⟨rfl, rfl, rfl, by decide +kernel, rfl, by decide +kernel, by decide +kernel⟩
abbrev s_long_bar : Stmt := top 40
theorem sc_long_bar : FnScope ["pool", "voices", "some", "k", "found"] ["pool", "voices"] (defScope s_long_bar) := ⟨rfl, rfl, rfl, by decide +kernel, rfl, by decide +kernel, by decide +kernel⟩
abbrev s_told : Stmt := top 41
theorem sc_told : FnScope ["columns_here", "found", "e"] ["columns_here"] (defScope s_told) := ⟨rfl, rfl, rfl, by decide +kernel, rfl, by decide +kernel, by decide +kernel⟩
abbrev s_spoilt : Stmt := top 42
theorem sc_spoilt : FnScope ["pool", "bar", "reasons", "voices", "cells", "spoils", "cell", "turn", "at", "first", "entries"] ["pool", "bar"] (defScope s_spoilt) := ⟨rfl, rfl, rfl, by decide +kernel, rfl, by decide +kernel, by decide +kernel⟩
abbrev s_law : Stmt := top 43
theorem sc_law : FnScope ["script", "pool", "turn", "bar", "handed", "kept", "spoilt", "first", "many", "cells", "none"] ["script"] (defScope s_law) := ⟨rfl, rfl, rfl, by decide +kernel, rfl, by decide +kernel, by decide +kernel⟩
abbrev s_BadColumn_init : Stmt := L2.inClass (top 16) 0
theorem sc_BadColumn_init : FnScope ["self", "number", "reason"] ["self", "number", "reason"] (defScope s_BadColumn_init) := ⟨rfl, rfl, rfl, by decide +kernel, rfl, by decide +kernel, by decide +kernel⟩
abbrev s_BadName_init : Stmt := L2.inClass (top 25) 0
theorem sc_BadName_init : FnScope ["self", "text"] ["self", "text"] (defScope s_BadName_init) := ⟨rfl, rfl, rfl, by decide +kernel, rfl, by decide +kernel, by decide +kernel⟩
/-! ### the draws -/
structure Pool where
  cells : List Int
  at_ : Int
  rest : Int
  seed : Int
def Pool.mo (p : Pool) : MO := .lst [.lst (p.cells.map dI), dI p.at_, dI p.rest, dI p.seed]
structure Pool.Ok (p : Pool) : Prop where
  a0 : 0 ≤ p.at_
  s0 : 0 ≤ p.seed
  s1 : p.seed < 2147483648
def Pool.cell (p : Pool) : Int := if p.at_ < p.cells.length then p.cells.getD p.at_.toNat 0 else 0
def Pool.seed2 (p : Pool) : Int := (p.seed * 48271 + p.cell * 69621 + (p.at_ + 1) * 613) % 2147483647
def Pool.take (p : Pool) (many : Int) : Int × Pool :=
  if 0 < p.rest then (p.rest % many, { p with rest := p.rest / many })
  else if 1000000000000000000 ≤ p.cell then (p.cell / 2 % many, { p with at_ := p.at_ + 1, rest := p.cell / 2 / many })
  else ((p.seed2 * p.seed2 + p.seed2 * 7919 + 104729) % 1000000007 / 3 % many, { p with at_ := p.at_ + 1, seed := p.seed2 })
theorem Pool.take_lo (p : Pool) {many : Int} (h : 0 < many) : 0 ≤ (p.take many).1 := by
  unfold Pool.take
  split
  · exact Int.emod_nonneg _ (by omega)
  · split <;> exact Int.emod_nonneg _ (by omega)
theorem Pool.take_hi (p : Pool) {many : Int} (h : 0 < many) : (p.take many).1 < many := by
  unfold Pool.take
  split
  · exact Int.emod_lt_of_pos _ h
  · split <;> exact Int.emod_lt_of_pos _ h
theorem Pool.Ok.take {p : Pool} (ok : p.Ok) (many : Int) : (p.take many).2.Ok := by
  obtain ⟨a0, s0, s1⟩ := ok
  unfold Pool.take
  split
  · exact ⟨a0, s0, s1⟩
  · split
    · exact ⟨by show 0 ≤ p.at_ + 1; omega, s0, s1⟩
    · refine ⟨by show 0 ≤ p.at_ + 1; omega, ?_, ?_⟩
      · exact Int.emod_nonneg _ (by decide)
      · have := Int.emod_lt_of_pos (p.seed * 48271 + p.cell * 69621 + (p.at_ + 1) * 613) (show (0 : Int) < 2147483647 by decide)
        show p.seed2 < 2147483648
        unfold Pool.seed2
        omega
/-- what stands behind the top of built-ins -/
structure Bt (mg : Str → Option Value) : Prop where
  len : mg "len" = none
  int : mg "int" = none
  isinstance : mg "isinstance" = none
  range : mg "range" = none
  list : mg "list" = none
  tuple : mg "tuple" = none
  all : mg "all" = none
  bool : mg "bool" = none
  str : mg "str" = none
def PrTake (ds : List D) (M : Mem) (d : D) (M' : Mem) : Prop := ∃ a M0 p many, ds = [dP a, dI many] ∧ M = Mem.set M0 a (Pool.mo p) ∧ p.Ok ∧ 0 < many ∧ many < 1073741824 ∧ d = dI (p.take many).1 ∧ M' = M0.set a (p.take many).2.mo
/-- where digits are left -/
def PrTake0 (ds : List D) (M : Mem) (d : D) (M' : Mem) : Prop := ∃ a M0 p many, ds = [dP a, dI many] ∧ M = Mem.set M0 a (Pool.mo p) ∧ 0 < p.rest ∧ 0 < many ∧ many < 1073741824 ∧ d = dI (p.rest % many) ∧ M' = M0.set a ({ p with rest := p.rest / many } : Pool).mo
section
variable {X : Cx} {ρ : Sl} {M M0 M1 M2 M3 : Mem} {a b c e : Expr} {es : List Expr} {d d1 d2 : D} {ds : List D} {pos : Pos} {Ψ : Out → Prop}
/-- xs[i] = e, the list on top of the memory -/
theorem sv_setTop {p : Addr} {i : Nat} {tp : Pos} (he : EV X e ρ M d M1) (ho : EV X a ρ M1 (dP p) M2) (hi : EV X b ρ M2 (dI i) (M0.set p (.lst ds))) (hlt : i < ds.length) (hΨ : Ψ (.nx ρ (M0.set p (.lst (ds.set i d)))))
    (ha : ∀ v, assign (.Subscript a b tp) X.env v = (do
      let ov ← holding [v] (eval a X.env)
      let iv ← holding [v, ov] (eval b X.env)
      standAt tp
      holding [v, ov, iv] (setItem ov iv v)
      release [v, ov, iv] []) := by intro _; rfl)
    (hs : swapsWithSole [.Subscript a b tp] e pos.line X.env = pure false := by rfl) (hw : swappedStores [.Subscript a b tp] e X.env = pure none := by rfl)
    (h1 : (assignEach [.Subscript a b tp] X.env).map (·.2) = [assign (.Subscript a b tp) X.env] := by rfl) : SV X (.Assign [.Subscript a b tp] e pos) ρ M Ψ :=
  sv_setItem he ho hi Mem.set_same hlt (by rw [Mem.set_set]; exact hΨ) ha hs hw h1
end
section
variable {P : Program} {w : World} {K : PySem.W.Frag} {mg : Str → Option Value} {base : Heap} {f : Addr} {fd : FuncData}
theorem c_take0 (F : Fun K "_law_take" "_law_take" s_take f fd) (hm : mg "_law_take" = some (.ref f)) (T : Bt mg) : Cal P w K mg base 1 "_law_take" (spD K PrTake0) := by
  refine cal_of F sc_take hm (fun _ _ _ _ _ _ us hl => match us, hl with | [_, _], _ => rfl) (fun ds M d M' h => ?_) fun cdv A outer s H E ds M d M' hr h => ?_
  · obtain ⟨a, M0, p, many, rfl, _⟩ := h
    rfl
  · obtain ⟨a, M0, p, many, rfl, rfl, h0, h1, h2, rfl, rfl⟩ := h
    show BV _ _ [some (dP a), some (dI many), none, none, none] _ _
    refine bv_cons (sv_if (tv_cmpR op_gt (ev_ixM (ev_var 0 rfl) ev_int Mem.set_same rfl) ev_int rs_I0 (nomark _)) (fun h => ?_) (fun h => ?_))
    · refine bv_cons (sv_set 2 sc_take.nd (ev_op op_mod (ev_intI T.int (ev_ixM (ev_var 0 rfl) ev_int Mem.set_same rfl)) (ev_var 1 rfl) (rs_I h1)) ?_)
      refine bv_cons (sv_setTop (i := 2) (ev_op op_fdiv (ev_ixM (ev_var 0 rfl) ev_int Mem.set_same rfl) (ev_var 1 rfl) (rs_I ⟨h1, h2⟩)) (ev_var 0 rfl) ev_int (by simp) ?_)
      exact bv_one (sv_ret (ev_var 2 rfl) ⟨rfl, Mle.refl _⟩)
    · exact absurd h0 (of_decide_eq_false h)
theorem c_take (F : Fun K "_law_take" "_law_take" s_take f fd) (hm : mg "_law_take" = some (.ref f)) (T : Bt mg) : Cal P w K mg base 2 "_law_take" (spD K PrTake) := by
  have c_take := c_take0 (P := P) (w := w) (base := base) F hm T
  refine cal_of F sc_take hm (fun _ _ _ _ _ _ us hl => match us, hl with | [_, _], _ => rfl) (fun ds M d M' h => ?_) fun cdv A outer s H E ds M d M' hr h => ?_
  · obtain ⟨a, M0, p, many, rfl, _⟩ := h
    rfl
  · obtain ⟨a, M0, p, many, rfl, rfl, ok, h1, h2, rfl, rfl⟩ := h
    show BV _ _ [some (dP a), some (dI many), none, none, none] _ _
    refine bv_cons (sv_if (tv_cmpR op_gt (ev_ixM (ev_var 0 rfl) ev_int Mem.set_same rfl) ev_int rs_I0 (nomark _)) (fun h => ?_) (fun h => ?_))
    · refine bv_cons (sv_set 2 sc_take.nd (ev_op op_mod (ev_intI T.int (ev_ixM (ev_var 0 rfl) ev_int Mem.set_same rfl)) (ev_var 1 rfl) (rs_I h1)) ?_)
      refine bv_cons (sv_setTop (i := 2) (ev_op op_fdiv (ev_ixM (ev_var 0 rfl) ev_int Mem.set_same rfl) (ev_var 1 rfl) (rs_I ⟨h1, h2⟩)) (ev_var 0 rfl) ev_int (by simp) ?_)
      have e : p.take many = (p.rest % many, { p with rest := p.rest / many }) := if_pos (of_decide_eq_true h)
      rw [e]
      exact bv_one (sv_ret (ev_var 2 rfl) ⟨rfl, Mle.refl _⟩)
    · have hr0 : ¬ 0 < p.rest := of_decide_eq_false h
      refine bv_nil ?_
      refine bv_cons (sv_set 3 sc_take.nd ev_int ?_)
      have rest : BV (cxOf CX0 P w K mg base ["pool", "many", "digit", "cell", "mixed"] "_law_take" (defScope s_take) f cdv A outer s H E).nox ((defBody s_take).drop 3) [some (dP a), some (dI many), none, some (dI p.cell), none] (M0.set a p.mo) (Fin (dI (p.take many).1) (M0.set a (p.take many).2.mo)) := by
        refine bv_cons (sv_setTop (i := 1) (ev_op op_add (ev_ixM (ev_var 0 rfl) ev_int Mem.set_same rfl) ev_int rs_I0) (ev_var 0 rfl) ev_int (by simp) ?_)
        refine bv_cons (sv_if (tv_cmpR op_ge (ev_var 3 rfl) (ev_op op_pow ev_int ev_int (rs_I ⟨by decide, by decide, by decide⟩)) rs_I0 (nomark _)) (fun h => ?_) (fun h => ?_))
        · have hc : 1000000000000000000 ≤ p.cell := of_decide_eq_true h
          refine bv_cons (sv_setTop (i := 2) (ev_op op_fdiv (ev_var 3 rfl) ev_int (rs_I ⟨by decide, by decide⟩)) (ev_var 0 rfl) ev_int (by simp) ?_)
          have e : p.take many = (p.cell / 2 % many, { p with at_ := p.at_ + 1, rest := p.cell / 2 / many }) := (if_neg hr0).trans (if_pos hc)
          rw [e]
          refine bv_one (sv_ret (ev_call c_take (hr.mono (by decide)) (av_cons (ev_var 0 rfl) (av_cons (ev_var 1 rfl) av_nil)) ⟨a, M0, { p with at_ := p.at_ + 1, rest := p.cell / 2 }, many, rfl, rfl, ?_, h1, h2, rfl, rfl⟩) ⟨rfl, Mle.refl _⟩)
          show 0 < p.cell / 2
          omega
        · have hc : ¬ 1000000000000000000 ≤ p.cell := of_decide_eq_false h
          refine bv_nil ?_
          refine bv_cons (sv_setTop (i := 3) (ev_op op_mod (ev_intI T.int (ev_op op_add (ev_op op_add (ev_op op_mul (ev_ixM (ev_var 0 rfl) ev_int Mem.set_same rfl) ev_int (rs_I (cm_r (by decide) (by decide)))) (ev_op op_mul (ev_var 3 rfl) ev_int (rs_I (cm_r (by decide) (by decide)))) rs_I0) (ev_op op_mul (ev_ixM (ev_var 0 rfl) ev_int Mem.set_same rfl) ev_int (rs_I (cm_r (by decide) (by decide)))) rs_I0)) ev_int (rs_I (by decide))) (ev_var 0 rfl) ev_int (by simp) ?_)
          have ok2 : 0 ≤ p.seed2 ∧ p.seed2 < 2147483647 := ⟨Int.emod_nonneg _ (by decide), Int.emod_lt_of_pos _ (by decide)⟩
          have e : p.take many = ((p.seed2 * p.seed2 + p.seed2 * 7919 + 104729) % 1000000007 / 3 % many, { p with at_ := p.at_ + 1, seed := p.seed2 }) := (if_neg hr0).trans (if_neg hc)
          rw [e]
          refine bv_cons (sv_set 4 sc_take.nd (ev_op op_mod (ev_intI T.int (ev_op op_add (ev_op op_add (ev_op op_mul (ev_ixM (ev_var 0 rfl) ev_int Mem.set_same rfl) (ev_ixM (ev_var 0 rfl) ev_int Mem.set_same rfl) (rs_I ?_)) (ev_op op_mul (ev_ixM (ev_var 0 rfl) ev_int Mem.set_same rfl) ev_int (rs_I (cm_r (by decide) (by decide)))) rs_I0) ev_int rs_I0)) ev_int (rs_I (by decide))) ?_)
          · refine cm_l (i := p.seed2) ?_ ?_ <;> omega
          exact bv_one (sv_ret (ev_op op_mod (ev_intI T.int (ev_op op_fdiv (ev_var 4 rfl) ev_int (rs_I ⟨by decide, by decide⟩))) (ev_var 1 rfl) (rs_I h1)) ⟨rfl, Mle.refl _⟩)
      refine bv_cons (sv_if (tv_cmpR op_lt (ev_ixM (ev_var 0 rfl) ev_int Mem.set_same rfl) (ev_lenL T.len (ev_ixM (ev_var 0 rfl) ev_int Mem.set_same rfl)) rs_I0 (nomark _)) (fun h => ?_) (fun h => ?_))
      · have hlt : p.at_ < p.cells.length := by
          have q := of_decide_eq_true h
          rw [List.length_map] at q
          exact q
        have hc : atI (p.cells.map dI) p.at_ = some (dI p.cell) := by
          have a0 := ok.a0
          unfold atI ixN Pool.cell
          rw [if_pos a0, List.length_map, if_pos hlt, if_pos hlt]
          show (p.cells.map dI)[p.at_.toNat]? = _
          rw [List.getElem?_map, List.getD_eq_getElem?_getD]
          have hn : p.at_.toNat < p.cells.length := by omega
          rw [List.getElem?_eq_getElem hn]
          rfl
        exact bv_one (sv_set 3 sc_take.nd (ev_ixL (ev_ixM (ev_var 0 rfl) ev_int Mem.set_same rfl) (ev_ixM (ev_var 0 rfl) ev_int Mem.set_same rfl) hc) rest)
      · have hlt : ¬ p.at_ < p.cells.length := by
          have q := of_decide_eq_false h
          rw [List.length_map] at q
          exact q
        have e : p.cell = 0 := if_neg hlt
        rw [e] at rest
        exact bv_nil rest
end
def conv (n : Int) : Int := if 0 ≤ n then 2 * n else -2 * n - 1
def convD : D → D
  | .val (.int n) => dI (conv n)
  | d => d
def Pool.new (ns : List Int) : Pool := ⟨ns.map conv, 0, 0, 17⟩
theorem Pool.new_ok (ns : List Int) : (Pool.new ns).Ok := ⟨by show (0 : Int) ≤ 0; decide, by show (0 : Int) ≤ 17; decide, by show (17 : Int) < 2147483648; decide⟩
def PrPool (ds : List D) (M : Mem) (es : List D) (M' : Mem) : Prop := ∃ ns : List Int, ds = [.lst (ns.map dI)] ∧ ns.length ≤ 1000 ∧ M' = M ∧ Pool.mo (Pool.new ns) = .lst es
section
variable {P : Program} {w : World} {K : PySem.W.Frag} {mg : Str → Option Value} {base : Heap} {f : Addr} {fd : FuncData}
theorem c_pool (F : Fun K "_law_pool" "_law_pool" s_pool f fd) (hm : mg "_law_pool" = some (.ref f)) : Cal P w K mg base 1 "_law_pool" (spN K PrPool) := by
  refine calN_of F sc_pool hm (fun _ _ _ _ _ _ us hl => match us, hl with | [_], _ => rfl) (fun ds M d M' h => ?_) fun cdv A outer s H E ds M es M' hr h => ?_
  · obtain ⟨ns, rfl, _⟩ := h
    rfl
  · obtain ⟨ns, rfl, hl, rfl, he⟩ := h
    show BV _ _ [some (.lst (ns.map dI)), none] _ _
    have e2 : (ns.map dI).map convD = (ns.map conv).map dI := by
      rw [List.map_map, List.map_map]
      rfl
    have e : es = [.lst ((ns.map dI).map convD), dI 0, dI 0, dI 17] := by
      rw [e2]
      injection he with he
      rw [← he]
      rfl
    subst e
    refine bv_one (sv_retNew (en_lst (av_cons (ev_lcM (own := [("cell", 1)]) (g := gName 1) rfl sc_pool.nd (iv_list (ev_var 0 rfl)) (blkOk_by (N := ["script", "cell"]) (sc := defScope s_pool) (by decide +kernel)) (fun _ _ _ _ _ => pg_name (i := 1) sc_pool.nd rfl (Or.inl rfl)) convD ?_ (fun i d h => ?_)) (av_cons ev_int (av_cons ev_int (av_cons ev_int av_nil))))) (fun p hp => ⟨p, rfl, hp, Mle.refl _⟩))
    · rw [List.length_map]
      exact Nat.le_trans hl (by decide)
    · refine ⟨_, tgb_name, fun M2 s H C cl fp => ?_⟩
      rw [List.getElem?_map] at h
      cases q : ns[i]? with
      | none => rw [q] at h; cases h
      | some n =>
        rw [q] at h
        cases h
        refine ev_to (ev_ifB (tv_cmpR op_ge (ev_var 1 rfl) ev_int rs_I0 (nomark _)) (ev_op op_mul ev_int (ev_var 1 rfl) (rs_I (cm_l (by decide) (by decide)))) (ev_op op_sub (ev_op op_mul (ev_un un_neg ev_int ru_neg) (ev_var 1 rfl) (rs_I (cm_l (by decide) (by decide)))) ev_int rs_I0)) ?_
        show (if decide (0 ≤ n) = true then dI (2 * n) else dI (-2 * n - 1)) = dI (if 0 ≤ n then 2 * n else -2 * n - 1)
        by_cases c : 0 ≤ n
        · rw [if_pos (decide_eq_true c), if_pos c]
        · rw [if_neg (by rw [decide_eq_false c]; decide), if_neg c]
end
def PrPick (ds : List D) (M : Mem) (d : D) (M' : Mem) : Prop := ∃ a M0 p b es, ds = [dP a, sq b es] ∧ M = Mem.set M0 a (Pool.mo p) ∧ p.Ok ∧ 0 < es.length ∧ es.length < 1073741824 ∧ es[(p.take es.length).1.toNat]? = some d ∧ M' = M0.set a (p.take es.length).2.mo
def PrIsInt (ds : List D) (M : Mem) (d : D) (M' : Mem) : Prop := ∃ i : Int, ds = [dI i] ∧ d = dB true ∧ M' = M
/-- trees that _law_same goes through -/
def okD : Nat → D → Prop
  | _, .val v => v = .non ∨ (∃ b, v = .bl b) ∨ (∃ i, v = .int i) ∨ ∃ z, v = .str z
  | n + 1, .tup ds => ds.length ≤ 1000000 ∧ ∀ d ∈ ds, okD n d
  | n + 1, .lst ds => ds.length ≤ 1000000 ∧ ∀ d ∈ ds, okD n d
  | 0, _ => False
  | _ + 1, .dic => False
def PrSame (n : Nat) (ds : List D) (M : Mem) (d : D) (M' : Mem) : Prop := ∃ t, ds = [t, t] ∧ okD n t ∧ d = dB true ∧ M' = M
theorem atI_nat {ds : List D} {i : Int} {d : D} {k : Nat} (h : ds[k]? = some d) (e : i = (k : Int)) : atI ds i = some d := by
  subst e
  have hk : k < ds.length := (List.getElem?_eq_some_iff.mp h).1
  unfold atI ixN
  rw [if_pos (by omega), if_pos (by omega)]
  exact h
section
variable {P : Program} {w : World} {K : PySem.W.Frag} {mg : Str → Option Value} {base : Heap} {f : Addr} {fd : FuncData}
theorem c_pick (F : Fun K "_law_pick" "_law_pick" s_pick f fd) (hm : mg "_law_pick" = some (.ref f)) (T : Bt mg) (c_take : Cal P w K mg base 2 "_law_take" (spD K PrTake)) : Cal P w K mg base 3 "_law_pick" (spD K PrPick) := by
  refine cal_of F sc_pick hm (fun _ _ _ _ _ _ us hl => match us, hl with | [_, _], _ => rfl) (fun ds M d M' h => ?_) fun cdv A outer s H E ds M d M' hr h => ?_
  · obtain ⟨a, M0, p, b, es, rfl, _⟩ := h
    rfl
  · obtain ⟨a, M0, p, b, es, rfl, rfl, ok, h1, h2, h3, rfl⟩ := h
    show BV _ _ [some (dP a), some (sq b es)] _ _
    have h1' : (0 : Int) < es.length := by omega
    refine bv_one (sv_ret (ev_ixQ (ev_var 1 rfl) (ev_call c_take (hr.mono (by decide)) (av_cons (ev_var 0 rfl) (av_cons (ev_lenQ T.len (ev_var 1 rfl)) av_nil)) ⟨a, M0, p, es.length, rfl, rfl, ok, h1', by omega, rfl, rfl⟩) (atI_nat h3 ?_)) ⟨rfl, Mle.refl _⟩)
    have := p.take_lo h1'
    omega
theorem c_is_integer (F : Fun K "_law_is_integer" "_law_is_integer" s_is_integer f fd) (hm : mg "_law_is_integer" = some (.ref f)) (T : Bt mg) : Cal P w K mg base 1 "_law_is_integer" (spD K PrIsInt) := by
  refine cal_of F sc_is_integer hm (fun _ _ _ _ _ _ us hl => match us, hl with | [_], _ => rfl) (fun ds M d M' h => ?_) fun cdv A outer s H E ds M d M' hr h => ?_
  · obtain ⟨i, rfl, _⟩ := h
    rfl
  · obtain ⟨i, rfl, rfl, rfl⟩ := h
    show BV _ _ [some (dI i)] _ _
    exact bv_one (sv_ret (ev_andB (ev_isi (r := true) T.isinstance T.int boot_int (ev_var 0 rfl) rfl (by decide +kernel)) (fun h => (ev_one (b := true) (ev_notB (ev_isi (r := false) T.isinstance T.bool boot_bool (ev_var 0 rfl) rfl (by decide +kernel)))))) ⟨rfl, Mle.refl _⟩)
theorem all_true (n : Nat) : ((List.range n).map fun _ => true).all id = true := by
  rw [List.all_map]
  exact List.all_eq_true.mpr fun _ _ => rfl
theorem same_val (T : Bt mg) (c_is_integer : Cal P w K mg base 1 "_law_is_integer" (spD K PrIsInt)) {cdv : Value} {A : Around} {outer : List Env} {s : Shared} {H : Hp} {E : XK} {M' : Mem} {v : V} {n : Nat}
    (hr : Room 1 (A.deeper (envOfC "_law_same" (defScope s_same) s.heap.objs.size f cdv))) (ok : okD n (.val v)) :
    BV (cxOf CX0 P w K mg base ["actual", "due", "k"] "_law_same" (defScope s_same) f cdv A outer s H E).nox (defBody s_same) [some (.val v), some (.val v), none] M' (Fin (dB true) M') := by
  have ok : v = .non ∨ (∃ b, v = .bl b) ∨ (∃ i, v = .int i) ∨ ∃ z, v = .str z := by
    cases n <;> exact ok
  rcases ok with rfl | ⟨b, rfl⟩ | ⟨i, rfl⟩ | ⟨z, rfl⟩
  · refine bv_cons (sv_if (tv_val (ev_isi (r := false) T.isinstance T.tuple boot_tuple (ev_var 1 rfl) rfl (by decide +kernel))) (fun h => nomatch h) (fun _ => bv_nil ?_))
    refine bv_cons (sv_if (tv_val (ev_isi (r := false) T.isinstance T.list boot_list (ev_var 1 rfl) rfl (by decide +kernel))) (fun h => nomatch h) (fun _ => bv_nil ?_))
    refine bv_cons (sv_if (tv_isN (ev_var 1 rfl)) (fun h => ?_) (fun h => nomatch h))
    exact bv_one (sv_ret (ev_isN (ev_var 0 rfl)) ⟨rfl, Mle.refl _⟩)
  · refine bv_cons (sv_if (tv_val (ev_isi (r := false) T.isinstance T.tuple boot_tuple (ev_var 1 rfl) rfl (by decide +kernel))) (fun h => nomatch h) (fun _ => bv_nil ?_))
    refine bv_cons (sv_if (tv_val (ev_isi (r := false) T.isinstance T.list boot_list (ev_var 1 rfl) rfl (by decide +kernel))) (fun h => nomatch h) (fun _ => bv_nil ?_))
    refine bv_cons (sv_if (tv_isN (ev_var 1 rfl)) (fun h => nomatch h) (fun _ => bv_nil ?_))
    refine bv_cons (sv_if (tv_val (ev_isi (r := true) T.isinstance T.bool boot_bool (ev_var 1 rfl) rfl (by decide +kernel))) (fun h => ?_) (fun h => nomatch h))
    refine bv_one (sv_ret (ev_andB (ev_isi (r := true) T.isinstance T.bool boot_bool (ev_var 0 rfl) rfl (by decide +kernel)) (fun h => (ev_one (b := true) (ev_cmpR op_eq (ev_var 0 rfl) (ev_var 1 rfl) rs_eqB (nomark _))))) ⟨?_, Mle.refl _⟩)
    rw [decide_eq_true rfl]
    rfl
  · refine bv_cons (sv_if (tv_val (ev_isi (r := false) T.isinstance T.tuple boot_tuple (ev_var 1 rfl) rfl (by decide +kernel))) (fun h => nomatch h) (fun _ => bv_nil ?_))
    refine bv_cons (sv_if (tv_val (ev_isi (r := false) T.isinstance T.list boot_list (ev_var 1 rfl) rfl (by decide +kernel))) (fun h => nomatch h) (fun _ => bv_nil ?_))
    refine bv_cons (sv_if (tv_isN (ev_var 1 rfl)) (fun h => nomatch h) (fun _ => bv_nil ?_))
    refine bv_cons (sv_if (tv_val (ev_isi (r := false) T.isinstance T.bool boot_bool (ev_var 1 rfl) rfl (by decide +kernel))) (fun h => nomatch h) (fun _ => bv_nil ?_))
    refine bv_cons (sv_if (tv_val (ev_isi (r := false) T.isinstance T.str boot_str (ev_var 1 rfl) rfl (by decide +kernel))) (fun h => nomatch h) (fun _ => bv_nil ?_))
    refine bv_one (sv_ret (ev_andB (p := true) (ev_call c_is_integer (hr.mono (by decide)) (av_cons (ev_var 0 rfl) av_nil) ⟨i, rfl, rfl, rfl⟩) (fun h => (ev_one (b := true) (ev_cmpR op_eq (ev_var 0 rfl) (ev_var 1 rfl) rs_eqI (nomark _))))) ⟨?_, Mle.refl _⟩)
    rw [decide_eq_true rfl]
    rfl
  · refine bv_cons (sv_if (tv_val (ev_isi (r := false) T.isinstance T.tuple boot_tuple (ev_var 1 rfl) rfl (by decide +kernel))) (fun h => nomatch h) (fun _ => bv_nil ?_))
    refine bv_cons (sv_if (tv_val (ev_isi (r := false) T.isinstance T.list boot_list (ev_var 1 rfl) rfl (by decide +kernel))) (fun h => nomatch h) (fun _ => bv_nil ?_))
    refine bv_cons (sv_if (tv_isN (ev_var 1 rfl)) (fun h => nomatch h) (fun _ => bv_nil ?_))
    refine bv_cons (sv_if (tv_val (ev_isi (r := false) T.isinstance T.bool boot_bool (ev_var 1 rfl) rfl (by decide +kernel))) (fun h => nomatch h) (fun _ => bv_nil ?_))
    refine bv_cons (sv_if (tv_val (ev_isi (r := true) T.isinstance T.str boot_str (ev_var 1 rfl) rfl (by decide +kernel))) (fun h => ?_) (fun h => nomatch h))
    refine bv_one (sv_ret (ev_andB (ev_isi (r := true) T.isinstance T.str boot_str (ev_var 0 rfl) rfl (by decide +kernel)) (fun h => (ev_one (b := true) (ev_cmpR op_eq (ev_var 0 rfl) (ev_var 1 rfl) rs_eqS (nomark _))))) ⟨?_, Mle.refl _⟩)
    rw [decide_eq_true rfl]
    rfl
theorem c_same (F : Fun K "_law_same" "_law_same" s_same f fd) (hm : mg "_law_same" = some (.ref f)) (T : Bt mg) (c_is_integer : Cal P w K mg base 1 "_law_is_integer" (spD K PrIsInt)) : ∀ n, Cal P w K mg base (n + 2) "_law_same" (spD K (PrSame n)) := by
  intro n
  induction n with
  | zero =>
    refine cal_of F sc_same hm (fun _ _ _ _ _ _ us hl => match us, hl with | [_, _], _ => rfl) (fun ds M d M' h => ?_) fun cdv A outer s H E ds M d M' hr h => ?_
    · obtain ⟨t, rfl, _⟩ := h
      rfl
    · obtain ⟨t, rfl, ok, rfl, rfl⟩ := h
      show BV _ _ [some t, some t, none] _ _
      cases t with
      | tup ds => exact ok.elim
      | lst ds => exact ok.elim
      | dic => exact ok.elim
      | val v => exact same_val T c_is_integer (hr.mono (by decide)) ok
  | succ n ih =>
    refine cal_of F sc_same hm (fun _ _ _ _ _ _ us hl => match us, hl with | [_, _], _ => rfl) (fun ds M d M' h => ?_) fun cdv A outer s H E ds M d M' hr h => ?_
    · obtain ⟨t, rfl, _⟩ := h
      rfl
    · obtain ⟨t, rfl, ok, rfl, rfl⟩ := h
      show BV _ _ [some t, some t, none] _ _
      have hr0 : Room (n + 2) (A.deeper (envOfC "_law_same" (defScope s_same) s.heap.objs.size f cdv)) := hr
      cases t with
      | tup ds =>
        obtain ⟨hl, hd⟩ := ok
        refine bv_cons (sv_if (tv_val (ev_isi (r := true) T.isinstance T.tuple boot_tuple (ev_var 1 rfl) rfl (by decide +kernel))) (fun _ => ?_) (fun h => nomatch h))
        refine bv_cons (sv_if (PW.pt (wv_or (tv_not (tv_val (ev_isi (r := true) T.isinstance T.tuple boot_tuple (ev_var 0 rfl) rfl (by decide +kernel)))) (fun h => (wv_one_or (tv_cmpR op_ne (ev_lenT T.len (ev_var 0 rfl)) (ev_lenT T.len (ev_var 1 rfl)) rs_neI (nomark _)))))) (fun h => ?_) (fun h => bv_nil ?_))
        · rw [decide_eq_true rfl] at h
          cases h
        · refine bv_one (sv_ret (ev_all (bs := (List.range (rgD 0 ((ds.length : Int)).toNat).length).map fun _ => true) rfl T.all (ev_to (ev_lc (own := [("k", 2)]) (g := gName 2) rfl sc_same.nd (iv_range1 T.range (ev_lenT T.len (ev_var 1 rfl)) (by omega)) (blkOk_by (N := ["actual", "due", "k"]) (sc := defScope s_same) (by decide +kernel)) (fun _ _ _ _ _ => pg_name (i := 2) sc_same.nd rfl (Or.inl rfl)) (fun _ => dB true) (fun _ => M') rfl (fun _ _ h => h) (by rw [rgD_len]; exact Nat.le_trans (by omega : _ ≤ 1000000) (by decide)) (fun i d h => ?_)) (by rw [List.map_map] <;> rfl))) ⟨by rw [all_true], Mle.refl _⟩)
          obtain ⟨hi, rfl⟩ := rgD_get h
          refine ⟨_, tgb_name, fun p acc hp s H C cl fp => ?_⟩
          have hi2 : i < ds.length := by omega
          have hg : ds[i]? = some ds[i] := List.getElem?_eq_getElem hi2
          exact ev_call ih hr0 (av_cons (ev_ixT (ev_var 0 rfl) (ev_var 2 rfl) (atI_nat hg (by omega))) (av_cons (ev_ixT (ev_var 1 rfl) (ev_var 2 rfl) (atI_nat hg (by omega))) av_nil)) ⟨ds[i], rfl, hd _ (List.getElem_mem hi2), rfl, rfl⟩
      | lst ds =>
        obtain ⟨hl, hd⟩ := ok
        refine bv_cons (sv_if (tv_val (ev_isi (r := false) T.isinstance T.tuple boot_tuple (ev_var 1 rfl) rfl (by decide +kernel))) (fun h => nomatch h) (fun _ => bv_nil ?_))
        refine bv_cons (sv_if (tv_val (ev_isi (r := true) T.isinstance T.list boot_list (ev_var 1 rfl) rfl (by decide +kernel))) (fun _ => ?_) (fun h => nomatch h))
        refine bv_cons (sv_if (PW.pt (wv_or (tv_not (tv_val (ev_isi (r := true) T.isinstance T.list boot_list (ev_var 0 rfl) rfl (by decide +kernel)))) (fun h => (wv_one_or (tv_cmpR op_ne (ev_lenL T.len (ev_var 0 rfl)) (ev_lenL T.len (ev_var 1 rfl)) rs_neI (nomark _)))))) (fun h => ?_) (fun h => bv_nil ?_))
        · rw [decide_eq_true rfl] at h
          cases h
        · refine bv_one (sv_ret (ev_all (bs := (List.range (rgD 0 ((ds.length : Int)).toNat).length).map fun _ => true) rfl T.all (ev_to (ev_lc (own := [("k", 2)]) (g := gName 2) rfl sc_same.nd (iv_range1 T.range (ev_lenL T.len (ev_var 1 rfl)) (by omega)) (blkOk_by (N := ["actual", "due", "k"]) (sc := defScope s_same) (by decide +kernel)) (fun _ _ _ _ _ => pg_name (i := 2) sc_same.nd rfl (Or.inl rfl)) (fun _ => dB true) (fun _ => M') rfl (fun _ _ h => h) (by rw [rgD_len]; exact Nat.le_trans (by omega : _ ≤ 1000000) (by decide)) (fun i d h => ?_)) (by rw [List.map_map] <;> rfl))) ⟨by rw [all_true], Mle.refl _⟩)
          obtain ⟨hi, rfl⟩ := rgD_get h
          refine ⟨_, tgb_name, fun p acc hp s H C cl fp => ?_⟩
          have hi2 : i < ds.length := by omega
          have hg : ds[i]? = some ds[i] := List.getElem?_eq_getElem hi2
          exact ev_call ih hr0 (av_cons (ev_ixL (ev_var 0 rfl) (ev_var 2 rfl) (atI_nat hg (by omega))) (av_cons (ev_ixL (ev_var 1 rfl) (ev_var 2 rfl) (atI_nat hg (by omega))) av_nil)) ⟨ds[i], rfl, hd _ (List.getElem_mem hi2), rfl, rfl⟩
      | val v => exact same_val T c_is_integer (hr.mono (by omega)) ok
      | dic => exact ok.elim
end
/-! frames of the memory: but for what stands at a, what stood stands -/
def Fr1 (a : Addr) (M M' : Mem) : Prop := ∀ b, b ≠ a → ∀ o, M b = some o → M' b = some o
theorem Fr1.refl (a : Addr) (M : Mem) : Fr1 a M M := fun _ _ _ h => h
theorem Fr1.trans {a : Addr} {M M1 M2 : Mem} (h : Fr1 a M M1) (k : Fr1 a M1 M2) : Fr1 a M M2 := fun b n o e => k b n o (h b n o e)
theorem Fr1.set {a : Addr} {M M1 : Mem} {o : MO} (h : Fr1 a M M1) : Fr1 a M (M1.set a o) := fun b n u e => by rw [Mem.set_ne n]; exact h b n u e
/-- what is new may change -/
theorem Fr1.new {a l : Addr} {M M1 : Mem} {o : MO} (h : Fr1 a M M1) (hl : M l = none) : Fr1 a M (M1.set l o) := fun b n u e => by
  rw [Mem.set_ne (fun q => by rw [q, hl] at e; cases e)]
  exact h b n u e
theorem Fr1.up {a : Addr} {M M1 M2 : Mem} (h : Fr1 a M M1) (k : Mle M1 M2) : Fr1 a M M2 := fun b n u e => k b u (h b n u e)
theorem mem_eta {M : Mem} {a : Addr} {o : MO} (h : M a = some o) : M.set a o = M := by
  funext b
  unfold Mem.set
  split
  · rename_i e
    rw [e, h]
  · rfl
theorem Fr1.fin {a : Addr} {M M1 : Mem} {o : MO} (h : Fr1 a M M1) (e : M1 a = some o) : Mle (M.set a o) M1 := fun b u q => by
  by_cases n : b = a
  · subst n
    rw [Mem.set_same] at q
    cases q
    exact e
  · rw [Mem.set_ne n] at q
    exact h b n u q
section
variable {X : Cx} {ρ : Sl} {M : Mem} {st : Stmt} {Ψ : Out → Prop}
/-- behind a statement with several ways: J holds on each -/
def joinR (J : Sl → Mem → Prop) (Ψ : Out → Prop) : Out → Prop
  | .nx ρ M => J ρ M
  | .ct ρ M => Ψ (.ct ρ M)
  | .bk ρ M => Ψ (.bk ρ M)
  | .ret d M => Ψ (.ret d M)
theorem sv_join (J : Sl → Mem → Prop) (h : SV X st ρ M (joinR J Ψ)) (k : ∀ ρ M, J ρ M → Ψ (.nx ρ M)) : SV X st ρ M Ψ := sv_to h fun o ho => by
  cases o with
  | nx ρ M => exact k ρ M ho
  | ct ρ M => exact ho
  | bk ρ M => exact ho
  | ret d M => exact ho
end
theorem hu64 {k : Nat} {A : Around} (h : Room k A) : A.units + 64 < cLine := by have := h.un; omega
/-! draws -/
/-- a def that draws from the pool at a: good answers g with their trees -/
def Draw (M : Mem) (a : Addr) (Φ : D → Mem → Prop) (d : D) : Prop := ∀ p' : Pool, p'.Ok → ∀ M', Fr1 a M M' → M' a = some p'.mo → Φ d M'
def R_take (ds : List D) (M : Mem) (Φ : D → Mem → Prop) : Prop := ∃ a p many, ds = [dP a, dI many] ∧ M a = some (Pool.mo p) ∧ p.Ok ∧ 0 < many ∧ many < 1073741824 ∧ ∀ n : Int, 0 ≤ n → n < many → Draw M a Φ (dI n)
def R_pick (ds : List D) (M : Mem) (Φ : D → Mem → Prop) : Prop := ∃ a p b es, ds = [dP a, sq b es] ∧ M a = some (Pool.mo p) ∧ p.Ok ∧ 0 < es.length ∧ es.length < 1073741824 ∧ ∀ d ∈ es, Draw M a Φ d
theorem Cal.spW_of {P : Program} {w : World} {K : PySem.W.Frag} {mg : Str → Option Value} {base : Heap} {k : Nat} {x : Str} {Pr : List D → Mem → D → Mem → Prop} {R : List D → Mem → (D → Mem → Prop) → Prop} (C : Cal P w K mg base k x (spD K Pr)) (h : ∀ ds M Φ, R ds M Φ → ∃ d M', Pr ds M d M' ∧ Φ d M') : Cal P w K mg base k x (spW K R) :=
  C.imp fun vs H Q E ⟨G, ds, M, Φ, sh, r, q, k⟩ =>
    let ⟨d, M', p, f⟩ := h ds M Φ q
    ⟨G, ds, M, d, M', sh, r, p, fun v G' H' g sh' r' => k v G' H' d M' f g sh' r'⟩
section
variable {P : Program} {w : World} {K : PySem.W.Frag} {mg : Str → Option Value} {base : Heap} {f : Addr} {fd : FuncData}
theorem w_take (C : Cal P w K mg base 2 "_law_take" (spD K PrTake)) : Cal P w K mg base 2 "_law_take" (spW K R_take) := C.spW_of fun ds M Φ ⟨a, p, many, e, hA, ok, h0, h1, hΦ⟩ =>
  ⟨_, _, ⟨a, M, p, many, e, (mem_eta hA).symm, ok, h0, h1, rfl, rfl⟩, hΦ _ (p.take_lo h0) (p.take_hi h0) _ (ok.take many) _ (Fr1.refl _ _).set Mem.set_same⟩
theorem w_pick (C : Cal P w K mg base 3 "_law_pick" (spD K PrPick)) : Cal P w K mg base 3 "_law_pick" (spW K R_pick) := C.spW_of fun ds M Φ ⟨a, p, b, es, e, hA, ok, h0, h1, hΦ⟩ => by
  have h0' : (0 : Int) < es.length := by omega
  have t1 := p.take_lo h0'
  have t2 := p.take_hi h0'
  have hlt : (p.take es.length).1.toNat < es.length := by omega
  exact ⟨_, _, ⟨a, M, p, b, es, e, (mem_eta hA).symm, ok, h0, h1, List.getElem?_eq_getElem hlt, rfl⟩, hΦ _ (List.getElem_mem hlt) _ (ok.take _) _ (Fr1.refl _ _).set Mem.set_same⟩
end
/-! the list that a comprehension makes, out of the memory -/
def Mem.del (M : Mem) (p : Addr) : Mem := fun b => if b = p then none else M b
theorem Mem.del_same {M : Mem} {p : Addr} : M.del p p = none := if_pos rfl
theorem Mem.del_ne {M : Mem} {p b : Addr} (h : b ≠ p) : M.del p b = M b := if_neg h
theorem mem_ne {M : Mem} {a p : Addr} {o : MO} (h : M a = some o) (hp : M p = none) : a ≠ p := fun q => by rw [q, hp] at h; cases h
theorem Mem.set_at {M : Mem} {a p : Addr} {o u : MO} (h : M a = some o) (hp : M p = none) : M.set p u a = some o := by rw [Mem.set_ne (mem_ne h hp)]; exact h
/-- behind an element: the list is as it was -/
theorem lc_back {a p : Addr} {M M' : Mem} {o u : MO} (h : M a = some o) (hp : M p = none) (fr : Fr1 a (M.set p u) M') : M' = (M'.del p).set p u ∧ M'.del p p = none ∧ Fr1 a M (M'.del p) ∧ ∀ q, M' a = some q → M'.del p a = some q := by
  have np : p ≠ a := (mem_ne h hp).symm
  have e : M' p = some u := fr p np u Mem.set_same
  refine ⟨?_, Mem.del_same, fun b n v q => ?_, fun q e => ?_⟩
  · funext b
    unfold Mem.set Mem.del
    by_cases hb : b = p
    · rw [if_pos hb, hb]
      exact e
    · rw [if_neg hb, if_neg hb]
  · have nb : b ≠ p := mem_ne q hp
    rw [Mem.del_ne nb]
    exact fr b n v (by rw [Mem.set_ne nb]; exact q)
  · rw [Mem.del_ne (mem_ne h hp)]
    exact e
/-! repr of trees of bounded size -/
def rp : Nat → Nat → D → Prop
  | _, w, .val v => (v = .non ∧ 4 ≤ w) ∨ ((∃ b, v = .bl b) ∧ 5 ≤ w) ∨ (∃ i, v = .int i ∧ i.natAbs.log2 < 1900 ∧ i.natAbs.log2 + 2 ≤ w) ∨ ∃ z, v = .str z ∧ (reprText z).length ≤ w
  | n + 1, w, .tup ds => ∃ w', ds.length * (w' + 2) + 3 ≤ w ∧ ∀ d ∈ ds, rp n w' d
  | n + 1, w, .lst ds => ∃ w', ds.length * (w' + 2) + 3 ≤ w ∧ ∀ d ∈ ds, rp n w' d
  | 0, _, _ => False
  | _ + 1, _, .dic => False
structure RpOk (n w : Nat) (d : D) : Prop where
  pl : D.plain d = true
  nd : d.py.hasDict = false
  ss : d.py.showable = true
  dd : d.py.depth ≤ n
  sz : d.py.shown.length ≤ w
theorem piled_le {w : Nat} : ∀ {ts : List Str}, (∀ t ∈ ts, t.length ≤ w) → piled ts ≤ ts.length * (w + 2)
  | [], _ => Nat.zero_le _
  | t :: ts, h => by
    have a := h t List.mem_cons_self
    have b := piled_le (ts := ts) fun u hu => h u (List.mem_cons_of_mem _ hu)
    rw [piled_cons, List.length_cons, Nat.succ_mul]
    omega
theorem listText_le : ∀ ts : List Str, (listText ts).length ≤ piled ts + 3
  | [] => by decide
  | t :: r => by
    have h := textFrom_length_pos r 1 (("[" : Str) ++ (if (0 : Nat) > 0 then ", " else "" : String) ++ t) (Nat.succ_pos 0)
    have e : (listText (t :: r)).length = (textFrom 1 (("[" : Str) ++ (if (0 : Nat) > 0 then ", " else "" : String) ++ t) r).length + 1 := by
      show (textFrom 1 _ r ++ ("]" : Str)).length = _
      rw [strLen_append]
      rfl
    rw [e, h, piled_cons, strLen_append, strLen_append]
    show 1 + 0 + t.length + _ + 1 ≤ _
    omega
theorem tupleText_le (ts : List Str) : (tupleText ts).length ≤ piled ts + 3 := by
  unfold tupleText
  rw [strLen_append, strLen_append]
  have e1 : ((("(" : String) : Str)).length = 1 := rfl
  have e3 : (((if ts.length == 1 then ",)" else ")" : String) : Str)).length ≤ 2 := by split <;> decide
  have e2 : (Str.join ", " ts).length ≤ piled ts := by
    cases ts with
    | nil => exact Nat.zero_le _
    | cons t r =>
      have := join_length_add (t :: r) (by simp)
      omega
  rw [e1]
  omega
theorem shownAll_eq : ∀ ds : List PyData, PyData.shownAll ds = ds.map PyData.shown
  | [] => by simp only [PyData.shownAll, List.map_nil]
  | d :: ds => by simp only [PyData.shownAll, List.map_cons, shownAll_eq ds]
theorem pyL_eq : ∀ ds : List D, D.pyL ds = ds.map D.py
  | [] => by simp only [D.pyL, List.map_nil]
  | d :: ds => by simp only [D.pyL, List.map_cons, pyL_eq ds]
theorem rp_all {n w : Nat} : ∀ {ds : List D}, (∀ d ∈ ds, RpOk n w d) → D.plainL ds = true ∧ PyData.hasDictAll (D.pyL ds) = false ∧ PyData.showableAll (D.pyL ds) = true ∧ PyData.depthAll (D.pyL ds) ≤ n ∧ (∀ t ∈ PyData.shownAll (D.pyL ds), t.length ≤ w)
  | [], _ => ⟨rfl, by simp [D.pyL, PyData.hasDictAll], by simp [D.pyL, PyData.showableAll], by simp [D.pyL, PyData.depthAll], fun t ht => by simp [D.pyL, PyData.shownAll] at ht⟩
  | d :: ds, h => by
    obtain ⟨a1, a2, a3, a4, a5⟩ := h d List.mem_cons_self
    obtain ⟨b1, b2, b3, b4, b5⟩ := rp_all (ds := ds) fun u hu => h u (List.mem_cons_of_mem _ hu)
    refine ⟨?_, ?_, ?_, ?_, fun t ht => ?_⟩
    · simp only [D.plainL, a1, b1, Bool.and_self]
    · simp only [D.pyL, PyData.hasDictAll, a2, b2, Bool.or_self]
    · simp only [D.pyL, PyData.showableAll, a3, b3, Bool.and_self]
    · simp only [D.pyL, PyData.depthAll]
      omega
    · simp only [D.pyL, PyData.shownAll] at ht
      rcases List.mem_cons.mp ht with rfl | ht
      · exact a5
      · exact b5 t ht
theorem rp_seq {n w : Nat} {ds : List D} {w' : Nat} (hl : ds.length * (w' + 2) + 3 ≤ w) (h : ∀ d ∈ ds, RpOk n w' d) : RpOk (n + 1) w (.tup ds) ∧ RpOk (n + 1) w (.lst ds) := by
  obtain ⟨b1, b2, b3, b4, b5⟩ := rp_all h
  have e : (PyData.shownAll (D.pyL ds)).length = ds.length := by rw [shownAll_eq, pyL_eq, List.length_map, List.length_map]
  have k := piled_le b5
  rw [e] at k
  have k1 := tupleText_le (PyData.shownAll (D.pyL ds))
  have k2 := listText_le (PyData.shownAll (D.pyL ds))
  refine ⟨⟨?_, ?_, ?_, ?_, ?_⟩, ⟨?_, ?_, ?_, ?_, ?_⟩⟩
  · simpa only [D.plain] using b1
  · simpa only [D.py, PyData.hasDict] using b2
  · simpa only [D.py, PyData.showable] using b3
  · simp only [D.py, PyData.depth]; omega
  · simp only [D.py, PyData.shown]; omega
  · simpa only [D.plain] using b1
  · simpa only [D.py, PyData.hasDict] using b2
  · simpa only [D.py, PyData.showable] using b3
  · simp only [D.py, PyData.depth]; omega
  · simp only [D.py, PyData.shown]; omega
theorem rp_ok : ∀ (n w : Nat) (d : D), rp n w d → RpOk n w d
  | n, w, .val v, h => by
    have h : (v = .non ∧ 4 ≤ w) ∨ ((∃ b, v = .bl b) ∧ 5 ≤ w) ∨ (∃ i, v = .int i ∧ i.natAbs.log2 < 1900 ∧ i.natAbs.log2 + 2 ≤ w) ∨ ∃ z, v = .str z ∧ (reprText z).length ≤ w := by
      cases n <;> exact h
    rcases h with ⟨rfl, hw⟩ | ⟨⟨b, rfl⟩, hw⟩ | ⟨i, rfl, hi, hw⟩ | ⟨z, rfl, hw⟩
    · exact ⟨rfl, by simp only [D.py, PyData.hasDict], by simp only [D.py, PyData.showable], by simp only [D.py, PyData.depth, Nat.zero_le], by simp only [D.py, PyData.shown]; exact hw⟩
    · refine ⟨rfl, by simp only [D.py, PyData.hasDict], by simp only [D.py, PyData.showable], by simp only [D.py, PyData.depth, Nat.zero_le], ?_⟩
      simp only [D.py, PyData.shown]
      cases b
      · exact hw
      · exact Nat.le_trans (show 4 ≤ 5 by decide) hw
    · refine ⟨rfl, by simp only [D.py, PyData.hasDict], ?_, by simp only [D.py, PyData.depth, Nat.zero_le], ?_⟩
      · simp only [D.py, PyData.showable, decide_eq_true_eq]
        omega
      · simp only [D.py, PyData.shown]
        have := int_text_length_le (a := i) (k := i.natAbs.log2 + 1) (by omega) (by omega)
        have e : (Str.ofString (toString i)).length = (toString i).length := by
          rw [Str.ofString_eq_toList]
          simp [Str.length, String.length_toList]
        rw [e]
        omega
    · exact ⟨rfl, by simp only [D.py, PyData.hasDict], by simp only [D.py, PyData.showable], by simp only [D.py, PyData.depth, Nat.zero_le], by simp only [D.py, PyData.shown]; exact hw⟩
  | 0, _, .tup _, h => h.elim
  | 0, _, .lst _, h => h.elim
  | 0, _, .dic, h => h.elim
  | _ + 1, _, .dic, h => h.elim
  | n + 1, w, .tup ds, ⟨w', hl, h⟩ => (rp_seq hl fun d hd => rp_ok n w' d (h d hd)).1
  | n + 1, w, .lst ds, ⟨w', hl, h⟩ => (rp_seq hl fun d hd => rp_ok n w' d (h d hd)).2
theorem rp_mono {n w w2 : Nat} : ∀ {d : D}, rp n w d → w ≤ w2 → rp n w2 d
  | .val v, h, hw => by
    have h : (v = .non ∧ 4 ≤ w) ∨ ((∃ b, v = .bl b) ∧ 5 ≤ w) ∨ (∃ i, v = .int i ∧ i.natAbs.log2 < 1900 ∧ i.natAbs.log2 + 2 ≤ w) ∨ ∃ z, v = .str z ∧ (reprText z).length ≤ w := by
      cases n <;> exact h
    have k : (v = .non ∧ 4 ≤ w2) ∨ ((∃ b, v = .bl b) ∧ 5 ≤ w2) ∨ (∃ i, v = .int i ∧ i.natAbs.log2 < 1900 ∧ i.natAbs.log2 + 2 ≤ w2) ∨ ∃ z, v = .str z ∧ (reprText z).length ≤ w2 := by
      rcases h with ⟨rfl, h⟩ | ⟨b, h⟩ | ⟨i, e, h, h2⟩ | ⟨z, e, h⟩
      · exact .inl ⟨rfl, by omega⟩
      · exact .inr (.inl ⟨b, by omega⟩)
      · exact .inr (.inr (.inl ⟨i, e, h, by omega⟩))
      · exact .inr (.inr (.inr ⟨z, e, by omega⟩))
    cases n <;> exact k
  | .tup ds, h, hw => by
    cases n with
    | zero => exact h.elim
    | succ n => obtain ⟨w', hl, h⟩ := h; exact ⟨w', by omega, h⟩
  | .lst ds, h, hw => by
    cases n with
    | zero => exact h.elim
    | succ n => obtain ⟨w', hl, h⟩ := h; exact ⟨w', by omega, h⟩
  | .dic, h, hw => by cases n <;> exact h.elim
theorem rp_int {n w : Nat} {i : Int} (h : i.natAbs < 2 ^ 1000) (hw : 1002 ≤ w) : rp n w (dI i) := by
  have l : i.natAbs.log2 < 1000 := PySem.Flt.log2_lt_of (by decide) h
  cases n <;> exact .inr (.inr (.inl ⟨i, rfl, by omega, by omega⟩))
section
variable {X : Cx} {ρ : Sl} {M M1 : Mem} {e : Expr} {d : D} {pos : Pos}
theorem ev_reprB {p : Pos} {n w k : Nat} (g : X.A.guards = some []) (hr : Room k X.A) (hm : X.mg "repr" = none) (ha : EV X e ρ M d M1) (h : rp n w d) (nv : ∀ v, d ≠ .val v) (hn : n < 60) (hw : w ≤ sizeLine) (hg : Gl X "repr" := by rfl) (hst : starEach [e] X.env = [(false, eval e X.env)] := by rfl) :
    EV X (.Call (.Name "repr" p) [e] [] pos) ρ M (dS d.py.shown) M1 := by
  obtain ⟨h1, h2, h3, h4, h5⟩ := rp_ok n w d h
  exact ev_repr g (hu64 hr) hm ha h1 nv h2 h3 (by omega) (by omega) hg hst
end
/-! great ints -/
def CDivS (_ j : Int) : Prop := j ≠ 0 ∧ j.natAbs.log2 < 9000
def Bd (k : Nat) (i : Int) : Prop := i.natAbs < 2 ^ k
theorem Bd.mono {k l : Nat} {i : Int} (h : Bd k i) (e : k ≤ l) : Bd l i := Nat.lt_of_lt_of_le h (Nat.pow_le_pow_right (by decide) e)
theorem Bd.mul {k l : Nat} {i j : Int} (h : Bd k i) (e : Bd l j) : Bd (k + l) (i * j) := wide_lt h e
theorem Bd.add {k : Nat} {i j : Int} (h : Bd k i) (e : Bd k j) : Bd (k + 1) (i + j) := by
  unfold Bd at *
  rw [Nat.pow_succ]
  omega
theorem Bd.sub {k : Nat} {i j : Int} (h : Bd k i) (e : Bd k j) : Bd (k + 1) (i - j) := by
  unfold Bd at *
  rw [Nat.pow_succ]
  omega
theorem Bd.neg {k : Nat} {i : Int} (h : Bd k i) : Bd k (-i) := by
  unfold Bd at *
  omega
theorem Bd.le {k : Nat} {i j : Int} (h : Bd k i) (e : j.natAbs ≤ i.natAbs) : Bd k j := Nat.lt_of_le_of_lt e h
theorem Bd.of {k : Nat} {i m : Int} (h : -m ≤ i ∧ i ≤ m) (e : m.natAbs < 2 ^ k) : Bd k i := by
  unfold Bd
  omega
theorem Bd.cm {k l : Nat} {i j : Int} (h : Bd k i) (e : Bd l j) (hk : 0 < k := by decide) (hl : 0 < l := by decide) (hs : k + l ≤ 1000000 := by decide) : CMulW i j := wide_mul h e hk hl hs
theorem Bd.cd {l : Nat} {i j : Int} (e : Bd l j) (h : 0 < j) (hl : 0 < l := by decide) (hs : l ≤ 9000 := by decide) : CDivW i j := wide_div h e hl hs
section
variable {X : Cx} {ρ : Sl} {M M1 M2 : Mem} {a b e : Expr} {es : List Expr} {pos : Pos}
theorem op_fdivS : OpR X (binaryOp .FloorDiv) (rI CDivS fun i j => .int (i.fdiv j)) := opI fun _ _ _ _ _ _ _ hc q => floordiv_int hc.1 q (.inl (PyProof.noPylong_of_log2 hc.2))
/-- f(x, y), f a module's name of a built-in function of two ints -/
theorem ev_bf2 {x : Str} {id : String} {p : Pos} {i j : Int} {z : V} {r : List V → Hp → VK → Prop} (hc : CallR X (.builtin id) r) (hm : X.mg x = some (.builtin id)) (ha : EV X a ρ M (dI i) M1) (hb : EV X b ρ M1 (dI j) M2) (hr : ∀ H Q, Q z H → r [.int i, .int j] H Q) (hg : Gl X x := by rfl)
    (hd : (x == ("__debug__" : Str)) = false := by decide) (hst : starEach [a, b] X.env = (false, eval a X.env) :: starEach [b] X.env := by rfl) (hst2 : starEach [b] X.env = [(false, eval b X.env)] := by rfl) (hpl : (backTo pos (starEach [b] X.env)).any (·.1) = false := by rfl) : EV X (.Call (.Name x p) [a, b] [] pos) ρ M (.val z) M2 :=
  (pe_callBfun hc hg hm (av_cons ha (av_cons hb av_nil hst2) hst) (hdb := hd) (he := hst) (hpl := hpl)).mono fun σ H Q ⟨G, sa, k⟩ => ⟨G, sa, fun vs G1 H1 g1 sh1 r1 => by
    rw [RepL.of_vals (xs := [.int i, .int j]) r1]
    exact hr _ _ (k _ G1 H1 g1 sh1 (.val _))⟩
def rLcm : List V → Hp → VK → Prop := fun vs H Q => ∃ a b : Int, vs = [.int a, .int b] ∧ (a.natAbs < 2 ^ 64 ∧ b.natAbs < 2 ^ 64) ∧ Q (.int ((Nat.lcm a.natAbs b.natAbs : Nat) : Int)) H
theorem cr_lcm : CallR X (.builtin "math.lcm") rLcm := by
  intro pins s σ H vs us Q I r h
  obtain ⟨a, b, rfl, ⟨ha, hb⟩, q⟩ := h
  obtain ⟨t, u, rfl⟩ := Vals.int2 r
  have e : (Nat.lcm 1 a.natAbs).lcm b.natAbs = Nat.lcm a.natAbs b.natAbs := by rw [Nat.lcm_one_left]
  have hz : Nat.lcm a.natAbs b.natAbs < 2 ^ 128 := Nat.lt_of_le_of_lt (show a.natAbs * b.natAbs / _ ≤ _ from Nat.div_le_self _ _) (Nat.lt_of_lt_of_eq (Nat.mul_lt_mul'' ha hb) (by decide))
  refine PySem.W.mg_lcm ha hb ?_ ⟨.int _, H, I.tok _, ⟨_, rfl⟩, ?_⟩
  · rw [e, Int.natAbs_natCast]
    exact Nat.lt_trans (PySem.Flt.log2_lt_of (by decide) hz) (by decide)
  · rw [e]
    exact q
end
/-! ### fractions in lowest terms -/
def gz (n d : Int) : Int := ((Nat.gcd n.natAbs d.natAbs : Nat) : Int)
def low (n d : Int) : Int × Int := (n / gz n d, d / gz n d)
def frD (p : Int × Int) : D := .tup [dI p.1, dI p.2]
def frac (n d : Int) : Int × Int := (n.fdiv (if d < 0 then -gz n d else gz n d), d.fdiv (if d < 0 then -gz n d else gz n d))
theorem gz_pos {n d : Int} (h : d ≠ 0) : 0 < gz n d := by
  have := Nat.gcd_pos_of_pos_right n.natAbs (Int.natAbs_pos.mpr h)
  unfold gz
  omega
theorem gz_dl (n d : Int) : gz n d ∣ n := by
  unfold gz
  exact Int.ofNat_dvd_left.mpr (Nat.gcd_dvd_left _ _)
theorem gz_dr (n d : Int) : gz n d ∣ d := by
  unfold gz
  exact Int.ofNat_dvd_left.mpr (Nat.gcd_dvd_right _ _)
theorem gz_neg (n d : Int) : gz (-n) (-d) = gz n d := by
  unfold gz
  rw [Int.natAbs_neg, Int.natAbs_neg]
theorem fdiv_neg_ex {n g : Int} (hg : 0 < g) (h : g ∣ n) : n.fdiv (-g) = -n / g := by
  obtain ⟨q, rfl⟩ := h
  have e1 : g * q = -g * -q := by rw [Int.neg_mul_neg]
  have e2 : -(g * q) = g * -q := by rw [Int.mul_neg]
  rw [e2, Int.mul_ediv_cancel_left _ (by omega), e1, Int.mul_fdiv_cancel_left _ (by omega)]
theorem frac_pos {n d : Int} (h : 0 < d) : frac n d = low n d := by
  have g := gz_pos (n := n) (show d ≠ 0 by omega)
  unfold frac low
  rw [if_neg (by omega), Int.fdiv_eq_ediv_of_nonneg _ (by omega), Int.fdiv_eq_ediv_of_nonneg _ (by omega)]
theorem frac_neg {n d : Int} (h : d < 0) : frac n d = low (-n) (-d) := by
  have g := gz_pos (n := n) (show d ≠ 0 by omega)
  unfold frac low
  rw [if_pos h, gz_neg, fdiv_neg_ex g (gz_dl n d), fdiv_neg_ex g (gz_dr n d)]
theorem gz_mul {n d c : Int} (hc : 0 < c) : gz (n * c) (d * c) = gz n d * c := by
  unfold gz
  rw [Int.natAbs_mul, Int.natAbs_mul, Nat.gcd_mul_right, Int.natCast_mul]
  congr 1
  omega
theorem low_mul {n d c : Int} (hd : d ≠ 0) (hc : 0 < c) : low (n * c) (d * c) = low n d := by
  have g := gz_pos (n := n) hd
  unfold low
  rw [gz_mul hc, Int.mul_ediv_mul_of_pos_left _ _ hc, Int.mul_ediv_mul_of_pos_left _ _ hc]
theorem low_cross {n d n' d' : Int} (hd : 0 < d) (hd' : 0 < d') (h : n * d' = n' * d) : low n d = low n' d' := by
  rw [← low_mul (show d ≠ 0 by omega) hd', ← low_mul (n := n') (show d' ≠ 0 by omega) hd, h, Int.mul_comm d d']
theorem low_den {n d : Int} (hd : 0 < d) : 0 < (low n d).2 := by
  have g := gz_pos (n := n) (show d ≠ 0 by omega)
  exact Int.ediv_pos_of_pos_of_dvd hd (by omega) (gz_dr n d)
theorem low_eq {n d : Int} (hd : 0 < d) : (low n d).1 * d = n * (low n d).2 := by
  have g := gz_pos (n := n) (show d ≠ 0 by omega)
  obtain ⟨a, ha⟩ := gz_dl n d
  obtain ⟨b, hb⟩ := gz_dr n d
  show n / gz n d * d = n * (d / gz n d)
  have e1 : n / gz n d = a := by
    rw [Int.ediv_eq_iff_eq_mul_right (by omega) (gz_dl n d)]
    exact ha
  have e2 : d / gz n d = b := by
    rw [Int.ediv_eq_iff_eq_mul_right (by omega) (gz_dr n d)]
    exact hb
  rw [e1, e2]
  calc a * d = a * (gz n d * b) := by rw [← hb]
    _ = gz n d * a * b := by rw [← Int.mul_assoc, Int.mul_comm a]
    _ = n * b := by rw [← ha]
theorem low_bd1 {n d : Int} {k : Nat} (h : Bd k n) : Bd k (low n d).1 := h.le (by
  show (n / gz n d).natAbs ≤ n.natAbs
  exact Int.natAbs_ediv_le_natAbs _ _)
theorem low_bd2 {n d : Int} {k : Nat} (h : Bd k d) : Bd k (low n d).2 := h.le (by
  show (d / gz n d).natAbs ≤ d.natAbs
  exact Int.natAbs_ediv_le_natAbs _ _)
theorem low_num {n d : Int} (hn : 0 < n) (hd : 0 < d) : 0 < (low n d).1 := by
  have g := gz_pos (n := n) (show d ≠ 0 by omega)
  exact Int.ediv_pos_of_pos_of_dvd hn (by omega) (gz_dl n d)
theorem low_dvd (n d : Int) : (low n d).2 ∣ d := by
  obtain ⟨b, hb⟩ := gz_dr n d
  by_cases h : gz n d = 0
  · rw [hb, h, Int.zero_mul]
    exact ⟨0, by rw [Int.mul_zero]⟩
  · refine ⟨gz n d, ?_⟩
    show d = d / gz n d * gz n d
    rw [Int.ediv_mul_cancel (gz_dr n d)]
/-! Euclid's steps -/
structure Euc (P g i x y : Nat) : Prop where
  gc : Nat.gcd x y = g
  pr : x * y * 2 ^ (i - 1) ≤ P
  le : 1 ≤ i → y ≤ x
theorem Euc.step {P g i x y : Nat} (h : Euc P g i x y) (hy : 0 < y) : Euc P g (i + 1) y (x % y) := by
  refine ⟨?_, ?_, fun _ => Nat.le_of_lt (Nat.mod_lt _ hy)⟩
  · rw [← h.gc, Nat.gcd_comm x y, Nat.gcd_rec y x, Nat.gcd_comm]
  · rw [Nat.add_sub_cancel]
    cases i with
    | zero =>
      refine Nat.le_trans ?_ h.pr
      rw [Nat.mul_comm x y]
      exact Nat.mul_le_mul_right _ (Nat.mul_le_mul_left _ (Nat.mod_le _ _))
    | succ i =>
      have hle := h.le (by omega)
      have key : y * (x % y) * 2 ≤ x * y := by
        have r1 := Nat.mod_lt x hy
        have r2 := Nat.div_add_mod x y
        have q1 : 1 ≤ x / y := (Nat.le_div_iff_mul_le hy).mpr (by omega)
        have q2 : y * 1 ≤ y * (x / y) := Nat.mul_le_mul_left _ q1
        have : x % y * 2 ≤ x := by omega
        rw [Nat.mul_assoc, Nat.mul_comm x y]
        exact Nat.mul_le_mul_left _ this
      have p := h.pr
      rw [Nat.add_sub_cancel] at p
      calc y * (x % y) * 2 ^ (i + 1) = y * (x % y) * 2 * 2 ^ i := by rw [Nat.pow_succ, Nat.mul_comm (2 ^ i) 2, Nat.mul_assoc (y * (x % y)) 2]
        _ ≤ x * y * 2 ^ i := Nat.mul_le_mul_right _ key
        _ ≤ P := p
theorem Euc.end_ {P g k x y : Nat} (h : Euc P g (k + 1) x y) (hP : P < 2 ^ k) : y = 0 := by
  have p := h.pr
  rw [Nat.add_sub_cancel] at p
  have l := h.le (by omega)
  rcases Nat.eq_zero_or_pos y with e | e
  · exact e
  · exfalso
    have : 1 ≤ x * y := Nat.mul_pos (by omega) e
    have := Nat.mul_le_mul_right (2 ^ k) this
    omega
theorem mod_int {x y : Nat} : (x : Int) - (y : Int) * ((x : Int) / (y : Int)) = ((x % y : Nat) : Int) := by
  rw [Int.natCast_emod, Int.emod_def]
def PrLow (ds : List D) (M : Mem) (d : D) (M' : Mem) : Prop := ∃ n k : Int, ds = [dI n, dI k] ∧ 0 < k ∧ Bd 900 n ∧ Bd 900 k ∧ d = frD (low n k) ∧ M' = M
section
variable {P : Program} {w : World} {K : PySem.W.Frag} {mg : Str → Option Value} {base : Heap} {f : Addr} {fd : FuncData}
theorem c_lowest (F : Fun K "_law_lowest" "_law_lowest" s_lowest f fd) (hm : mg "_law_lowest" = some (.ref f)) (T : Bt mg) (ha : mg "abs" = none) : Cal P w K mg base 1 "_law_lowest" (spD K PrLow) := by
  refine cal_of F sc_lowest hm (fun _ _ _ _ _ _ us hl => match us, hl with | [_, _], _ => rfl) (fun ds M d M' h => ?_) fun cdv A outer s H E ds M d M' hr h => ?_
  · obtain ⟨n, k, rfl, _⟩ := h
    rfl
  · obtain ⟨n, k, rfl, h0, hn, hk, rfl, rfl⟩ := h
    show BV _ _ [some (dI n), some (dI k), none, none, none] _ _
    refine bv_cons (sw_par 2 3 rfl sc_lowest.nd (aw_av (av_cons (ev_abs ha (ev_var 0 rfl)) (av_cons (ev_var 1 rfl) av_nil)) ⟨_, _, rfl, ?_⟩))
    have eabs : (if n < 0 then -n else n) = ((n.natAbs : Nat) : Int) := by split <;> omega
    have ek : k = ((k.natAbs : Nat) : Int) := by omega
    rw [eabs]
    refine bv_cons (sv_join (fun ρ M => ∃ x y t, ρ = [some (dI n), some (dI k), some (dI x), some y, t] ∧ M = M' ∧ x = gz n k) ?_ ?_)
    · refine sw_for rfl (pg_name (i := 4) sc_lowest.nd rfl (.inl rfl)) (iw_iv (iv_range1 T.range ev_int (by decide)) ⟨fun i ρ M => ∃ (x y : Nat) (t : Option D), ρ = [some (dI n), some (dI k), some (dI x), some (dI y), t] ∧ M = M' ∧ Bd 900 x ∧ Bd 900 y ∧ Euc (n.natAbs * k.natAbs) (Nat.gcd n.natAbs k.natAbs) i x y, ?_, fun i d ρ' M1 hd iv => ?_, fun ρ' M1 iv => ?_⟩)
      · refine ⟨n.natAbs, k.natAbs, none, by rw [← ek]; rfl, rfl, ?_, ?_, rfl, ?_, fun h => by omega⟩
        · exact hn.le (by omega)
        · exact hk.le (by omega)
        · show n.natAbs * k.natAbs * 2 ^ 0 ≤ _
          omega
      · obtain ⟨x, y, t, rfl, rfl, bx, hy, eu⟩ := iv
        refine ⟨_, tg_name, ?_⟩
        refine bv_cons (sv_if (tv_cmpR op_eq (ev_var 3 rfl) ev_int rs_eqI (nomark _)) (fun h => ?_) (fun h => bv_nil ?_))
        · have y0 : y = 0 := by have := of_decide_eq_true h; omega
          subst y0
          refine bv_one (sv_break ⟨_, _, _, rfl, rfl, ?_⟩)
          have := eu.gc
          rw [Nat.gcd_zero_right] at this
          rw [this]
          rfl
        · have y0 : 0 < y := by have := of_decide_eq_false h; omega
          have q0 : Bd 900 ((x : Int) / (y : Int)) := bx.le (Int.natAbs_ediv_le_natAbs _ _)
          refine bv_one (sw_par 2 3 rfl sc_lowest.nd (aw_av (av_cons (ev_var 3 rfl) (av_cons (ev_op op_sub (ev_var 2 rfl) (ev_op op_mulW (ev_var 3 rfl) (ev_intI T.int (ev_op op_fdivW (ev_var 2 rfl) (ev_var 3 rfl) (rs_I (hy.cd (by omega))))) (rs_I (hy.cm q0))) rs_I0) av_nil)) ⟨_, _, rfl, ?_⟩))
          rw [mod_int]
          refine ⟨y, x % y, _, rfl, rfl, hy, ?_, eu.step y0⟩
          refine hy.le ?_
          have := Nat.mod_lt x y0
          omega
      · obtain ⟨x, y, t, rfl, rfl, bx, hy, eu⟩ := iv
        rw [rgD_len] at eu
        have y0 := Euc.end_ (k := 1999) eu (by
          refine Nat.lt_of_lt_of_le (Nat.mul_lt_mul'' hn hk) ?_
          rw [← Nat.pow_add]
          exact Nat.pow_le_pow_right (by decide) (by decide))
        subst y0
        refine ⟨_, _, _, rfl, rfl, ?_⟩
        have := eu.gc
        rw [Nat.gcd_zero_right] at this
        rw [this]
        rfl
    · rintro ρ M ⟨x, y, t, rfl, rfl, rfl⟩
      have g0 := gz_pos (n := n) (show k ≠ 0 by omega)
      have gb : Bd 900 (gz n k) := by
        refine hk.le ?_
        have := Nat.gcd_le_right n.natAbs (show 0 < k.natAbs by omega)
        unfold gz
        omega
      exact bv_one (sv_ret (ev_tup (av_cons (ev_op op_fdivW (ev_var 0 rfl) (ev_var 2 rfl) (rs_I (gb.cd g0))) (av_cons (ev_op op_fdivW (ev_var 1 rfl) (ev_var 2 rfl) (rs_I (gb.cd g0))) av_nil))) ⟨rfl, Mle.refl _⟩)
theorem low_at {n k : Int} (h : 0 < k) (hn : Bd 900 n) (hk : Bd 900 k) {M : Mem} : PrLow [dI n, dI k] M (frD (low n k)) M := ⟨n, k, rfl, h, hn, hk, rfl, rfl⟩
end
theorem okD_int {n : Nat} (i : Int) : okD n (dI i) := by cases n <;> exact .inr (.inr (.inl ⟨i, rfl⟩))
theorem okD_bool {n : Nat} (b : Bool) : okD n (dB b) := by cases n <;> exact .inr (.inl ⟨b, rfl⟩)
theorem okD_fr (p : Int × Int) : okD 1 (frD p) := ⟨by show 2 ≤ 1000000; decide, fun d hd => by
  rcases List.mem_cons.mp hd with rfl | hd
  · exact okD_int _
  · rcases List.mem_cons.mp hd with rfl | hd
    · exact okD_int _
    · cases hd⟩
section
variable {X : Cx} {ρ : Sl} {M : Mem} {rest : List Stmt} {Ψ : Out → Prop} {ds : List D}
theorem mem_del_set {M : Mem} {l : Addr} {o : MO} (h : M l = some o) : (M.del l).set l o = M := by
  funext b
  unfold Mem.set Mem.del
  by_cases hb : b = l
  · rw [if_pos hb, hb, h]
  · rw [if_neg hb, if_neg hb]
/-- the list at p is changed no more -/
theorem bv_still (i : Nat) {p : Addr} (hρ : ρ[i]? = some (some (dP p))) (hm : M p = some (.lst ds)) (h : BV X rest (ρ.set i (some (.lst ds))) (M.del p) Ψ) : BV X rest ρ M Ψ := by
  have q := bv_freeze (M := M.del p) i hρ Mem.del_same h
  rwa [mem_del_set hm] at q
end
def Pool.tone1 (p : Pool) : Int × Pool := if ((p.take 15).2.take 12).1 = 0 then ((((p.take 15).2.take 12).2.take 101).1 - 50, (((p.take 15).2.take 12).2.take 101).2) else ((p.take 15).1 - 7, ((p.take 15).2.take 12).2)
def Pool.tone (p : Pool) : Int × Int × Pool := (p.tone1.1, (p.tone1.2.take 7).1 - 4 * p.tone1.1 / 7, (p.tone1.2.take 7).2)
theorem Pool.Ok.tone1 {p : Pool} (ok : p.Ok) : p.tone1.2.Ok := by
  unfold Pool.tone1
  split
  · exact ((ok.take _).take _).take _
  · exact (ok.take _).take _
theorem Pool.Ok.tone {p : Pool} (ok : p.Ok) : p.tone.2.2.Ok := ok.tone1.take _
theorem Pool.tone_bd (p : Pool) : (-50 ≤ p.tone.1 ∧ p.tone.1 ≤ 50) ∧ -100 ≤ p.tone.2.1 ∧ p.tone.2.1 ≤ 100 := by
  have h1 : -50 ≤ p.tone1.1 ∧ p.tone1.1 ≤ 50 := by
    unfold Pool.tone1
    have a1 := p.take_lo (many := 15) (by decide)
    have a2 := p.take_hi (many := 15) (by decide)
    have b1 := ((p.take 15).2.take 12).2.take_lo (many := 101) (by decide)
    have b2 := ((p.take 15).2.take 12).2.take_hi (many := 101) (by decide)
    split
    · exact ⟨by show -50 ≤ _ - 50; omega, by show _ - 50 ≤ (50 : Int); omega⟩
    · exact ⟨by show -50 ≤ _ - 7; omega, by show _ - 7 ≤ (50 : Int); omega⟩
  have c1 := p.tone1.2.take_lo (many := 7) (by decide)
  have c2 := p.tone1.2.take_hi (many := 7) (by decide)
  refine ⟨h1, ?_, ?_⟩
  · show -100 ≤ (p.tone1.2.take 7).1 - 4 * p.tone1.1 / 7
    omega
  · show (p.tone1.2.take 7).1 - 4 * p.tone1.1 / 7 ≤ 100
    omega
def PrTone (ds : List D) (M : Mem) (d : D) (M' : Mem) : Prop := ∃ a M0 p, ds = [dP a] ∧ M = Mem.set M0 a (Pool.mo p) ∧ p.Ok ∧ d = .tup [dI p.tone.1, dI p.tone.2.1] ∧ M' = M0.set a p.tone.2.2.mo
section
variable {P : Program} {w : World} {K : PySem.W.Frag} {mg : Str → Option Value} {base : Heap} {f : Addr} {fd : FuncData}
theorem c_tone (F : Fun K "_law_tone" "_law_tone" s_tone f fd) (hm : mg "_law_tone" = some (.ref f)) (T : Bt mg) (c_take : Cal P w K mg base 2 "_law_take" (spD K PrTake)) : Cal P w K mg base 3 "_law_tone" (spD K PrTone) := by
  refine cal_of F sc_tone hm (fun _ _ _ _ _ _ us hl => match us, hl with | [_], _ => rfl) (fun ds M d M' h => ?_) fun cdv A outer s H E ds M d M' hr h => ?_
  · obtain ⟨a, M0, p, rfl, _⟩ := h
    rfl
  · obtain ⟨a, M0, p, rfl, rfl, ok, rfl, rfl⟩ := h
    show BV _ _ [some (dP a), none] _ _
    have rest : ∀ g q, p.tone1 = (g, q) → q.Ok → BV (cxOf CX0 P w K mg base ["pool", "fifths"] "_law_tone" (defScope s_tone) f cdv A outer s H E).nox ((defBody s_tone).drop 2) [some (dP a), some (dI g)] (M0.set a q.mo) (Fin (.tup [dI p.tone.1, dI p.tone.2.1]) (M0.set a p.tone.2.2.mo)) := fun g q e okq => by
      have e1 : p.tone = (g, (q.take 7).1 - 4 * g / 7, (q.take 7).2) := by unfold Pool.tone; rw [e]
      rw [e1]
      exact bv_one (sv_ret (ev_tup (av_cons (ev_var 1 rfl) (av_cons (ev_op op_sub (ev_call c_take (hr.mono (by decide)) (av_cons (ev_var 0 rfl) (av_cons ev_int av_nil)) ⟨a, M0, q, 7, rfl, rfl, okq, by decide, by decide, rfl, rfl⟩) (ev_intI T.int (ev_op op_fdiv (ev_op op_mul ev_int (ev_var 1 rfl) (rs_I (cm_l (by decide) (by decide)))) ev_int (rs_I ⟨by decide, by decide⟩))) rs_I0) av_nil))) ⟨rfl, Mle.refl _⟩)
    refine bv_cons (sv_set 1 sc_tone.nd (ev_op op_sub (ev_call c_take (hr.mono (by decide)) (av_cons (ev_var 0 rfl) (av_cons ev_int av_nil)) ⟨a, M0, p, 15, rfl, rfl, ok, by decide, by decide, rfl, rfl⟩) ev_int rs_I0) ?_)
    refine bv_cons (sv_if (tv_cmpR op_eq (ev_call c_take (hr.mono (by decide)) (av_cons (ev_var 0 rfl) (av_cons ev_int av_nil)) ⟨a, M0, (p.take 15).2, 12, rfl, rfl, ok.take _, by decide, by decide, rfl, rfl⟩) ev_int rs_eqI (nomark _)) (fun h => ?_) (fun h => ?_))
    · exact bv_one (sv_set 1 sc_tone.nd (ev_op op_sub (ev_call c_take (hr.mono (by decide)) (av_cons (ev_var 0 rfl) (av_cons ev_int av_nil)) ⟨a, M0, ((p.take 15).2.take 12).2, 101, rfl, rfl, (ok.take _).take _, by decide, by decide, rfl, rfl⟩) ev_int rs_I0) (rest _ _ (if_pos (of_decide_eq_true h)) (((ok.take _).take _).take _)))
    · exact bv_nil (rest _ _ (if_neg (of_decide_eq_false h)) ((ok.take _).take _))
end
def R_tone (ds : List D) (M : Mem) (Φ : D → Mem → Prop) : Prop := ∃ a p, ds = [dP a] ∧ M a = some (Pool.mo p) ∧ p.Ok ∧ ∀ f o : Int, (-50 ≤ f ∧ f ≤ 50) → (-100 ≤ o ∧ o ≤ 100) → Draw M a Φ (.tup [dI f, dI o])
theorem w_tone {P : Program} {w : World} {K : PySem.W.Frag} {mg : Str → Option Value} {base : Heap} (C : Cal P w K mg base 3 "_law_tone" (spD K PrTone)) : Cal P w K mg base 3 "_law_tone" (spW K R_tone) := C.spW_of fun ds M Φ ⟨a, p, e, hA, ok, hΦ⟩ =>
  ⟨_, _, ⟨a, M, p, e, (mem_eta hA).symm, ok, rfl, rfl⟩, hΦ _ _ p.tone_bd.1 p.tone_bd.2 _ ok.tone _ (Fr1.refl _ _).set Mem.set_same⟩
/-! ### bars -/
abbrev Tn := Int × Int
structure Col where
  dur : Tn
  acc : Int
  ents : List (Option (Tn × Bool))
def entQ (b : Bool) : Option (Tn × Bool) → D
  | none => dN
  | some (t, g) => sq b [sq b [dI t.1, dI t.2], dB g]
def colQ (b : Bool) (c : Col) : D := sq b [sq b [dI c.dur.1, dI c.dur.2], dI c.acc, sq b (c.ents.map (entQ b))]
def barQ (b1 b2 : Bool) (bar : List Col) : D := sq b1 (bar.map (colQ b2))
abbrev colD : Col → D := colQ false
abbrev barD : List Col → D := barQ false false
structure Red (p : Tn) : Prop where
  d0 : 0 < p.2
  one : gz p.1 p.2 = 1
theorem Red.low {p : Tn} (h : Red p) : Vt.low p.1 p.2 = p := by
  unfold Vt.low
  rw [h.one, Int.ediv_one, Int.ediv_one]
theorem low_red {n d : Int} (h : 0 < d) : Red (low n d) := by
  refine ⟨low_den h, ?_⟩
  have g := gz_pos (n := n) (show d ≠ 0 by omega)
  obtain ⟨a, ha⟩ := gz_dl n d
  obtain ⟨b, hb⟩ := gz_dr n d
  have e1 : n / gz n d = a := by
    rw [Int.ediv_eq_iff_eq_mul_right (by omega) (gz_dl n d)]
    exact ha
  have e2 : d / gz n d = b := by
    rw [Int.ediv_eq_iff_eq_mul_right (by omega) (gz_dr n d)]
    exact hb
  show gz (n / gz n d) (d / gz n d) = 1
  rw [e1, e2]
  have k : gz (a * gz n d) (b * gz n d) = gz a b * gz n d := gz_mul g
  rw [Int.mul_comm a, Int.mul_comm b, ← ha, ← hb] at k
  have k2 : (gz a b - 1) * gz n d = 0 := by rw [Int.sub_mul, ← k, Int.one_mul, Int.sub_self]
  rcases Int.mul_eq_zero.mp k2 with z | z
  · omega
  · omega
structure DurOk (p : Tn) : Prop where
  red : Red p
  n0 : 0 < p.1
  nb : p.1 ≤ 1000
  db : p.2 ≤ 1000
theorem low_le {n d : Int} (hd : 0 < d) (hn : 0 < n) : (low n d).1 ≤ n ∧ (low n d).2 ≤ d := by
  have g := gz_pos (n := n) (show d ≠ 0 by omega)
  exact ⟨Int.ediv_le_self _ (by omega), Int.ediv_le_self _ (by omega)⟩
theorem low_durOk {n d : Int} (hn : 0 < n) (hd : 0 < d) (hn2 : n ≤ 1000) (hd2 : d ≤ 1000) : DurOk (low n d) := by
  have l := low_le hd hn
  exact ⟨low_red hd, low_num hn hd, by omega, by omega⟩
structure ColOk (TP : Tn → Prop) (v : Nat) (c : Col) : Prop where
  dur : DurOk c.dur
  acc : 0 ≤ c.acc ∧ c.acc ≤ 9
  len : c.ents.length = v
  ton : ∀ t g, some (t, g) ∈ c.ents → TP t
theorem ents_at {c : Col} {b : Bool} {i : Nat} (h : i < c.ents.length) : (c.ents.map (entQ b))[i]? = some (entQ b c.ents[i]) := by
  rw [List.getElem?_map, List.getElem?_eq_getElem h]
  rfl
theorem bd_small {i : Int} {k : Nat} (h : 0 ≤ i ∧ i ≤ 100000) (hk : 20 ≤ k) : Bd k i := (Bd.of (m := 100000) (k := 20) (by omega) (by decide)).mono hk
def R_duration (ds : List D) (M : Mem) (Φ : D → Mem → Prop) : Prop := ∃ a p, ds = [dP a] ∧ M a = some (Pool.mo p) ∧ p.Ok ∧ ∀ t, DurOk t → Draw M a Φ (frD t)
def optC : Option Col → D
  | none => dN
  | some c => colD c
def R_column (ds : List D) (M : Mem) (Φ : D → Mem → Prop) : Prop := ∃ (a : Addr) (p : Pool) (v : Nat) (before : Option Col) (ts : List Tn) (TP : Tn → Prop), ds = [dP a, dI ((v : Nat) : Int), optC before, .lst (ts.map frD)] ∧ M a = some (Pool.mo p) ∧ p.Ok ∧ v ≤ 1000 ∧ (0 < ts.length ∧ ts.length ≤ 1000) ∧ (∀ t ∈ ts, TP t) ∧ (∀ c, before = some c → ColOk TP v c) ∧ ∀ c, ColOk TP v c → Draw M a Φ (colD c)
def TnS (t : Tn) : Prop := (-50 ≤ t.1 ∧ t.1 ≤ 50) ∧ -100 ≤ t.2 ∧ t.2 ≤ 100
def R_bar (ds : List D) (M : Mem) (Φ : D → Mem → Prop) : Prop := ∃ (a : Addr) (p : Pool) (v : Nat) (most : Int), ds = [dP a, dI ((v : Nat) : Int), dI most] ∧ M a = some (Pool.mo p) ∧ p.Ok ∧ v ≤ 1000 ∧ (0 < most ∧ most ≤ 1000) ∧ ∀ bar : List Col, 0 < bar.length → (bar.length : Int) ≤ most → (∀ c ∈ bar, ColOk TnS v c) → Draw M a Φ (barD bar)
mutual
def lstD : D → D
  | .val v => .val v
  | .lst ds => .lst ds
  | .dic => .dic
  | .tup ds => .lst (lstDL ds)
def lstDL : List D → List D
  | [] => []
  | d :: ds => lstD d :: lstDL ds
end
theorem lstDL_eq : ∀ ds : List D, lstDL ds = ds.map lstD
  | [] => by simp only [lstDL, List.map_nil]
  | d :: ds => by simp only [lstDL, List.map_cons, lstDL_eq ds]
theorem lst_ent (e : Option (Tn × Bool)) : lstD (entQ false e) = entQ true e := by
  cases e with
  | none => simp only [entQ, lstD]
  | some e =>
    obtain ⟨t, g⟩ := e
    simp only [entQ, sq, lstD, lstDL, Bool.false_eq_true, if_false, if_true]
theorem lst_col (c : Col) : lstD (colQ false c) = colQ true c := by
  have e : (c.ents.map (entQ false)).map lstD = c.ents.map (entQ true) := by
    rw [List.map_map]
    exact List.map_congr_left fun x _ => lst_ent x
  simp only [colQ, sq, lstD, lstDL, Bool.false_eq_true, if_false, if_true, lstDL_eq, e]
theorem lst_bar (bar : List Col) : lstD (barD bar) = barQ true true bar := by
  have e : (bar.map (colQ false)).map lstD = bar.map (colQ true) := by
    rw [List.map_map]
    exact List.map_congr_left fun x _ => lst_col x
  simp only [barQ, sq, lstD, Bool.false_eq_true, if_false, if_true, lstDL_eq, e]
/-- trees of tuples that end in plain values -/
def tupD : Nat → D → Prop
  | _, .val v => v = .non ∨ (∃ b, v = .bl b) ∨ (∃ i, v = .int i) ∨ ∃ z, v = .str z
  | n + 1, .tup ds => ds.length ≤ 1000000 ∧ ∀ d ∈ ds, tupD n d
  | _, _ => False
def PrListed (n : Nat) (ds : List D) (M : Mem) (d : D) (M' : Mem) : Prop := ∃ t, ds = [t] ∧ tupD n t ∧ d = lstD t ∧ M' = M
theorem tup_int {n : Nat} (i : Int) : tupD n (dI i) := by cases n <;> exact .inr (.inr (.inl ⟨i, rfl⟩))
theorem tup_bool {n : Nat} (b : Bool) : tupD n (dB b) := by cases n <;> exact .inr (.inl ⟨b, rfl⟩)
theorem tup_none {n : Nat} : tupD n dN := by cases n <;> exact .inl rfl
theorem tup_two {n : Nat} {a b : D} (ha : tupD n a) (hb : tupD n b) : tupD (n + 1) (.tup [a, b]) := ⟨by show 2 ≤ 1000000; decide, fun d hd => by
  rcases List.mem_cons.mp hd with rfl | hd
  · exact ha
  · rcases List.mem_cons.mp hd with rfl | hd
    · exact hb
    · cases hd⟩
theorem tup_three {n : Nat} {a b c : D} (ha : tupD n a) (hb : tupD n b) (hc : tupD n c) : tupD (n + 1) (.tup [a, b, c]) := ⟨by show 3 ≤ 1000000; decide, fun d hd => by
  rcases List.mem_cons.mp hd with rfl | hd
  · exact ha
  · rcases List.mem_cons.mp hd with rfl | hd
    · exact hb
    · rcases List.mem_cons.mp hd with rfl | hd
      · exact hc
      · cases hd⟩
theorem tup_ent (e : Option (Tn × Bool)) : tupD 2 (entQ false e) := by
  cases e with
  | none => exact tup_none
  | some e => exact tup_two (tup_two (tup_int _) (tup_int _)) (tup_bool _)
theorem tup_col {c : Col} (h : c.ents.length ≤ 1000) : tupD 4 (colD c) := by
  refine tup_three (tup_two (tup_int _) (tup_int _)) (tup_int _) ⟨by rw [List.length_map]; omega, fun d hd => ?_⟩
  obtain ⟨e, _, rfl⟩ := List.mem_map.mp hd
  exact tup_ent e
theorem tup_bar {bar : List Col} (hb : bar.length ≤ 10000) (h : ∀ c ∈ bar, c.ents.length ≤ 1000) : tupD 5 (barD bar) := by
  refine ⟨by rw [List.length_map]; omega, fun d hd => ?_⟩
  obtain ⟨c, hc, rfl⟩ := List.mem_map.mp hd
  exact tup_col (h c hc)
theorem okD_of_tup : ∀ {n : Nat} {d : D}, tupD n d → okD n d
  | 0, .val _, h => h
  | _ + 1, .val _, h => h
  | n + 1, .tup _, h => ⟨h.1, fun d hd => okD_of_tup (h.2 d hd)⟩
  | 0, .tup _, h => h.elim
  | 0, .lst _, h => h.elim
  | _ + 1, .lst _, h => h.elim
theorem bar_snoc (bar : List Col) (c : Col) : barD (bar ++ [c]) = .tup (bar.map colD ++ [colD c]) := by
  show D.tup ((bar ++ [c]).map colD) = _
  rw [List.map_append]
  rfl
section
variable {P : Program} {w : World} {K : PySem.W.Frag} {mg : Str → Option Value} {base : Heap} {f : Addr} {fd : FuncData}
theorem c_duration (F : Fun K "_law_duration" "_law_duration" s_duration f fd) (hm : mg "_law_duration" = some (.ref f)) (T : Bt mg) (c_take : Cal P w K mg base 2 "_law_take" (spW K R_take)) (c_pick : Cal P w K mg base 3 "_law_pick" (spW K R_pick)) (c_lowest : Cal P w K mg base 1 "_law_lowest" (spD K PrLow)) : Cal P w K mg base 4 "_law_duration" (spW K R_duration) := by
  refine calW_of F sc_duration hm (fun _ _ _ _ _ _ us hl => match us, hl with | [_], _ => rfl) (fun ds M Φ h => ?_) fun cdv A outer s H E ds M Φ hr h => ?_
  · obtain ⟨a, p, rfl, _⟩ := h
    rfl
  · obtain ⟨a, p, rfl, hA, ok, hΦ⟩ := h
    show BV _ _ [some (dP a)] _ _
    refine bv_cons (sw_if ?_)
    refine tw_cmp op_eq ?_ (nomark _)
    refine ew_callW c_take (hr.mono (by decide)) (aw_av (av_cons (ev_var 0 rfl) (av_cons ev_int av_nil)) ⟨a, p, _, rfl, hA, ok, by decide, by decide, fun n1 lo1 hi1 p1 ok1 M1 fr1 hA1 => ⟨_, rfl, ?_⟩⟩)
    refine ew_ev ev_int ⟨_, _, rfl, rs_eqI, ⟨fun h => ?_, fun h => bv_nil ?_⟩⟩
    · refine bv_one (sw_ret ?_)
      refine ew_callD c_lowest (hr.mono (by decide)) ?_
      refine aw_cons ?_
      refine ew_op op_add ?_
      refine ew_ev ev_int ⟨_, rfl, ?_⟩
      refine ew_callW c_take (hr.mono (by decide)) (aw_av (av_cons (ev_var 0 rfl) (av_cons ev_int av_nil)) ⟨a, p1, _, rfl, hA1, ok1, by decide, by decide, fun n2 lo2 hi2 p2 ok2 M2 fr2 hA2 => ⟨_, _, rfl, rs_I0, ?_⟩⟩)
      refine aw_cons ?_
      refine ew_op op_add ?_
      refine ew_ev ev_int ⟨_, rfl, ?_⟩
      refine ew_callW c_take (hr.mono (by decide)) (aw_av (av_cons (ev_var 0 rfl) (av_cons ev_int av_nil)) ⟨a, p2, _, rfl, hA2, ok2, by decide, by decide, fun n3 lo3 hi3 p3 ok3 M3 fr3 hA3 => ⟨_, _, rfl, rs_I0, ?_⟩⟩)
      exact aw_nil ⟨_, _, low_at (by omega) (bd_small (by omega) (by decide)) (bd_small (by omega) (by decide)), _, hΦ _ (low_durOk (by omega) (by omega) (by omega) (by omega)) p3 ok3 _ ((fr1.trans fr2).trans fr3) hA3, Mle.refl _⟩
    · refine bv_one (sw_ret ?_)
      refine ew_callD c_lowest (hr.mono (by decide)) ?_
      refine aw_cons ?_
      refine ew_op op_add ?_
      refine ew_ev ev_int ⟨_, rfl, ?_⟩
      refine ew_callW c_take (hr.mono (by decide)) (aw_av (av_cons (ev_var 0 rfl) (av_cons ev_int av_nil)) ⟨a, p1, _, rfl, hA1, ok1, by decide, by decide, fun n2 lo2 hi2 p2 ok2 M2 fr2 hA2 => ⟨_, _, rfl, rs_I0, ?_⟩⟩)
      refine aw_cons ?_
      refine ew_callW c_pick (hr.mono (by decide)) (aw_av (av_cons (ev_var 0 rfl) (av_cons (ev_lst (av_cons ev_int (av_cons ev_int (av_cons ev_int (av_cons ev_int (av_cons ev_int (av_cons ev_int (av_cons ev_int (av_cons ev_int av_nil))))))))) av_nil)) ⟨a, p2, true, _, rfl, hA2, ok2, by simp, by simp, fun d3 g3 p3 ok3 M3 fr3 hA3 => ?_⟩)
      have h3 : ∃ k : Int, d3 = dI k ∧ 0 < k ∧ k ≤ 16 := by
        simp only [List.mem_cons, List.not_mem_nil, or_false] at g3
        rcases g3 with rfl | rfl | rfl | rfl | rfl | rfl | rfl | rfl <;> exact ⟨_, rfl, by decide, by decide⟩
      obtain ⟨k, rfl, k0, k1⟩ := h3
      exact aw_nil ⟨_, _, low_at (by omega) (bd_small (by omega) (by decide)) (bd_small (by omega) (by decide)), _, hΦ _ (low_durOk (by omega) (by omega) (by omega) (by omega)) p3 ok3 _ ((fr1.trans fr2).trans fr3) hA3, Mle.refl _⟩
theorem c_column (F : Fun K "_law_column" "_law_column" s_column f fd) (hm : mg "_law_column" = some (.ref f)) (T : Bt mg) (c_take : Cal P w K mg base 2 "_law_take" (spW K R_take)) (c_pick : Cal P w K mg base 3 "_law_pick" (spW K R_pick)) (c_duration : Cal P w K mg base 4 "_law_duration" (spW K R_duration)) : Cal P w K mg base 5 "_law_column" (spW K R_column) := by
  refine calW_of F sc_column hm (fun _ _ _ _ _ _ us hl => match us, hl with | [_, _, _, _], _ => rfl) (fun ds M Φ h => ?_) fun cdv A outer s H E ds M Φ hr h => ?_
  · obtain ⟨a, p, v, before, ts, TP, rfl, _⟩ := h
    rfl
  · obtain ⟨a, p, v, before, ts, TP, rfl, hA, ok, hv, hts, tp, bok, hΦ⟩ := h
    show BV _ _ [some (dP a), some (dI ((v : Nat) : Int)), some (optC before), some (.lst (ts.map frD)), none, none, none, none, none, none] _ _
    refine bv_cons (sv_set 4 sc_column.nd (ev_tup av_nil) ?_)
    refine bv_cons (sw_for rfl (pg_name (i := 5) sc_column.nd rfl (.inl rfl)) ?_)
    refine iw_iv (iv_range1 T.range (ev_var 1 rfl) (by omega)) ⟨fun i ρ M1 => ∃ (x5 x6 x7 x8 x9 : Option D) (q : Pool) (es : List (Option (Tn × Bool))), ρ = [some (dP a), some (dI ((v : Nat) : Int)), some (optC before), some (.lst (ts.map frD)), some (.tup (es.map (entQ false))), x5, x6, x7, x8, x9] ∧ Fr1 a M M1 ∧ M1 a = some q.mo ∧ q.Ok ∧ es.length = i ∧ ∀ t g, some (t, g) ∈ es → TP t, ⟨none, none, none, none, none, p, [], rfl, Fr1.refl _ _, hA, ok, rfl, fun t g h => absurd h List.not_mem_nil⟩, fun i d ρ' M' hd iv => ?_, fun ρ' M' iv => ?_⟩
    · obtain ⟨x5, x6, x7, x8, x9, q, es, rfl, fr, hA, ok, len, hes⟩ := iv
      obtain ⟨hi, rfl⟩ := rgD_get hd
      have hi : i < v := by omega
      refine ⟨_, tg_name, ?_⟩
      refine bv_cons (sw_set 6 sc_column.nd ?_)
      refine ew_callW c_take (hr.mono (by decide)) (aw_av (av_cons (ev_var 0 rfl) (av_cons ev_int av_nil)) ⟨a, q, _, rfl, hA, ok, by decide, by decide, fun n1 lo1 hi1 p1 ok1 M1 fr1 hA1 => ?_⟩)
      refine bv_cons (sw_set 7 sc_column.nd ?_)
      refine ew_tup ?_
      refine aw_cons ?_
      refine ew_callW c_pick (hr.mono (by decide)) (aw_av (av_cons (ev_var 0 rfl) (av_cons (ev_var 3 rfl) av_nil)) ⟨a, p1, true, _, rfl, hA1, ok1, by rw [List.length_map]; exact hts.1, by rw [List.length_map]; omega, fun d2 g2 p2 ok2 M2 fr2 hA2 => ?_⟩)
      obtain ⟨t, ht, rfl⟩ := List.mem_map.mp g2
      have tpt := tp t ht
      refine aw_cons (ew_ev ev_bl ?_)
      refine aw_nil ⟨by (simp only [List.length_cons, List.length_nil]; decide), ?_⟩
      refine bv_cons (sv_join (fun ρ M => ∃ (x8 x9 : Option D) (q : Pool) (e : Option (Tn × Bool)), ρ = [some (dP a), some (dI ((v : Nat) : Int)), some (optC before), some (.lst (ts.map frD)), some (.tup (es.map (entQ false))), some (dI (0 + (i : Int))), some (dI n1), some (entQ false e), x8, x9] ∧ Fr1 a M2 M ∧ M a = some q.mo ∧ q.Ok ∧ ∀ t g, e = some (t, g) → TP t) ?_ ?_)
      · refine sv_if (tv_cmpR op_eq (ev_var 6 rfl) ev_int rs_eqI (nomark _)) (fun h => ?_) (fun h => ?_)
        · exact bv_one (sv_set 7 sc_column.nd ev_non ⟨_, _, p2, none, rfl, Fr1.refl _ _, hA2, ok2, fun _ _ h => nomatch h⟩)
        · refine bv_one (sv_if (tv_cmpR op_lt (ev_var 6 rfl) ev_int rs_I0 (nomark _)) (fun h => ?_) (fun h => bv_nil ⟨_, _, p2, some (t, true), rfl, Fr1.refl _ _, hA2, ok2, fun t' g' h => by cases h; exact tpt⟩))
          cases before with
          | none =>
            refine bv_cons (sw_set 8 sc_column.nd (ew_if (tw_tv (tv_isNn (ev_var 2 rfl)) ⟨fun _ => ew_ev ev_non ?_, fun h => nomatch h⟩)))
            refine bv_cons (sw_set 9 sc_column.nd (ew_if (PW.pt (ww_and (tw_tv (tv_notNn (ev_var 8 rfl)) ⟨fun h => (nomatch h), fun _ => ⟨fun h => (nomatch h), fun _ => ew_ev (ev_ixT (ev_var 7 rfl) ev_int rfl) ?_⟩⟩)))))
            exact bv_one (sv_set 7 sc_column.nd (ev_tup (av_cons (ev_var 9 rfl) (av_cons ev_bl av_nil))) ⟨_, _, p2, some (t, false), rfl, Fr1.refl _ _, hA2, ok2, fun t' g' h => by cases h; exact tpt⟩)
          | some c =>
            have cok := bok c rfl
            have hic : i < c.ents.length := by rw [cok.len]; exact hi
            refine bv_cons (sw_set 8 sc_column.nd (ew_if (tw_tv (tv_isNn (ev_var 2 rfl)) ⟨fun h => (nomatch h), fun _ => ew_ev (ev_ixT (ds := c.ents.map (entQ false)) (ev_ixT (ev_var 2 rfl) ev_int rfl) (ev_var 5 rfl) (atI_nat (ents_at hic) (by omega))) ?_⟩)))
            have htc : ∀ t g, c.ents[i] = some (t, g) → TP t := fun t g h => cok.ton t g (by rw [← h]; exact List.getElem_mem hic)
            generalize c.ents[i] = e0 at htc ⊢
            cases e0 with
            | none =>
              refine bv_cons (sw_set 9 sc_column.nd (ew_if (PW.pt (ww_and (tw_tv (tv_notNn (ev_var 8 rfl)) ⟨fun h => (nomatch h), fun _ => ⟨fun h => (nomatch h), fun _ => ew_ev (ev_ixT (ev_var 7 rfl) ev_int rfl) ?_⟩⟩)))))
              exact bv_one (sv_set 7 sc_column.nd (ev_tup (av_cons (ev_var 9 rfl) (av_cons ev_bl av_nil))) ⟨_, _, p2, some (t, false), rfl, Fr1.refl _ _, hA2, ok2, fun t' g' h => by cases h; exact tpt⟩)
            | some e0 =>
              obtain ⟨t0, g0⟩ := e0
              refine bv_cons (sw_set 9 sc_column.nd ?_)
              refine ew_if ?_
              refine PW.pt ?_
              refine ww_and (tw_tv (tv_notNn (ev_var 8 rfl)) ⟨fun _ => ?_, fun h => nomatch h⟩)
              refine ww_one_and ?_
              refine tw_cmp op_gt ?_ (nomark _)
              refine ew_callW c_take (hr.mono (by decide)) (aw_av (av_cons (ev_var 0 rfl) (av_cons ev_int av_nil)) ⟨a, p2, _, rfl, hA2, ok2, by decide, by decide, fun n3 lo3 hi3 p3 ok3 M3 fr3 hA3 => ⟨_, rfl, ?_⟩⟩)
              refine ew_ev ev_int ⟨_, _, rfl, rs_I0, ⟨fun h => ?_, fun h => ?_⟩⟩
              · refine ew_ev (ev_ixT (ev_var 8 rfl) ev_int rfl) ?_
                exact bv_one (sv_set 7 sc_column.nd (ev_tup (av_cons (ev_var 9 rfl) (av_cons ev_bl av_nil))) ⟨_, _, p3, some (t0, false), rfl, fr3, hA3, ok3, fun t' g' h => by cases h; exact htc _ _ rfl⟩)
              · refine ew_ev (ev_ixT (ev_var 7 rfl) ev_int rfl) ?_
                exact bv_one (sv_set 7 sc_column.nd (ev_tup (av_cons (ev_var 9 rfl) (av_cons ev_bl av_nil))) ⟨_, _, p3, some (t, false), rfl, fr3, hA3, ok3, fun t' g' h => by cases h; exact tpt⟩)
      · rintro ρ M' ⟨x8, x9, q, e, rfl, fr3, hA3, ok3, he⟩
        refine bv_one (sv_set 4 sc_column.nd (ev_catT (ev_var 4 rfl) (ev_tup (av_cons (ev_var 7 rfl) av_nil)) ?_) ?_)
        · rw [List.length_map, len]
          exact Nat.le_trans (show i + 1 ≤ 1000 by omega) (by decide)
        · refine ⟨_, _, _, _, _, q, es ++ [e], by rw [List.map_append]; rfl, ((fr.trans fr1).trans fr2).trans fr3, hA3, ok3, by rw [List.length_append, len]; rfl, fun t g h => ?_⟩
          rcases List.mem_append.mp h with h | h
          · exact hes t g h
          · exact he t g (List.mem_singleton.mp h).symm
    · obtain ⟨x5, x6, x7, x8, x9, q, es, rfl, fr, hA, ok, len, hes⟩ := iv
      rw [rgD_len] at len
      refine bv_one (sw_ret ?_)
      refine ew_tup ?_
      refine aw_cons ?_
      refine ew_callW c_duration (hr.mono (by decide)) (aw_av (av_cons (ev_var 0 rfl) av_nil) ⟨a, q, rfl, hA, ok, fun t ht p1 ok1 M1 fr1 hA1 => ?_⟩)
      refine aw_cons ?_
      refine ew_if ?_
      refine tw_cmp op_eq ?_ (nomark _)
      refine ew_callW c_take (hr.mono (by decide)) (aw_av (av_cons (ev_var 0 rfl) (av_cons ev_int av_nil)) ⟨a, p1, _, rfl, hA1, ok1, by decide, by decide, fun n2 lo2 hi2 p2 ok2 M2 fr2 hA2 => ⟨_, rfl, ?_⟩⟩)
      refine ew_ev ev_int ⟨_, _, rfl, rs_eqI, ⟨fun h => ?_, fun h => ?_⟩⟩
      · refine ew_callW c_take (hr.mono (by decide)) (aw_av (av_cons (ev_var 0 rfl) (av_cons ev_int av_nil)) ⟨a, p2, _, rfl, hA2, ok2, by decide, by decide, fun n3 lo3 hi3 p3 ok3 M3 fr3 hA3 => ?_⟩)
        refine aw_cons (ew_ev (ev_var 4 rfl) ?_)
        exact aw_nil ⟨by (simp only [List.length_cons, List.length_nil]; decide), _, hΦ ⟨t, n3, es⟩ ⟨ht, by show 0 ≤ n3 ∧ n3 ≤ 9; omega, by show es.length = v; omega, hes⟩ p3 ok3 _ (((fr.trans fr1).trans fr2).trans fr3) hA3, Mle.refl _⟩
      · refine ew_ev ev_int ?_
        refine aw_cons (ew_ev (ev_var 4 rfl) ?_)
        exact aw_nil ⟨by (simp only [List.length_cons, List.length_nil]; decide), _, hΦ ⟨t, 0, es⟩ ⟨ht, by show (0 : Int) ≤ 0 ∧ (0 : Int) ≤ 9; decide, by show es.length = v; omega, hes⟩ p2 ok2 _ ((fr.trans fr1).trans fr2) hA2, Mle.refl _⟩
end
section
variable {X : Cx} {ρ : Sl} {M M1 M2 M3 : Mem} {pos : Pos} {x : Str}
theorem ev_gI {i : Int} (h : ∃ t, X.mg x = some (.int i t)) (hg : Gl X x := by rfl) (hd : (x == ("__debug__" : Str)) = false := by decide) : EV X (.Name x pos) ρ M (dI i) M := by
  obtain ⟨t, h⟩ := h
  exact ev_glob hg h ⟨t, rfl⟩ hd
theorem ev_gS {z : Str} (h : ∃ t, X.mg x = some (.str z t)) (hg : Gl X x := by rfl) (hd : (x == ("__debug__" : Str)) = false := by decide) : EV X (.Name x pos) ρ M (dS z) M := by
  obtain ⟨t, h⟩ := h
  exact ev_glob hg h ⟨t, rfl⟩ hd
end
theorem dropAt {α : Type} {cs : List α} {k : Nat} {c : α} (h : cs[k]? = some c) : cs.drop k = c :: cs.drop (k + 1) := by
  obtain ⟨hk, e⟩ := List.getElem?_eq_some_iff.mp h
  rw [← e]
  exact List.drop_eq_getElem_cons hk
theorem ev_bty {X : Cx} {ρ : Sl} {M : Mem} {x : Str} {T : String} {p : Pos} (hm : X.mg x = none) (hv : bootBuiltins x = some (.type T)) (hg : Gl X x := by rfl) (hn : x ≠ "__name__" := by decide) (hd : (x == ("__debug__" : Str)) = false := by decide) : EV X (.Name x p) ρ M (.val (.ty T)) M :=
  ⟨fun pins s σ H Q I ⟨G, sa, k⟩ => ld_blt I hg hm hv ⟨.ty T, H, I, rfl, k _ G H (Same.refl G) sa.sh (.val _)⟩ hn hd⟩
theorem no_any {K : PySem.W.Frag} {cls c1 c2 : Value} (e1 : PySem.W.exmOne K cls c1 = some false) (e2 : PySem.W.exmOne K cls c2 = some false) : PySem.W.exmAny K cls [c1, c2] = some false := by
  simp only [PySem.W.exmAny, e1, e2]
  rfl
theorem kit_own {K : PySem.W.Frag} {cls : Value} {C : Addr} {b : Bool} (hb : b = true) (h1 : PySem.W.subIn K (.ref C) (.type "BaseException") = some true) (hd : PySem.W.hasDictIn K C = true) (ht : PySem.W.typeIn K (.ref C) = some (.type "type")) (h4 : PySem.W.subIn K cls (.ref C) = some b) : PySem.W.kitOne K cls (.ref C) = some b := by
  have e := PySem.W.exm_ref h1 hd ht h4
  unfold PySem.W.exmOne at e
  rw [if_pos (by rw [h1]; rfl)] at e
  unfold PySem.W.kitOne
  split
  · rw [hb]
  · exact e
theorem kit_bt {K : PySem.W.Frag} {cls : Value} {t : String} (hm : PySem.W.kitMeta t = true) (h : PySem.W.subIn K cls (.type t) = some true) : PySem.W.kitOne K cls (.type t) = some true := by
  unfold PySem.W.kitOne
  split
  · rfl
  · show (if PySem.W.kitMeta t = true then PySem.W.subIn K cls (.type t) else none) = some true
    rw [if_pos hm]
    exact h
/-! ### kinds of things -/
def kD : Nat → D → Prop
  | _, .val v => v = .non ∨ (∃ b, v = .bl b) ∨ (∃ i, v = .int i) ∨ ∃ z, v = .str z
  | _, .dic => True
  | n + 1, .tup ds => ds.length ≤ 1000000 ∧ ∀ d ∈ ds, kD n d
  | n + 1, .lst ds => ds.length ≤ 1000000 ∧ ∀ d ∈ ds, kD n d
  | 0, .tup _ => False
  | 0, .lst _ => False
def rowD : D → Bool
  | .tup _ => true
  | .lst _ => true
  | _ => false
def partsD : D → List D
  | .tup ds => ds
  | .lst ds => ds
  | _ => []
def partD (d : D) (i : Nat) : D := (partsD d).getD i dN
def numD : D → Bool
  | .val (.int _) => true
  | _ => false
def boolD : D → Bool
  | .val (.bl _) => true
  | _ => false
def wholeD (lo hi : Int) : D → Bool
  | .val (.int i) => decide (lo ≤ i) && decide (i ≤ hi)
  | _ => false
def intD : D → Int
  | .val (.int i) => i
  | _ => 0
def pairD (d : D) : Bool := rowD d && decide ((partsD d).length = 2)
def toneD (d : D) : Bool := pairD d && (partsD d).all (wholeD (-1000) 1000)
def shortD (d : D) : Bool := (pairD d && (partsD d).all (wholeD 1 1000)) && decide (((Nat.gcd (intD (partD d 0)).natAbs (intD (partD d 1)).natAbs : Nat) : Int) = 1)
theorem rowD_sq {d : D} (h : rowD d = true) : ∃ b ds, d = sq b ds ∧ partsD d = ds := by
  cases d with
  | tup ds => exact ⟨false, ds, rfl, rfl⟩
  | lst ds => exact ⟨true, ds, rfl, rfl⟩
  | val v => cases h
  | dic => cases h
theorem rowD_of {b : Bool} {ds : List D} : rowD (sq b ds) = true := by cases b <;> rfl
theorem partsD_of {b : Bool} {ds : List D} : partsD (sq b ds) = ds := by cases b <;> rfl
theorem kD_sq {n : Nat} {b : Bool} {ds : List D} (h : kD (n + 1) (sq b ds)) : ds.length ≤ 1000000 ∧ ∀ d ∈ ds, kD n d := by cases b <;> exact h
theorem kD_sq0 {n : Nat} {b : Bool} {ds : List D} (h : kD n (sq b ds)) : ∃ m, n = m + 1 ∧ ds.length ≤ 1000000 ∧ ∀ d ∈ ds, kD m d := by
  cases n with
  | zero => cases b <;> exact h.elim
  | succ m => exact ⟨m, rfl, kD_sq h⟩
theorem kD_mk {n : Nat} {b : Bool} {ds : List D} (hl : ds.length ≤ 1000000) (h : ∀ d ∈ ds, kD n d) : kD (n + 1) (sq b ds) := by cases b <;> exact ⟨hl, h⟩
theorem kD_int {n : Nat} (i : Int) : kD n (dI i) := by cases n <;> exact .inr (.inr (.inl ⟨i, rfl⟩))
theorem kD_bool {n : Nat} (b : Bool) : kD n (dB b) := by cases n <;> exact .inr (.inl ⟨b, rfl⟩)
theorem kD_str {n : Nat} (z : Str) : kD n (dS z) := by cases n <;> exact .inr (.inr (.inr ⟨z, rfl⟩))
theorem kD_none {n : Nat} : kD n dN := by cases n <;> exact .inl rfl
theorem kD_dic {n : Nat} : kD n .dic := by cases n <;> trivial
theorem kD_val {n : Nat} {v : V} (h : kD n (.val v)) : v = .non ∨ (∃ b, v = .bl b) ∨ (∃ i, v = .int i) ∨ ∃ z, v = .str z := by cases n <;> exact h
theorem kD_up : ∀ {n : Nat} {d : D}, kD n d → kD (n + 1) d
  | n, .val v, h => by cases n <;> exact h
  | n, .dic, _ => kD_dic
  | 0, .tup _, h => h.elim
  | 0, .lst _, h => h.elim
  | n + 1, .tup _, h => ⟨h.1, fun d hd => kD_up (h.2 d hd)⟩
  | n + 1, .lst _, h => ⟨h.1, fun d hd => kD_up (h.2 d hd)⟩
theorem kD_le {n m : Nat} {d : D} (h : kD n d) (hm : n ≤ m) : kD m d := by
  induction hm with
  | refl => exact h
  | step _ ih => exact kD_up ih
theorem kD_ty {n : Nat} {d : D} (h : kD n d) : ∃ t, tyD d = some t ∧ (t = "NoneType" ∨ t = "bool" ∨ t = "int" ∨ t = "str" ∨ t = "tuple" ∨ t = "list" ∨ t = "dict") := by
  cases d with
  | val v =>
    rcases kD_val h with rfl | ⟨b, rfl⟩ | ⟨i, rfl⟩ | ⟨z, rfl⟩
    · exact ⟨_, rfl, .inl rfl⟩
    · exact ⟨_, rfl, .inr (.inl rfl)⟩
    · exact ⟨_, rfl, .inr (.inr (.inl rfl))⟩
    · exact ⟨_, rfl, .inr (.inr (.inr (.inl rfl)))⟩
  | tup ds => exact ⟨_, rfl, .inr (.inr (.inr (.inr (.inl rfl))))⟩
  | lst ds => exact ⟨_, rfl, .inr (.inr (.inr (.inr (.inr (.inl rfl)))))⟩
  | dic => exact ⟨_, rfl, .inr (.inr (.inr (.inr (.inr (.inr rfl)))))⟩
theorem getD_at {ds : List D} {i : Nat} (h : i < ds.length) : ds[i]? = some (ds.getD i dN) := by
  rw [List.getD_eq_getElem?_getD, List.getElem?_eq_getElem h]
  rfl
theorem two_of {ds : List D} (h : ds.length = 2) : ds = [ds.getD 0 dN, ds.getD 1 dN] := by
  match ds, h with
  | [_, _], _ => rfl
theorem three_of {ds : List D} (h : ds.length = 3) : ds = [ds.getD 0 dN, ds.getD 1 dN, ds.getD 2 dN] := by
  match ds, h with
  | [_, _, _], _ => rfl
theorem whole_int {lo hi : Int} {d : D} (h : wholeD lo hi d = true) : ∃ i, d = dI i ∧ lo ≤ i ∧ i ≤ hi := by
  cases d with
  | val v =>
    cases v with
    | int i =>
      have := (Bool.and_eq_true_iff.mp h)
      exact ⟨i, rfl, of_decide_eq_true this.1, of_decide_eq_true this.2⟩
    | _ => cases h
  | _ => cases h
section
variable {P : Program} {w : World} {K : PySem.W.Frag} {mg : Str → Option Value} {base : Heap} {f : Addr} {fd : FuncData}
def PrRow (ds : List D) (M : Mem) (d : D) (M' : Mem) : Prop := ∃ t n, ds = [t] ∧ kD n t ∧ d = dB (rowD t) ∧ M' = M
theorem c_p_is_row (F : Fun K "is_row" "is_row" s_p_is_row f fd) (hm : mg "is_row" = some (.ref f)) (T : Bt mg) : Cal P w K mg base 1 "is_row" (spD K PrRow) := by
  refine cal_of F sc_p_is_row hm (fun _ _ _ _ _ _ us hl => match us, hl with | [_], _ => rfl) (fun ds M d M' h => ?_) fun cdv A outer s H E ds M d M' hr h => ?_
  · obtain ⟨t, n, rfl, _⟩ := h
    rfl
  · obtain ⟨t, n, rfl, hk, rfl, rfl⟩ := h
    show BV _ _ [some t] _ _
    cases t with
    | val v =>
      rcases kD_val hk with rfl | ⟨b, rfl⟩ | ⟨i, rfl⟩ | ⟨z, rfl⟩
      all_goals exact bv_one (sv_ret (ev_isi2 (r1 := false) (r2 := false) T.isinstance T.list boot_list T.tuple boot_tuple (ev_var 0 rfl) rfl (by decide +kernel) (by decide +kernel)) ⟨rfl, Mle.refl _⟩)
    | tup ds => exact bv_one (sv_ret (ev_isi2 (r1 := false) (r2 := true) T.isinstance T.list boot_list T.tuple boot_tuple (ev_var 0 rfl) rfl (by decide +kernel) (by decide +kernel)) ⟨rfl, Mle.refl _⟩)
    | lst ds => exact bv_one (sv_ret (ev_isi2 (r1 := true) (r2 := false) T.isinstance T.list boot_list T.tuple boot_tuple (ev_var 0 rfl) rfl (by decide +kernel) (by decide +kernel)) ⟨rfl, Mle.refl _⟩)
    | dic => exact bv_one (sv_ret (ev_isi2 (r1 := false) (r2 := false) T.isinstance T.list boot_list T.tuple boot_tuple (ev_var 0 rfl) rfl (by decide +kernel) (by decide +kernel)) ⟨rfl, Mle.refl _⟩)
theorem ev_lenS2 {X : Cx} {ρ : Sl} {M M1 : Mem} {e : Expr} {b : Bool} {ds : List D} {p pos : Pos} (hm : X.mg "len" = none) (ha : EV X e ρ M (sq b ds) M1) (hg : Gl X "len" := by rfl) (hst : starEach [e] X.env = [(false, eval e X.env)] := by rfl) : EV X (.Call (.Name "len" p) [e] [] pos) ρ M (dI ds.length) M1 := by
  cases b with
  | true => exact ev_lenL hm ha hg hst
  | false => exact ev_lenT hm ha hg hst
def PrPair (ds : List D) (M : Mem) (d : D) (M' : Mem) : Prop := ∃ t n, ds = [t] ∧ kD n t ∧ d = dB (pairD t) ∧ M' = M
theorem c_p_is_pair (F : Fun K "is_pair" "is_pair" s_p_is_pair f fd) (hm : mg "is_pair" = some (.ref f)) (T : Bt mg) (c_p_is_row : Cal P w K mg base 1 "is_row" (spD K PrRow)) : Cal P w K mg base 2 "is_pair" (spD K PrPair) := by
  refine cal_of F sc_p_is_pair hm (fun _ _ _ _ _ _ us hl => match us, hl with | [_], _ => rfl) (fun ds M d M' h => ?_) fun cdv A outer s H E ds M d M' hr h => ?_
  · obtain ⟨t, n, rfl, _⟩ := h
    rfl
  · obtain ⟨t, n, rfl, hk, rfl, rfl⟩ := h
    show BV _ _ [some t] _ _
    refine bv_one (sv_ret (ev_andB (p := rowD t) (q := decide (((partsD t).length : Int) = 2)) (ev_call c_p_is_row (hr.mono (by decide)) (av_cons (ev_var 0 rfl) av_nil) ⟨t, n, rfl, hk, rfl, rfl⟩) (fun h => ?_)) ⟨?_, Mle.refl _⟩)
    · obtain ⟨b, ds, rfl, e⟩ := rowD_sq h
      rw [e]
      exact ev_one (b := true) (ev_cmpR op_eq (ev_lenS2 T.len (ev_var 0 rfl)) ev_int rs_eqI (nomark _))
    · unfold pairD
      rw [show decide (((partsD t).length : Int) = 2) = decide ((partsD t).length = 2) from decide_eq_decide.mpr ⟨fun h => by omega, fun h => by omega⟩]
def PrNum (ds : List D) (M : Mem) (d : D) (M' : Mem) : Prop := ∃ t n, ds = [t] ∧ kD n t ∧ d = dB (numD t) ∧ M' = M
theorem c_p_is_number (F : Fun K "is_number" "is_number" s_p_is_number f fd) (hm : mg "is_number" = some (.ref f)) (T : Bt mg) : Cal P w K mg base 1 "is_number" (spD K PrNum) := by
  refine cal_of F sc_p_is_number hm (fun _ _ _ _ _ _ us hl => match us, hl with | [_], _ => rfl) (fun ds M d M' h => ?_) fun cdv A outer s H E ds M d M' hr h => ?_
  · obtain ⟨t, n, rfl, _⟩ := h
    rfl
  · obtain ⟨t, n, rfl, hk, rfl, rfl⟩ := h
    show BV _ _ [some t] _ _
    cases t with
    | val v =>
      rcases kD_val hk with rfl | ⟨b, rfl⟩ | ⟨i, rfl⟩ | ⟨z, rfl⟩
      · exact bv_one (sv_ret (ev_andB (p := false) (q := false) (ev_isi T.isinstance T.int boot_int (ev_var 0 rfl) rfl (by decide +kernel)) (fun h => nomatch h)) ⟨rfl, Mle.refl _⟩)
      · exact bv_one (sv_ret (ev_andB (p := true) (q := false) (ev_isi T.isinstance T.int boot_int (ev_var 0 rfl) rfl (by decide +kernel)) (fun h => ev_one (b := true) (ev_notB (p := true) (ev_isi T.isinstance T.bool boot_bool (ev_var 0 rfl) rfl (by decide +kernel))))) ⟨rfl, Mle.refl _⟩)
      · exact bv_one (sv_ret (ev_andB (p := true) (q := true) (ev_isi T.isinstance T.int boot_int (ev_var 0 rfl) rfl (by decide +kernel)) (fun h => ev_one (b := true) (ev_notB (p := false) (ev_isi T.isinstance T.bool boot_bool (ev_var 0 rfl) rfl (by decide +kernel))))) ⟨rfl, Mle.refl _⟩)
      · exact bv_one (sv_ret (ev_andB (p := false) (q := false) (ev_isi T.isinstance T.int boot_int (ev_var 0 rfl) rfl (by decide +kernel)) (fun h => nomatch h)) ⟨rfl, Mle.refl _⟩)
    | tup ds => exact bv_one (sv_ret (ev_andB (p := false) (q := false) (ev_isi T.isinstance T.int boot_int (ev_var 0 rfl) rfl (by decide +kernel)) (fun h => nomatch h)) ⟨rfl, Mle.refl _⟩)
    | lst ds => exact bv_one (sv_ret (ev_andB (p := false) (q := false) (ev_isi T.isinstance T.int boot_int (ev_var 0 rfl) rfl (by decide +kernel)) (fun h => nomatch h)) ⟨rfl, Mle.refl _⟩)
    | dic => exact bv_one (sv_ret (ev_andB (p := false) (q := false) (ev_isi T.isinstance T.int boot_int (ev_var 0 rfl) rfl (by decide +kernel)) (fun h => nomatch h)) ⟨rfl, Mle.refl _⟩)
def PrWhole (ds : List D) (M : Mem) (d : D) (M' : Mem) : Prop := ∃ t n lo hi, ds = [t, dI lo, dI hi] ∧ kD n t ∧ d = dB (wholeD lo hi t) ∧ M' = M
theorem c_p_is_whole (F : Fun K "is_whole" "is_whole" s_p_is_whole f fd) (hm : mg "is_whole" = some (.ref f)) (c_p_is_number : Cal P w K mg base 1 "is_number" (spD K PrNum)) : Cal P w K mg base 2 "is_whole" (spD K PrWhole) := by
  refine cal_of F sc_p_is_whole hm (fun _ _ _ _ _ _ us hl => match us, hl with | [_, _, _], _ => rfl) (fun ds M d M' h => ?_) fun cdv A outer s H E ds M d M' hr h => ?_
  · obtain ⟨t, n, lo, hi, rfl, _⟩ := h
    rfl
  · obtain ⟨t, n, lo, hi, rfl, hk, rfl, rfl⟩ := h
    show BV _ _ [some t, some (dI lo), some (dI hi)] _ _
    refine bv_one (sv_ret (ev_andB (p := numD t) (q := wholeD lo hi t) (ev_call c_p_is_number (hr.mono (by decide)) (av_cons (ev_var 0 rfl) av_nil) ⟨t, n, rfl, hk, rfl, rfl⟩) (fun h => ?_)) ⟨?_, Mle.refl _⟩)
    · cases t with
      | val v =>
        cases v with
        | int i => exact ev_one (b := true) (ev_chain op_le op_le (ev_var 1 rfl) (ev_var 0 rfl) (ev_var 2 rfl))
        | _ => cases h
      | _ => cases h
    · cases t with
      | val v =>
        cases v with
        | int i => rfl
        | _ => rfl
      | _ => rfl
theorem all_of {ds : List D} {g : D → Bool} : (ds.map g).all id = ds.all g := by
  induction ds with
  | nil => rfl
  | cons d ds ih =>
    rw [List.map_cons, List.all_cons, List.all_cons, ih]
    rfl
def PrToneK (ds : List D) (M : Mem) (d : D) (M' : Mem) : Prop := ∃ t n, ds = [t] ∧ kD n t ∧ d = dB (toneD t) ∧ M' = M
theorem c_p_is_tone (F : Fun K "is_tone" "is_tone" s_p_is_tone f fd) (hm : mg "is_tone" = some (.ref f)) (T : Bt mg) (hF : ∃ t, mg "FAR" = some (.int 1000 t)) (c_p_is_pair : Cal P w K mg base 2 "is_pair" (spD K PrPair)) (c_p_is_whole : Cal P w K mg base 2 "is_whole" (spD K PrWhole)) : Cal P w K mg base 3 "is_tone" (spD K PrToneK) := by
  refine cal_of F sc_p_is_tone hm (fun _ _ _ _ _ _ us hl => match us, hl with | [_], _ => rfl) (fun ds M d M' h => ?_) fun cdv A outer s H E ds M d M' hr h => ?_
  · obtain ⟨t, n, rfl, _⟩ := h
    rfl
  · obtain ⟨t, n, rfl, hk, rfl, rfl⟩ := h
    show BV _ _ [some t, none] _ _
    refine bv_one (sv_ret (ev_andB (p := pairD t) (q := (partsD t).all (wholeD (-1000) 1000)) (ev_call c_p_is_pair (hr.mono (by decide)) (av_cons (ev_var 0 rfl) av_nil) ⟨t, n, rfl, hk, rfl, rfl⟩) (fun h => ?_)) ⟨rfl, Mle.refl _⟩)
    obtain ⟨h1, h2⟩ := Bool.and_eq_true_iff.mp h
    obtain ⟨b, ds, rfl, e⟩ := rowD_sq h1
    obtain ⟨m, _, hl, hd⟩ := kD_sq0 hk
    rw [e, ← all_of]
    refine ev_one (b := true) (ev_all rfl T.all (ev_to (ev_lcM (own := [("number", 1)]) (g := gName 1) rfl sc_p_is_tone.nd (iv_sq (ev_var 0 rfl)) (blkOk_by (N := ["thing", "number"]) (sc := defScope s_p_is_tone) (by decide +kernel)) (fun _ _ _ _ _ => (pg_name (i := 1) sc_p_is_tone.nd rfl (.inl rfl))) (fun d => dB (wholeD (-1000) 1000 d)) (Nat.le_trans hl (by decide)) (fun i d h => ?_)) (by rw [List.map_map] <;> rfl)))
    exact ⟨_, tgb_name, fun M2 s H C cl fp => ev_call c_p_is_whole (hr.mono (by decide)) (av_cons (ev_var 1 rfl) (av_cons (ev_un un_neg (ev_gI hF) ru_neg) (av_cons (ev_gI hF) av_nil))) ⟨d, m, _, _, rfl, hd d (List.mem_of_getElem? h), rfl, rfl⟩⟩
def PrShort (ds : List D) (M : Mem) (d : D) (M' : Mem) : Prop := ∃ t n, ds = [t] ∧ kD n t ∧ d = dB (shortD t) ∧ M' = M
theorem c_p_is_short_fraction (F : Fun K "is_short_fraction" "is_short_fraction" s_p_is_short_fraction f fd) (hm : mg "is_short_fraction" = some (.ref f)) (T : Bt mg) (hP : ∃ t, mg "MOST_PARTS" = some (.int 1000 t)) (hg : mg "gcd" = some (.builtin "math.gcd")) (c_p_is_pair : Cal P w K mg base 2 "is_pair" (spD K PrPair)) (c_p_is_whole : Cal P w K mg base 2 "is_whole" (spD K PrWhole)) : Cal P w K mg base 3 "is_short_fraction" (spD K PrShort) := by
  refine cal_of F sc_p_is_short_fraction hm (fun _ _ _ _ _ _ us hl => match us, hl with | [_], _ => rfl) (fun ds M d M' h => ?_) fun cdv A outer s H E ds M d M' hr h => ?_
  · obtain ⟨t, n, rfl, _⟩ := h
    rfl
  · obtain ⟨t, n, rfl, hk, rfl, rfl⟩ := h
    show BV _ _ [some t, none] _ _
    refine bv_cons (sv_if (p := !pairD t || !(partsD t).all (wholeD 1 1000)) (M1 := M') (PW.pt (wv_or (tv_not (tv_val (ev_call c_p_is_pair (hr.mono (by decide)) (av_cons (ev_var 0 rfl) av_nil) ⟨t, n, rfl, hk, rfl, rfl⟩))) (fun h => wv_one_or (tv_not (tv_val ?_))))) (fun h => ?_) (fun h => bv_nil ?_))
    · have hp : pairD t = true := by
        cases e : pairD t with
        | true => rfl
        | false => rw [e] at h; cases h
      obtain ⟨h1, h2⟩ := Bool.and_eq_true_iff.mp hp
      obtain ⟨b, ds, rfl, e⟩ := rowD_sq h1
      obtain ⟨m, _, hl, hd⟩ := kD_sq0 hk
      rw [e, ← all_of]
      refine ev_all rfl T.all (ev_to (ev_lcM (own := [("number", 1)]) (g := gName 1) rfl sc_p_is_short_fraction.nd (iv_sq (ev_var 0 rfl)) (blkOk_by (N := ["thing", "number"]) (sc := defScope s_p_is_short_fraction) (by decide +kernel)) (fun _ _ _ _ _ => (pg_name (i := 1) sc_p_is_short_fraction.nd rfl (.inl rfl))) (fun d => dB (wholeD 1 1000 d)) (Nat.le_trans hl (by decide)) (fun i d h => ?_)) (by rw [List.map_map] <;> rfl))
      exact ⟨_, tgb_name, fun M2 s H C cl fp => ev_call c_p_is_whole (hr.mono (by decide)) (av_cons (ev_var 1 rfl) (av_cons ev_int (av_cons (ev_gI hP) av_nil))) ⟨d, m, _, _, rfl, hd d (List.mem_of_getElem? h), rfl, rfl⟩⟩
    · refine bv_one (sv_ret ev_bl ⟨?_, Mle.refl _⟩)
      have e : (pairD t && (partsD t).all (wholeD 1 1000)) = false := by
        cases h1 : pairD t with
        | false => rfl
        | true =>
          rw [h1] at h
          cases h2 : (partsD t).all (wholeD 1 1000) with
          | false => rfl
          | true => rw [h2] at h; cases h
      unfold shortD
      rw [e]
      rfl
    · have e : (pairD t && (partsD t).all (wholeD 1 1000)) = true := by
        cases h1 : pairD t with
        | false => rw [h1] at h; cases h
        | true =>
          cases h2 : (partsD t).all (wholeD 1 1000) with
          | true => rfl
          | false => rw [h1, h2] at h; cases h
      obtain ⟨e1, e2⟩ := Bool.and_eq_true_iff.mp e
      obtain ⟨h1, h2⟩ := Bool.and_eq_true_iff.mp e1
      obtain ⟨b, ds, rfl, e3⟩ := rowD_sq h1
      rw [e3] at e2 h2
      have l2 := of_decide_eq_true h2
      have ee := two_of l2
      rw [List.all_eq_true] at e2
      obtain ⟨x, ex, _⟩ := whole_int (e2 (ds.getD 0 dN) (by rw [ee]; exact List.mem_cons_self))
      obtain ⟨y, ey, _⟩ := whole_int (e2 (ds.getD 1 dN) (by rw [ee]; exact List.mem_cons_of_mem _ List.mem_cons_self))
      have sh : shortD (sq b ds) = decide (((Nat.gcd x.natAbs y.natAbs : Nat) : Int) = 1) := by
        unfold shortD partD
        rw [e, e3, ex, ey]
        rfl
      rw [sh]
      rw [ex, ey] at ee
      rw [ee]
      exact bv_one (sv_ret (ev_cmpR op_eq (ev_bf2 cr_gcd hg (ev_ixQ (b' := b) (ds := [dI x, dI y]) (ev_var 0 rfl) ev_int rfl) (ev_ixQ (b' := b) (ds := [dI x, dI y]) (ev_var 0 rfl) ev_int rfl) (z := .int ((Nat.gcd x.natAbs y.natAbs : Nat) : Int)) (fun H Q q => ⟨x, y, rfl, q⟩)) ev_int rs_eqI (nomark _)) ⟨rfl, Mle.refl _⟩)
end
section
variable {P : Program} {w : World} {K : PySem.W.Frag} {mg : Str → Option Value} {base : Heap} {f : Addr} {fd : FuncData}
theorem nf_ {b : Bool} (h : (!b) = false) : b = true := by cases b <;> first | rfl | cases h
theorem nt_ {b : Bool} (h : (!b) = true) : b = false := by cases b <;> first | rfl | cases h
def entryD (d : D) : Bool := d.isN || (pairD d && (toneD (partD d 0) && boolD (partD d 1)))
theorem isN_val {d : D} (h : d.isN = true) : d = dN := by
  cases d with
  | val v => rw [show v = .non from of_decide_eq_true h]
  | tup ds => cases h
  | lst ds => cases h
  | dic => cases h
theorem pair_sq {t : D} (h : pairD t = true) : ∃ b x y, t = sq b [x, y] ∧ partD t 0 = x ∧ partD t 1 = y := by
  obtain ⟨h1, h2⟩ := Bool.and_eq_true_iff.mp h
  obtain ⟨b, ds, rfl, e⟩ := rowD_sq h1
  rw [e] at h2
  have l := two_of (of_decide_eq_true h2)
  refine ⟨b, ds.getD 0 dN, ds.getD 1 dN, by rw [← l], ?_, ?_⟩
  · unfold partD
    rw [e]
  · unfold partD
    rw [e]
def PrEntryK (ds : List D) (M : Mem) (d : D) (M' : Mem) : Prop := ∃ t n, ds = [t] ∧ kD n t ∧ d = dB (entryD t) ∧ M' = M
theorem c_p_is_entry (F : Fun K "_is_entry" "_is_entry" s_p_is_entry f fd) (hm : mg "_is_entry" = some (.ref f)) (T : Bt mg) (c_p_is_pair : Cal P w K mg base 2 "is_pair" (spD K PrPair)) (c_p_is_tone : Cal P w K mg base 3 "is_tone" (spD K PrToneK)) : Cal P w K mg base 4 "_is_entry" (spD K PrEntryK) := by
  refine cal_of F sc_p_is_entry hm (fun _ _ _ _ _ _ us hl => match us, hl with | [_], _ => rfl) (fun ds M d M' h => ?_) fun cdv A outer s H E ds M d M' hr h => ?_
  · obtain ⟨t, n, rfl, _⟩ := h
    rfl
  · obtain ⟨t, n, rfl, hk, rfl, rfl⟩ := h
    show BV _ _ [some t] _ _
    refine bv_cons (sv_if (tv_isNn (ev_var 0 rfl)) (fun h => ?_) (fun h => bv_nil ?_))
    · exact bv_one (sv_ret ev_bl ⟨by unfold entryD; rw [h]; rfl, Mle.refl _⟩)
    · have e : entryD t = (pairD t && (toneD (partD t 0) && boolD (partD t 1))) := by unfold entryD; rw [h]; rfl
      rw [e]
      refine bv_one (sv_ret (ev_andB (p := pairD t) (q := toneD (partD t 0) && boolD (partD t 1)) (ev_call c_p_is_pair (hr.mono (by decide)) (av_cons (ev_var 0 rfl) av_nil) ⟨t, n, rfl, hk, rfl, rfl⟩) (fun h => ?_)) ⟨rfl, Mle.refl _⟩)
      obtain ⟨b, x, y, rfl, e0, e1⟩ := pair_sq h
      obtain ⟨m, _, hl, hd⟩ := kD_sq0 hk
      rw [e0, e1]
      have hx : kD m x := hd x List.mem_cons_self
      have hy : kD m y := hd y (List.mem_cons_of_mem _ List.mem_cons_self)
      refine ev_andB (p := toneD x) (q := boolD y) (ev_call c_p_is_tone (hr.mono (by decide)) (av_cons (ev_ixQ (b' := b) (ds := [x, y]) (ev_var 0 rfl) ev_int rfl) av_nil) ⟨x, m, rfl, hx, rfl, rfl⟩) (fun h => ev_one (b := true) ?_)
      cases y with
      | val v =>
        rcases kD_val hy with rfl | ⟨b, rfl⟩ | ⟨i, rfl⟩ | ⟨z, rfl⟩
        · exact ev_isi (r := false) T.isinstance T.bool boot_bool (ev_ixQ (b' := b) (ds := [x, _]) (ev_var 0 rfl) ev_int rfl) rfl (by decide +kernel)
        · exact ev_isi (r := true) T.isinstance T.bool boot_bool (ev_ixQ (ds := [x, _]) (ev_var 0 rfl) ev_int rfl) rfl (by decide +kernel)
        · exact ev_isi (r := false) T.isinstance T.bool boot_bool (ev_ixQ (b' := b) (ds := [x, _]) (ev_var 0 rfl) ev_int rfl) rfl (by decide +kernel)
        · exact ev_isi (r := false) T.isinstance T.bool boot_bool (ev_ixQ (b' := b) (ds := [x, _]) (ev_var 0 rfl) ev_int rfl) rfl (by decide +kernel)
      | tup ds => exact ev_isi (r := false) T.isinstance T.bool boot_bool (ev_ixQ (b' := b) (ds := [x, _]) (ev_var 0 rfl) ev_int rfl) rfl (by decide +kernel)
      | lst ds => exact ev_isi (r := false) T.isinstance T.bool boot_bool (ev_ixQ (b' := b) (ds := [x, _]) (ev_var 0 rfl) ev_int rfl) rfl (by decide +kernel)
      | dic => exact ev_isi (r := false) T.isinstance T.bool boot_bool (ev_ixQ (b' := b) (ds := [x, _]) (ev_var 0 rfl) ev_int rfl) rfl (by decide +kernel)
def optI : Option Nat → D
  | none => dN
  | some k => dI ((k : Nat) : Int)
def optS : Option Str → D
  | none => dN
  | some z => dS z
def lenD (d : D) : Nat := (partsD d).length
def reasonD (t : D) (v : Option Nat) : Option Str :=
  if rowD t = true ∧ lenD t = 3 then
    if shortD (partD t 0) = true then
      if wholeD 0 9 (partD t 1) = true then
        if rowD (partD t 2) = true ∧ (1 ≤ lenD (partD t 2) ∧ lenD (partD t 2) ≤ 4) ∧ ∀ k, v = some k → lenD (partD t 2) = k then
          if (partsD (partD t 2)).all entryD = true then none else some "entry"
        else some "voices"
      else some "accent"
    else some "duration"
  else some "column"
theorem row3_sq {t : D} (h : rowD t = true ∧ lenD t = 3) : ∃ b x y z, t = sq b [x, y, z] ∧ partD t 0 = x ∧ partD t 1 = y ∧ partD t 2 = z := by
  obtain ⟨b, ds, rfl, e⟩ := rowD_sq h.1
  have h2 := h.2
  unfold lenD at h2
  rw [e] at h2
  have l := three_of h2
  refine ⟨b, ds.getD 0 dN, ds.getD 1 dN, ds.getD 2 dN, by rw [← l], ?_, ?_, ?_⟩ <;>
  · unfold partD
    rw [e]
def PrReason (ds : List D) (M : Mem) (d : D) (M' : Mem) : Prop := ∃ t n v, ds = [t, optI v] ∧ kD n t ∧ d = optS (reasonD t v) ∧ M' = M
theorem c_p_reason (F : Fun K "_reason" "_reason" s_p_reason f fd) (hm : mg "_reason" = some (.ref f)) (T : Bt mg) (hA : ∃ t, mg "MOST_ACCENT" = some (.int 9 t)) (hV : ∃ t, mg "MOST_VOICES" = some (.int 4 t)) (c_p_is_row : Cal P w K mg base 1 "is_row" (spD K PrRow)) (c_p_is_whole : Cal P w K mg base 2 "is_whole" (spD K PrWhole)) (c_p_is_short_fraction : Cal P w K mg base 3 "is_short_fraction" (spD K PrShort)) (c_p_is_entry : Cal P w K mg base 4 "_is_entry" (spD K PrEntryK)) : Cal P w K mg base 5 "_reason" (spD K PrReason) := by
  refine cal_of F sc_p_reason hm (fun _ _ _ _ _ _ us hl => match us, hl with | [_, _], _ => rfl) (fun ds M d M' h => ?_) fun cdv A outer s H E ds M d M' hr h => ?_
  · obtain ⟨t, n, v, rfl, _⟩ := h
    rfl
  · obtain ⟨t, n, v, rfl, hk, rfl, rfl⟩ := h
    show BV _ _ [some t, some (optI v), none, none, none, none] _ _
    refine bv_cons (sv_if (p := !rowD t || !decide ((lenD t : Int) = 3)) (M1 := M') (PW.pt (wv_or (tv_not (tv_val (ev_call c_p_is_row (hr.mono (by decide)) (av_cons (ev_var 0 rfl) av_nil) ⟨t, n, rfl, hk, rfl, rfl⟩))) (fun h => wv_one_or ?_))) (fun h => ?_) (fun h => bv_nil ?_))
    · have hp : rowD t = true := by
        cases e : rowD t with
        | true => rfl
        | false => rw [e] at h; cases h
      obtain ⟨b, ds, rfl, e⟩ := rowD_sq hp
      unfold lenD
      rw [e]
      exact tv_cmpR op_ne (ev_lenS2 T.len (ev_var 0 rfl)) ev_int rs_neI (nomark _)
    · have e : ¬ (rowD t = true ∧ lenD t = 3) := fun q => by
        rw [q.1, q.2] at h
        cases h
      unfold reasonD
      rw [if_neg e]
      exact bv_one (sv_ret ev_str ⟨rfl, Mle.refl _⟩)
    · have e : rowD t = true ∧ lenD t = 3 := by
        rw [Bool.or_eq_false_iff, Bool.not_eq_false', Bool.not_eq_false'] at h
        have := of_decide_eq_true h.2
        exact ⟨h.1, by omega⟩
      obtain ⟨b, x, y, z, rfl, e0, e1, e2⟩ := row3_sq e
      unfold reasonD
      rw [if_pos e, e0, e1, e2]
      clear e0 e1 e2 e h
      obtain ⟨m, _, _, hd⟩ := kD_sq0 hk
      have hx : kD m x := hd x List.mem_cons_self
      have hy : kD m y := hd y (List.mem_cons_of_mem _ List.mem_cons_self)
      have hz : kD m z := hd z (List.mem_cons_of_mem _ (List.mem_cons_of_mem _ List.mem_cons_self))
      refine bv_cons (sw_asg (pg_sq b rfl (pgs_cons (pg_name (i := 2) sc_p_reason.nd rfl (.inl rfl)) (pgs_cons (pg_name (i := 3) sc_p_reason.nd rfl (.inl rfl)) (pgs_cons (pg_name (i := 4) sc_p_reason.nd rfl (.inl rfl)) pgs_nil)))) ?_)
      refine ew_ev (ev_var 0 rfl) ⟨_, tg_sq (tg_cons tg_name (tg_cons tg_name (tg_cons tg_name (tg_nil)))), ?_⟩
      refine bv_cons (sv_if (tv_not (tv_val (ev_call c_p_is_short_fraction (hr.mono (by decide)) (av_cons (ev_var 2 rfl) av_nil) ⟨x, m, rfl, hx, rfl, rfl⟩))) (fun h => ?_) (fun h => bv_nil ?_))
      · rw [if_neg (by rw [nt_ h]; decide)]
        exact bv_one (sv_ret ev_str ⟨rfl, Mle.refl _⟩)
      rw [if_pos (nf_ h)]
      clear h
      refine bv_cons (sv_if (tv_not (tv_val (ev_call c_p_is_whole (hr.mono (by decide)) (av_cons (ev_var 3 rfl) (av_cons ev_int (av_cons (ev_gI hA) av_nil))) ⟨y, m, _, _, rfl, hy, rfl, rfl⟩))) (fun h => ?_) (fun h => bv_nil ?_))
      · rw [if_neg (by rw [nt_ h]; decide)]
        exact bv_one (sv_ret ev_str ⟨rfl, Mle.refl _⟩)
      rw [if_pos (nf_ h)]
      clear h
      refine bv_cons (sv_if (p := !rowD z || !(decide (1 ≤ (lenD z : Int)) && decide ((lenD z : Int) ≤ 4))) (M1 := M') (PW.pt (wv_or (tv_not (tv_val (ev_call c_p_is_row (hr.mono (by decide)) (av_cons (ev_var 4 rfl) av_nil) ⟨z, m, rfl, hz, rfl, rfl⟩))) (fun h => wv_one_or (tv_not ?_)))) (fun h => ?_) (fun h => bv_nil ?_))
      · have hp : rowD z = true := by
          cases e : rowD z with
          | true => rfl
          | false => rw [e] at h; cases h
        obtain ⟨b2, ds, rfl, e⟩ := rowD_sq hp
        unfold lenD
        rw [e]
        exact tv_chain op_le op_le ev_int (ev_lenS2 T.len (ev_var 4 rfl)) (ev_gI hV)
      · have e : ¬ (rowD z = true ∧ (1 ≤ lenD z ∧ lenD z ≤ 4) ∧ ∀ k, v = some k → lenD z = k) := fun q => by
          rw [q.1, decide_eq_true (by omega), decide_eq_true (by omega)] at h
          cases h
        rw [if_neg e]
        exact bv_one (sv_ret ev_str ⟨rfl, Mle.refl _⟩)
      rw [Bool.or_eq_false_iff, Bool.not_eq_false', Bool.not_eq_false', Bool.and_eq_true, decide_eq_true_eq, decide_eq_true_eq] at h
      obtain ⟨hp, l1, l2⟩ := h
      obtain ⟨b2, ds, rfl, e⟩ := rowD_sq hp
      have le : lenD (sq b2 ds) = ds.length := by unfold lenD; rw [e]
      rw [le] at l1 l2
      rw [le, e]
      obtain ⟨m2, _, hl, hd⟩ := kD_sq0 hz
      refine bv_cons (sv_if (p := !(optI v).isN && !decide (∀ k, v = some k → ds.length = k)) (M1 := M') (PW.pt (wv_and (tv_notNn (ev_var 1 rfl)) (fun h => wv_one_and ?_))) (fun h => ?_) (fun h => bv_nil ?_))
      · cases v with
        | none => cases h
        | some k =>
          have e : decide (∀ k', some k = some k' → ds.length = k') = decide ((ds.length : Int) = (k : Int)) := decide_eq_decide.mpr ⟨fun q => by rw [q k rfl], fun q k' e => by cases e; omega⟩
          rw [e]
          exact tv_cmpR op_ne (ev_lenS2 T.len (ev_var 4 rfl)) (ev_var 1 rfl) rs_neI (nomark _)
      · have e : ¬ (rowD (sq b2 ds) = true ∧ (1 ≤ ds.length ∧ ds.length ≤ 4) ∧ ∀ k, v = some k → ds.length = k) := fun q => by
          rw [decide_eq_true q.2.2, Bool.and_comm] at h
          cases h
        rw [if_neg e]
        exact bv_one (sv_ret ev_str ⟨rfl, Mle.refl _⟩)
      have q : ∀ k, v = some k → ds.length = k := fun k hk => by
        rw [hk] at h
        have h : (true && !decide (∀ k', some k = some k' → ds.length = k')) = false := h
        rw [Bool.true_and, Bool.not_eq_false', decide_eq_true_eq] at h
        exact h k rfl
      rw [if_pos ⟨hp, ⟨by omega, by omega⟩, q⟩]
      clear h q
      refine bv_cons (sv_if (p := !ds.all entryD) (M1 := M') (tv_not (tv_val ?_)) (fun h => ?_) (fun h => bv_nil ?_))
      · rw [← all_of]
        refine ev_all rfl T.all (ev_to (ev_lcM (own := [("entry", 5)]) (g := gName 5) rfl sc_p_reason.nd (iv_sq (ev_var 4 rfl)) (blkOk_by (N := ["column", "voices", "duration", "accent", "entries", "entry"]) (sc := defScope s_p_reason) (by decide +kernel)) (fun _ _ _ _ _ => (pg_name (i := 5) sc_p_reason.nd rfl (.inl rfl))) (fun d => dB (entryD d)) (Nat.le_trans hl (by decide)) (fun i d h => ?_)) (by rw [List.map_map] <;> rfl))
        exact ⟨_, tgb_name, fun M2 s H C cl fp => ev_call c_p_is_entry (hr.mono (by decide)) (av_cons (ev_var 5 rfl) av_nil) ⟨d, m2, rfl, hd d (List.mem_of_getElem? h), rfl, rfl⟩⟩
      · rw [if_neg (by rw [nt_ h]; decide)]
        exact bv_one (sv_ret ev_str ⟨rfl, Mle.refl _⟩)
      · rw [if_pos (nf_ h)]
        exact bv_one (sv_ret ev_non ⟨rfl, Mle.refl _⟩)
end
/-! ### rows as tuples -/
def entT (e : D) : D := if e.isN = true then dN else .tup [.tup (partsD (partD e 0)), partD e 1]
def colT (c : D) : D := .tup [.tup (partsD (partD c 0)), partD c 1, .tup ((partsD (partD c 2)).map entT)]
def barT (t : D) : D := .tup ((partsD t).map colT)
def GoodE (e : D) : Prop := e.isN = true ∨ ∃ b b2 x y g, e = sq b [sq b2 [x, y], g]
structure GoodC (c : D) : Prop where
  ex : ∃ b b1 xs y b2 zs, c = sq b [sq b1 xs, y, sq b2 zs] ∧ zs.length ≤ 1000000 ∧ ∀ e ∈ zs, GoodE e
structure GoodB (t : D) : Prop where
  ex : ∃ b cs, t = sq b cs ∧ cs.length ≤ 1000000 ∧ ∀ c ∈ cs, GoodC c
section
variable {P : Program} {w : World} {K : PySem.W.Frag} {mg : Str → Option Value} {base : Heap} {f : Addr} {fd : FuncData}
def PrTupOf (ds : List D) (M : Mem) (d : D) (M' : Mem) : Prop := ∃ b x y, ds = [sq b [x, y]] ∧ d = .tup [x, y] ∧ M' = M
theorem c_p_tuple_of (F : Fun K "tuple_of" "tuple_of" s_p_tuple_of f fd) (hm : mg "tuple_of" = some (.ref f)) : Cal P w K mg base 1 "tuple_of" (spD K PrTupOf) := by
  refine cal_of F sc_p_tuple_of hm (fun _ _ _ _ _ _ us hl => match us, hl with | [_], _ => rfl) (fun ds M d M' h => ?_) fun cdv A outer s H E ds M d M' hr h => ?_
  · obtain ⟨b, x, y, rfl, _⟩ := h
    rfl
  · obtain ⟨b, x, y, rfl, rfl, rfl⟩ := h
    show BV _ _ [some (sq b [x, y]), none, none] _ _
    refine bv_cons (sw_asg (pg_sq b rfl (pgs_cons (pg_name (i := 1) sc_p_tuple_of.nd rfl (.inl rfl)) (pgs_cons (pg_name (i := 2) sc_p_tuple_of.nd rfl (.inl rfl)) pgs_nil))) ?_)
    refine ew_ev (ev_var 0 rfl) ⟨_, tg_sq (tg_cons tg_name (tg_cons tg_name (tg_nil))), ?_⟩
    exact bv_one (sv_ret (ev_tup (av_cons (ev_var 1 rfl) (av_cons (ev_var 2 rfl) av_nil))) ⟨rfl, Mle.refl _⟩)
def PrEntries (P : Program) (w : World) (K : PySem.W.Frag) (mg : Str → Option Value) (base : Heap) (ds : List D) (M : Mem) (d : D) (M' : Mem) : Prop := ∃ b es fa, ds = [sq b es, dP fa] ∧ CalF P w K mg base 1 fa (spD K PrTupOf) ∧ es.length ≤ 1000000 ∧ (∀ e ∈ es, GoodE e) ∧ d = .tup (es.map entT) ∧ M' = M
theorem c_p_entries (F : Fun K "_entries" "_entries" s_p_entries f fd) (hm : mg "_entries" = some (.ref f)) (T : Bt mg) : Cal P w K mg base 2 "_entries" (spD K (PrEntries P w K mg base)) := by
  refine cal_of F sc_p_entries hm (fun _ _ _ _ _ _ us hl => match us, hl with | [_, _], _ => rfl) (fun ds M d M' h => ?_) fun cdv A outer s H E ds M d M' hr h => ?_
  · obtain ⟨b, es, fa, rfl, _⟩ := h
    rfl
  · obtain ⟨b, es, fa, rfl, cf, hl, he, rfl, rfl⟩ := h
    show BV _ _ [some (sq b es), some (dP fa), none] _ _
    refine bv_one (sv_ret (ev_tupOf (b := true) T.tuple (ev_lcM (own := [("entry", 2)]) (g := gName 2) rfl sc_p_entries.nd (iv_sq (ev_var 0 rfl)) (blkOk_by (N := ["entries", "change", "entry"]) (sc := defScope s_p_entries) (by decide +kernel)) (fun _ _ _ _ _ => (pg_name (i := 2) sc_p_entries.nd rfl (.inl rfl))) entT (Nat.le_trans hl (by decide)) (fun i d h => ?_))) ⟨rfl, Mle.refl _⟩)
    refine ⟨_, tgb_name, fun M2 s H C cl fp => ?_⟩
    rcases he d (List.mem_of_getElem? h) with h0 | ⟨b1, b2, x, y, g, rfl⟩
    · rw [isN_val h0]
      exact ev_if (tv_isNn (ev_var 2 rfl)) (fun _ => ev_non) (fun h => nomatch h)
    · have e : entT (sq b1 [sq b2 [x, y], g]) = .tup [.tup [x, y], g] := by
        unfold entT partD
        rw [partsD_of]
        have e2 : (sq b1 [sq b2 [x, y], g]).isN = false := by cases b1 <;> rfl
        rw [e2]
        show D.tup [.tup (partsD (sq b2 [x, y])), g] = _
        rw [partsD_of]
      rw [e]
      have e2 : (sq b1 [sq b2 [x, y], g]).isN = false := by cases b1 <;> rfl
      exact ev_if (tv_isNn (ev_var 2 rfl)) (fun h => by rw [show (sq b1 [sq b2 [x, y], g]).isN = true from h] at e2; cases e2) (fun _ => ev_tup (av_cons (ev_callL 1 cf (hr.mono (by decide)) rfl (av_cons (ev_ixQ (b' := b1) (ds := [sq b2 [x, y], g]) (ev_var 2 rfl) ev_int rfl) av_nil) ⟨b2, x, y, rfl, rfl, rfl⟩) (av_cons (ev_ixQ (b' := b1) (ds := [sq b2 [x, y], g]) (ev_var 2 rfl) ev_int rfl) av_nil)))
def PrWith (P : Program) (w : World) (K : PySem.W.Frag) (mg : Str → Option Value) (base : Heap) (ds : List D) (M : Mem) (d : D) (M' : Mem) : Prop := ∃ t fa, ds = [t, dP fa] ∧ CalF P w K mg base 1 fa (spD K PrTupOf) ∧ GoodB t ∧ d = barT t ∧ M' = M
theorem c_p_with_tones (F : Fun K "_with_tones" "_with_tones" s_p_with_tones f fd) (hm : mg "_with_tones" = some (.ref f)) (T : Bt mg) (c_p_entries : Cal P w K mg base 2 "_entries" (spD K (PrEntries P w K mg base))) : Cal P w K mg base 3 "_with_tones" (spD K (PrWith P w K mg base)) := by
  refine cal_of F sc_p_with_tones hm (fun _ _ _ _ _ _ us hl => match us, hl with | [_, _], _ => rfl) (fun ds M d M' h => ?_) fun cdv A outer s H E ds M d M' hr h => ?_
  · obtain ⟨t, fa, rfl, _⟩ := h
    rfl
  · obtain ⟨t, fa, rfl, cf, ⟨b, cs, rfl, hl, hc⟩, rfl, rfl⟩ := h
    show BV _ _ [some (sq b cs), some (dP fa), none, none, none] _ _
    refine bv_one (sw_ret ?_)
    refine ew_tupOf T.tuple ?_
    refine ew_lc (own := [("duration", 2), ("accent", 3), ("entries", 4)]) (g := gAny _ 3 (gCons (gName 2) (gCons (gName 3) (gCons (gName 4) gNil)))) rfl sc_p_with_tones.nd (blkOk_by (N := ["bar", "change", "duration", "accent", "entries"]) (sc := defScope s_p_with_tones) (by decide +kernel)) (fun _ _ _ _ _ => (pg_any rfl (pgs_cons (pg_name (i := 2) sc_p_with_tones.nd rfl (.inl rfl)) (pgs_cons (pg_name (i := 3) sc_p_with_tones.nd rfl (.inl rfl)) (pgs_cons (pg_name (i := 4) sc_p_with_tones.nd rfl (.inl rfl)) pgs_nil))))) ?_
    refine iw_iv (iv_sq (ev_var 0 rfl)) ⟨Nat.le_trans hl (by decide), fun i acc M => M = M' ∧ acc = (cs.take i).map colT, ⟨rfl, rfl⟩, fun i d acc M hd hacc iv => ?_, fun acc M hacc iv => ?_⟩
    · obtain ⟨rfl, rfl⟩ := iv
      obtain ⟨⟨b0, b1, xs, y, b2, zs, rfl, hz, he⟩⟩ := hc d (List.mem_of_getElem? hd)
      refine ⟨_, tgb_of (tb_any (tbs_cons tb_name (tbs_cons tb_name (tbs_cons tb_name tbs_nil)))), fun q hq s H C cl fp => ?_⟩
      refine ew_ev (ev_tup (av_cons (ev_tupOf (b := b1) T.tuple (ev_var 2 rfl)) (av_cons (ev_var 3 rfl) (av_cons (ev_call c_p_entries (hr.mono (by decide)) (av_cons (ev_var 4 rfl) (av_cons (ev_var 1 rfl) av_nil)) ⟨b2, zs, fa, rfl, cf, hz, he, rfl, rfl⟩) av_nil)))) ⟨_, rfl, hq, rfl, ?_⟩
      have e : colT (sq b0 [sq b1 xs, y, sq b2 zs]) = .tup [.tup xs, y, .tup (zs.map entT)] := by
        unfold colT partD
        rw [partsD_of]
        show D.tup [.tup (partsD (sq b1 xs)), y, .tup ((partsD (sq b2 zs)).map entT)] = _
        rw [partsD_of, partsD_of]
      rw [List.take_succ, hd, Option.toList_some, List.map_append, List.map_cons, List.map_nil, e]
    · obtain ⟨rfl, rfl⟩ := iv
      rw [List.take_length]
      refine ⟨true, _, rfl, ?_, Mle.refl _⟩
      unfold barT
      rw [partsD_of]
def PrAsT (ds : List D) (M : Mem) (d : D) (M' : Mem) : Prop := ∃ t, ds = [t] ∧ GoodB t ∧ d = barT t ∧ M' = M
theorem c_p_as_tuples (F : Fun K "as_tuples" "as_tuples" s_p_as_tuples f fd) (hm : mg "as_tuples" = some (.ref f)) (c_p_tuple_of : Cal P w K mg base 1 "tuple_of" (spD K PrTupOf)) (c_p_with_tones : Cal P w K mg base 3 "_with_tones" (spD K (PrWith P w K mg base))) : Cal P w K mg base 4 "as_tuples" (spD K PrAsT) := by
  refine cal_of F sc_p_as_tuples hm (fun _ _ _ _ _ _ us hl => match us, hl with | [_], _ => rfl) (fun ds M d M' h => ?_) fun cdv A outer s H E ds M d M' hr h => ?_
  · obtain ⟨t, rfl, _⟩ := h
    rfl
  · obtain ⟨t, rfl, hb, rfl, rfl⟩ := h
    obtain ⟨fa, hfa, cf⟩ := c_p_tuple_of.val
    exact bv_one (sv_ret (ev_call c_p_with_tones (hr.mono (by decide)) (av_cons (ev_var 0 rfl) (av_cons (ev_def hfa) av_nil)) ⟨t, fa, rfl, cf, hb, rfl, rfl⟩) ⟨rfl, Mle.refl _⟩)
end
section
variable {P : Program} {w : World} {K : PySem.W.Frag} {mg : Str → Option Value} {base : Heap} {f : Addr} {fd : FuncData}
theorem c_BadColumn_init {C S : Addr} (F : Fun K "__init__" "BadColumn.__init__" s_BadColumn_init f fd) (hS : mg "ScoreError" = some (.ref S)) (B : BaseE K S) (ok : OexC K C) (n1 : PySem.W.findIn K (.ref C) "number" = some none) (n2 : PySem.W.findIn K (.ref C) "reason" = some none) :
    FnOk P w K mg base CX0 1 f fd ["self", "number", "reason"] (spI C [("reason", 1), ("number", 0)] (fun args => ∃ n z, args = [n, .str z] ∧ z.length ≤ 1000)) := by
  refine F.ok sc_BadColumn_init (fun vs H Q E ⟨a, args, e, _, ⟨n, z, e2, _⟩, _⟩ => by rw [e, e2]; rfl) fun cdv A outer s H vs Q E hr h => ?_
  obtain ⟨a, args, rfl, ha, ⟨n, z, rfl, hz⟩, q⟩ := h
  refine ⟨_, pss_cons (ps_expr (pe_seinit rfl hS B (pa_cons (pe_var (i := 0) rfl (.inl rfl)) (pa_cons (pe_op op_add_str pe_str (pe_var (i := 2) rfl (.inl rfl))) pa_nil)))) (pss_cons (ps_ost (pe_var (i := 0) rfl (.inl rfl)) (pe_var (i := 1) rfl (.inl rfl))) (pss_one (ps_ost (pe_var (i := 0) rfl (.inl rfl)) (pe_var (i := 2) rfl (.inl rfl))))), ?_⟩
  refine ⟨.ref a, rfl, .str z, rfl, _, z, rfl, rfl, ?_, a, C, _, rfl, (by show 1 ≤ 1000; decide), ok, ha, n, rfl, .ref a, rfl, a, C, rfl, ok, n1, .inl ⟨ha, fun dx hdx hne => ⟨.str z, rfl, .ref a, rfl, a, C, rfl, ok, n2, .inr ⟨dx, [("number", n)], upd_same, ?_, (by show 1 ≤ 900; decide), ?_⟩⟩⟩⟩
  · exact Nat.le_trans (Nat.add_le_add_left hz _) (by decide)
  · rw [upd_ne hne]
    exact upd_same
  · rw [upd_once hne upd_same]
    exact q dx hdx hne
end
/-! ### the check of a bar -/
def walkD : Nat → Option Nat → List D → Option (Nat × Str)
  | _, _, [] => none
  | i, v, c :: r => match reasonD c v with
    | some z => some (i, z)
    | none => walkD (i + 1) (some (lenD (partD c 2))) r
def checkD (t : D) : Option (Option Nat × Str) := if rowD t = true ∧ 1 ≤ lenD t ∧ lenD t ≤ 64 then (walkD 0 none (partsD t)).map (fun p => (some p.1, p.2)) else some (none, ("count" : Str))
theorem reason_len {t : D} {v : Option Nat} {z : Str} (h : reasonD t v = some z) : z.length ≤ 1000 := by
  unfold reasonD at h
  repeat' split at h
  all_goals cases h
  all_goals decide +kernel
theorem good_entry {e : D} (h : entryD e = true) : GoodE e := by
  unfold entryD at h
  cases hn : e.isN with
  | true => exact .inl hn
  | false =>
    rw [hn, Bool.false_or, Bool.and_eq_true, Bool.and_eq_true] at h
    obtain ⟨b, x, y, rfl, e0, e1⟩ := pair_sq h.1
    have ht := h.2.1
    rw [e0] at ht
    obtain ⟨b2, u, v, rfl, _, _⟩ := pair_sq (Bool.and_eq_true_iff.mp ht).1
    exact .inr ⟨b, b2, u, v, y, rfl⟩
theorem good_col {n : Nat} {c : D} {v : Option Nat} (hk : kD n c) (h : reasonD c v = none) : GoodC c ∧ ∃ b x y b2 zs, c = sq b [x, y, sq b2 zs] ∧ partD c 2 = sq b2 zs ∧ partsD (sq b2 zs) = zs := by
  unfold reasonD at h
  split at h
  · rename_i h3
    obtain ⟨b, x, y, z, rfl, e0, e1, e2⟩ := row3_sq h3
    rw [e0, e1, e2] at h
    split at h
    · rename_i hs
      split at h
      · split at h
        · rename_i hz
          split at h
          · rename_i ha
            obtain ⟨b2, zs, rfl, ez⟩ := rowD_sq hz.1
            rw [ez, List.all_eq_true] at ha
            unfold shortD at hs
            obtain ⟨b1, u, u', rfl, _, _⟩ := pair_sq (Bool.and_eq_true_iff.mp (Bool.and_eq_true_iff.mp hs).1).1
            obtain ⟨m, _, _, hd⟩ := kD_sq0 hk
            obtain ⟨m2, _, hl, _⟩ := kD_sq0 (hd (sq b2 zs) (List.mem_cons_of_mem _ (List.mem_cons_of_mem _ List.mem_cons_self)))
            exact ⟨⟨b, b1, [u, u'], y, b2, zs, rfl, hl, fun e he => good_entry (ha e he)⟩, b, _, y, b2, zs, rfl, e2, ez⟩
          · cases h
        · cases h
      · cases h
    · cases h
  · cases h
theorem walk_none {n : Nat} : ∀ {cs : List D} {i : Nat} {v : Option Nat}, (∀ c ∈ cs, kD n c) → walkD i v cs = none → ∀ c ∈ cs, GoodC c
  | [], _, _, _, _, c, hc => absurd hc List.not_mem_nil
  | c :: r, i, v, hk, h, c', hc => by
    unfold walkD at h
    cases q : reasonD c v with
    | some z => rw [q] at h; cases h
    | none =>
      rw [q] at h
      rcases List.mem_cons.mp hc with rfl | hc
      · exact (good_col (hk _ List.mem_cons_self) q).1
      · exact walk_none (fun c hc => hk c (List.mem_cons_of_mem _ hc)) h c' hc
section
variable {P : Program} {w : World} {K : PySem.W.Frag} {mg : Str → Option Value} {base : Heap} {f : Addr} {fd : FuncData}
abbrev ErrCol (P : Program) (w : World) (K : PySem.W.Frag) (mg : Str → Option Value) (base : Heap) (C : Addr) : Prop := ErrC P w K mg base "BadColumn" C [("reason", 1), ("number", 0)] (fun args => ∃ n z, args = [n, .str z] ∧ z.length ≤ 1000)
def R_check (C : Addr) (ds : List D) (M : Mem) (Φ : Res → Mem → Prop) : Prop := ∃ t n, ds = [t] ∧ kD n t ∧ match checkD t with
  | none => Φ (.ok (barT t)) M
  | some (i, z) => ∀ dx, M dx = none → Φ (.ex (.ref C) (some dx)) (M.set dx (.xd [("reason", dS z), ("number", optI i)]))
theorem c_p_check_bar {C : Addr} (F : Fun K "check_bar" "check_bar" s_p_check_bar f fd) (hm : mg "check_bar" = some (.ref f)) (T : Bt mg) (he : mg "enumerate" = none) (hM : ∃ t, mg "MOST_COLUMNS" = some (.int 64 t)) (B : ErrCol P w K mg base C) (c_p_is_row : Cal P w K mg base 1 "is_row" (spD K PrRow)) (c_p_reason : Cal P w K mg base 5 "_reason" (spD K PrReason)) (c_p_as_tuples : Cal P w K mg base 4 "as_tuples" (spD K PrAsT)) : CalX P w K mg base 6 "check_bar" (spU K (R_check C)) := by
  refine calU_of F sc_p_check_bar hm (fun _ _ _ _ _ _ us hl => match us, hl with | [_], _ => rfl) (fun ds M Φ h => ?_) fun cdv A outer s H E ds M Φ hr h W tk po => ?_
  · obtain ⟨t, n, rfl, _⟩ := h
    rfl
  · obtain ⟨t, n, rfl, hk, h⟩ := h
    show BU _ _ _ [some t, none, none, none, none] _ _
    have fault {z : Str} (i : Option Nat) (hz : z.length ≤ 1000) {ρ : Sl} {a b : Expr} {p pos pos' : Pos} (ha : AV (cxOf (L2.CX P w) P w K mg base ["columns", "voices", "number", "column", "reason"] "check_bar" (defScope s_p_check_bar) f cdv A outer s H E) [a, b] ρ M [optI i, dS z] M) (q : ∀ dx, M dx = none → Φ (.ex (.ref C) (some dx)) (M.set dx (.xd [("reason", dS z), ("number", optI i)])))
        (he : starEach [a, b] (cxOf (L2.CX P w) P w K mg base ["columns", "voices", "number", "column", "reason"] "check_bar" (defScope s_p_check_bar) f cdv A outer s H E).env = (false, eval a (cxOf (L2.CX P w) P w K mg base ["columns", "voices", "number", "column", "reason"] "check_bar" (defScope s_p_check_bar) f cdv A outer s H E).env) :: starEach [b] (cxOf (L2.CX P w) P w K mg base ["columns", "voices", "number", "column", "reason"] "check_bar" (defScope s_p_check_bar) f cdv A outer s H E).env)
        (hpl : (backTo pos (starEach [b] (cxOf (L2.CX P w) P w K mg base ["columns", "voices", "number", "column", "reason"] "check_bar" (defScope s_p_check_bar) f cdv A outer s H E).env)).any (·.1) = false) :
        SU (cxOf (L2.CX P w) P w K mg base ["columns", "voices", "number", "column", "reason"] "check_bar" (defScope s_p_check_bar) f cdv A outer s H E) W (.Raise (some (.Call (.Name "BadColumn" p) [a, b] [] pos)) none pos') ρ M (fun o => match o with | .ex cls dd _ M2 => ∃ M', Φ (.ex cls dd) M' ∧ Mle M' M2 | _ => False) :=
      su_raiseF rfl tk B (hr.mono (by decide)) (aw_av ha ⟨by show 2 ≤ 1000; decide, fun G vs r => by
        cases r with
        | cons r1 r2 =>
          cases r2 with
          | cons r2 r3 =>
            cases r3
            rw [r2.of_val]
            exact ⟨_, z, rfl, hz⟩, fun dx hdx => ⟨_, q dx hdx, Mle.refl _⟩⟩) rfl (by decide) he hpl
    refine bu_cons (su_if (tw_tv (p := !rowD t || !(decide (1 ≤ (lenD t : Int)) && decide ((lenD t : Int) ≤ 64))) (M1 := M) (PW.pt (wv_or (tv_not (tv_val (ev_call c_p_is_row (hr.mono (by decide)) (av_cons (ev_var 0 rfl) av_nil) ⟨t, n, rfl, hk, rfl, rfl⟩))) (fun h => wv_one_or (tv_not ?_)))) ⟨fun hc => ?_, fun hc => bu_nil ?_⟩))
    · have hp : rowD t = true := by
        cases e : rowD t with
        | true => rfl
        | false => rw [e] at h; cases h
      obtain ⟨b, ds, rfl, e⟩ := rowD_sq hp
      unfold lenD
      rw [e]
      exact tv_chain op_le op_le ev_int (ev_lenS2 T.len (ev_var 0 rfl)) (ev_gI hM)
    · have e : checkD t = some (none, ("count" : Str)) := by
        unfold checkD
        rw [if_neg fun q => ?_]
        rw [q.1, decide_eq_true (by omega), decide_eq_true (by omega)] at hc
        cases hc
      rw [e] at h
      exact bu_one (su_to (fault none (by decide +kernel) (av_cons ev_non (av_cons ev_str av_nil)) h rfl rfl) fun o ho => by
        cases o with
        | o o => exact ho.elim
        | ex cls dd ρ M2 => exact ho)
    rw [Bool.or_eq_false_iff, Bool.not_eq_false', Bool.not_eq_false', Bool.and_eq_true, decide_eq_true_eq, decide_eq_true_eq] at hc
    obtain ⟨hp, l1, l2⟩ := hc
    have ec : checkD t = (walkD 0 none (partsD t)).map (fun p => (some p.1, p.2)) := by
      unfold checkD
      rw [if_pos ⟨hp, by omega, by omega⟩]
    rw [ec] at h
    obtain ⟨b, cs, rfl, e⟩ := rowD_sq hp
    rw [e] at h
    obtain ⟨m, _, hl, hd⟩ := kD_sq0 hk
    refine bu_cons (su_sv (sv_set 1 sc_p_check_bar.nd ev_non rfl) ?_)
    rintro o rfl
    refine bu_cons (su_for rfl (pg_tup rfl (pgs_cons (pg_name (i := 2) sc_p_check_bar.nd rfl (.inl rfl)) (pgs_cons (pg_name (i := 3) sc_p_check_bar.nd rfl (.inl rfl)) pgs_nil))) ?_ po)
    refine iw_enum b he (ev_var 0 rfl) ⟨fun i ρ M1 => M1 = M ∧ ∃ (v : Option Nat) (x2 x3 x4 : Option D), walkD 0 none cs = walkD i v (cs.drop i) ∧ ρ = [some (sq b cs), some (optI v), x2, x3, x4], ⟨rfl, none, none, none, none, rfl, rfl⟩, fun i d ρ' M1 hd2 iv => ?_, fun ρ' M1 iv => ?_⟩
    · obtain ⟨rfl, v, x2, x3, x4, hw, rfl⟩ := iv
      obtain ⟨c, hc, rfl⟩ := enD_get hd2
      have hkc := hd c (List.mem_of_getElem? hc)
      rw [dropAt hc] at hw
      refine ⟨_, tg_tup (tg_cons tg_name (tg_cons tg_name tg_nil)), ?_⟩
      refine bu_cons (su_sv (sv_set 4 sc_p_check_bar.nd (ev_call c_p_reason (hr.mono (by decide)) (av_cons (ev_var 3 rfl) (av_cons (ev_var 1 rfl) av_nil)) ⟨c, m, v, rfl, hkc, rfl, rfl⟩) rfl) ?_)
      rintro o rfl
      cases q : reasonD c v with
      | some z =>
        have hw2 : walkD 0 none cs = some (i, z) := by
          rw [hw]
          unfold walkD
          rw [q]
        rw [hw2] at h
        have e0 : dI ((0 + i : Nat) : Int) = optI (some i) := by
          rw [Nat.zero_add]
          rfl
        refine bu_cons (su_if (tw_tv (tv_notNn (ev_var 4 rfl)) ⟨fun _ => bu_one (su_to (fault (some i) (reason_len q) (av_cons (ev_to (ev_var 2 rfl) e0) (av_cons (ev_var 4 rfl) av_nil)) h rfl rfl) fun o ho => ?_), fun h => nomatch h⟩))
        cases o with
        | o o => exact ho.elim
        | ex cls dd ρ M2 => exact ho
      | none =>
        obtain ⟨gc, b1, x, y, b2, zs, rfl, e2, ez⟩ := good_col hkc q
        refine bu_cons (su_if (tw_tv (tv_notNn (ev_var 4 rfl)) ⟨fun h => (nomatch h), fun _ => bu_nil ?_⟩))
        refine bu_one (su_sv (sv_set 1 sc_p_check_bar.nd (ev_lenS2 T.len (ev_ixQ (b' := b1) (ds := [x, y, sq b2 zs]) (ev_var 3 rfl) ev_int rfl)) rfl) ?_)
        rintro o rfl
        refine ⟨rfl, some zs.length, _, _, _, ?_, rfl⟩
        rw [hw]
        conv => lhs; unfold walkD
        rw [q]
        show walkD (i + 1) (some (lenD (partD (sq b1 [x, y, sq b2 zs]) 2))) _ = _
        rw [e2]
        unfold lenD
        rw [ez]
    · obtain ⟨rfl, v, x2, x3, x4, hw, rfl⟩ := iv
      rw [enD_len, List.drop_length] at hw
      have hw : walkD 0 none cs = none := hw
      rw [hw] at h
      exact bu_one (su_sv (sv_ret (ev_call c_p_as_tuples (hr.mono (by decide)) (av_cons (ev_var 0 rfl) av_nil) ⟨_, rfl, ⟨b, cs, rfl, hl, walk_none (fun c hc => hd c hc) hw⟩, rfl, rfl⟩) rfl) fun o ho => by
        cases ho
        exact ⟨_, h, Mle.refl _⟩)
end
/-! ### wrong things -/
def kB : Nat → D → Bool
  | _, .val .non => true
  | _, .val (.bl _) => true
  | _, .val (.int _) => true
  | _, .val (.str _) => true
  | _, .val _ => false
  | _, .dic => true
  | n + 1, .tup ds => decide (ds.length ≤ 1000000) && ds.all (kB n)
  | n + 1, .lst ds => decide (ds.length ≤ 1000000) && ds.all (kB n)
  | 0, .tup _ => false
  | 0, .lst _ => false
theorem kB_kD : ∀ {n : Nat} {d : D}, kB n d = true → kD n d
  | n, .val v, h => by
    have h2 : v = .non ∨ (∃ b, v = .bl b) ∨ (∃ i, v = .int i) ∨ ∃ z, v = .str z := by
      cases v with
      | non => exact .inl rfl
      | bl b => exact .inr (.inl ⟨b, rfl⟩)
      | int i => exact .inr (.inr (.inl ⟨i, rfl⟩))
      | str z => exact .inr (.inr (.inr ⟨z, rfl⟩))
      | _ => cases n <;> cases h
    cases n <;> exact h2
  | n, .dic, _ => kD_dic
  | 0, .tup ds, h => by cases h
  | 0, .lst ds, h => by cases h
  | n + 1, .tup ds, h => by
    obtain ⟨h1, h2⟩ := Bool.and_eq_true_iff.mp h
    exact ⟨of_decide_eq_true h1, fun d hd => kB_kD (List.all_eq_true.mp h2 d hd)⟩
  | n + 1, .lst ds, h => by
    obtain ⟨h1, h2⟩ := Bool.and_eq_true_iff.mp h
    exact ⟨of_decide_eq_true h1, fun d hd => kB_kD (List.all_eq_true.mp h2 d hd)⟩
def wordR : Nat → Str
  | 0 => "column"
  | 1 => "duration"
  | 2 => "accent"
  | 3 => "voices"
  | _ => "entry"
def WrongB (r v : Nat) (d : D) : Bool := match r with
  | 0 => !(rowD d && decide (lenD d = 3))
  | 1 => !shortD d
  | 2 => !wholeD 0 9 d
  | 3 => !rowD d || (!decide (lenD d = v) || (decide (lenD d = 0) || decide (4 < lenD d)))
  | _ => !entryD d
structure WrongOk (r v : Nat) (d : D) : Prop where
  k : kD 3 d
  w : WrongB r v d = true
theorem wr {r v : Nat} {d : D} (h1 : kB 3 d = true) (h2 : WrongB r v d = true) : WrongOk r v d := ⟨kB_kD h1, h2⟩
theorem wr1 {v : Nat} {d : D} (h1 : kB 3 d = true) (h2 : shortD d = false) : WrongOk 1 v d := ⟨kB_kD h1, by show (!shortD d) = true; rw [h2]; rfl⟩
theorem wr2 {v : Nat} {d : D} (h1 : kB 3 d = true) (h2 : wholeD 0 9 d = false) : WrongOk 2 v d := ⟨kB_kD h1, by show (!wholeD 0 9 d) = true; rw [h2]; rfl⟩
theorem wr4 {v : Nat} {d : D} (h1 : kB 3 d = true) (h2 : entryD d = false) : WrongOk 4 v d := ⟨kB_kD h1, by show (!entryD d) = true; rw [h2]; rfl⟩
theorem flat_one (d : D) : ∀ n, (List.replicate n [d]).flatten = List.replicate n d
  | 0 => rfl
  | n + 1 => by
    rw [List.replicate_succ, List.replicate_succ, List.flatten_cons, flat_one d n]
    rfl
theorem entry_nb {b : Bool} {x y : D} (h : boolD y = false) : entryD (sq b [x, y]) = false := by
  unfold entryD partD
  rw [partsD_of]
  show ((sq b [x, y]).isN || (pairD (sq b [x, y]) && (toneD x && boolD y))) = false
  rw [h, Bool.and_false, Bool.and_false, Bool.or_false]
  cases b <;> rfl
def R_wrong (ds : List D) (M : Mem) (Φ : D → Mem → Prop) : Prop := ∃ (a : Addr) (p : Pool) (r v : Nat), ds = [dP a, dS (wordR r), dI ((v : Nat) : Int)] ∧ M a = some (Pool.mo p) ∧ p.Ok ∧ r ≤ 4 ∧ 1 ≤ v ∧ v ≤ 4 ∧ ∀ d : D, WrongOk r v d → Draw M a Φ d
section
variable {P : Program} {w : World} {K : PySem.W.Frag} {mg : Str → Option Value} {base : Heap} {f : Addr} {fd : FuncData}
theorem c_wrong (F : Fun K "_law_wrong" "_law_wrong" s_wrong f fd) (hm : mg "_law_wrong" = some (.ref f)) (T : Bt mg) (hd : mg "dict" = none) (c_pick : Cal P w K mg base 3 "_law_pick" (spW K R_pick)) (c_tone : Cal P w K mg base 3 "_law_tone" (spW K R_tone)) (c_duration : Cal P w K mg base 4 "_law_duration" (spW K R_duration)) : Cal P w K mg base 5 "_law_wrong" (spW K R_wrong) := by
  refine calW_of F sc_wrong hm (fun _ _ _ _ _ _ us hl => match us, hl with | [_, _, _], _ => rfl) (fun ds M Φ h => ?_) fun cdv A outer s H E ds M Φ hr h => ?_
  · obtain ⟨a, p, r, v, rfl, _⟩ := h
    rfl
  · obtain ⟨a, p, r, v, rfl, hA, ok, hr4, v1, v4, hΦ⟩ := h
    show BV _ _ [some (dP a), some (dS (wordR r)), some (dI ((v : Nat) : Int)), none, none, none, none, none] _ _
    refine bv_cons (sw_set 3 sc_wrong.nd ?_)
    refine ew_callW c_tone (hr.mono (by decide)) (aw_av (av_cons (ev_var 0 rfl) av_nil) ⟨a, p, rfl, hA, ok, fun tf to_ hf ho p1 ok1 M1 fr1 hA1 => ?_⟩)
    refine bv_cons (sw_set 4 sc_wrong.nd ?_)
    refine ew_callW c_duration (hr.mono (by decide)) (aw_av (av_cons (ev_var 0 rfl) av_nil) ⟨a, p1, rfl, hA1, ok1, fun t ht p2 ok2 M2 fr2 hA2 => ?_⟩)
    refine bv_cons (sv_set 5 sc_wrong.nd (ev_mulT (ds := [dN]) (ev_tup (av_cons ev_non av_nil)) (ev_var 2 rfl) (by decide) (by omega) (by decide)) ?_)
    rw [Int.toNat_natCast, flat_one]
    have fr12 := fr1.trans fr2
    have fin {ds : List D} (g : ∀ d ∈ ds, WrongOk r v d) : ∀ d ∈ ds, Draw M2 a (fun d M1 => FinW Φ (.ret d M1)) d := fun d hd p3 ok3 M3 fr3 hA3 => ⟨_, hΦ d (g d hd) p3 ok3 _ (fr12.trans fr3) hA3, Mle.refl _⟩
    have v5 : v = 1 ∨ v = 2 ∨ v = 3 ∨ v = 4 := by omega
    match r, hr4 with
    | 0, _ =>
      refine bv_cons (sv_if (tv_cmpR op_eq (ev_var 1 rfl) ev_str rs_eqS (nomark _)) (fun _ => ?_) (fun h => absurd h (by decide)))
      refine bv_cons (sw_set 6 sc_wrong.nd ?_)
      refine ew_lst (aw_cons (ew_ev ev_non (aw_cons (ew_ev (ev_tup av_nil) (aw_cons (ew_ev (ev_tup (av_cons (ev_var 4 rfl) (av_cons ev_int av_nil))) (aw_cons (ew_ev (ev_tup (av_cons (ev_var 4 rfl) (av_cons ev_int (av_cons (ev_var 5 rfl) (av_cons ev_int av_nil))))) (aw_cons (ew_ev ev_int (aw_cons (ew_ev ev_str (aw_cons (ew_ev (ev_tup (av_cons (ev_var 4 rfl) (av_cons (ev_var 5 rfl) av_nil))) (aw_cons (ew_ev ev_str (aw_cons (ew_dict rfl hd (ew_ev (ev_lst (av_cons (ev_tup (av_cons ev_int (av_cons (ev_var 4 rfl) av_nil))) (av_cons (ev_tup (av_cons ev_int (av_cons ev_int av_nil))) (av_cons (ev_tup (av_cons ev_int (av_cons (ev_var 5 rfl) av_nil))) av_nil)))) ⟨[(0, frD t), (1, dI 0), (2, .tup (List.replicate v dN))], rfl, aw_nil ⟨by (simp only [List.length_cons, List.length_nil]; decide), ?_⟩⟩)))))))))))))))))))
      refine bv_one (sw_ret ?_)
      refine ew_callW c_pick (hr.mono (by decide)) (aw_av (av_cons (ev_var 0 rfl) (av_cons (ev_var 6 rfl) av_nil)) ⟨a, p2, true, _, rfl, hA2, ok2, by simp, by simp, fin ?_⟩)
      rcases v5 with rfl | rfl | rfl | rfl
      all_goals (repeat' refine List.forall_mem_cons.mpr ⟨?_, ?_⟩) <;> first | exact wr rfl rfl | exact fun d hd => absurd hd List.not_mem_nil
    | 1, _ =>
      refine bv_cons (sv_if (tv_cmpR op_eq (ev_var 1 rfl) ev_str rs_eqS (nomark _)) (fun h => absurd h (by decide)) (fun _ => bv_nil ?_))
      refine bv_cons (sv_if (tv_cmpR op_eq (ev_var 1 rfl) ev_str rs_eqS (nomark _)) (fun _ => ?_) (fun h => absurd h (by decide)))
      refine bv_one (sw_ret ?_)
      refine ew_callW c_pick (hr.mono (by decide)) (aw_av (av_cons (ev_var 0 rfl) (av_cons (ev_lst (av_cons (ev_tup (av_cons ev_int (av_cons ev_int av_nil))) (av_cons (ev_tup (av_cons (ev_un un_neg ev_int ru_neg) (av_cons ev_int av_nil))) (av_cons (ev_tup (av_cons ev_int (av_cons ev_int av_nil))) (av_cons (ev_tup (av_cons ev_int (av_cons ev_int av_nil))) (av_cons (ev_tup (av_cons ev_int (av_cons (ev_un un_neg ev_int ru_neg) av_nil))) (av_cons (ev_tup (av_cons ev_int (av_cons ev_int av_nil))) (av_cons (ev_tup (av_cons ev_int (av_cons ev_int av_nil))) (av_cons (ev_tup (av_cons ev_int (av_cons ev_int av_nil))) (av_cons (ev_tup (av_cons ev_int av_nil)) (av_cons ev_int (av_cons ev_non (av_cons (ev_tup (av_cons ev_int (av_cons ev_int (av_cons ev_int av_nil)))) (av_cons (ev_tup (av_cons ev_bl (av_cons ev_int av_nil))) (av_cons (ev_tup (av_cons ev_str (av_cons ev_int av_nil))) (av_cons (ev_tup (av_cons ev_int (av_cons ev_int av_nil))) (av_cons ev_str (av_cons ev_str av_nil)))))))))))))))))) av_nil)) ⟨a, p2, true, _, rfl, hA2, ok2, by simp, by simp, fin ?_⟩)
      (repeat' refine List.forall_mem_cons.mpr ⟨?_, ?_⟩) <;> first | exact wr1 rfl (by decide +kernel) | exact fun d hd => absurd hd List.not_mem_nil
    | 2, _ =>
      refine bv_cons (sv_if (tv_cmpR op_eq (ev_var 1 rfl) ev_str rs_eqS (nomark _)) (fun h => absurd h (by decide)) (fun _ => bv_nil ?_))
      refine bv_cons (sv_if (tv_cmpR op_eq (ev_var 1 rfl) ev_str rs_eqS (nomark _)) (fun h => absurd h (by decide)) (fun _ => bv_nil ?_))
      refine bv_cons (sv_if (tv_cmpR op_eq (ev_var 1 rfl) ev_str rs_eqS (nomark _)) (fun _ => ?_) (fun h => absurd h (by decide)))
      refine bv_one (sw_ret ?_)
      refine ew_callW c_pick (hr.mono (by decide)) (aw_av (av_cons (ev_var 0 rfl) (av_cons (ev_lst (av_cons (ev_un un_neg ev_int ru_neg) (av_cons ev_int (av_cons ev_int (av_cons ev_bl (av_cons ev_bl (av_cons ev_non (av_cons (ev_tup (av_cons ev_int av_nil)) (av_cons ev_str (av_cons (ev_op op_pow ev_int ev_int (rs_I ⟨by decide, by decide, by decide⟩)) av_nil)))))))))) av_nil)) ⟨a, p2, true, _, rfl, hA2, ok2, by simp, by simp, fin ?_⟩)
      (repeat' refine List.forall_mem_cons.mpr ⟨?_, ?_⟩) <;> first | exact wr2 rfl (by decide +kernel) | exact fun d hd => absurd hd List.not_mem_nil
    | 3, _ =>
      refine bv_cons (sv_if (tv_cmpR op_eq (ev_var 1 rfl) ev_str rs_eqS (nomark _)) (fun h => absurd h (by decide)) (fun _ => bv_nil ?_))
      refine bv_cons (sv_if (tv_cmpR op_eq (ev_var 1 rfl) ev_str rs_eqS (nomark _)) (fun h => absurd h (by decide)) (fun _ => bv_nil ?_))
      refine bv_cons (sv_if (tv_cmpR op_eq (ev_var 1 rfl) ev_str rs_eqS (nomark _)) (fun h => absurd h (by decide)) (fun _ => bv_nil ?_))
      refine bv_cons (sv_if (tv_cmpR op_eq (ev_var 1 rfl) ev_str rs_eqS (nomark _)) (fun _ => ?_) (fun h => absurd h (by decide)))
      refine bv_one (sw_ret ?_)
      refine ew_callW c_pick (hr.mono (by decide)) ?_
      refine aw_cons (ew_ev (ev_var 0 rfl) ?_)
      refine aw_cons (ew_lst ?_)
      refine aw_cons (ew_ev (ev_tup av_nil) ?_)
      refine aw_cons (ew_ev (ev_mulT (ds := [dN]) (ev_tup (av_cons ev_non av_nil)) (ev_op op_add (ev_var 2 rfl) ev_int rs_I0) (by decide) (by omega) (by decide)) ?_)
      refine aw_cons (ew_ev (ev_mulT (ds := [dN]) (ev_tup (av_cons ev_non av_nil)) ev_int (by decide) (by decide) (by decide)) ?_)
      refine aw_cons (ew_ev ev_non ?_)
      refine aw_cons (ew_ev (ev_mulT (ds := [dN]) (ev_tup (av_cons ev_non av_nil)) (ev_op op_sub (ev_var 2 rfl) ev_int rs_I0) (by decide) (by omega) (by decide)) ?_)
      refine aw_cons (ew_ev (ev_mulT (ds := [dN]) (ev_tup (av_cons ev_non av_nil)) ev_int (by decide) (by decide) (by decide)) ?_)
      refine aw_cons (ew_ev ev_int ?_)
      refine aw_cons (ew_ev (ev_repS (ch := 45) ev_str (ev_var 2 rfl) (by omega)) ?_)
      refine aw_cons (ew_dict rfl hd ?_)
      refine ew_ev (ev_lcM (own := [("k", 7)]) (g := gName 7) rfl sc_wrong.nd (iv_range1 T.range (ev_var 2 rfl) (by omega)) (blkOk_by (N := ["pool", "reason", "voices", "tone", "duration", "whole", "rows", "k"]) (sc := defScope s_wrong) (by decide +kernel)) (fun _ _ _ _ _ => (pg_name (i := 7) sc_wrong.nd rfl (.inl rfl))) (fun d => .tup [d, dN]) (by rw [rgD_len]; exact Nat.le_trans (show _ ≤ 4 by omega) (by decide)) (fun i d h => ⟨_, tgb_name, fun M2 s H C cl fp => ev_tup (av_cons (ev_var 7 rfl) (av_cons ev_non av_nil))⟩)) ⟨(List.range v).map fun i : Nat => ((0 : Int) + (i : Int), dN), ?_, aw_nil ⟨by (simp only [List.length_cons, List.length_nil]; decide), aw_nil ⟨a, p2, true, _, rfl, hA2, ok2, by simp, by simp, fin ?_⟩⟩⟩
      · unfold rgD
        rw [List.map_map, List.map_map]
        rfl
      · rcases v5 with rfl | rfl | rfl | rfl
        all_goals (repeat' refine List.forall_mem_cons.mpr ⟨?_, ?_⟩) <;> first | exact wr rfl (by decide +kernel) | exact fun d hd => absurd hd List.not_mem_nil
    | 4, _ =>
      refine bv_cons (sv_if (tv_cmpR op_eq (ev_var 1 rfl) ev_str rs_eqS (nomark _)) (fun h => absurd h (by decide)) (fun _ => bv_nil ?_))
      refine bv_cons (sv_if (tv_cmpR op_eq (ev_var 1 rfl) ev_str rs_eqS (nomark _)) (fun h => absurd h (by decide)) (fun _ => bv_nil ?_))
      refine bv_cons (sv_if (tv_cmpR op_eq (ev_var 1 rfl) ev_str rs_eqS (nomark _)) (fun h => absurd h (by decide)) (fun _ => bv_nil ?_))
      refine bv_cons (sv_if (tv_cmpR op_eq (ev_var 1 rfl) ev_str rs_eqS (nomark _)) (fun h => absurd h (by decide)) (fun _ => bv_nil ?_))
      refine bv_cons (sw_set 6 sc_wrong.nd (ew_lstN (aw_av (av_cons ev_str (av_cons (ev_var 3 rfl) (av_cons (ev_tup (av_cons (ev_var 3 rfl) av_nil)) (av_cons (ev_tup (av_cons (ev_var 3 rfl) (av_cons ev_int av_nil))) (av_cons (ev_tup (av_cons (ev_var 3 rfl) (av_cons ev_non av_nil))) (av_cons (ev_tup (av_cons (ev_var 3 rfl) (av_cons ev_bl (av_cons ev_bl av_nil)))) (av_cons (ev_tup (av_cons (ev_tup (av_cons ev_int (av_cons ev_int av_nil))) (av_cons ev_bl av_nil))) (av_cons (ev_tup (av_cons (ev_tup (av_cons ev_int (av_cons (ev_un un_neg ev_int ru_neg) av_nil))) (av_cons ev_bl av_nil))) (av_cons (ev_tup (av_cons (ev_tup (av_cons ev_int (av_cons ev_bl av_nil))) (av_cons ev_bl av_nil))) av_nil))))))))) ⟨by (simp only [List.length_cons, List.length_nil]; decide), fun l hl => ?_⟩)))
      refine bv_one (sw_ret ?_)
      have la : a ≠ l := mem_ne hA2 hl
      refine ew_callW c_pick (hr.mono (by decide)) ?_
      refine aw_cons (ew_ev (ev_var 0 rfl) ?_)
      refine aw_cons (ew_catL ?_)
      refine ew_ev (ev_var 6 rfl) ⟨l, _, rfl, Mem.set_same, ?_⟩
      refine ew_lstN (aw_av (av_cons (ev_tup (av_cons (ev_tup (av_cons ev_int av_nil)) (av_cons ev_bl av_nil))) (av_cons (ev_tup (av_cons ev_int (av_cons ev_bl av_nil))) (av_cons ev_bl (av_cons ev_bl (av_cons ev_int (av_cons (ev_tup av_nil) (av_cons (ev_tup (av_cons ev_non (av_cons ev_bl av_nil))) (av_cons (ev_tup (av_cons (ev_tup (av_cons ev_int (av_cons ev_int (av_cons ev_int av_nil)))) (av_cons ev_bl av_nil))) (av_cons (ev_tup (av_cons ev_str (av_cons ev_bl av_nil))) av_nil))))))))) ⟨by (simp only [List.length_cons, List.length_nil]; decide), fun l2 hl2 => ?_⟩)
      have l12 : l ≠ l2 := fun e => by rw [← e, Mem.set_same] at hl2; cases hl2
      refine ⟨l2, _, rfl, by rw [Mem.set_ne l12]; exact Mem.set_same, Mem.set_same, by (simp only [List.length_cons, List.length_nil]; decide), ?_⟩
      have la2 : a ≠ l2 := fun e => by rw [← e, Mem.set_ne la, hA2] at hl2; cases hl2
      refine aw_nil ⟨a, p2, true, _, rfl, by rw [Mem.set_ne la2, Mem.set_ne la]; exact hA2, ok2, by simp, by simp, ?_⟩
      have g : ∀ d ∈ ([dS "C4", D.tup [dI tf, dI to_], .tup [.tup [dI tf, dI to_]], .tup [.tup [dI tf, dI to_], dI 1], .tup [.tup [dI tf, dI to_], dN], .tup [.tup [dI tf, dI to_], dB true, dB true], .tup [.tup [dI 1001, dI 0], dB true], .tup [.tup [dI 0, dI (-1001)], dB false], .tup [.tup [dI 0, dB true], dB true]] ++ [D.tup [.tup [dI 0], dB true], .tup [dI 0, dB true], dB false, dB true, dI 0, .tup [], .tup [dN, dB true], .tup [.tup [dI 0, dI 4, dI 0], dB true], .tup [dS "C4", dB true]]), WrongOk 4 v d := by
        show ∀ d ∈ [_, _, _, _, _, _, _, _, _, _, _, _, _, _, _, _, _, _], _
        (repeat' refine List.forall_mem_cons.mpr ⟨?_, ?_⟩) <;> first | exact wr4 rfl (entry_nb (b := false) rfl) | exact wr4 rfl rfl | exact wr4 rfl (by decide +kernel) | exact fun d hd => absurd hd List.not_mem_nil
      intro d hd p3 ok3 M3 fr3 hA3
      exact ⟨_, hΦ d (g d hd) p3 ok3 _ ((fr12.trans (Fr1.new (Fr1.refl _ _) hl)).trans ((Fr1.new (Fr1.refl _ _) hl2).trans fr3)) hA3, Mle.refl _⟩
    | _ + 5, h5 => exact absurd h5 (by omega)
end
/-- what is known of the error's class and of the others that are named in the clauses -/
structure GE (K : PySem.W.Frag) (mg : Str → Option Value) (C S : Addr) (c1 c2 : Value) : Prop where
  bn : mg "BadName" = some c1
  bk : mg "BadKey" = some c2
  bc : mg "BadColumn" = some (.ref C)
  se : mg "ScoreError" = some (.ref S)
  ve : mg "ValueError" = none
  no : PySem.W.exmAny K (.ref C) [c1, c2] = some false
  yes : PySem.W.exmOne K (.ref C) (.ref C) = some true
  ec : ExcC K C
  cl : (PySem.W.clsIn K C).isSome = true
  k1 : PySem.W.kitOne K (.ref C) (.ref S) = some true
  k2 : PySem.W.kitOne K (.ref C) (.type "ValueError") = some true
  xf : XfC K C
  n1 : PySem.W.findIn K (.ref C) "number" = some none
  n2 : PySem.W.findIn K (.ref C) "reason" = some none
section
variable {P : Program} {w : World} {K : PySem.W.Frag} {mg : Str → Option Value} {base : Heap} {f : Addr} {fd : FuncData}
def R_told (ds : List D) (M : Mem) (Φ : D → Mem → Prop) : Prop := ∃ t n, ds = [t] ∧ kD n t ∧ match checkD t with
  | none => ∀ M', Mle M M' → Φ (.tup [dS "told", barT t]) M'
  | some (i, z) => ∀ M', Mle M M' → Φ (.tup [dS "refused", optI i, dS z, dB true, dB true]) M'
theorem c_told {C S : Addr} {c1 c2 : Value} (F : Fun K "_law_told" "_law_told" s_told f fd) (hm : mg "_law_told" = some (.ref f)) (T : Bt mg) (G : GE K mg C S c1 c2) (c_p_check_bar : CalX P w K mg base 6 "check_bar" (spU K (R_check C))) : Cal P w K mg base 7 "_law_told" (spW K R_told) := by
  refine calW_of F sc_told hm (fun _ _ _ _ _ _ us hl => match us, hl with | [_], _ => rfl) (fun ds M Φ h => ?_) fun cdv A outer s H E ds M Φ hr h => ?_
  · obtain ⟨t, n, rfl, _⟩ := h
    rfl
  · obtain ⟨t, n, rfl, hk, h⟩ := h
    show BV _ _ [some t, none, none] _ _
    refine bv_cons (sv_tryU (C := C) (i := 2) (c1 := c1) (c2 := c2) rfl rfl takes0 ⟨rfl, by decide, .inl G.bn⟩ ⟨rfl, by decide, .inl G.bk⟩ ⟨rfl, by decide, .inl G.bc⟩ G.no G.yes sc_told.nd rfl rfl (fun W pn xe tk po => ?_))
    refine bu_one (su_set 1 sc_told.nd (eu_call c_p_check_bar tk (hr.mono (by decide)) (aw_av (av_cons (ev_var 0 rfl) av_nil) ⟨t, n, rfl, hk, ?_⟩)))
    cases q : checkD t with
    | none =>
      rw [q] at h
      show BV _ _ _ _ _
      exact bv_one (sv_ret (ev_tup (av_cons ev_str (av_cons (ev_var 1 rfl) av_nil))) ⟨_, h M (Mle.refl _), Mle.refl _⟩)
    | some iz =>
      obtain ⟨i, z⟩ := iz
      rw [q] at h
      refine fun dx hdx => ⟨rfl, fun a oe pn hz hf => ?_⟩
      have hM : (M.set dx (.xd [("reason", dS z), ("number", optI i)])) dx = some (.xd [("reason", dS z), ("number", optI i)]) := Mem.set_same
      have hd : ∀ x, some dx = some x → ∃ fs, (M.set dx (.xd [("reason", dS z), ("number", optI i)])) x = some (.xd fs) := fun x e => by
        cases e
        exact ⟨_, hM⟩
      exact bv_one (sv_ret (ev_tup (av_cons ev_str (av_cons (ev_xfld G.xf G.n1 hz hf (ev_var 2 rfl) hM rfl) (av_cons (ev_xfld G.xf G.n2 hz hf (ev_var 2 rfl) hM rfl) (av_cons (ev_isF (n := "e") (i := 2) (p3 := ⟨0, 0, 0, 0⟩) (cv := .ref S) (vc := .ref S) T.isinstance G.ec G.cl hz hf hd (fun u h => h) G.k1 (av_cons (ev_var 2 rfl) (av_cons (ev_glob rfl G.se rfl) av_nil))) (av_cons (ev_isF (n := "e") (i := 2) (p3 := ⟨0, 0, 0, 0⟩) (cv := .type "ValueError") (vc := .ty "ValueError") T.isinstance G.ec G.cl hz hf hd (fun u h => h) G.k2 (av_cons (ev_var 2 rfl) (av_cons (ev_bty G.ve (by decide +kernel)) av_nil))) av_nil)))))) ⟨_, h _ (mle_new (Mle.refl _) hdx), Mle.refl _⟩)
end
/-! ### right columns pass, spoilt ones don't -/
def TnK (t : Tn) : Prop := (-1000 ≤ t.1 ∧ t.1 ≤ 1000) ∧ -1000 ≤ t.2 ∧ t.2 ≤ 1000
theorem TnS.far {t : Tn} (h : TnS t) : TnK t := ⟨⟨by have := h.1; omega, by have := h.1; omega⟩, by have := h.2; omega, by have := h.2; omega⟩
theorem part_of {b : Bool} {ds : List D} {i : Nat} : partD (sq b ds) i = ds.getD i dN := by
  unfold partD
  rw [partsD_of]
theorem pair_of {b : Bool} {x y : D} : pairD (sq b [x, y]) = true := by
  unfold pairD
  rw [rowD_of, partsD_of]
  rfl
theorem whole_of {lo hi i : Int} (h : lo ≤ i ∧ i ≤ hi) : wholeD lo hi (dI i) = true := by
  show (decide (lo ≤ i) && decide (i ≤ hi)) = true
  rw [decide_eq_true h.1, decide_eq_true h.2]
  rfl
theorem short_of {b : Bool} {t : Tn} (h : DurOk t) : shortD (sq b [dI t.1, dI t.2]) = true := by
  unfold shortD
  have d0 := h.red.d0
  have n0 := h.n0
  have g := h.red.one
  have nb := h.nb
  have db := h.db
  rw [pair_of, partsD_of, part_of, part_of]
  show ((true && (wholeD 1 1000 (dI t.1) && (wholeD 1 1000 (dI t.2) && true))) && decide (((Nat.gcd t.1.natAbs t.2.natAbs : Nat) : Int) = 1)) = true
  rw [whole_of (by omega), whole_of (by omega)]
  unfold gz at g
  rw [decide_eq_true g]
  rfl
theorem entry_of {b : Bool} {e : Option (Tn × Bool)} (h : ∀ t g, e = some (t, g) → TnK t) : entryD (entQ b e) = true := by
  cases e with
  | none => rfl
  | some e =>
    obtain ⟨t, g⟩ := e
    have ht := h t g rfl
    show entryD (sq b [sq b [dI t.1, dI t.2], dB g]) = true
    unfold entryD
    rw [pair_of, part_of, part_of]
    show (_ || (true && (toneD (sq b [dI t.1, dI t.2]) && true))) = true
    unfold toneD
    rw [pair_of, partsD_of]
    show (_ || (true && ((true && (wholeD (-1000) 1000 (dI t.1) && (wholeD (-1000) 1000 (dI t.2) && true))) && true))) = true
    rw [whole_of ht.1, whole_of ht.2]
    exact Bool.or_true _
theorem ents_all {b : Bool} {es : List (Option (Tn × Bool))} (h : ∀ t g, some (t, g) ∈ es → TnK t) : (es.map (entQ b)).all entryD = true := by
  rw [List.all_eq_true]
  intro d hd
  obtain ⟨e, he, rfl⟩ := List.mem_map.mp hd
  exact entry_of fun t g e' => h t g (by rw [← e']; exact he)
theorem reason_good {b : Bool} {v : Nat} {c : Col} {vo : Option Nat} (h : ColOk TnK v c) (hv : 1 ≤ v ∧ v ≤ 4) (hvo : ∀ k, vo = some k → k = v) : reasonD (colQ b c) vo = none := by
  have l : lenD (sq b (c.ents.map (entQ b))) = v := by
    unfold lenD
    rw [partsD_of, List.length_map, h.len]
  have r3 : rowD (colQ b c) = true ∧ lenD (colQ b c) = 3 := ⟨rowD_of, by unfold colQ lenD; rw [partsD_of]; rfl⟩
  unfold reasonD
  rw [if_pos r3]
  unfold colQ
  rw [part_of, part_of, part_of]
  show (if shortD (sq b [dI c.dur.1, dI c.dur.2]) = true then (if wholeD 0 9 (dI c.acc) = true then (if _ ∧ _ ∧ _ then (if (partsD (sq b (c.ents.map (entQ b)))).all entryD = true then none else _) else _) else _) else _) = none
  rw [if_pos (short_of h.dur), if_pos (whole_of h.acc), if_pos ⟨rowD_of, ⟨by show 1 ≤ lenD (sq b (c.ents.map (entQ b))); omega, by show lenD (sq b (c.ents.map (entQ b))) ≤ 4; omega⟩, fun k hk => by show lenD (sq b (c.ents.map (entQ b))) = k; rw [l, hvo k hk]⟩, partsD_of, if_pos (ents_all h.ton)]
abbrev VoOk (d : D) (vo : Option Nat) : Prop := rowD d = true ∧ (1 ≤ lenD d ∧ lenD d ≤ 4) ∧ ∀ k, vo = some k → lenD d = k
theorem reason_spoilt {d1 d2 d3 : D} {vo : Option Nat} {S : List Int} {m : Nat} (m1 : 1 ≤ m) (m4 : m ≤ 4) (hm : (m : Int) ∈ S) (hmin : ∀ y ∈ S, (m : Int) ≤ y)
    (h1 : shortD d1 = !decide ((1 : Int) ∈ S)) (h2 : wholeD 0 9 d2 = !decide ((2 : Int) ∈ S)) (h3 : (3 : Int) ∈ S → ¬ VoOk d3 vo) (h3' : ¬ (3 : Int) ∈ S → VoOk d3 vo) (h4 : ¬ (3 : Int) ∈ S → (partsD d3).all entryD = !decide ((4 : Int) ∈ S)) : reasonD (.tup [d1, d2, d3]) vo = some (wordR m) := by
  unfold reasonD
  rw [if_pos ⟨rfl, rfl⟩]
  show (if shortD d1 = true then (if wholeD 0 9 d2 = true then (if VoOk d3 vo then _ else _) else _) else _) = _
  have pt : (!false) = true := rfl
  match m, m1, m4 with
  | 1, _, _ =>
    have hm : (1 : Int) ∈ S := hm
    rw [h1, decide_eq_true hm]
    rfl
  | 2, _, _ =>
    have hm : (2 : Int) ∈ S := hm
    rw [h1, decide_eq_false (fun q => by have := hmin 1 q; omega), h2, decide_eq_true hm]
    rfl
  | 3, _, _ =>
    rw [h1, decide_eq_false (fun q => by have := hmin 1 q; omega), h2, decide_eq_false (fun q => by have := hmin 2 q; omega), if_pos pt, if_pos pt, if_neg (h3 hm)]
    rfl
  | 4, _, _ =>
    have hm : (4 : Int) ∈ S := hm
    have n3 : ¬ (3 : Int) ∈ S := fun q => by have := hmin 3 q; omega
    rw [h1, decide_eq_false (fun q => by have := hmin 1 q; omega), h2, decide_eq_false (fun q => by have := hmin 2 q; omega), if_pos pt, if_pos pt, if_pos (h3' n3)]
    show (if (partsD d3).all entryD = true then _ else _) = _
    rw [h4 n3, decide_eq_true hm]
    rfl
def voAt (i v : Nat) : Option Nat := if i = 0 then none else some v
theorem voAt_ok {i v k : Nat} (h : voAt i v = some k) : k = v := by
  unfold voAt at h
  split at h
  · cases h
  · exact (Option.some.inj h).symm
theorem walk_first {v : Nat} {bar : List Col} {cells : List D} {j : Nat} {z : Str} (hv : 1 ≤ v ∧ v ≤ 4) (hb : ∀ c ∈ bar, ColOk TnK v c) (hg : ∀ k, k < j → ∃ c, bar[k]? = some c ∧ cells[k]? = some (colD c)) {d : D} (hj : cells[j]? = some d) (hz : reasonD d (voAt j v) = some z) :
    ∀ n i, i + n = j → walkD i (voAt i v) (cells.drop i) = some (j, z)
  | 0, i, e => by
    obtain rfl : i = j := e
    rw [dropAt hj]
    unfold walkD
    rw [hz]
  | n + 1, i, e => by
    obtain ⟨c, h1, h2⟩ := hg i (by omega)
    rw [dropAt h2]
    have hc := hb c (List.mem_of_getElem? h1)
    have ih := walk_first hv hb hg hj hz n (i + 1) (by omega)
    unfold walkD
    rw [reason_good hc hv fun k => voAt_ok]
    show walkD (i + 1) (some (lenD (partD (colD c) 2))) _ = _
    have e2 : partD (colD c) 2 = sq false (c.ents.map (entQ false)) := rfl
    rw [e2]
    unfold lenD
    rw [partsD_of, List.length_map, hc.len]
    have e3 : voAt (i + 1) v = some v := if_neg (by omega)
    rw [e3] at ih
    exact ih
theorem walk_good {v : Nat} {b : Bool} (hv : 1 ≤ v ∧ v ≤ 4) : ∀ {bar : List Col} {i : Nat} {vo : Option Nat}, (∀ c ∈ bar, ColOk TnK v c) → (∀ k, vo = some k → k = v) → walkD i vo (bar.map (colQ b)) = none
  | [], _, _, _, _ => rfl
  | c :: bar, i, vo, h, hvo => by
    have hc := h c List.mem_cons_self
    rw [List.map_cons]
    unfold walkD
    rw [reason_good hc hv hvo]
    refine walk_good hv (fun c hc => h c (List.mem_cons_of_mem _ hc)) fun k hk => ?_
    have e2 : partD (colQ b c) 2 = sq b (c.ents.map (entQ b)) := by
      unfold colQ
      rw [part_of]
      rfl
    rw [e2] at hk
    unfold lenD at hk
    rw [partsD_of, List.length_map, hc.len] at hk
    exact (Option.some.inj hk).symm
theorem check_good {v : Nat} {b1 b2 : Bool} {bar : List Col} (hv : 1 ≤ v ∧ v ≤ 4) (h0 : 0 < bar.length) (h1 : bar.length ≤ 64) (h : ∀ c ∈ bar, ColOk TnK v c) : checkD (barQ b1 b2 bar) = none := by
  unfold checkD barQ
  rw [if_pos ⟨rowD_of, by unfold lenD; rw [partsD_of, List.length_map]; omega, by unfold lenD; rw [partsD_of, List.length_map]; omega⟩, partsD_of, walk_good hv h fun k hk => by cases hk]
  rfl
theorem ent_tup {b : Bool} (e : Option (Tn × Bool)) : entT (entQ b e) = entQ false e := by
  cases e with
  | none => rfl
  | some e =>
    obtain ⟨t, g⟩ := e
    show entT (sq b [sq b [dI t.1, dI t.2], dB g]) = _
    unfold entT
    have e1 : (sq b [sq b [dI t.1, dI t.2], dB g]).isN = false := by cases b <;> rfl
    rw [e1, part_of, part_of]
    show D.tup [.tup (partsD (sq b [dI t.1, dI t.2])), dB g] = _
    rw [partsD_of]
    rfl
theorem bar_tup {b1 b2 : Bool} {bar : List Col} : barT (barQ b1 b2 bar) = barD bar := by
  unfold barT barQ
  rw [partsD_of, List.map_map]
  refine congrArg D.tup (List.map_congr_left fun c _ => ?_)
  show colT (colQ b2 c) = colD c
  unfold colT colQ
  rw [part_of, part_of, part_of]
  show D.tup [.tup (partsD (sq b2 [dI c.dur.1, dI c.dur.2])), dI c.acc, .tup ((partsD (sq b2 (c.ents.map (entQ b2)))).map entT)] = _
  rw [partsD_of, partsD_of, List.map_map]
  have e : (c.ents.map (entT ∘ entQ b2)) = c.ents.map (entQ false) := List.map_congr_left fun x _ => ent_tup x
  rw [e]
  rfl
theorem kD_col {b : Bool} {c : Col} {v : Nat} (h : c.ents.length = v) (hv : v ≤ 1000) : kD 4 (colQ b c) := by
  refine kD_mk (by show 3 ≤ 1000000; decide) fun d hd => ?_
  rcases List.mem_cons.mp hd with rfl | hd
  · exact kD_mk (by show 2 ≤ 1000000; decide) fun d hd => by
      rcases List.mem_cons.mp hd with rfl | hd
      · exact kD_int _
      · rw [List.mem_singleton.mp hd]
        exact kD_int _
  rcases List.mem_cons.mp hd with rfl | hd
  · exact kD_int _
  rw [List.mem_singleton.mp hd]
  refine kD_mk (by rw [List.length_map]; omega) fun d hd => ?_
  obtain ⟨e, _, rfl⟩ := List.mem_map.mp hd
  cases e with
  | none => exact kD_none
  | some e =>
    obtain ⟨t, g⟩ := e
    refine kD_mk (by show 2 ≤ 1000000; decide) fun d hd => ?_
    rcases List.mem_cons.mp hd with rfl | hd
    · exact kD_mk (by show 2 ≤ 1000000; decide) fun d hd => by
        rcases List.mem_cons.mp hd with rfl | hd
        · exact kD_int _
        · rw [List.mem_singleton.mp hd]
          exact kD_int _
    · rw [List.mem_singleton.mp hd]
      exact kD_bool _
theorem kD_bar {b1 b2 : Bool} {bar : List Col} {v : Nat} (hl : bar.length ≤ 100000) (h : ∀ c ∈ bar, c.ents.length = v) (hv : v ≤ 1000) : kD 5 (barQ b1 b2 bar) := by
  refine kD_mk (by rw [List.length_map]; omega) fun d hd => ?_
  obtain ⟨c, hc, rfl⟩ := List.mem_map.mp hd
  exact kD_col (h c hc) hv
theorem bar_at {b1 : Bool} {bar : List Col} {k : Nat} (h : k < bar.length) : (bar.map (colQ b1))[k]? = some (colQ b1 bar[k]) := by
  rw [List.getElem?_map, List.getElem?_eq_getElem h]
  rfl
/-! ### lists of lists in the memory -/
structure SpM (M0 M : Mem) (a lc : Addr) (ps : List Addr) (Ss : List (List Int)) : Prop where
  len : ps.length = Ss.length
  at_ : ∀ (k : Nat) (p : Addr) (s : List Int), ps[k]? = some p → Ss[k]? = some s → M p = some (.lst (s.map dI))
  nd : ps.Nodup
  ne : ∀ p ∈ ps, p ≠ a ∧ p ≠ lc ∧ M0 p = none
  in_ : ∀ s ∈ Ss, s.length ≤ 1000 ∧ ∀ x ∈ s, 0 ≤ x ∧ x ≤ 4
theorem SpM.there {M0 M : Mem} {a lc : Addr} {ps : List Addr} {Ss : List (List Int)} (h : SpM M0 M a lc ps Ss) {p : Addr} (hp : p ∈ ps) : ∃ s : List Int, M p = some (.lst (s.map dI)) := by
  obtain ⟨k, hk, e⟩ := List.getElem_of_mem hp
  have hk2 : k < Ss.length := by rw [← h.len]; exact hk
  exact ⟨_, h.at_ k p Ss[k] (by rw [List.getElem?_eq_getElem hk, e]) (List.getElem?_eq_getElem hk2)⟩
theorem SpM.fr {M0 M M' : Mem} {a lc : Addr} {ps : List Addr} {Ss : List (List Int)} (h : SpM M0 M a lc ps Ss) (f : Fr1 a M M') : SpM M0 M' a lc ps Ss :=
  ⟨h.len, fun k p s h1 h2 => f p (h.ne p (List.mem_of_getElem? h1)).1 _ (h.at_ k p s h1 h2), h.nd, h.ne, h.in_⟩
theorem SpM.setc {M0 M : Mem} {a lc : Addr} {o : MO} {ps : List Addr} {Ss : List (List Int)} (h : SpM M0 M a lc ps Ss) : SpM M0 (M.set lc o) a lc ps Ss :=
  ⟨h.len, fun k p s h1 h2 => by rw [Mem.set_ne (h.ne p (List.mem_of_getElem? h1)).2.1]; exact h.at_ k p s h1 h2, h.nd, h.ne, h.in_⟩
theorem SpM.new {M0 M : Mem} {a lc l : Addr} {o : MO} {ps : List Addr} {Ss : List (List Int)} (h : SpM M0 M a lc ps Ss) (hl : l ∉ ps) : SpM M0 (M.set l o) a lc ps Ss :=
  ⟨h.len, fun k p s h1 h2 => by rw [Mem.set_ne (fun e => hl (by rw [← e]; exact List.mem_of_getElem? h1))]; exact h.at_ k p s h1 h2, h.nd, h.ne, h.in_⟩
theorem SpM.fresh {M0 M : Mem} {a lc l : Addr} {ps : List Addr} {Ss : List (List Int)} (h : SpM M0 M a lc ps Ss) (hl : M l = none) : l ∉ ps := fun q => by
  obtain ⟨s, e⟩ := h.there q
  rw [hl] at e
  cases e
theorem SpM.put {M0 M : Mem} {a lc p : Addr} {ps : List Addr} {Ss : List (List Int)} {k : Nat} {s : List Int} (h : SpM M0 M a lc ps Ss) (hp : ps[k]? = some p) (hs : s.length ≤ 1000 ∧ ∀ x ∈ s, 0 ≤ x ∧ x ≤ 4) : SpM M0 (M.set p (.lst (s.map dI))) a lc ps (Ss.set k s) := by
  refine ⟨by rw [List.length_set]; exact h.len, fun k' p' s' h1 h2 => ?_, h.nd, h.ne, fun s' hs' => ?_⟩
  · by_cases e : k = k'
    · subst e
      rw [hp] at h1
      cases h1
      have hk : k < Ss.length := by
        rw [← h.len]
        exact (List.getElem?_eq_some_iff.mp hp).1
      rw [List.getElem?_set_self hk] at h2
      cases h2
      exact Mem.set_same
    · rw [List.getElem?_set_ne e] at h2
      have n : p' ≠ p := fun q => by
        obtain ⟨h3, e3⟩ := List.getElem?_eq_some_iff.mp hp
        obtain ⟨h4, e4⟩ := List.getElem?_eq_some_iff.mp h1
        exact e ((List.getElem_inj h.nd).mp (e3.trans (q.symm.trans e4.symm)))
      rw [Mem.set_ne n]
      exact h.at_ k' p' s' h1 h2
  · rcases List.mem_or_eq_of_mem_set hs' with h1 | rfl
    · exact h.in_ s' h1
    · exact hs
theorem fr_none {M0 M : Mem} {a l : Addr} {o : MO} (f : Fr1 a M0 M) (ha : M a = some o) (hl : M l = none) : M0 l = none := by
  cases e : M0 l with
  | none => rfl
  | some u =>
    have n : l ≠ a := fun q => by rw [q, ha] at hl; cases hl
    rw [f l n u e] at hl
    cases hl
theorem Fr1.setn {a l : Addr} {M M1 : Mem} {o : MO} (h : Fr1 a M M1) (hl : M l = none) : Fr1 a M (M1.set l o) := h.new hl
def R_long_bar (ds : List D) (M : Mem) (Φ : D → Mem → Prop) : Prop := ∃ (a : Addr) (p : Pool) (v : Nat), ds = [dP a, dI ((v : Nat) : Int)] ∧ M a = some (Pool.mo p) ∧ p.Ok ∧ v ≤ 1000 ∧ ∀ bar : List Col, 0 < bar.length → bar.length ≤ 64 → (∀ c ∈ bar, ColOk TnK v c) → Draw M a Φ (barD bar)
section
variable {P : Program} {w : World} {K : PySem.W.Frag} {mg : Str → Option Value} {base : Heap} {f : Addr} {fd : FuncData}
theorem c_long_bar (F : Fun K "_law_long_bar" "_law_long_bar" s_long_bar f fd) (hm : mg "_law_long_bar" = some (.ref f)) (T : Bt mg) (c_pick : Cal P w K mg base 3 "_law_pick" (spW K R_pick)) (c_tone : Cal P w K mg base 3 "_law_tone" (spW K R_tone)) (c_column : Cal P w K mg base 5 "_law_column" (spW K R_column)) : Cal P w K mg base 6 "_law_long_bar" (spW K R_long_bar) := by
  refine calW_of F sc_long_bar hm (fun _ _ _ _ _ _ us hl => match us, hl with | [_, _], _ => rfl) (fun ds M Φ h => ?_) fun cdv A outer s H E ds M Φ hr h => ?_
  · obtain ⟨a, p, v, rfl, _⟩ := h
    rfl
  · obtain ⟨a, p, v, rfl, hA, ok, hv, hΦ⟩ := h
    show BV _ _ [some (dP a), some (dI ((v : Nat) : Int)), none, none, none] _ _
    refine bv_cons (sw_set 2 sc_long_bar.nd ?_)
    refine ew_catL ?_
    refine ew_lcN (own := [("k", 3)]) (g := gName 3) rfl sc_long_bar.nd (blkOk_by (N := ["pool", "voices", "some", "k", "found"]) (sc := defScope s_long_bar) (by decide +kernel)) (fun _ _ _ _ _ => (pg_name (i := 3) sc_long_bar.nd rfl (.inl rfl))) ?_
    refine iw_iv (iv_range1 T.range ev_int (by decide)) ⟨by rw [rgD_len]; decide, fun i acc M2 => ∃ (ts : List Tn) (q : Pool), acc = ts.map frD ∧ ts.length = i ∧ (∀ t ∈ ts, TnK t) ∧ Fr1 a M M2 ∧ M2 a = some q.mo ∧ q.Ok, ⟨[], p, rfl, rfl, fun t h => absurd h List.not_mem_nil, Fr1.refl _ _, hA, ok⟩, fun i d acc M2 hd hacc iv => ?_, fun acc M2 hacc iv l hl => ?_⟩
    · obtain ⟨ts, q, rfl, len, hts, fr, hA, ok⟩ := iv
      refine ⟨_, tgb_name, fun l hl s H C cl fp => ?_⟩
      refine ew_callW c_tone (hr.mono (by decide)) (aw_av (av_cons (ev_var 0 rfl) av_nil) ⟨a, q, rfl, Mem.set_at hA hl, ok, fun tf to_ hf ho p2 ok2 M3 fr2 hA2 => ?_⟩)
      obtain ⟨e1, e2, e3, e4⟩ := lc_back hA hl fr2
      refine ⟨_, e1, e2, ts ++ [(tf, to_)], p2, by rw [List.map_append]; rfl, by rw [List.length_append, len]; rfl, fun t h => ?_, fr.trans e3, e4 _ hA2, ok2⟩
      rcases List.mem_append.mp h with h | h
      · exact hts t h
      · rw [List.mem_singleton.mp h]
        exact TnS.far ⟨hf, ho⟩
    · obtain ⟨ts, q, rfl, len, hts, fr, hA, ok⟩ := iv
      have len : ts.length = 3 := by rw [len, rgD_len]; rfl
      refine ⟨l, _, rfl, Mem.set_same, ew_lstN (aw_av (av_cons (ev_tup (av_cons ev_int (av_cons (ev_un un_neg ev_int ru_neg) av_nil))) (av_cons (ev_tup (av_cons (ev_un un_neg ev_int ru_neg) (av_cons ev_int av_nil))) av_nil)) ⟨by (simp only [List.length_cons, List.length_nil]; decide), fun l2 hl2 => ?_⟩)⟩
      have la : a ≠ l := mem_ne hA hl
      have l12 : l ≠ l2 := fun e => by rw [← e, Mem.set_same] at hl2; cases hl2
      have la2 : a ≠ l2 := fun e => by rw [← e, Mem.set_ne la, hA] at hl2; cases hl2
      refine ⟨l2, _, rfl, by rw [Mem.set_ne l12]; exact Mem.set_same, Mem.set_same, by rw [List.length_map, len]; decide, ?_⟩
      have fr2 : Fr1 a M ((M2.set l (.lst (ts.map frD))).set l2 (.lst [.tup [dI 1000, dI (-1000)], .tup [dI (-1000), dI 1000]])) := (fr.trans (Fr1.new (Fr1.refl _ _) hl)).trans (Fr1.new (Fr1.refl _ _) hl2)
      have hA3 : ((M2.set l (.lst (ts.map frD))).set l2 (.lst [.tup [dI 1000, dI (-1000)], .tup [dI (-1000), dI 1000]])) a = some q.mo := by rw [Mem.set_ne la2, Mem.set_ne la]; exact hA
      obtain ⟨us, eu, lu, hu⟩ : ∃ us : List Tn, ts.map frD ++ [.tup [dI 1000, dI (-1000)], .tup [dI (-1000), dI 1000]] = us.map frD ∧ us.length = 5 ∧ ∀ t ∈ us, TnK t := by
        refine ⟨ts ++ [(1000, -1000), (-1000, 1000)], by rw [List.map_append]; rfl, by rw [List.length_append, len]; rfl, fun t ht => ?_⟩
        rcases List.mem_append.mp ht with h | h
        · exact hts t h
        · simp only [List.mem_cons, List.not_mem_nil, or_false] at h
          rcases h with rfl | rfl <;> exact ⟨by decide, by decide⟩
      show BV _ _ [some (dP a), some (dI ((v : Nat) : Int)), some (.lst (ts.map frD ++ [.tup [dI 1000, dI (-1000)], .tup [dI (-1000), dI 1000]])), none, none] ((M2.set l (.lst (ts.map frD))).set l2 (.lst [.tup [dI 1000, dI (-1000)], .tup [dI (-1000), dI 1000]])) _
      rw [eu]
      generalize ((M2.set l (.lst (ts.map frD))).set l2 (.lst [.tup [dI 1000, dI (-1000)], .tup [dI (-1000), dI 1000]])) = M3 at fr2 hA3
      refine bv_cons (sv_set 4 sc_long_bar.nd (ev_tup av_nil) ?_)
      refine bv_cons (sw_for rfl (pg_name (i := 3) sc_long_bar.nd rfl (.inl rfl)) ?_)
      refine iw_range1 T.range ?_
      refine ew_callW c_pick (hr.mono (by decide)) (aw_av (av_cons (ev_var 0 rfl) (av_cons (ev_lst (av_cons ev_int (av_cons ev_int (av_cons ev_int (av_cons ev_int (av_cons ev_int (av_cons ev_int (av_cons ev_int (av_cons ev_int av_nil))))))))) av_nil)) ⟨a, q, true, _, rfl, hA3, ok, by simp, by simp, fun d4 g4 p4 ok4 M4 fr4 hA4 => ?_⟩)
      obtain ⟨m, rfl, m0, m1⟩ : ∃ m : Nat, d4 = dI ((m : Nat) : Int) ∧ 0 < m ∧ m ≤ 64 := by
        simp only [List.mem_cons, List.not_mem_nil, or_false] at g4
        rcases g4 with rfl | rfl | rfl | rfl | rfl | rfl | rfl | rfl
        · exact ⟨1, rfl, by decide, by decide⟩
        · exact ⟨2, rfl, by decide, by decide⟩
        · exact ⟨3, rfl, by decide, by decide⟩
        · exact ⟨5, rfl, by decide, by decide⟩
        · exact ⟨9, rfl, by decide, by decide⟩
        · exact ⟨17, rfl, by decide, by decide⟩
        · exact ⟨63, rfl, by decide, by decide⟩
        · exact ⟨64, rfl, by decide, by decide⟩
      refine ⟨_, rfl, by omega, ⟨fun i ρ M4 => ∃ (x3 : Option D) (q : Pool) (bar : List Col), ρ = [some (dP a), some (dI ((v : Nat) : Int)), some (.lst (us.map frD)), x3, some (barD bar)] ∧ Fr1 a M M4 ∧ M4 a = some q.mo ∧ q.Ok ∧ bar.length = i ∧ ∀ c ∈ bar, ColOk TnK v c, ⟨_, p4, [], rfl, fr2.trans fr4, hA4, ok4, rfl, fun c h => absurd h List.not_mem_nil⟩, fun i d ρ' M' hd iv => ?_, fun ρ' M' iv => ?_⟩⟩
      · obtain ⟨x3, q, bar, rfl, fr, hA, ok, len2, hbar⟩ := iv
        obtain ⟨hi, rfl⟩ := rgD_get hd
        have hi : i < m := by rw [Int.toNat_natCast] at hi; exact hi
        refine ⟨_, tg_name, ?_⟩
        refine bv_one (sw_set 4 sc_long_bar.nd ?_)
        have last : ∃ before : Option Col, (∀ c, before = some c → ColOk TnK v c) ∧ ((bar = [] ∧ before = none) ∨ ∃ c, bar.getLast? = some c ∧ before = some c) := by
          cases hb : bar.getLast? with
          | none => exact ⟨none, fun _ h => (nomatch h), .inl ⟨List.getLast?_eq_none_iff.mp hb, rfl⟩⟩
          | some c => exact ⟨some c, fun c' h => by cases h; exact hbar c (List.mem_of_getLast? hb), .inr ⟨c, rfl, rfl⟩⟩
        obtain ⟨before, bok, hb⟩ := last
        refine ew_catT ?_
        refine ew_ev (ev_var 4 rfl) ⟨_, rfl, ?_⟩
        refine ew_tup ?_
        refine aw_cons ?_
        refine ew_callW c_column (hr.mono (by decide)) ?_
        refine aw_cons (ew_ev (ev_var 0 rfl) ?_)
        refine aw_cons (ew_ev (ev_var 1 rfl) ?_)
        refine aw_cons (ew_ev (d := optC before) (M1 := M') ?_ ?_)
        · rcases hb with ⟨rfl, rfl⟩ | ⟨c, hc, rfl⟩
          · exact ev_if (tv_sqT (b := false) (ev_var 4 rfl)) (fun h => nomatch h) (fun _ => ev_non)
          · have ne : (bar.map colD).isEmpty = false := by
              cases bar with
              | nil => cases hc
              | cons c bar => rfl
            exact ev_if (tv_sqT (b := false) (ds := bar.map colD) (ev_var 4 rfl)) (fun _ => ev_ixT (ds := bar.map colD) (ev_var 4 rfl) (ev_un un_neg ev_int ru_neg) (atI_last (by rw [List.getLast?_map, hc]; rfl))) (fun h => by rw [ne] at h; cases h)
        refine aw_cons (ew_ev (ev_var 2 rfl) ?_)
        refine aw_nil ⟨a, q, v, before, us, TnK, rfl, hA, ok, hv, by omega, hu, bok, fun c cok p3 ok3 M5 fr3 hA3 => ?_⟩
        refine aw_nil ⟨by (simp only [List.length_cons, List.length_nil]; decide), ⟨_, rfl, ?_, ?_⟩⟩
        · rw [List.length_map, len2]
          exact Nat.le_trans (show i + 1 ≤ 2000 by omega) (by decide)
        · refine ⟨some (dI (0 + (i : Int))), p3, bar ++ [c], ?_, fr.trans fr3, hA3, ok3, by rw [List.length_append, len2]; rfl, fun c' h => ?_⟩
          · rw [bar_snoc]
            rfl
          · rcases List.mem_append.mp h with h | h
            · exact hbar c' h
            · rw [List.mem_singleton.mp h]
              exact cok
      · obtain ⟨x3, q, bar, rfl, fr, hA, ok, len2, hbar⟩ := iv
        rw [rgD_len, Int.toNat_natCast] at len2
        exact bv_one (sv_ret (ev_var 4 rfl) ⟨_, hΦ bar (by omega) (by omega) hbar q ok _ fr hA, Mle.refl _⟩)
end
theorem cell_kD {d1 d2 d3 : D} (h1 : kD 4 d1) (h2 : kD 4 d2) (h3 : kD 4 d3) : kD 5 (.tup [d1, d2, d3]) := ⟨by show 3 ≤ 1000000; decide, fun d hd => by
  rcases List.mem_cons.mp hd with rfl | hd
  · exact h1
  rcases List.mem_cons.mp hd with rfl | hd
  · exact h2
  rw [List.mem_singleton.mp hd]
  exact h3⟩
theorem ixN_nat {n k : Nat} (h : k < n) : ixN n ((k : Nat) : Int) = some k := by
  unfold ixN
  rw [if_pos (by omega), if_pos (by omega), Int.toNat_natCast]
theorem exists_min : ∀ {s : List Int}, s ≠ [] → ∃ m ∈ s, ∀ y ∈ s, m ≤ y
  | [], h => absurd rfl h
  | [x], _ => ⟨x, List.mem_cons_self, fun y hy => by rw [List.mem_singleton.mp hy]; omega⟩
  | x :: y :: s, _ => by
    obtain ⟨m, hm, h⟩ := exists_min (s := y :: s) (by simp)
    by_cases e : x ≤ m
    · refine ⟨x, List.mem_cons_self, fun z hz => ?_⟩
      rcases List.mem_cons.mp hz with rfl | hz
      · omega
      · have := h z hz
        omega
    · refine ⟨m, List.mem_cons_of_mem _ hm, fun z hz => ?_⟩
      rcases List.mem_cons.mp hz with rfl | hz
      · omega
      · exact h z hz
theorem all_set {ds : List D} {k : Nat} {d : D} (hk : k < ds.length) (h : entryD d = false) : (ds.set k d).all entryD = false := by
  rw [Bool.eq_false_iff]
  intro q
  rw [List.all_eq_true] at q
  have := q d (List.mem_set hk d)
  rw [h] at this
  cases this
def R_spoilt (ds : List D) (M : Mem) (Φ : D → Mem → Prop) : Prop := ∃ (a : Addr) (p : Pool) (bar : List Col) (v : Nat), ds = [dP a, barD bar] ∧ M a = some (Pool.mo p) ∧ p.Ok ∧ 0 < bar.length ∧ bar.length ≤ 64 ∧ 1 ≤ v ∧ v ≤ 4 ∧ (∀ c ∈ bar, ColOk TnK v c) ∧
  ∀ (cells : List D) (i : Nat) (z : Str), cells.length = bar.length → (∀ d ∈ cells, kD 5 d) → checkD (.tup cells) = some (some i, z) → Draw M a Φ (.tup [.tup cells, .tup [dI ((i : Nat) : Int), dS z]])
def fstD : Option (Nat × Str) → D
  | none => dN
  | some (j, z) => .tup [dI ((j : Nat) : Int), dS z]
def FstOk (bar : List Col) (v i : Nat) (cells : List D) (Ss : List (List Int)) : Option (Nat × Str) → Prop
  | none => ∀ k, k < i → Ss[k]? = some [] ∧ cells[k]? = (bar.map colD)[k]?
  | some (j, z) => j < i ∧ (∀ k, k < j → cells[k]? = (bar.map colD)[k]?) ∧ ∃ d, cells[j]? = some d ∧ reasonD d (voAt j v) = some z
/-- what stands in the memory while a column is spoilt -/
structure Mid (M0 M : Mem) (a lc l : Addr) (ps : List Addr) (Ss : List (List Int)) (cells : List D) (d1 d2 d3 : D) : Prop where
  pool : ∃ q : Pool, M a = some q.mo ∧ q.Ok
  cel : M lc = some (.lst cells)
  sp : SpM M0 M a lc ps Ss
  fr : Fr1 a M0 M
  own : M l = some (.lst [d1, d2, d3])
theorem Mid.draw {M0 M M' : Mem} {a lc l : Addr} {ps : List Addr} {Ss : List (List Int)} {cells : List D} {d1 d2 d3 : D} (h : Mid M0 M a lc l ps Ss cells d1 d2 d3) (hlc : lc ≠ a) (hl : l ≠ a) {q : Pool} (f : Fr1 a M M') (hA : M' a = some q.mo) (ok : q.Ok) : Mid M0 M' a lc l ps Ss cells d1 d2 d3 :=
  ⟨⟨q, hA, ok⟩, f lc hlc _ h.cel, h.sp.fr f, h.fr.trans f, f l hl _ h.own⟩
theorem Mid.put {M0 M : Mem} {a lc l : Addr} {ps : List Addr} {Ss : List (List Int)} {cells : List D} {d1 d2 d3 e1 e2 e3 : D} (h : Mid M0 M a lc l ps Ss cells d1 d2 d3) (hlc : lc ≠ l) (hl : l ≠ a) (hp : l ∉ ps) (h0 : M0 l = none) : Mid M0 (M.set l (.lst [e1, e2, e3])) a lc l ps Ss cells e1 e2 e3 := by
  obtain ⟨q, hA, ok⟩ := h.pool
  exact ⟨⟨q, by rw [Mem.set_ne hl.symm]; exact hA, ok⟩, by rw [Mem.set_ne hlc]; exact h.cel, h.sp.new hp, h.fr.new h0, Mem.set_same⟩
section
variable {P : Program} {w : World} {K : PySem.W.Frag} {mg : Str → Option Value} {base : Heap} {f : Addr} {fd : FuncData}
theorem c_spoilt (F : Fun K "_law_spoilt" "_law_spoilt" s_spoilt f fd) (hm : mg "_law_spoilt" = some (.ref f)) (T : Bt mg) (hmin : mg "min" = none) (c_take : Cal P w K mg base 2 "_law_take" (spW K R_take)) (c_pick : Cal P w K mg base 3 "_law_pick" (spW K R_pick)) (c_wrong : Cal P w K mg base 5 "_law_wrong" (spW K R_wrong)) : Cal P w K mg base 6 "_law_spoilt" (spW K R_spoilt) := by
  refine calW_of F sc_spoilt hm (fun _ _ _ _ _ _ us hl => match us, hl with | [_, _], _ => rfl) (fun ds M Φ h => ?_) fun cdv A outer s H E ds M Φ hr h => ?_
  · obtain ⟨a, p, bar, v, rfl, _⟩ := h
    rfl
  · obtain ⟨a, p, bar, v, rfl, hA, ok, n0, n64, v1, v4, hb, hΦ⟩ := h
    show BV _ _ [some (dP a), some (barD bar), none, none, none, none, none, none, none, none, none] _ _
    refine bv_cons (sv_set 2 sc_spoilt.nd (ev_lst (av_cons ev_str (av_cons ev_str (av_cons ev_str (av_cons ev_str (av_cons ev_str av_nil)))))) ?_)
    have c0 := bar_at (b1 := false) n0
    have hc0 := (hb bar[0] (List.getElem_mem n0)).len
    refine bv_cons (sv_set 3 sc_spoilt.nd (ev_lenT T.len (ds := bar[0].ents.map (entQ false)) (ev_ixT (ev_ixT (ds := bar.map colD) (ev_var 1 rfl) ev_int (atI_nat (k := 0) c0 rfl)) ev_int rfl)) ?_)
    rw [List.length_map, hc0]
    refine bv_cons (sw_set 4 sc_spoilt.nd (ew_listN T.list (ew_ev (ev_var 1 rfl) ⟨false, bar.map colD, rfl, fun lc hlc => ?_⟩)))
    have lca : lc ≠ a := fun e => by rw [e, hA] at hlc; cases hlc
    refine bv_cons (sw_setLc 5 (own := [("cell", 6)]) (g := gName 6) rfl sc_spoilt.nd (blkOk_by (N := ["pool", "bar", "reasons", "voices", "cells", "spoils", "cell", "turn", "at", "first", "entries"]) (sc := defScope s_spoilt) (by decide +kernel)) (fun _ _ _ _ _ => (pg_name (i := 6) sc_spoilt.nd rfl (.inl rfl))) ?_)
    refine iw_iv (iv_tup (ds := bar.map colD) (ev_var 1 rfl)) ⟨by rw [List.length_map]; exact Nat.le_trans n64 (by decide), fun i acc M1 => ∃ ps : List Addr, acc = ps.map dP ∧ ps.length = i ∧ M1 a = some p.mo ∧ M1 lc = some (.lst (bar.map colD)) ∧ Fr1 a M M1 ∧ SpM M M1 a lc ps (ps.map fun _ => []), ⟨[], rfl, rfl, by rw [Mem.set_ne lca.symm]; exact hA, Mem.set_same, (Fr1.refl _ _).new hlc, ⟨rfl, fun k p s h => (by rw [List.getElem?_nil] at h; cases h), List.nodup_nil, fun p h => absurd h List.not_mem_nil, fun s h => absurd h List.not_mem_nil⟩⟩, fun i d acc M1 hd hacc iv => ?_, fun acc M1 hacc iv => ?_⟩
    · obtain ⟨ps, rfl, lps, hA1, hC1, fr1, sp1⟩ := iv
      refine ⟨_, tgb_name, fun q hq s H C cl fp => ?_⟩
      refine ew_lstN (aw_nil ⟨by decide, fun l hl => ?_⟩)
      have lq : l ≠ q := fun e => by rw [e, Mem.set_same] at hl; cases hl
      have hl1 : M1 l = none := by rw [Mem.set_ne lq] at hl; exact hl
      have la : l ≠ a := fun e => by rw [e, hA1] at hl1; cases hl1
      have llc : l ≠ lc := fun e => by rw [e, hC1] at hl1; cases hl1
      have np := sp1.fresh hl1
      refine ⟨M1.set l (.lst []), Mem.set_comm lq.symm, by rw [Mem.set_ne lq.symm]; exact hq, ps ++ [l], by rw [List.map_append]; rfl, by rw [List.length_append, lps]; rfl, by rw [Mem.set_ne la.symm]; exact hA1, by rw [Mem.set_ne llc.symm]; exact hC1, fr1.new (fr_none fr1 hA1 hl1), ?_⟩
      refine ⟨by rw [List.length_map], fun k p' s' h1 h2 => ?_, ?_, fun p' hp' => ?_, fun s' hs' => ?_⟩
      · rw [List.getElem?_map, h1] at h2
        cases h2
        by_cases e : p' = l
        · rw [e]
          exact Mem.set_same
        · rw [Mem.set_ne e]
          have hk : k < ps.length := by
            rcases Nat.lt_or_ge k ps.length with q | q
            · exact q
            · rw [List.getElem?_append_right q] at h1
              have := List.mem_singleton.mp (List.mem_of_getElem? h1)
              exact absurd this e
          rw [List.getElem?_append_left hk] at h1
          exact sp1.at_ k p' [] h1 (by rw [List.getElem?_map, h1]; rfl)
      · rw [List.nodup_append]
        exact ⟨sp1.nd, List.nodup_cons.mpr ⟨List.not_mem_nil, List.nodup_nil⟩, fun x hx y hy e => np (by rw [List.mem_singleton.mp hy] at e; rw [← e]; exact hx)⟩
      · rcases List.mem_append.mp hp' with h | h
        · exact sp1.ne p' h
        · rw [List.mem_singleton.mp h]
          exact ⟨la, llc, fr_none fr1 hA1 hl1⟩
      · obtain ⟨_, _, rfl⟩ := List.mem_map.mp hs'
        exact ⟨by show 0 ≤ 1000; decide, fun x hx => absurd hx List.not_mem_nil⟩
    · obtain ⟨ps, rfl, lps, hA1, hC1, fr1, sp1⟩ := iv
      rw [List.length_map] at lps
      refine bv_cons (sw_for rfl (pg_name (i := 7) sc_spoilt.nd rfl (.inl rfl)) ?_)
      refine iw_range1 T.range ?_
      refine ew_op op_add ?_
      refine ew_ev ev_int ⟨_, rfl, ?_⟩
      refine ew_callW c_take (hr.mono (by decide)) (aw_av (av_cons (ev_var 0 rfl) (av_cons ev_int av_nil)) ⟨a, p, _, rfl, hA1, ok, by decide, by decide, fun n1 lo1 hi1 p1 ok1 M2 fr2 hA2 => ⟨_, _, rfl, rs_I0, ⟨_, rfl, by omega, ⟨fun i ρ M3 => ∃ (x7 x8 : Option D) (q : Pool) (Ss : List (List Int)), ρ = [some (dP a), some (barD bar), some (.lst [dS "column", dS "duration", dS "accent", dS "voices", dS "entry"]), some (dI ((v : Nat) : Int)), some (dP lc), some (.lst (ps.map dP)), none, x7, x8, none, none] ∧ M3 a = some q.mo ∧ q.Ok ∧ M3 lc = some (.lst (bar.map colD)) ∧ Fr1 a M M3 ∧ SpM M M3 a lc ps Ss ∧ (∀ s ∈ Ss, s.length ≤ i) ∧ (0 < i → ∃ s ∈ Ss, s ≠ []), ⟨none, none, p1, _, rfl, hA2, ok1, fr2 lc lca _ hC1, fr1.trans fr2, sp1.fr fr2, fun s hs => by obtain ⟨_, _, rfl⟩ := List.mem_map.mp hs; exact Nat.le_refl _, fun h => absurd h (Nat.lt_irrefl 0)⟩, fun i d ρ' M3 hd iv => ?_, fun ρ' M3 iv => ?_⟩⟩⟩⟩)
      · obtain ⟨x7, x8, q, Ss, rfl, hA3, ok3, hC3, fr3, sp3, ls3, ne3⟩ := iv
        obtain ⟨hi, rfl⟩ := rgD_get hd
        have hi : i < 4 := by omega
        refine ⟨_, tg_name, ?_⟩
        refine bv_cons (sw_set 8 sc_spoilt.nd ?_)
        have lb : ((bar.map colD).length : Int) = (bar.length : Int) := by rw [List.length_map]
        refine ew_callW c_pick (hr.mono (by decide)) ?_
        refine aw_cons (ew_ev (ev_var 0 rfl) ?_)
        refine aw_cons (ew_lst ?_)
        refine aw_cons ?_
        refine ew_callW c_take (hr.mono (by decide)) (aw_av (av_cons (ev_var 0 rfl) (av_cons (ev_lenT T.len (ds := bar.map colD) (ev_var 1 rfl)) av_nil)) ⟨a, q, _, rfl, hA3, ok3, by omega, by omega, fun n4 lo4 hi4 p4 ok4 M4 fr4 hA4 => ?_⟩)
        refine aw_cons (ew_ev (ev_op op_sub (ev_lenT T.len (ds := bar.map colD) (ev_var 1 rfl)) ev_int rs_I0) ?_)
        refine aw_cons (ew_ev ev_int ?_)
        refine aw_nil ⟨by (simp only [List.length_cons, List.length_nil]; decide), ?_⟩
        refine aw_nil ⟨a, p4, true, _, rfl, hA4, ok4, by simp, by simp, fun d5 g5 p5 ok5 M5 fr5 hA5 => ?_⟩
        obtain ⟨k, rfl, hk⟩ : ∃ k : Nat, d5 = dI ((k : Nat) : Int) ∧ k < bar.length := by
          rcases List.mem_cons.mp g5 with rfl | g5
          · exact ⟨n4.toNat, by rw [Int.toNat_of_nonneg lo4], by omega⟩
          rcases List.mem_cons.mp g5 with rfl | g5
          · exact ⟨bar.length - 1, by rw [lb]; exact congrArg (fun i => D.val (V.int i)) (by omega), by omega⟩
          · rw [List.mem_singleton.mp g5]
            exact ⟨0, rfl, n0⟩
        have fr45 := fr4.trans fr5
        have sp5 := sp3.fr fr45
        have hkp : k < ps.length := by omega
        have hkS : k < Ss.length := by rw [← sp3.len]; exact hkp
        have ep : ps[k]? = some ps[k] := List.getElem?_eq_getElem hkp
        have eS : Ss[k]? = some Ss[k] := List.getElem?_eq_getElem hkS
        have hM5 := sp5.at_ k _ _ ep eS
        have pa := (sp5.ne ps[k] (List.getElem_mem hkp)).1
        have plc := (sp5.ne ps[k] (List.getElem_mem hkp)).2.1
        have p0 := (sp5.ne ps[k] (List.getElem_mem hkp)).2.2
        have fin : ∀ (x : Int) (q6 : Pool) (M6 : Mem), 0 ≤ x → x ≤ 4 → Fr1 a M5 M6 → M6 a = some q6.mo → q6.Ok → ∃ ds, M6 ps[k] = some (.lst ds) ∧ ds.length < sizeLine ∧ ∃ (x7 x8 : Option D) (q : Pool) (Ss : List (List Int)), [some (dP a), some (barD bar), some (.lst [dS "column", dS "duration", dS "accent", dS "voices", dS "entry"]), some (dI ((v : Nat) : Int)), some (dP lc), some (.lst (ps.map dP)), none, some (dI (0 + (i : Int))), some (dI ((k : Nat) : Int)), none, none] = [some (dP a), some (barD bar), some (.lst [dS "column", dS "duration", dS "accent", dS "voices", dS "entry"]), some (dI ((v : Nat) : Int)), some (dP lc), some (.lst (ps.map dP)), none, x7, x8, none, none] ∧ (M6.set ps[k] (.lst (ds ++ [dI x]))) a = some q.mo ∧ q.Ok ∧ (M6.set ps[k] (.lst (ds ++ [dI x]))) lc = some (.lst (bar.map colD)) ∧ Fr1 a M (M6.set ps[k] (.lst (ds ++ [dI x]))) ∧ SpM M (M6.set ps[k] (.lst (ds ++ [dI x]))) a lc ps Ss ∧ (∀ s ∈ Ss, s.length ≤ i + 1) ∧ (0 < i + 1 → ∃ s ∈ Ss, s ≠ []) := by
          intro x q6 M6 x0 x4 fr6 hA6 ok6
          have lS := ls3 Ss[k] (List.getElem_mem hkS)
          refine ⟨Ss[k].map dI, fr6 _ pa _ hM5, ?_, _, _, q6, Ss.set k (Ss[k] ++ [x]), rfl, by rw [Mem.set_ne pa.symm]; exact hA6, ok6, ?_, (((fr3.trans fr45).trans fr6)).new p0, ?_, fun s hs => ?_, fun _ => ⟨Ss[k] ++ [x], List.mem_set hkS _, by simp⟩⟩
          · rw [List.length_map]
            exact Nat.lt_of_le_of_lt (show Ss[k].length ≤ 4 by omega) (by decide)
          · rw [Mem.set_ne plc.symm]
            exact fr6 lc lca _ (fr45 lc lca _ hC3)
          · have := (sp5.fr fr6).put (s := Ss[k] ++ [x]) ep ⟨by rw [List.length_append]; show Ss[k].length + 1 ≤ 1000; omega, fun y hy => by
              rcases List.mem_append.mp hy with h | h
              · exact (sp5.in_ Ss[k] (List.getElem_mem hkS)).2 y h
              · rw [List.mem_singleton.mp h]
                exact ⟨x0, x4⟩⟩
            rw [List.map_append] at this
            exact this
          · rcases List.mem_or_eq_of_mem_set hs with h | rfl
            · exact Nat.le_succ_of_le (ls3 s h)
            · rw [List.length_append]
              exact Nat.succ_le_succ lS
        refine bv_one (sw_append (p := ps[k]) (ev_ixL (ds := ps.map dP) (ev_var 5 rfl) (ev_var 8 rfl) (atI_nat (k := k) (by rw [List.getElem?_map, ep]; rfl) rfl)) ⟨_, hM5⟩ ?_)
        refine ew_if ?_
        refine tw_cmp op_gt ?_ (nomark _)
        refine ew_callW c_take (hr.mono (by decide)) (aw_av (av_cons (ev_var 0 rfl) (av_cons ev_int av_nil)) ⟨a, p5, _, rfl, hA5, ok5, by decide, by decide, fun n6 lo6 hi6 p6 ok6 M6 fr6 hA6 => ⟨_, rfl, ?_⟩⟩)
        refine ew_ev ev_int ⟨_, _, rfl, rs_I0, ⟨fun h => ?_, fun h => ?_⟩⟩
        · refine ew_op op_add ?_
          refine ew_ev ev_int ⟨_, rfl, ?_⟩
          refine ew_callW c_take (hr.mono (by decide)) (aw_av (av_cons (ev_var 0 rfl) (av_cons ev_int av_nil)) ⟨a, p6, _, rfl, hA6, ok6, by decide, by decide, fun n7 lo7 hi7 p7 ok7 M7 fr7 hA7 => ⟨_, _, rfl, rs_I0, ?_⟩⟩)
          exact fin (1 + n7) p7 M7 (by omega) (by omega) (fr6.trans fr7) hA7 ok7
        · exact ew_ev ev_int (fin 0 p6 M6 (by decide) (by decide) fr6 hA6 ok6)
      · obtain ⟨x7, x8, q, Ss, rfl, hA3, ok3, hC3, fr3, sp3, ls3, ne3⟩ := iv
        rw [rgD_len] at ne3
        obtain ⟨s0, hs0, ns0⟩ := ne3 (by omega)
        refine bv_cons (sv_set 9 sc_spoilt.nd ev_non ?_)
        refine bv_cons (sw_for rfl (pg_name (i := 8) sc_spoilt.nd rfl (.inl rfl)) ?_)
        refine iw_iv (iv_range1 T.range (ev_lenT T.len (ds := bar.map colD) (ev_var 1 rfl)) (by rw [List.length_map]; omega)) ⟨fun i ρ M4 => ∃ (x6 x8 x10 : Option D) (q : Pool) (cells : List D) (fst : Option (Nat × Str)), ρ = [some (dP a), some (barD bar), some (.lst [dS "column", dS "duration", dS "accent", dS "voices", dS "entry"]), some (dI ((v : Nat) : Int)), some (dP lc), some (.lst (ps.map dP)), x6, x7, x8, some (fstD fst), x10] ∧ M4 a = some q.mo ∧ q.Ok ∧ M4 lc = some (.lst cells) ∧ Fr1 a M M4 ∧ SpM M M4 a lc ps Ss ∧ cells.length = bar.length ∧ (∀ d ∈ cells, kD 5 d) ∧ (∀ k, i ≤ k → cells[k]? = (bar.map colD)[k]?) ∧ FstOk bar v i cells Ss fst, ⟨none, x8, none, q, bar.map colD, none, rfl, hA3, ok3, hC3, fr3, sp3, by rw [List.length_map], fun d hd => ?_, fun k _ => rfl, fun k hk => absurd hk (Nat.not_lt_zero k)⟩, fun i d ρ' M4 hd iv => ?_, fun ρ' M4 iv => ?_⟩
        · obtain ⟨c, hc, rfl⟩ := List.mem_map.mp hd
          exact kD_up (kD_col (hb c hc).len (by omega))
        · obtain ⟨x6, x8', x10, q4, cells, fst, rfl, hA4, ok4, hC4, fr4, sp4, lc4, kc4, same, fok⟩ := iv
          obtain ⟨hi, rfl⟩ := rgD_get hd
          have hi : i < bar.length := by rw [Int.toNat_natCast, List.length_map] at hi; exact hi
          have e0 : (0 : Int) + (i : Int) = ((i : Nat) : Int) := by omega
          rw [e0]
          have hip : i < ps.length := by omega
          have hiS : i < Ss.length := by rw [← sp4.len]; exact hip
          have ep : ps[i]? = some ps[i] := List.getElem?_eq_getElem hip
          have eS : Ss[i]? = some Ss[i] := List.getElem?_eq_getElem hiS
          have eP : (ps.map dP)[i]? = some (dP ps[i]) := by rw [List.getElem?_map, ep]; rfl
          have hic : i < cells.length := by omega
          have cb := bar_at (b1 := false) hi
          have hcol := hb bar[i] (List.getElem_mem hi)
          have hsp {M' : Mem} (s : SpM M M' a lc ps Ss) : M' ps[i] = some (.lst (Ss[i].map dI)) := s.at_ i _ _ ep eS
          have inS := (sp4.in_ Ss[i] (List.getElem_mem hiS)).2
          refine ⟨_, tg_name, ?_⟩
          refine bv_cons (sv_if (tv_cmpR op_eq (ev_lenM T.len (ev_ixL (ds := ps.map dP) (ev_var 5 rfl) (ev_var 8 rfl) (atI_nat (k := i) eP rfl)) (hsp sp4)) ev_int rs_eqI (nomark _)) (fun h => bv_one (sv_cont ?_)) (fun h => bv_nil ?_))
          · have h0 : Ss[i] = [] := by
              have := of_decide_eq_true h
              rw [List.length_map] at this
              exact List.eq_nil_of_length_eq_zero (by omega)
            refine ⟨x6, some (dI ((i : Nat) : Int)), x10, q4, cells, fst, rfl, hA4, ok4, hC4, fr4, sp4, lc4, kc4, fun k hk => same k (by omega), ?_⟩
            cases fst with
            | none =>
              intro k hk
              rcases Nat.lt_or_eq_of_le (Nat.le_of_lt_succ hk) with h | rfl
              · exact fok k h
              · exact ⟨by rw [eS, h0], same k (Nat.le_refl _)⟩
            | some jz =>
              obtain ⟨j, z⟩ := jz
              exact ⟨Nat.lt_succ_of_lt fok.1, fok.2⟩
          · have hne : Ss[i] ≠ [] := fun e => by
              have := of_decide_eq_false h
              rw [e] at this
              exact this rfl
            obtain ⟨m, hmS, hmin'⟩ := exists_min hne
            obtain ⟨m, rfl⟩ : ∃ n : Nat, m = (n : Int) := ⟨m.toNat, by have := (inS m hmS).1; omega⟩
            have m4 : m ≤ 4 := by have := (inS _ hmS).2; omega
            have ixc {ρ : Sl} {M' : Mem} {X : Cx} {a b : Expr} {pos : Pos} (ha : EV X a ρ M' (barD bar) M') (hb' : EV X b ρ M' (dI ((i : Nat) : Int)) M') (hs : PlainIx b := by (intro _ _; rfl)) : EV X (.Subscript a b pos) ρ M' (colD bar[i]) M' := ev_ixT (ds := bar.map colD) ha hb' (atI_nat cb rfl) hs
            generalize hcd : bar[i] = c at ixc hcol
            refine bv_cons (sw_set 6 sc_spoilt.nd (ew_lstN (aw_av (av_cons (ev_ixT (d := frD c.dur) (ds := [frD c.dur, dI c.acc, .tup (c.ents.map (entQ false))]) (ixc (ev_var 1 rfl) (ev_var 8 rfl)) ev_int rfl) (av_cons (ev_ixT (d := dI c.acc) (ds := [frD c.dur, dI c.acc, .tup (c.ents.map (entQ false))]) (ixc (ev_var 1 rfl) (ev_var 8 rfl)) ev_int rfl) (av_cons (ev_ixT (d := .tup (c.ents.map (entQ false))) (ds := [frD c.dur, dI c.acc, .tup (c.ents.map (entQ false))]) (ixc (ev_var 1 rfl) (ev_var 8 rfl)) ev_int rfl) av_nil))) ⟨by (simp only [List.length_cons, List.length_nil]; decide), fun l hl => ?_⟩)))
            have la : l ≠ a := fun e => by rw [e, hA4] at hl; cases hl
            have llc : lc ≠ l := fun e => by rw [← e, hC4] at hl; cases hl
            have lp := sp4.fresh hl
            have l0 := fr_none fr4 hA4 hl
            have mid0 : Mid M (M4.set l (.lst [frD c.dur, dI c.acc, .tup (c.ents.map (entQ false))])) a lc l ps Ss cells (frD c.dur) (dI c.acc) (.tup (c.ents.map (entQ false))) := ⟨⟨q4, by rw [Mem.set_ne la.symm]; exact hA4, ok4⟩, by rw [Mem.set_ne llc]; exact hC4, sp4.new lp, fr4.new l0, Mem.set_same⟩
            have inS_ (x : Int) {ρ : Sl} {M' : Mem} {X : Cx} {a b : Expr} {pos : Pos} {e : Expr} {p : Pos} (s : SpM M M' _ lc ps Ss) (he : EV X e ρ M' (dI x) M') (ha : EV X a ρ M' (.lst (ps.map dP)) M') (hb' : EV X b ρ M' (dI ((i : Nat) : Int)) M') (hs : PlainIx b := by (intro _ _; rfl)) : TV X (.Compare e [.In] [.Subscript a b pos] p) ρ M' (decide (x ∈ Ss[i])) M' := tv_inM he (ev_ixL (ds := ps.map dP) ha hb' (atI_nat eP rfl) hs) (hsp s) rfl
            let rr : Option D → Sl := fun x10 => [some (dP a), some (barD bar), some (.lst [dS "column", dS "duration", dS "accent", dS "voices", dS "entry"]), some (dI ((v : Nat) : Int)), some (dP lc), some (.lst (ps.map dP)), some (dP l), x7, some (dI ((i : Nat) : Int)), some (fstD fst), x10]
            show BV _ _ (rr x10) (M4.set l (.lst [frD c.dur, dI c.acc, .tup (c.ents.map (entQ false))])) _
            generalize M4.set l (.lst [frD c.dur, dI c.acc, .tup (c.ents.map (entQ false))]) = M5 at mid0
            -- the duration
            refine bv_cons (sv_join (fun ρ M' => ρ = rr x10 ∧ ∃ d1, Mid M M' a lc l ps Ss cells d1 (dI c.acc) (.tup (c.ents.map (entQ false))) ∧ kD 4 d1 ∧ shortD d1 = !decide ((1 : Int) ∈ Ss[i])) ?_ ?_)
            · refine sv_if (inS_ 1 mid0.sp ev_int (ev_var 5 rfl) (ev_var 8 rfl)) (fun h => ?_) (fun h => bv_nil ⟨rfl, _, mid0, kD_mk (n := 3) (b := false) (by show 2 ≤ 1000000; decide) (fun d hd => ?_), ?_⟩)
              · obtain ⟨q, hq, okq⟩ := mid0.pool
                refine bv_one (sw_setItem ?_)
                refine ew_callW c_wrong (hr.mono (by decide)) (aw_av (av_cons (ev_var 0 rfl) (av_cons ev_str (av_cons (ev_var 3 rfl) av_nil))) ⟨a, q, 1, v, rfl, hq, okq, by decide, v1, v4, fun d wd q6 ok6 M6 fr6 hA6 => ?_⟩)
                have mid1 := mid0.draw lca la fr6 hA6 ok6
                refine ⟨l, 0, _, 0, ev_var 6 rfl, ev_int, mid1.own, rfl, rfl, d, mid1.put llc la lp l0, kD_up wd.k, ?_⟩
                rw [h]
                exact nt_ wd.w
              · rcases List.mem_cons.mp hd with rfl | hd
                · exact kD_int _
                · rw [List.mem_singleton.mp hd]
                  exact kD_int _
              · rw [h]
                exact short_of (b := false) hcol.dur
            rintro ρ M6 ⟨rfl, d1, mid1, k1, s1⟩
            -- the accent
            refine bv_cons (sv_join (fun ρ M' => ρ = rr x10 ∧ ∃ d2, Mid M M' a lc l ps Ss cells d1 d2 (.tup (c.ents.map (entQ false))) ∧ kD 4 d2 ∧ wholeD 0 9 d2 = !decide ((2 : Int) ∈ Ss[i])) ?_ ?_)
            · refine sv_if (inS_ 2 mid1.sp ev_int (ev_var 5 rfl) (ev_var 8 rfl)) (fun h => ?_) (fun h => bv_nil ⟨rfl, _, mid1, kD_int _, ?_⟩)
              · obtain ⟨q, hq, okq⟩ := mid1.pool
                refine bv_one (sw_setItem ?_)
                refine ew_callW c_wrong (hr.mono (by decide)) (aw_av (av_cons (ev_var 0 rfl) (av_cons ev_str (av_cons (ev_var 3 rfl) av_nil))) ⟨a, q, 2, v, rfl, hq, okq, by decide, v1, v4, fun d wd q6 ok6 M6 fr6 hA6 => ?_⟩)
                have mid1 := mid1.draw lca la fr6 hA6 ok6
                refine ⟨l, 1, _, 1, ev_var 6 rfl, ev_int, mid1.own, rfl, rfl, d, mid1.put llc la lp l0, kD_up wd.k, ?_⟩
                rw [h]
                exact nt_ wd.w
              · rw [h]
                exact whole_of hcol.acc
            rintro ρ M7 ⟨rfl, d2, mid2, k2, s2⟩
            -- the voices
            have okV : VoOk (.tup (c.ents.map (entQ false))) (voAt i v) := ⟨rfl, ⟨by show 1 ≤ (c.ents.map (entQ false)).length; rw [List.length_map, hcol.len]; omega, by show (c.ents.map (entQ false)).length ≤ 4; rw [List.length_map, hcol.len]; omega⟩, fun k hk => by show (c.ents.map (entQ false)).length = k; rw [List.length_map, hcol.len, voAt_ok hk]⟩
            have kents : kD 4 (.tup (c.ents.map (entQ false))) := by
              have := kD_col (b := false) hcol.len (show v ≤ 1000 by omega)
              exact kD_up (this.2 _ (List.mem_cons_of_mem _ (List.mem_cons_of_mem _ List.mem_cons_self)))
            refine bv_cons (sv_join (fun ρ M' => ρ = rr x10 ∧ ∃ d3, Mid M M' a lc l ps Ss cells d1 d2 d3 ∧ kD 4 d3 ∧ ((3 : Int) ∈ Ss[i] ∧ ¬ (i = 0 ∧ bar.length = 1) → ¬ VoOk d3 (voAt i v)) ∧ (¬ ((3 : Int) ∈ Ss[i] ∧ ¬ (i = 0 ∧ bar.length = 1)) → d3 = .tup (c.ents.map (entQ false)))) ?_ ?_)
            · have lb : ((bar.map colD).length : Int) = (bar.length : Int) := by rw [List.length_map]
              refine sv_if (PW.pt (wv_and (inS_ 3 mid2.sp ev_int (ev_var 5 rfl) (ev_var 8 rfl)) (fun h => (wv_one_and (PW.pt (wv_or (tv_cmpR op_gt (ev_var 8 rfl) ev_int rs_I0 (nomark _)) (fun h => (wv_one_or (tv_cmpR op_gt (ev_lenT T.len (ds := bar.map colD) (ev_var 1 rfl)) ev_int rs_I0 (nomark _)))))))))) (fun h => ?_) (fun h => bv_nil ⟨rfl, _, mid2, kents, fun q => ?_, fun _ => rfl⟩)
              · rw [Bool.and_eq_true, Bool.or_eq_true, decide_eq_true_eq, decide_eq_true_eq, decide_eq_true_eq, lb] at h
                obtain ⟨h3, h01⟩ := h
                have hn : ¬ (i = 0 ∧ bar.length = 1) := fun q => by omega
                obtain ⟨q, hq, okq⟩ := mid2.pool
                refine bv_one (sw_setItem ?_)
                refine ew_if (tw_tv (tv_cmpR op_gt (ev_var 8 rfl) ev_int rs_I0 (nomark _)) ⟨fun h0 => ?_, fun h0 => ?_⟩)
                · have i0 : i ≠ 0 := fun e => by
                    have := of_decide_eq_true h0
                    omega
                  refine ew_callW c_wrong (hr.mono (by decide)) (aw_av (av_cons (ev_var 0 rfl) (av_cons ev_str (av_cons (ev_var 3 rfl) av_nil))) ⟨a, q, 3, v, rfl, hq, okq, by decide, v1, v4, fun d wd q6 ok6 M6 fr6 hA6 => ?_⟩)
                  have mid2 := mid2.draw lca la fr6 hA6 ok6
                  refine ⟨l, 2, _, 2, ev_var 6 rfl, ev_int, mid2.own, rfl, rfl, d, mid2.put llc la lp l0, kD_up wd.k, fun _ q => ?_, fun q => absurd ⟨h3, hn⟩ q⟩
                  have hw : (!rowD d || (!decide (lenD d = v) || (decide (lenD d = 0) || decide (4 < lenD d)))) = true := wd.w
                  have e1 : lenD d = v := q.2.2 v (if_neg i0)
                  rw [q.1, e1, decide_eq_true rfl, decide_eq_false (by omega), decide_eq_false (by omega)] at hw
                  cases hw
                · have i0 : i = 0 := by
                    have := of_decide_eq_false h0
                    omega
                  refine ew_callW c_pick (hr.mono (by decide)) (aw_av (av_cons (ev_var 0 rfl) (av_cons (ev_lst (av_cons (ev_tup av_nil) (av_cons (ev_mulT (ds := [dN]) (ev_tup (av_cons ev_non av_nil)) ev_int (by decide) (by decide) (by decide)) (av_cons ev_non av_nil)))) av_nil)) ⟨a, q, true, _, rfl, hq, okq, by simp, by simp, fun d gd q6 ok6 M6 fr6 hA6 => ?_⟩)
                  have mid2 := mid2.draw lca la fr6 hA6 ok6
                  have bad : kD 4 d ∧ ¬ (rowD d = true ∧ (1 ≤ lenD d ∧ lenD d ≤ 4)) := by
                    simp only [List.mem_cons, List.not_mem_nil, or_false] at gd
                    rcases gd with rfl | rfl | rfl
                    · exact ⟨kB_kD rfl, fun q => absurd q.2.1 (by decide)⟩
                    · exact ⟨kB_kD rfl, fun q => absurd q.2.2 (by decide)⟩
                    · exact ⟨kB_kD rfl, fun q => absurd q.1 (by decide)⟩
                  exact ⟨l, 2, _, 2, ev_var 6 rfl, ev_int, mid2.own, rfl, rfl, d, mid2.put llc la lp l0, bad.1, fun _ q => bad.2 ⟨q.1, q.2.1⟩, fun q => absurd ⟨h3, hn⟩ q⟩
              · rw [Bool.and_eq_false_iff, Bool.or_eq_false_iff, decide_eq_false_iff_not, decide_eq_false_iff_not, decide_eq_false_iff_not, lb] at h
                rcases h with h | h
                · exact absurd q.1 h
                · exact absurd ⟨by omega, by omega⟩ q.2
            rintro ρ M8 ⟨rfl, d3, mid3, k3, v3, e3⟩
            refine bv_cons (sv_join (fun ρ M' => ρ = rr x10 ∧ ∃ d3, Mid M M' a lc l ps Ss cells d1 d2 d3 ∧ kD 4 d3 ∧ ((3 : Int) ∈ Ss[i] → ¬ VoOk d3 (voAt i v)) ∧ (¬ (3 : Int) ∈ Ss[i] → d3 = .tup (c.ents.map (entQ false)))) ?_ ?_)
            · have lb : ((bar.map colD).length : Int) = (bar.length : Int) := by rw [List.length_map]
              refine sv_if (PW.pt (wv_and (inS_ 3 mid3.sp ev_int (ev_var 5 rfl) (ev_var 8 rfl)) (fun h => (wv_one_and (tv_cmpR op_eq (ev_lenT T.len (ds := bar.map colD) (ev_var 1 rfl)) ev_int rs_eqI (nomark _)))))) (fun h => ?_) (fun h => bv_nil ⟨rfl, _, mid3, k3, fun q => ?_, fun q => e3 fun z => q z.1⟩)
              · rw [Bool.and_eq_true, decide_eq_true_eq, decide_eq_true_eq, lb] at h
                refine bv_one (sw_setItem (ew_ev (ev_mulT (ds := [dN]) (ev_tup (av_cons ev_non av_nil)) ev_int (by decide) (by decide) (by decide)) ⟨l, 2, _, 2, ev_var 6 rfl, ev_int, mid3.own, rfl, rfl, _, mid3.put llc la lp l0, kB_kD rfl, fun _ q => absurd q.2.1.2 (by decide), fun q => absurd h.1 q⟩))
              · rw [Bool.and_eq_false_iff, decide_eq_false_iff_not, decide_eq_false_iff_not, lb] at h
                rcases h with h | h
                · exact absurd q h
                · exact v3 ⟨q, fun z => h (by omega)⟩
            rintro ρ M9 ⟨rfl, d3, mid3, k3, v3, e3⟩
            -- the entries
            refine bv_cons (sv_join (fun ρ M' => ∃ x10, ρ = rr x10 ∧ ∃ d3, Mid M M' a lc l ps Ss cells d1 d2 d3 ∧ kD 4 d3 ∧ ((3 : Int) ∈ Ss[i] → ¬ VoOk d3 (voAt i v)) ∧ (¬ (3 : Int) ∈ Ss[i] → VoOk d3 (voAt i v)) ∧ (¬ (3 : Int) ∈ Ss[i] → (partsD d3).all entryD = !decide ((4 : Int) ∈ Ss[i]))) ?_ ?_)
            · have ninS_ {ρ : Sl} {M' : Mem} {X : Cx} {a b : Expr} {pos : Pos} {e : Expr} {p : Pos} (s : SpM M M' _ lc ps Ss) (he : EV X e ρ M' (dI 3) M') (ha : EV X a ρ M' (.lst (ps.map dP)) M') (hb' : EV X b ρ M' (dI ((i : Nat) : Int)) M') (hs : PlainIx b := by (intro _ _; rfl)) : TV X (.Compare e [.NotIn] [.Subscript a b pos] p) ρ M' (!decide ((3 : Int) ∈ Ss[i])) M' := tv_ninM he (ev_ixL (ds := ps.map dP) ha hb' (atI_nat eP rfl) hs) (hsp s) rfl
              have vOk : ¬ (3 : Int) ∈ Ss[i] → VoOk d3 (voAt i v) := fun q => by rw [e3 q]; exact okV
              refine sv_if (PW.pt (wv_and (inS_ 4 mid3.sp ev_int (ev_var 5 rfl) (ev_var 8 rfl)) (fun h => (wv_one_and (ninS_ mid3.sp ev_int (ev_var 5 rfl) (ev_var 8 rfl)))))) (fun h => ?_) (fun h => bv_nil ⟨x10, rfl, d3, mid3, k3, v3, vOk, fun q => ?_⟩)
              · rw [Bool.and_eq_true, decide_eq_true_eq, Bool.not_eq_true', decide_eq_false_iff_not] at h
                obtain ⟨h4, h3⟩ := h
                refine bv_cons (sw_set 10 sc_spoilt.nd (ew_listN T.list (ew_ev (ev_ixT (d := .tup (c.ents.map (entQ false))) (ds := [frD c.dur, dI c.acc, .tup (c.ents.map (entQ false))]) (ixc (ev_var 1 rfl) (ev_var 8 rfl)) ev_int rfl) ⟨false, c.ents.map (entQ false), rfl, fun le hle => ?_⟩)))
                obtain ⟨q, hq, okq⟩ := mid3.pool
                have lea : le ≠ a := fun e => by rw [e, hq] at hle; cases hle
                have lelc : lc ≠ le := fun e => by rw [← e, mid3.cel] at hle; cases hle
                have lel : l ≠ le := fun e => by rw [← e, mid3.own] at hle; cases hle
                have lep := mid3.sp.fresh hle
                have le0 := fr_none mid3.fr hq hle
                have mid5 : Mid M (M9.set le (.lst (c.ents.map (entQ false)))) a lc l ps Ss cells d1 d2 d3 := ⟨⟨q, by rw [Mem.set_ne lea.symm]; exact hq, okq⟩, by rw [Mem.set_ne lelc]; exact mid3.cel, mid3.sp.new lep, mid3.fr.new le0, by rw [Mem.set_ne lel]; exact mid3.own⟩
                have hE : (M9.set le (.lst (c.ents.map (entQ false)))) le = some (.lst (c.ents.map (entQ false))) := Mem.set_same
                show BV _ _ (rr (some (dP le))) (M9.set le (.lst (c.ents.map (entQ false)))) _
                generalize M9.set le (.lst (c.ents.map (entQ false))) = M11 at mid5 hE
                refine bv_cons (sw_setItemW ?_)
                obtain ⟨q, hq, okq⟩ := mid5.pool
                refine ew_callW c_wrong (hr.mono (by decide)) (aw_av (av_cons (ev_var 0 rfl) (av_cons ev_str (av_cons (ev_var 3 rfl) av_nil))) ⟨a, q, 4, v, rfl, hq, okq, by decide, v1, v4, fun d wd q6 ok6 M6 fr6 hA6 => ?_⟩)
                have mid6 := mid5.draw lca la fr6 hA6 ok6
                have hE6 := fr6 le lea _ hE
                refine ⟨le, ev_var 10 rfl, ?_⟩
                refine ew_callW c_take (hr.mono (by decide)) (aw_av (av_cons (ev_var 0 rfl) (av_cons (ev_var 3 rfl) av_nil)) ⟨a, q6, _, rfl, hA6, ok6, by omega, by omega, fun n7 lo7 hi7 p7 ok7 M7 fr7 hA7 => ?_⟩)
                have mid7 := mid6.draw lca la fr7 hA7 ok7
                have hE7 := fr7 le lea _ hE6
                obtain ⟨k, rfl⟩ : ∃ k : Nat, n7 = (k : Int) := ⟨n7.toNat, by omega⟩
                have hk : k < (c.ents.map (entQ false)).length := by rw [List.length_map, hcol.len]; omega
                refine ⟨(k : Int), _, k, rfl, hE7, ixN_nat hk, ?_⟩
                obtain ⟨q8, hq8, okq8⟩ := mid7.pool
                have mid8 : Mid M (M7.set le (.lst ((c.ents.map (entQ false)).set k d))) a lc l ps Ss cells d1 d2 d3 := ⟨⟨q8, by rw [Mem.set_ne lea.symm]; exact hq8, okq8⟩, by rw [Mem.set_ne lelc]; exact mid7.cel, mid7.sp.new lep, mid7.fr.new le0, by rw [Mem.set_ne lel]; exact mid7.own⟩
                refine bv_one (sw_setItem (ew_ev (ev_tupM T.tuple (ev_var 10 rfl) Mem.set_same) ⟨l, 2, _, 2, ev_var 6 rfl, ev_int, mid8.own, rfl, ?_⟩))
                refine ⟨some (dP le), rfl, _, mid8.put llc la lp l0, ⟨?_, fun x hx => ?_⟩, fun q => absurd q h3, fun _ => ⟨rfl, ⟨?_, ?_⟩, fun k' hk' => ?_⟩, fun _ => ?_⟩
                · rw [List.length_set, List.length_map, hcol.len]
                  omega
                · rcases List.mem_or_eq_of_mem_set hx with hx | rfl
                  · exact kents.2 x hx
                  · exact wd.k
                · show 1 ≤ ((c.ents.map (entQ false)).set k d).length
                  rw [List.length_set, List.length_map, hcol.len]
                  exact v1
                · show ((c.ents.map (entQ false)).set k d).length ≤ 4
                  rw [List.length_set, List.length_map, hcol.len]
                  exact v4
                · show ((c.ents.map (entQ false)).set k d).length = k'
                  rw [List.length_set, List.length_map, hcol.len, voAt_ok hk']
                · rw [decide_eq_true h4]
                  exact all_set hk (nt_ wd.w)
              · have h4 : ¬ (4 : Int) ∈ Ss[i] := fun z => by
                  rw [decide_eq_true z, decide_eq_false q] at h
                  cases h
                rw [e3 q, decide_eq_false h4]
                exact ents_all (b := false) hcol.ton
            rintro ρ M10 ⟨x10, rfl, d3, mid4, k4, v4', v4'', s4⟩
            refine bv_cons (sv_join (fun ρ M11 => ρ = rr x10 ∧ ∃ (q : Pool) (d : D), M11 a = some q.mo ∧ q.Ok ∧ M11 lc = some (.lst (cells.set i d)) ∧ Fr1 a M M11 ∧ SpM M M11 a lc ps Ss ∧ kD 5 d ∧ reasonD d (voAt i v) = some (wordR m)) ?_ ?_)
            · refine sw_setItem ?_
              refine ew_if (tw_tv (inS_ 0 mid4.sp ev_int (ev_var 5 rfl) (ev_var 8 rfl)) ⟨fun h => ?_, fun h => ?_⟩)
              · have h0 : (0 : Int) ∈ Ss[i] := of_decide_eq_true h
                obtain rfl : m = 0 := by
                  have := hmin' 0 h0
                  omega
                obtain ⟨q, hq, okq⟩ := mid4.pool
                refine ew_callW c_wrong (hr.mono (by decide)) (aw_av (av_cons (ev_var 0 rfl) (av_cons ev_str (av_cons (ev_var 3 rfl) av_nil))) ⟨a, q, 0, v, rfl, hq, okq, by decide, v1, v4, fun d wd q6 ok6 M6 fr6 hA6 => ?_⟩)
                have mid4 := mid4.draw lca la fr6 hA6 ok6
                refine ⟨lc, (i : Int), cells, i, ev_var 4 rfl, ev_var 8 rfl, mid4.cel, ixN_nat hic, rfl, q6, d, by rw [Mem.set_ne lca.symm]; exact hA6, ok6, Mem.set_same, mid4.fr.new hlc, mid4.sp.setc, kD_up (kD_up wd.k), ?_⟩
                have hw : (rowD d && decide (lenD d = 3)) = false := nt_ wd.w
                unfold reasonD
                rw [if_neg fun q => by rw [q.1, decide_eq_true q.2] at hw; cases hw]
                rfl
              · have h0 : ¬ (0 : Int) ∈ Ss[i] := of_decide_eq_false h
                have m1 : 1 ≤ m := by
                  rcases Nat.eq_zero_or_pos m with rfl | q
                  · exact absurd hmS h0
                  · exact q
                obtain ⟨q, hq, okq⟩ := mid4.pool
                exact ew_ev (ev_tupM T.tuple (ev_var 6 rfl) mid4.own) ⟨lc, (i : Int), cells, i, ev_var 4 rfl, ev_var 8 rfl, mid4.cel, ixN_nat hic, rfl, q, .tup [d1, d2, d3], by rw [Mem.set_ne lca.symm]; exact hq, okq, Mem.set_same, mid4.fr.new hlc, mid4.sp.setc, cell_kD k1 k2 k4, reason_spoilt m1 m4 hmS hmin' s1 s2 v4' v4'' s4⟩
            rintro ρ M11 ⟨rfl, q11, d, hA11, ok11, hC11, fr11, sp11, kd, rd⟩
            have same11 : ∀ k, i + 1 ≤ k → (cells.set i d)[k]? = (bar.map colD)[k]? := fun k hk => by
              rw [List.getElem?_set_ne (by omega)]
              exact same k (by omega)
            have kc11 : ∀ x ∈ cells.set i d, kD 5 x := fun x hx => by
              rcases List.mem_or_eq_of_mem_set hx with h | rfl
              · exact kc4 x h
              · exact kd
            cases fst with
            | none =>
              refine bv_one (sv_if (tv_isNn (ev_var 9 rfl)) (fun _ => ?_) (fun h => nomatch h))
              refine bv_one (sv_set 9 sc_spoilt.nd (ev_tup (av_cons (ev_var 8 rfl) (av_cons (ev_ixL (d := dS (wordR m)) (ds := [dS "column", dS "duration", dS "accent", dS "voices", dS "entry"]) (ev_var 2 rfl) (ev_minM rfl hmin (ev_ixL (ds := ps.map dP) (ev_var 5 rfl) (ev_var 8 rfl) (atI_nat eP rfl)) (hsp sp11) hmS hmin') (atI_nat (k := m) ?_ rfl)) av_nil))) ?_)
              · match m, m4 with
                | 0, _ => rfl
                | 1, _ => rfl
                | 2, _ => rfl
                | 3, _ => rfl
                | 4, _ => rfl
                | _ + 5, h => exact absurd h (by omega)
              · refine ⟨some (dP l), some (dI ((i : Nat) : Int)), x10, q11, cells.set i d, some (i, wordR m), rfl, hA11, ok11, hC11, fr11, sp11, by rw [List.length_set, lc4], kc11, same11, Nat.lt_succ_self i, fun k hk => ?_, d, by rw [List.getElem?_set_self hic], rd⟩
                rw [List.getElem?_set_ne (by omega)]
                exact (fok k hk).2
            | some jz =>
              obtain ⟨j, z⟩ := jz
              refine bv_one (sv_if (tv_isNn (ev_var 9 rfl)) (fun h => nomatch h) (fun _ => bv_nil ?_))
              obtain ⟨hj, pre, d', hd', hz'⟩ := fok
              refine ⟨some (dP l), some (dI ((i : Nat) : Int)), x10, q11, cells.set i d, some (j, z), rfl, hA11, ok11, hC11, fr11, sp11, by rw [List.length_set, lc4], kc11, same11, by omega, fun k hk => ?_, d', ?_, hz'⟩
              · rw [List.getElem?_set_ne (by omega)]
                exact pre k hk
              · rw [List.getElem?_set_ne (by omega)]
                exact hd'
        · obtain ⟨x6, x8', x10, q4, cells, fst, rfl, hA4, ok4, hC4, fr4, sp4, lc4, kc4, same, fok⟩ := iv
          rw [rgD_len, Int.toNat_natCast, List.length_map] at fok
          cases fst with
          | none =>
            obtain ⟨k, hk, e⟩ := List.getElem_of_mem hs0
            have := (fok k (by rw [← lps, sp3.len]; exact hk)).1
            rw [List.getElem?_eq_getElem hk, e] at this
            exact absurd (Option.some.inj this) ns0
          | some jz =>
            obtain ⟨j, z⟩ := jz
            obtain ⟨hj, pre, d, hd, hz⟩ := fok
            have ck : checkD (.tup cells) = some (some j, z) := by
              unfold checkD
              rw [if_pos ⟨rfl, by show 1 ≤ cells.length; omega, by show cells.length ≤ 64; omega⟩]
              have := walk_first (cells := cells) ⟨v1, v4⟩ hb (fun k hk => ⟨bar[k], List.getElem?_eq_getElem (by omega), by rw [pre k hk]; exact bar_at (by omega)⟩) hd hz j 0 (by omega)
              show (walkD 0 none cells).map _ = _
              rw [show voAt 0 v = none from rfl, List.drop_zero] at this
              rw [this]
              rfl
            exact bv_one (sv_ret (ev_tup (av_cons (ev_tupM T.tuple (ev_var 4 rfl) hC4) (av_cons (ev_var 9 rfl) av_nil))) ⟨_, hΦ cells j z lc4 kc4 ck q4 ok4 _ fr4 hA4, Mle.refl _⟩)
end
section
variable {P : Program} {w : World} {K : PySem.W.Frag} {mg : Str → Option Value} {base : Heap} {f : Addr} {fd : FuncData}
theorem c_listed (F : Fun K "_law_listed" "_law_listed" s_listed f fd) (hm : mg "_law_listed" = some (.ref f)) (T : Bt mg) : ∀ n, Cal P w K mg base (n + 1) "_law_listed" (spD K (PrListed n)) := by
  intro n
  induction n with
  | zero =>
    refine cal_of F sc_listed hm (fun _ _ _ _ _ _ us hl => match us, hl with | [_], _ => rfl) (fun ds M d M' h => ?_) fun cdv A outer s H E ds M d M' hr h => ?_
    · obtain ⟨t, rfl, _⟩ := h
      rfl
    · obtain ⟨t, rfl, ok, rfl, rfl⟩ := h
      show BV _ _ [some t, none] _ _
      cases t with
      | tup ds => exact ok.elim
      | lst ds => exact ok.elim
      | dic => exact ok.elim
      | val v =>
        have e : lstD (.val v) = .val v := by simp only [lstD]
        rw [e]
        rcases ok with rfl | ⟨b, rfl⟩ | ⟨i, rfl⟩ | ⟨z, rfl⟩
        all_goals
          refine bv_cons (sv_if (tv_val (ev_isi (r := false) T.isinstance T.tuple boot_tuple (ev_var 0 rfl) rfl (by decide +kernel))) (fun h => nomatch h) (fun _ => bv_nil ?_))
          exact bv_one (sv_ret (ev_var 0 rfl) ⟨rfl, Mle.refl _⟩)
  | succ n ih =>
    refine cal_of F sc_listed hm (fun _ _ _ _ _ _ us hl => match us, hl with | [_], _ => rfl) (fun ds M d M' h => ?_) fun cdv A outer s H E ds M d M' hr h => ?_
    · obtain ⟨t, rfl, _⟩ := h
      rfl
    · obtain ⟨t, rfl, ok, rfl, rfl⟩ := h
      show BV _ _ [some t, none] _ _
      have hr0 : Room (n + 1) (A.deeper (envOfC "_law_listed" (defScope s_listed) s.heap.objs.size f cdv)) := hr
      cases t with
      | lst ds => exact ok.elim
      | dic => exact ok.elim
      | tup ds =>
        obtain ⟨hl, hd⟩ := ok
        refine bv_cons (sv_if (tv_val (ev_isi (r := true) T.isinstance T.tuple boot_tuple (ev_var 0 rfl) rfl (by decide +kernel))) (fun _ => ?_) (fun h => nomatch h))
        have e : lstD (.tup ds) = .lst (ds.map lstD) := by simp only [lstD, lstDL_eq]
        rw [e]
        refine bv_one (sv_ret (ev_lcM (own := [("part", 1)]) (g := gName 1) rfl sc_listed.nd (iv_tup (ev_var 0 rfl)) (blkOk_by (N := ["thing", "part"]) (sc := defScope s_listed) (by decide +kernel)) (fun _ _ _ _ _ => (pg_name (i := 1) sc_listed.nd rfl (.inl rfl))) lstD (Nat.le_trans hl (by decide)) (fun i d h => ?_)) ⟨rfl, Mle.refl _⟩)
        refine ⟨_, tgb_name, fun M2 s H C cl fp => ?_⟩
        exact ev_call ih hr0 (av_cons (ev_var 1 rfl) av_nil) ⟨_, rfl, hd _ (List.mem_of_getElem? h), rfl, rfl⟩
      | val v =>
        have e : lstD (.val v) = .val v := by simp only [lstD]
        rw [e]
        rcases ok with rfl | ⟨b, rfl⟩ | ⟨i, rfl⟩ | ⟨z, rfl⟩
        all_goals
          refine bv_cons (sv_if (tv_val (ev_isi (r := false) T.isinstance T.tuple boot_tuple (ev_var 0 rfl) rfl (by decide +kernel))) (fun h => nomatch h) (fun _ => bv_nil ?_))
          exact bv_one (sv_ret (ev_var 0 rfl) ⟨rfl, Mle.refl _⟩)
end
theorem sq_nv {b : Bool} {ds : List D} : ∀ v, sq b ds ≠ .val v := fun v h => by cases b <;> cases h
theorem rp_sq {n w w' : Nat} (b : Bool) {ds : List D} (hl : ds.length * (w' + 2) + 3 ≤ w) (h : ∀ d ∈ ds, rp n w' d) : rp (n + 1) w (sq b ds) := by cases b <;> exact ⟨w', hl, h⟩
theorem rp_small {n w : Nat} {i : Int} (h : -100000 ≤ i ∧ i ≤ 100000) (hw : 20 ≤ w) : rp n w (dI i) := by
  have l : i.natAbs.log2 < 17 := PySem.Flt.log2_lt_of (by decide) (show i.natAbs < 2 ^ 17 by omega)
  cases n <;> exact .inr (.inr (.inl ⟨i, rfl, by omega, by omega⟩))
theorem rp_bool {n w : Nat} {b : Bool} (hw : 5 ≤ w) : rp n w (dB b) := by cases n <;> exact .inr (.inl ⟨⟨b, rfl⟩, hw⟩)
theorem rp_none {n w : Nat} (hw : 4 ≤ w) : rp n w dN := by cases n <;> exact .inl ⟨rfl, hw⟩
theorem all2 {PD : D → Prop} {a b : D} (ha : PD a) (hb : PD b) : ∀ d ∈ [a, b], PD d := fun d hd => by
  rcases List.mem_cons.mp hd with rfl | hd
  · exact ha
  · rw [List.mem_singleton.mp hd]
    exact hb
theorem all3 {PD : D → Prop} {a b c : D} (ha : PD a) (hb : PD b) (hc : PD c) : ∀ d ∈ [a, b, c], PD d := fun d hd => by
  rcases List.mem_cons.mp hd with rfl | hd
  · exact ha
  · exact all2 hb hc d hd
theorem rp_barK {v : Nat} {bar : List Col} (hl : bar.length ≤ 64) (h : ∀ c ∈ bar, ColOk TnK v c) (hv : v ≤ 4) (b1 b2 : Bool) : rp 5 200000 (barQ b1 b2 bar) := by
  refine rp_sq b1 (w' := 2400) (by rw [List.length_map]; omega) fun d hd => ?_
  obtain ⟨c, hc, rfl⟩ := List.mem_map.mp hd
  have hcol := h c hc
  refine rp_sq b2 (w' := 700) (by simp only [List.length_cons, List.length_nil]; decide) (all3 ?_ ?_ ?_)
  · refine rp_mono (rp_sq (n := 2) b2 (w' := 20) (w := 700) (by simp only [List.length_cons, List.length_nil]; decide) (all2 (rp_small ?_ (by decide)) (rp_small ?_ (by decide)))) (by decide)
    · have := hcol.dur.n0
      have := hcol.dur.nb
      omega
    · have := hcol.dur.red.d0
      have := hcol.dur.db
      omega
  · refine rp_small ?_ (by decide)
    have := hcol.acc
    omega
  · refine rp_sq b2 (w' := 140) (by rw [List.length_map, hcol.len]; omega) fun d hd => ?_
    obtain ⟨e, he, rfl⟩ := List.mem_map.mp hd
    cases e with
    | none => exact rp_none (by decide)
    | some e =>
      obtain ⟨t, g⟩ := e
      have ht := hcol.ton t g he
      exact rp_sq b2 (w' := 60) (by simp only [List.length_cons, List.length_nil]; decide) (all2 (rp_sq b2 (w' := 20) (by simp only [List.length_cons, List.length_nil]; decide) (all2 (rp_small (by have := ht.1; omega) (by decide)) (rp_small (by have := ht.2; omega) (by decide)))) (rp_bool (by decide)))
theorem okD_str {n : Nat} (z : Str) : okD n (dS z) := by cases n <;> exact .inr (.inr (.inr ⟨z, rfl⟩))
theorem okD_none {n : Nat} : okD n dN := by cases n <;> exact .inl rfl
theorem okD_told {v : Nat} {bar : List Col} (hl : bar.length ≤ 64) (h : ∀ c ∈ bar, ColOk TnK v c) (hv : v ≤ 4) : okD 6 (.tup [dS "told", barD bar]) :=
  ⟨by show 2 ≤ 1000000; decide, all2 (okD_str _) (okD_of_tup (tup_bar (by omega) (fun c hc => by rw [(h c hc).len]; omega)))⟩
theorem okD_refused {i z : D} (hi : okD 5 i) (hz : okD 5 z) : okD 6 (.tup [dS "refused", i, z, dB true, dB true]) := ⟨by show 5 ≤ 1000000; decide, fun d hd => by
  rcases List.mem_cons.mp hd with rfl | hd
  · exact okD_str _
  rcases List.mem_cons.mp hd with rfl | hd
  · exact hi
  rcases List.mem_cons.mp hd with rfl | hd
  · exact hz
  rcases List.mem_cons.mp hd with rfl | hd
  · exact okD_bool _
  rw [List.mem_singleton.mp hd]
  exact okD_bool _⟩
theorem cut_to {ds : List D} {m : Nat} : cutD ds none (some ((m : Nat) : Int)) = ds.take m := by
  unfold cutD
  rw [HT.sIx_nat]
  show (ds.drop 0).take (min m ds.length - 0) = _
  rw [List.drop_zero, Nat.sub_zero, List.take_eq_take_iff]
  omega
theorem flat_len {α : Type} (xs : List α) : ∀ n, (List.replicate n xs).flatten.length = n * xs.length
  | 0 => by simp
  | n + 1 => by rw [List.replicate_succ, List.flatten_cons, List.length_append, flat_len xs n, Nat.succ_mul, Nat.add_comm]
theorem flat_mem {α : Type} {xs : List α} {n : Nat} {x : α} (h : x ∈ (List.replicate n xs).flatten) : x ∈ xs := by
  obtain ⟨l, hl, hx⟩ := List.mem_flatten.mp h
  rw [(List.mem_replicate.mp hl).2] at hx
  exact hx
theorem count_bad {t : D} (h : rowD t = true → lenD t = 0 ∨ 64 < lenD t) : checkD t = some (none, ("count" : Str)) := by
  unfold checkD
  rw [if_neg fun q => by have := h q.1; omega]
section
variable {P : Program} {w : World} {K : PySem.W.Frag} {mg : Str → Option Value} {base : Heap} {f : Addr} {fd : FuncData}
theorem c_law (F : Fun K "law" "law" s_law f fd) (T : Bt mg) (hrep : mg "repr" = none) (hdict : mg "dict" = none) (c_pool : Cal P w K mg base 1 "_law_pool" (spN K PrPool)) (c_take : Cal P w K mg base 2 "_law_take" (spW K R_take)) (c_pick : Cal P w K mg base 3 "_law_pick" (spW K R_pick)) (c_long_bar : Cal P w K mg base 6 "_law_long_bar" (spW K R_long_bar)) (c_listed : Cal P w K mg base 6 "_law_listed" (spD K (PrListed 5))) (c_told : Cal P w K mg base 7 "_law_told" (spW K R_told)) (c_same : Cal P w K mg base 8 "_law_same" (spD K (PrSame 6))) (c_spoilt : Cal P w K mg base 6 "_law_spoilt" (spW K R_spoilt)) : FnG P w K mg base 9 f fd ["script"] (spLaw K) := by
  refine law_ofG F sc_law fun cdv A outer s H E ns g hr hl => ?_
  show BV _ _ [some (.lst (ns.map dI)), none, none, none, none, none, none, none, none, none, none] _ _
  refine bv_cons (sv_setN 1 sc_law.nd (en_call c_pool (hr.mono (by decide)) (av_cons (ev_var 0 rfl) av_nil) ⟨ns, rfl, by omega, rfl, rfl⟩) (fun a ha => ?_))
  have hA : (Mem.set (fun _ => none) a (Pool.mo (Pool.new ns))) a = some (Pool.mo (Pool.new ns)) := Mem.set_same
  have ok := Pool.new_ok ns
  show BV _ _ _ (Mem.set (fun _ => none) a (Pool.mo (Pool.new ns))) _
  generalize Mem.set (fun _ => none) a (Pool.mo (Pool.new ns)) = M0 at hA ⊢
  generalize Pool.new ns = p at hA ok
  refine bv_cons (sw_for rfl (pg_name (i := 2) sc_law.nd rfl (.inl rfl)) ?_)
  refine iw_iv (iv_range1 T.range ev_int (by decide)) ⟨fun i ρ M => ∃ (x2 x3 x4 x5 x6 x7 x8 x9 x10 : Option D) (q : Pool), ρ = [some (.lst (ns.map dI)), some (dP a), x2, x3, x4, x5, x6, x7, x8, x9, x10] ∧ M a = some q.mo ∧ q.Ok, ⟨none, none, none, none, none, none, none, none, none, p, rfl, hA, ok⟩, fun i d ρ' M' hd iv => ?_, fun ρ' M' iv => ?_⟩
  · obtain ⟨x2, x3, x4, x5, x6, x7, x8, x9, x10, q, rfl, hA, ok⟩ := iv
    refine ⟨_, tg_name, ?_⟩
    refine bv_cons (sw_set 3 sc_law.nd ?_)
    refine ew_callW c_long_bar (hr.mono (by decide)) ?_
    refine aw_cons (ew_ev (ev_var 1 rfl) ?_)
    refine aw_cons ?_
    refine ew_op op_add ?_
    refine ew_ev ev_int ⟨_, rfl, ?_⟩
    refine ew_callW c_take (hr.mono (by decide)) (aw_av (av_cons (ev_var 1 rfl) (av_cons ev_int av_nil)) ⟨a, q, _, rfl, hA, ok, by decide, by decide, fun n1 lo1 hi1 p1 ok1 M1 fr1 hA1 => ⟨_, _, rfl, rs_I0, ?_⟩⟩)
    obtain ⟨v, ev, v1, v4⟩ : ∃ v : Nat, 1 + n1 = (v : Int) ∧ 1 ≤ v ∧ v ≤ 4 := ⟨(1 + n1).toNat, by omega, by omega, by omega⟩
    rw [ev]
    refine aw_nil ⟨a, p1, v, rfl, hA1, ok1, by omega, fun bar n0 n64 hb p2 ok2 M2 fr2 hA2 => ?_⟩
    have hv : 1 ≤ v ∧ v ≤ 4 := ⟨v1, v4⟩
    have kb (b1 b2 : Bool) : kD 5 (barQ b1 b2 bar) := kD_bar (by omega) (fun c hc => (hb c hc).len) (show v ≤ 1000 by omega)
    have good (b1 b2 : Bool) : checkD (barQ b1 b2 bar) = none := check_good hv n0 n64 hb
    refine bv_cons (sw_set 4 sc_law.nd ?_)
    refine ew_callW c_pick (hr.mono (by decide)) (aw_av (av_cons (ev_var 1 rfl) (av_cons (ev_lst (av_cons (ev_var 3 rfl) (av_cons (ev_listL (b := false) (ds := bar.map colD) T.list (ev_var 3 rfl)) (av_cons (ev_call c_listed (hr.mono (by decide)) (av_cons (ev_var 3 rfl) av_nil) ⟨barD bar, rfl, tup_bar (by omega) (fun c hc => by rw [(hb c hc).len]; omega), rfl, rfl⟩) av_nil)))) av_nil)) ⟨a, p2, true, _, rfl, hA2, ok2, by simp, by simp, fun d3 g3 p3 ok3 M3 fr3 hA3 => ?_⟩)
    obtain ⟨b1, b2, rfl⟩ : ∃ b1 b2, d3 = barQ b1 b2 bar := by
      rw [lst_bar] at g3
      rcases List.mem_cons.mp g3 with rfl | g3
      · exact ⟨false, false, rfl⟩
      rcases List.mem_cons.mp g3 with rfl | g3
      · exact ⟨true, false, rfl⟩
      rw [List.mem_singleton.mp g3]
      exact ⟨true, true, rfl⟩
    have rpb := rp_barK n64 hb v4 b1 b2
    refine bv_cons (sv_set 5 sc_law.nd (ev_reprB g hr hrep (ev_var 4 rfl) rpb sq_nv (by decide) (by decide)) ?_)
    refine bv_cons (sw_if (PW.pt (ww_or (tw_not (tw_val ?_)))))
    refine ew_callD c_same (hr.mono (by decide)) (aw_cons (ew_callW c_told (hr.mono (by decide)) (aw_av (av_cons (ev_var 4 rfl) av_nil) ⟨barQ b1 b2 bar, 5, rfl, kb _ _, ?_⟩)))
    rw [good]
    intro M4 le4
    rw [bar_tup]
    have hA4 := le4 _ _ hA3
    refine aw_cons (ew_ev (ev_tup (av_cons ev_str (av_cons (ev_var 3 rfl) av_nil))) (aw_nil ⟨_, _, ⟨_, rfl, okD_told n64 hb v4, rfl, rfl⟩, _, rfl, fun _ => ww_one_or (tw_tv (tv_cmpR op_ne (ev_reprB g hr hrep (ev_var 4 rfl) rpb sq_nv (by decide) (by decide)) (ev_var 5 rfl) rs_neS (nomark _)) ⟨fun h => ?_, fun _ => bv_nil ?_⟩), fun h => (nomatch h)⟩))
    · rw [decide_eq_true rfl] at h
      cases h
    refine bv_cons (sw_asg (pg_tup rfl (pgs_cons (pg_name (i := 6) sc_law.nd rfl (.inl rfl)) (pgs_cons (pg_name (i := 7) sc_law.nd rfl (.inl rfl)) pgs_nil))) ?_)
    refine ew_callW c_spoilt (hr.mono (by decide)) (aw_av (av_cons (ev_var 1 rfl) (av_cons (ev_var 3 rfl) av_nil)) ⟨a, p3, bar, v, rfl, hA4, ok3, n0, n64, v1, v4, hb, fun cells k z lc kc ck p5 ok5 M5 fr5 hA5 => ⟨_, tg_tup (tg_cons tg_name (tg_cons tg_name (tg_nil))), ?_⟩⟩)
    refine bv_cons (sw_set 4 sc_law.nd ?_)
    refine ew_callW c_pick (hr.mono (by decide)) (aw_av (av_cons (ev_var 1 rfl) (av_cons (ev_lst (av_cons (ev_var 6 rfl) (av_cons (ev_listL (b := false) (ds := cells) T.list (ev_var 6 rfl)) av_nil))) av_nil)) ⟨a, p5, true, _, rfl, hA5, ok5, by simp, by simp, fun d6 g6 p6 ok6 M6 fr6 hA6 => ?_⟩)
    obtain ⟨b3, rfl⟩ : ∃ b3, d6 = sq b3 cells := by
      rcases List.mem_cons.mp g6 with rfl | g6
      · exact ⟨false, rfl⟩
      rw [List.mem_singleton.mp g6]
      exact ⟨true, rfl⟩
    have ck3 : checkD (sq b3 cells) = some (some k, z) := by cases b3 <;> exact ck
    refine bv_cons (sw_if (tw_not (tw_val ?_)))
    refine ew_callD c_same (hr.mono (by decide)) (aw_cons (ew_callW c_told (hr.mono (by decide)) (aw_av (av_cons (ev_var 4 rfl) av_nil) ⟨sq b3 cells, 6, rfl, kD_mk (by omega) kc, ?_⟩)))
    rw [ck3]
    intro M7 le7
    have hA7 := le7 _ _ hA6
    refine aw_cons (ew_ev (ev_tup (av_cons ev_str (av_cons (ev_ixT (ds := [dI ((k : Nat) : Int), dS z]) (ev_var 7 rfl) ev_int rfl) (av_cons (ev_ixT (ds := [dI ((k : Nat) : Int), dS z]) (ev_var 7 rfl) ev_int rfl) (av_cons ev_bl (av_cons ev_bl av_nil)))))) (aw_nil ⟨_, _, ⟨_, rfl, okD_refused (okD_int _) (okD_str _), rfl, rfl⟩, _, rfl, fun h => (nomatch h), fun _ => bv_nil ?_⟩))
    refine bv_cons (sw_if (tw_not (tw_val ?_)))
    refine ew_callD c_same (hr.mono (by decide)) (aw_cons (ew_callW c_told (hr.mono (by decide)) (aw_av (av_cons (ev_var 3 rfl) av_nil) ⟨barD bar, 5, rfl, kb false false, ?_⟩)))
    rw [show checkD (barD bar) = none from good false false]
    intro M8 le8
    rw [show barT (barD bar) = barD bar from bar_tup]
    have hA8 := le8 _ _ hA7
    refine aw_cons (ew_ev (ev_tup (av_cons ev_str (av_cons (ev_var 3 rfl) av_nil))) (aw_nil ⟨_, _, ⟨_, rfl, okD_told n64 hb v4, rfl, rfl⟩, _, rfl, fun h => (nomatch h), fun _ => bv_nil ?_⟩))
    refine bv_cons (sw_set 8 sc_law.nd ?_)
    refine ew_callW c_pick (hr.mono (by decide)) (aw_av (av_cons (ev_var 1 rfl) (av_cons (ev_lst (av_cons ev_int (av_cons ev_int (av_cons ev_int (av_cons (ev_op op_add ev_int (ev_lenT (ds := bar.map colD) T.len (ev_var 3 rfl)) rs_I0) (av_cons ev_int av_nil)))))) av_nil)) ⟨a, p6, true, _, rfl, hA8, ok6, by simp, by simp, fun d9 g9 p9 ok9 M9 fr9 hA9 => ?_⟩)
    obtain ⟨m, rfl, hm⟩ : ∃ m : Nat, d9 = dI ((m : Nat) : Int) ∧ (m = 0 ∨ 65 ≤ m) := by
      simp only [List.mem_cons, List.not_mem_nil, or_false] at g9
      rcases g9 with rfl | rfl | rfl | rfl | rfl
      · exact ⟨0, rfl, .inl rfl⟩
      · exact ⟨65, rfl, .inr (by decide)⟩
      · exact ⟨66, rfl, .inr (by decide)⟩
      · exact ⟨64 + bar.length, by rw [List.length_map]; rfl, .inr (by omega)⟩
      · exact ⟨200, rfl, .inr (by decide)⟩
    have nb : bar.map colD ≠ [] := fun e => by
      have := congrArg List.length e
      rw [List.length_map] at this
      simp at this
      rw [this] at n0
      cases n0
    refine bv_cons (sv_set 9 sc_law.nd (ev_sliceQ (b' := false) (ev_mulT (ds := bar.map colD) (ev_var 3 rfl) ev_int nb (by decide) (by rw [List.length_map]; omega)) ov_none (ov_some (ev_var 8 rfl))) ?_)
    rw [cut_to]
    have l65 : (List.replicate (65 : Int).toNat (bar.map colD)).flatten.length = 65 * bar.length := by rw [flat_len, List.length_map]; rfl
    have cm : ∀ d ∈ ((List.replicate (65 : Int).toNat (bar.map colD)).flatten.take m), kD 5 d := fun d hd => by
      obtain ⟨c, hc, rfl⟩ := List.mem_map.mp (flat_mem (List.mem_of_mem_take hd))
      exact kD_up (kD_col (hb c hc).len (by omega))
    have cl : ((List.replicate (65 : Int).toNat (bar.map colD)).flatten.take m).length = 0 ∨ 64 < ((List.replicate (65 : Int).toNat (bar.map colD)).flatten.take m).length := by
      rw [List.length_take, l65]
      omega
    have cl2 : ((List.replicate (65 : Int).toNat (bar.map colD)).flatten.take m).length ≤ 1000000 := by
      rw [List.length_take, l65]
      omega
    generalize (List.replicate (65 : Int).toNat (bar.map colD)).flatten.take m = cs at cm cl cl2
    have nc : cells ≠ [] := fun e => by
      rw [e] at lc
      have : 0 = bar.length := lc
      omega
    refine bv_cons (sw_set 10 sc_law.nd ?_)
    refine ew_callW c_pick (hr.mono (by decide)) ?_
    refine aw_cons (ew_ev (ev_var 1 rfl) ?_)
    refine aw_cons (ew_lst ?_)
    refine aw_cons (ew_ev (ev_var 9 rfl) ?_)
    refine aw_cons (ew_ev (ev_listL (b := false) (ds := cs) T.list (ev_var 9 rfl)) ?_)
    refine aw_cons (ew_ev (ev_mulT (ds := cells) (ev_var 6 rfl) ev_int nc (by decide) (by omega)) ?_)
    refine aw_cons ?_
    refine ew_callW c_pick (hr.mono (by decide)) ?_
    refine aw_cons (ew_ev (ev_var 1 rfl) ?_)
    refine aw_cons (ew_lst ?_)
    refine aw_cons (ew_ev ev_non ?_)
    refine aw_cons (ew_ev ev_int ?_)
    refine aw_cons (ew_ev ev_str ?_)
    refine aw_cons (ew_dict rfl hdict (ew_ev (ev_lst (av_cons (ev_tup (av_cons ev_int (av_cons (ev_ixT (ds := bar.map colD) (ev_var 3 rfl) ev_int (atI_nat (k := 0) (bar_at n0) rfl)) av_nil))) av_nil)) ⟨[(0, colD bar[0])], rfl, ?_⟩))
    refine aw_nil ⟨by (simp only [List.length_cons, List.length_nil]; decide), ?_⟩
    refine aw_nil ⟨a, p9, true, _, rfl, hA9, ok9, by simp, by simp, fun d11 g11 p11 ok11 M11 fr11 hA11 => ?_⟩
    refine aw_nil ⟨by (simp only [List.length_cons, List.length_nil]; decide), ?_⟩
    refine aw_nil ⟨a, p11, true, _, rfl, hA11, ok11, by simp, by simp, fun d12 g12 p12 ok12 M12 fr12 hA12 => ?_⟩
    have bad : kD 6 d12 ∧ checkD d12 = some (none, ("count" : Str)) := by
      rcases List.mem_cons.mp g12 with rfl | g12
      · exact ⟨kD_mk (b := false) cl2 cm, count_bad fun _ => cl⟩
      rcases List.mem_cons.mp g12 with rfl | g12
      · exact ⟨kD_mk (b := true) cl2 cm, count_bad fun _ => cl⟩
      rcases List.mem_cons.mp g12 with rfl | g12
      · refine ⟨kD_mk (b := false) (by rw [flat_len]; show 65 * cells.length ≤ _; omega) fun d hd => kc d (flat_mem hd), count_bad fun _ => .inr ?_⟩
        show 64 < (List.replicate (65 : Int).toNat cells).flatten.length
        rw [flat_len]
        show 64 < 65 * cells.length
        omega
      rw [List.mem_singleton.mp g12]
      simp only [List.mem_cons, List.not_mem_nil, or_false] at g11
      rcases g11 with rfl | rfl | rfl | rfl
      · exact ⟨kD_none, count_bad fun h => nomatch h⟩
      · exact ⟨kD_int _, count_bad fun h => nomatch h⟩
      · exact ⟨kD_str _, count_bad fun h => nomatch h⟩
      · exact ⟨kD_dic, count_bad fun h => nomatch h⟩
    refine bv_one (sw_if (tw_not (tw_val ?_)))
    refine ew_callD c_same (hr.mono (by decide)) (aw_cons (ew_callW c_told (hr.mono (by decide)) (aw_av (av_cons (ev_var 10 rfl) av_nil) ⟨d12, 6, rfl, bad.1, ?_⟩)))
    rw [bad.2]
    intro M13 le13
    have hA13 := le13 _ _ hA12
    refine aw_cons (ew_ev (ev_tup (av_cons ev_str (av_cons ev_non (av_cons ev_str (av_cons ev_bl (av_cons ev_bl av_nil)))))) (aw_nil ⟨_, _, ⟨_, rfl, okD_refused okD_none (okD_str _), rfl, rfl⟩, _, rfl, fun h => (nomatch h), fun _ => bv_nil ?_⟩))
    exact ⟨_, _, _, _, _, _, _, _, _, p12, rfl, hA13, ok12⟩
  · obtain ⟨x2, x3, x4, x5, x6, x7, x8, x9, x10, q, rfl, hA, ok⟩ := iv
    exact bv_one (sv_ret ev_bl rfl)
end
theorem all_mk {l : PySem.W.OpenLaw} {w : World} {K : PySem.W.Frag} {h : Heap} {mg : Str → Option Value} {fa f_take f_pool f_pick f_is_integer f_same f_lowest f_tone f_duration f_column f_p_is_row f_p_is_pair f_p_is_number f_p_is_whole f_p_is_tone f_p_is_short_fraction f_p_is_entry f_p_reason f_p_tuple_of f_p_entries f_p_with_tones f_p_as_tuples f_p_check_bar f_wrong f_told f_long_bar f_spoilt f_listed f_law : Addr} (X : K.In h) (G : h.Ns mainGlobals mg) (hfa : mg "law" = some (.ref fa))
    {CC CS C1 C2 fI : Addr} {o_nm o_q : Str} {o_N : Addr} {o_bs o_bm : List Value} {o_sn : List Str} {o_sub : List Value} {o_ab : Bool} {o_col : Option Bool} {o_dd : Option Addr} {o_k0 o_k1 o_k2 o_k3 o_k5 : Option Value} {od_I an_I : Option Addr} {sl_I : Array (Option Value)} {oc_I kV_I dc_I pm_I cd_I ct_I : Value}
    {t_FAR t_MOST_PARTS t_MOST_ACCENT t_MOST_VOICES t_MOST_COLUMNS : Tok}
    {od_take an_take od_pool an_pool od_pick an_pick od_is_integer an_is_integer od_same an_same od_lowest an_lowest od_tone an_tone od_duration an_duration od_column an_column od_p_is_row an_p_is_row od_p_is_pair an_p_is_pair od_p_is_number an_p_is_number od_p_is_whole an_p_is_whole od_p_is_tone an_p_is_tone od_p_is_short_fraction an_p_is_short_fraction od_p_is_entry an_p_is_entry od_p_reason an_p_reason od_p_tuple_of an_p_tuple_of od_p_entries an_p_entries od_p_with_tones an_p_with_tones od_p_as_tuples an_p_as_tuples od_p_check_bar an_p_check_bar od_wrong an_wrong od_told an_told od_long_bar an_long_bar od_spoilt an_spoilt od_listed an_listed od_law an_law : Option Addr} {sl_take sl_pool sl_pick sl_is_integer sl_same sl_lowest sl_tone sl_duration sl_column sl_p_is_row sl_p_is_pair sl_p_is_number sl_p_is_whole sl_p_is_tone sl_p_is_short_fraction sl_p_is_entry sl_p_reason sl_p_tuple_of sl_p_entries sl_p_with_tones sl_p_as_tuples sl_p_check_bar sl_wrong sl_told sl_long_bar sl_spoilt sl_listed sl_law : Array (Option Value)} {oc_take kV_take dc_take pm_take cd_take ct_take oc_pool kV_pool dc_pool pm_pool cd_pool ct_pool oc_pick kV_pick dc_pick pm_pick cd_pick ct_pick oc_is_integer kV_is_integer dc_is_integer pm_is_integer cd_is_integer ct_is_integer oc_same kV_same dc_same pm_same cd_same ct_same oc_lowest kV_lowest dc_lowest pm_lowest cd_lowest ct_lowest oc_tone kV_tone dc_tone pm_tone cd_tone ct_tone oc_duration kV_duration dc_duration pm_duration cd_duration ct_duration oc_column kV_column dc_column pm_column cd_column ct_column oc_p_is_row kV_p_is_row dc_p_is_row pm_p_is_row cd_p_is_row ct_p_is_row oc_p_is_pair kV_p_is_pair dc_p_is_pair pm_p_is_pair cd_p_is_pair ct_p_is_pair oc_p_is_number kV_p_is_number dc_p_is_number pm_p_is_number cd_p_is_number ct_p_is_number oc_p_is_whole kV_p_is_whole dc_p_is_whole pm_p_is_whole cd_p_is_whole ct_p_is_whole oc_p_is_tone kV_p_is_tone dc_p_is_tone pm_p_is_tone cd_p_is_tone ct_p_is_tone oc_p_is_short_fraction kV_p_is_short_fraction dc_p_is_short_fraction pm_p_is_short_fraction cd_p_is_short_fraction ct_p_is_short_fraction oc_p_is_entry kV_p_is_entry dc_p_is_entry pm_p_is_entry cd_p_is_entry ct_p_is_entry oc_p_reason kV_p_reason dc_p_reason pm_p_reason cd_p_reason ct_p_reason oc_p_tuple_of kV_p_tuple_of dc_p_tuple_of pm_p_tuple_of cd_p_tuple_of ct_p_tuple_of oc_p_entries kV_p_entries dc_p_entries pm_p_entries cd_p_entries ct_p_entries oc_p_with_tones kV_p_with_tones dc_p_with_tones pm_p_with_tones cd_p_with_tones ct_p_with_tones oc_p_as_tuples kV_p_as_tuples dc_p_as_tuples pm_p_as_tuples cd_p_as_tuples ct_p_as_tuples oc_p_check_bar kV_p_check_bar dc_p_check_bar pm_p_check_bar cd_p_check_bar ct_p_check_bar oc_wrong kV_wrong dc_wrong pm_wrong cd_wrong ct_wrong oc_told kV_told dc_told pm_told cd_told ct_told oc_long_bar kV_long_bar dc_long_bar pm_long_bar cd_long_bar ct_long_bar oc_spoilt kV_spoilt dc_spoilt pm_spoilt cd_spoilt ct_spoilt oc_listed kV_listed dc_listed pm_listed cd_listed ct_listed oc_law kV_law dc_law pm_law cd_law ct_law : Value}
    (a_take : PySem.W.nsIn K mainGlobals "_law_take" = some (some (.ref f_take))) (l_take : K.lookup f_take = some ⟨oc_take, od_take, .func (PySem.W.fnOf "_law_take" "_law_take" (defArgs s_take) (defBody s_take) (defScope s_take) .none kV_take dc_take pm_take an_take cd_take ct_take), sl_take⟩) (c_take : PySem.W.codeIn K cd_take "_law_take" = true) (k_take : PySem.W.keepIn K (.ref f_take) = true)
    (a_pool : PySem.W.nsIn K mainGlobals "_law_pool" = some (some (.ref f_pool))) (l_pool : K.lookup f_pool = some ⟨oc_pool, od_pool, .func (PySem.W.fnOf "_law_pool" "_law_pool" (defArgs s_pool) (defBody s_pool) (defScope s_pool) .none kV_pool dc_pool pm_pool an_pool cd_pool ct_pool), sl_pool⟩) (c_pool : PySem.W.codeIn K cd_pool "_law_pool" = true) (k_pool : PySem.W.keepIn K (.ref f_pool) = true)
    (a_pick : PySem.W.nsIn K mainGlobals "_law_pick" = some (some (.ref f_pick))) (l_pick : K.lookup f_pick = some ⟨oc_pick, od_pick, .func (PySem.W.fnOf "_law_pick" "_law_pick" (defArgs s_pick) (defBody s_pick) (defScope s_pick) .none kV_pick dc_pick pm_pick an_pick cd_pick ct_pick), sl_pick⟩) (c_pick : PySem.W.codeIn K cd_pick "_law_pick" = true) (k_pick : PySem.W.keepIn K (.ref f_pick) = true)
    (a_is_integer : PySem.W.nsIn K mainGlobals "_law_is_integer" = some (some (.ref f_is_integer))) (l_is_integer : K.lookup f_is_integer = some ⟨oc_is_integer, od_is_integer, .func (PySem.W.fnOf "_law_is_integer" "_law_is_integer" (defArgs s_is_integer) (defBody s_is_integer) (defScope s_is_integer) .none kV_is_integer dc_is_integer pm_is_integer an_is_integer cd_is_integer ct_is_integer), sl_is_integer⟩) (c_is_integer : PySem.W.codeIn K cd_is_integer "_law_is_integer" = true) (k_is_integer : PySem.W.keepIn K (.ref f_is_integer) = true)
    (a_same : PySem.W.nsIn K mainGlobals "_law_same" = some (some (.ref f_same))) (l_same : K.lookup f_same = some ⟨oc_same, od_same, .func (PySem.W.fnOf "_law_same" "_law_same" (defArgs s_same) (defBody s_same) (defScope s_same) .none kV_same dc_same pm_same an_same cd_same ct_same), sl_same⟩) (c_same : PySem.W.codeIn K cd_same "_law_same" = true) (k_same : PySem.W.keepIn K (.ref f_same) = true)
    (a_lowest : PySem.W.nsIn K mainGlobals "_law_lowest" = some (some (.ref f_lowest))) (l_lowest : K.lookup f_lowest = some ⟨oc_lowest, od_lowest, .func (PySem.W.fnOf "_law_lowest" "_law_lowest" (defArgs s_lowest) (defBody s_lowest) (defScope s_lowest) .none kV_lowest dc_lowest pm_lowest an_lowest cd_lowest ct_lowest), sl_lowest⟩) (c_lowest : PySem.W.codeIn K cd_lowest "_law_lowest" = true) (k_lowest : PySem.W.keepIn K (.ref f_lowest) = true)
    (a_tone : PySem.W.nsIn K mainGlobals "_law_tone" = some (some (.ref f_tone))) (l_tone : K.lookup f_tone = some ⟨oc_tone, od_tone, .func (PySem.W.fnOf "_law_tone" "_law_tone" (defArgs s_tone) (defBody s_tone) (defScope s_tone) .none kV_tone dc_tone pm_tone an_tone cd_tone ct_tone), sl_tone⟩) (c_tone : PySem.W.codeIn K cd_tone "_law_tone" = true) (k_tone : PySem.W.keepIn K (.ref f_tone) = true)
    (a_duration : PySem.W.nsIn K mainGlobals "_law_duration" = some (some (.ref f_duration))) (l_duration : K.lookup f_duration = some ⟨oc_duration, od_duration, .func (PySem.W.fnOf "_law_duration" "_law_duration" (defArgs s_duration) (defBody s_duration) (defScope s_duration) .none kV_duration dc_duration pm_duration an_duration cd_duration ct_duration), sl_duration⟩) (c_duration : PySem.W.codeIn K cd_duration "_law_duration" = true) (k_duration : PySem.W.keepIn K (.ref f_duration) = true)
    (a_column : PySem.W.nsIn K mainGlobals "_law_column" = some (some (.ref f_column))) (l_column : K.lookup f_column = some ⟨oc_column, od_column, .func (PySem.W.fnOf "_law_column" "_law_column" (defArgs s_column) (defBody s_column) (defScope s_column) .none kV_column dc_column pm_column an_column cd_column ct_column), sl_column⟩) (c_column : PySem.W.codeIn K cd_column "_law_column" = true) (k_column : PySem.W.keepIn K (.ref f_column) = true)
    (a_p_is_row : PySem.W.nsIn K mainGlobals "is_row" = some (some (.ref f_p_is_row))) (l_p_is_row : K.lookup f_p_is_row = some ⟨oc_p_is_row, od_p_is_row, .func (PySem.W.fnOf "is_row" "is_row" (defArgs s_p_is_row) (defBody s_p_is_row) (defScope s_p_is_row) .none kV_p_is_row dc_p_is_row pm_p_is_row an_p_is_row cd_p_is_row ct_p_is_row), sl_p_is_row⟩) (c_p_is_row : PySem.W.codeIn K cd_p_is_row "is_row" = true) (k_p_is_row : PySem.W.keepIn K (.ref f_p_is_row) = true)
    (a_p_is_pair : PySem.W.nsIn K mainGlobals "is_pair" = some (some (.ref f_p_is_pair))) (l_p_is_pair : K.lookup f_p_is_pair = some ⟨oc_p_is_pair, od_p_is_pair, .func (PySem.W.fnOf "is_pair" "is_pair" (defArgs s_p_is_pair) (defBody s_p_is_pair) (defScope s_p_is_pair) .none kV_p_is_pair dc_p_is_pair pm_p_is_pair an_p_is_pair cd_p_is_pair ct_p_is_pair), sl_p_is_pair⟩) (c_p_is_pair : PySem.W.codeIn K cd_p_is_pair "is_pair" = true) (k_p_is_pair : PySem.W.keepIn K (.ref f_p_is_pair) = true)
    (a_p_is_number : PySem.W.nsIn K mainGlobals "is_number" = some (some (.ref f_p_is_number))) (l_p_is_number : K.lookup f_p_is_number = some ⟨oc_p_is_number, od_p_is_number, .func (PySem.W.fnOf "is_number" "is_number" (defArgs s_p_is_number) (defBody s_p_is_number) (defScope s_p_is_number) .none kV_p_is_number dc_p_is_number pm_p_is_number an_p_is_number cd_p_is_number ct_p_is_number), sl_p_is_number⟩) (c_p_is_number : PySem.W.codeIn K cd_p_is_number "is_number" = true) (k_p_is_number : PySem.W.keepIn K (.ref f_p_is_number) = true)
    (a_p_is_whole : PySem.W.nsIn K mainGlobals "is_whole" = some (some (.ref f_p_is_whole))) (l_p_is_whole : K.lookup f_p_is_whole = some ⟨oc_p_is_whole, od_p_is_whole, .func (PySem.W.fnOf "is_whole" "is_whole" (defArgs s_p_is_whole) (defBody s_p_is_whole) (defScope s_p_is_whole) .none kV_p_is_whole dc_p_is_whole pm_p_is_whole an_p_is_whole cd_p_is_whole ct_p_is_whole), sl_p_is_whole⟩) (c_p_is_whole : PySem.W.codeIn K cd_p_is_whole "is_whole" = true) (k_p_is_whole : PySem.W.keepIn K (.ref f_p_is_whole) = true)
    (a_p_is_tone : PySem.W.nsIn K mainGlobals "is_tone" = some (some (.ref f_p_is_tone))) (l_p_is_tone : K.lookup f_p_is_tone = some ⟨oc_p_is_tone, od_p_is_tone, .func (PySem.W.fnOf "is_tone" "is_tone" (defArgs s_p_is_tone) (defBody s_p_is_tone) (defScope s_p_is_tone) .none kV_p_is_tone dc_p_is_tone pm_p_is_tone an_p_is_tone cd_p_is_tone ct_p_is_tone), sl_p_is_tone⟩) (c_p_is_tone : PySem.W.codeIn K cd_p_is_tone "is_tone" = true) (k_p_is_tone : PySem.W.keepIn K (.ref f_p_is_tone) = true)
    (a_p_is_short_fraction : PySem.W.nsIn K mainGlobals "is_short_fraction" = some (some (.ref f_p_is_short_fraction))) (l_p_is_short_fraction : K.lookup f_p_is_short_fraction = some ⟨oc_p_is_short_fraction, od_p_is_short_fraction, .func (PySem.W.fnOf "is_short_fraction" "is_short_fraction" (defArgs s_p_is_short_fraction) (defBody s_p_is_short_fraction) (defScope s_p_is_short_fraction) .none kV_p_is_short_fraction dc_p_is_short_fraction pm_p_is_short_fraction an_p_is_short_fraction cd_p_is_short_fraction ct_p_is_short_fraction), sl_p_is_short_fraction⟩) (c_p_is_short_fraction : PySem.W.codeIn K cd_p_is_short_fraction "is_short_fraction" = true) (k_p_is_short_fraction : PySem.W.keepIn K (.ref f_p_is_short_fraction) = true)
    (a_p_is_entry : PySem.W.nsIn K mainGlobals "_is_entry" = some (some (.ref f_p_is_entry))) (l_p_is_entry : K.lookup f_p_is_entry = some ⟨oc_p_is_entry, od_p_is_entry, .func (PySem.W.fnOf "_is_entry" "_is_entry" (defArgs s_p_is_entry) (defBody s_p_is_entry) (defScope s_p_is_entry) .none kV_p_is_entry dc_p_is_entry pm_p_is_entry an_p_is_entry cd_p_is_entry ct_p_is_entry), sl_p_is_entry⟩) (c_p_is_entry : PySem.W.codeIn K cd_p_is_entry "_is_entry" = true) (k_p_is_entry : PySem.W.keepIn K (.ref f_p_is_entry) = true)
    (a_p_reason : PySem.W.nsIn K mainGlobals "_reason" = some (some (.ref f_p_reason))) (l_p_reason : K.lookup f_p_reason = some ⟨oc_p_reason, od_p_reason, .func (PySem.W.fnOf "_reason" "_reason" (defArgs s_p_reason) (defBody s_p_reason) (defScope s_p_reason) .none kV_p_reason dc_p_reason pm_p_reason an_p_reason cd_p_reason ct_p_reason), sl_p_reason⟩) (c_p_reason : PySem.W.codeIn K cd_p_reason "_reason" = true) (k_p_reason : PySem.W.keepIn K (.ref f_p_reason) = true)
    (a_p_tuple_of : PySem.W.nsIn K mainGlobals "tuple_of" = some (some (.ref f_p_tuple_of))) (l_p_tuple_of : K.lookup f_p_tuple_of = some ⟨oc_p_tuple_of, od_p_tuple_of, .func (PySem.W.fnOf "tuple_of" "tuple_of" (defArgs s_p_tuple_of) (defBody s_p_tuple_of) (defScope s_p_tuple_of) .none kV_p_tuple_of dc_p_tuple_of pm_p_tuple_of an_p_tuple_of cd_p_tuple_of ct_p_tuple_of), sl_p_tuple_of⟩) (c_p_tuple_of : PySem.W.codeIn K cd_p_tuple_of "tuple_of" = true) (k_p_tuple_of : PySem.W.keepIn K (.ref f_p_tuple_of) = true)
    (a_p_entries : PySem.W.nsIn K mainGlobals "_entries" = some (some (.ref f_p_entries))) (l_p_entries : K.lookup f_p_entries = some ⟨oc_p_entries, od_p_entries, .func (PySem.W.fnOf "_entries" "_entries" (defArgs s_p_entries) (defBody s_p_entries) (defScope s_p_entries) .none kV_p_entries dc_p_entries pm_p_entries an_p_entries cd_p_entries ct_p_entries), sl_p_entries⟩) (c_p_entries : PySem.W.codeIn K cd_p_entries "_entries" = true) (k_p_entries : PySem.W.keepIn K (.ref f_p_entries) = true)
    (a_p_with_tones : PySem.W.nsIn K mainGlobals "_with_tones" = some (some (.ref f_p_with_tones))) (l_p_with_tones : K.lookup f_p_with_tones = some ⟨oc_p_with_tones, od_p_with_tones, .func (PySem.W.fnOf "_with_tones" "_with_tones" (defArgs s_p_with_tones) (defBody s_p_with_tones) (defScope s_p_with_tones) .none kV_p_with_tones dc_p_with_tones pm_p_with_tones an_p_with_tones cd_p_with_tones ct_p_with_tones), sl_p_with_tones⟩) (c_p_with_tones : PySem.W.codeIn K cd_p_with_tones "_with_tones" = true) (k_p_with_tones : PySem.W.keepIn K (.ref f_p_with_tones) = true)
    (a_p_as_tuples : PySem.W.nsIn K mainGlobals "as_tuples" = some (some (.ref f_p_as_tuples))) (l_p_as_tuples : K.lookup f_p_as_tuples = some ⟨oc_p_as_tuples, od_p_as_tuples, .func (PySem.W.fnOf "as_tuples" "as_tuples" (defArgs s_p_as_tuples) (defBody s_p_as_tuples) (defScope s_p_as_tuples) .none kV_p_as_tuples dc_p_as_tuples pm_p_as_tuples an_p_as_tuples cd_p_as_tuples ct_p_as_tuples), sl_p_as_tuples⟩) (c_p_as_tuples : PySem.W.codeIn K cd_p_as_tuples "as_tuples" = true) (k_p_as_tuples : PySem.W.keepIn K (.ref f_p_as_tuples) = true)
    (a_p_check_bar : PySem.W.nsIn K mainGlobals "check_bar" = some (some (.ref f_p_check_bar))) (l_p_check_bar : K.lookup f_p_check_bar = some ⟨oc_p_check_bar, od_p_check_bar, .func (PySem.W.fnOf "check_bar" "check_bar" (defArgs s_p_check_bar) (defBody s_p_check_bar) (defScope s_p_check_bar) .none kV_p_check_bar dc_p_check_bar pm_p_check_bar an_p_check_bar cd_p_check_bar ct_p_check_bar), sl_p_check_bar⟩) (c_p_check_bar : PySem.W.codeIn K cd_p_check_bar "check_bar" = true) (k_p_check_bar : PySem.W.keepIn K (.ref f_p_check_bar) = true)
    (a_wrong : PySem.W.nsIn K mainGlobals "_law_wrong" = some (some (.ref f_wrong))) (l_wrong : K.lookup f_wrong = some ⟨oc_wrong, od_wrong, .func (PySem.W.fnOf "_law_wrong" "_law_wrong" (defArgs s_wrong) (defBody s_wrong) (defScope s_wrong) .none kV_wrong dc_wrong pm_wrong an_wrong cd_wrong ct_wrong), sl_wrong⟩) (c_wrong : PySem.W.codeIn K cd_wrong "_law_wrong" = true) (k_wrong : PySem.W.keepIn K (.ref f_wrong) = true)
    (a_told : PySem.W.nsIn K mainGlobals "_law_told" = some (some (.ref f_told))) (l_told : K.lookup f_told = some ⟨oc_told, od_told, .func (PySem.W.fnOf "_law_told" "_law_told" (defArgs s_told) (defBody s_told) (defScope s_told) .none kV_told dc_told pm_told an_told cd_told ct_told), sl_told⟩) (c_told : PySem.W.codeIn K cd_told "_law_told" = true) (k_told : PySem.W.keepIn K (.ref f_told) = true)
    (a_long_bar : PySem.W.nsIn K mainGlobals "_law_long_bar" = some (some (.ref f_long_bar))) (l_long_bar : K.lookup f_long_bar = some ⟨oc_long_bar, od_long_bar, .func (PySem.W.fnOf "_law_long_bar" "_law_long_bar" (defArgs s_long_bar) (defBody s_long_bar) (defScope s_long_bar) .none kV_long_bar dc_long_bar pm_long_bar an_long_bar cd_long_bar ct_long_bar), sl_long_bar⟩) (c_long_bar : PySem.W.codeIn K cd_long_bar "_law_long_bar" = true) (k_long_bar : PySem.W.keepIn K (.ref f_long_bar) = true)
    (a_spoilt : PySem.W.nsIn K mainGlobals "_law_spoilt" = some (some (.ref f_spoilt))) (l_spoilt : K.lookup f_spoilt = some ⟨oc_spoilt, od_spoilt, .func (PySem.W.fnOf "_law_spoilt" "_law_spoilt" (defArgs s_spoilt) (defBody s_spoilt) (defScope s_spoilt) .none kV_spoilt dc_spoilt pm_spoilt an_spoilt cd_spoilt ct_spoilt), sl_spoilt⟩) (c_spoilt : PySem.W.codeIn K cd_spoilt "_law_spoilt" = true) (k_spoilt : PySem.W.keepIn K (.ref f_spoilt) = true)
    (a_listed : PySem.W.nsIn K mainGlobals "_law_listed" = some (some (.ref f_listed))) (l_listed : K.lookup f_listed = some ⟨oc_listed, od_listed, .func (PySem.W.fnOf "_law_listed" "_law_listed" (defArgs s_listed) (defBody s_listed) (defScope s_listed) .none kV_listed dc_listed pm_listed an_listed cd_listed ct_listed), sl_listed⟩) (c_listed : PySem.W.codeIn K cd_listed "_law_listed" = true) (k_listed : PySem.W.keepIn K (.ref f_listed) = true)
    (a_law : PySem.W.nsIn K mainGlobals "law" = some (some (.ref f_law))) (l_law : K.lookup f_law = some ⟨oc_law, od_law, .func (PySem.W.fnOf "law" "law" (defArgs s_law) (defBody s_law) (defScope s_law) .none kV_law dc_law pm_law an_law cd_law ct_law), sl_law⟩) (c_law : PySem.W.codeIn K cd_law "law" = true) (k_law : PySem.W.keepIn K (.ref f_law) = true)
    (z_len : PySem.W.nsIn K mainGlobals "len" = some none)
    (z_int : PySem.W.nsIn K mainGlobals "int" = some none)
    (z_isinstance : PySem.W.nsIn K mainGlobals "isinstance" = some none)
    (z_range : PySem.W.nsIn K mainGlobals "range" = some none)
    (z_list : PySem.W.nsIn K mainGlobals "list" = some none)
    (z_tuple : PySem.W.nsIn K mainGlobals "tuple" = some none)
    (z_all : PySem.W.nsIn K mainGlobals "all" = some none)
    (z_bool : PySem.W.nsIn K mainGlobals "bool" = some none)
    (z_str : PySem.W.nsIn K mainGlobals "str" = some none)
    (z_ValueError : PySem.W.nsIn K mainGlobals "ValueError" = some none)
    (z_abs : PySem.W.nsIn K mainGlobals "abs" = some none)
    (z_dict : PySem.W.nsIn K mainGlobals "dict" = some none)
    (z_enumerate : PySem.W.nsIn K mainGlobals "enumerate" = some none)
    (z_min : PySem.W.nsIn K mainGlobals "min" = some none)
    (z_repr : PySem.W.nsIn K mainGlobals "repr" = some none)
    (a_FAR : PySem.W.nsIn K mainGlobals "FAR" = some (some (.int 1000 t_FAR)))
    (a_MOST_ACCENT : PySem.W.nsIn K mainGlobals "MOST_ACCENT" = some (some (.int 9 t_MOST_ACCENT)))
    (a_MOST_COLUMNS : PySem.W.nsIn K mainGlobals "MOST_COLUMNS" = some (some (.int 64 t_MOST_COLUMNS)))
    (a_MOST_PARTS : PySem.W.nsIn K mainGlobals "MOST_PARTS" = some (some (.int 1000 t_MOST_PARTS)))
    (a_MOST_VOICES : PySem.W.nsIn K mainGlobals "MOST_VOICES" = some (some (.int 4 t_MOST_VOICES)))
    (g_gcd : PySem.W.nsIn K mainGlobals "gcd" = some (some (.builtin "math.gcd")))
    (a_BadColumn : PySem.W.nsIn K mainGlobals "BadColumn" = some (some (.ref CC)))
    (a_ScoreError : PySem.W.nsIn K mainGlobals "ScoreError" = some (some (.ref CS)))
    (a_BadName : PySem.W.nsIn K mainGlobals "BadName" = some (some (.ref C1)))
    (a_BadKey : PySem.W.nsIn K mainGlobals "BadKey" = some (some (.ref C2)))
    (o_lk : K.lookup CC = some (excClassObj o_nm o_q CC o_N o_bs o_bm true o_sn o_sub o_ab o_col o_dd o_k0 o_k1 o_k2 o_k3 o_k5 "ValueError.__new__"))
    (o_mro : PySem.HandSPX.refsVE o_bm = true)
    (o_sa : PySem.W.findIn K (.ref CC) "__setattr__" = some (some (.builtin "object.__setattr__")))
    (b_kp : PySem.W.keepIn K (.ref CC) = true)
    (b_sb : PySem.W.subIn K (.ref CC) (.type "BaseException") = some true)
    (b_ty : PySem.W.typeIn K (.ref CC) = some (.type "type"))
    (i_fn : PySem.W.findIn K (.ref CC) "__init__" = some (some (.ref fI)))
    (i_ty : PySem.W.typeIn K (.ref fI) = some (.type "function"))
    (l_I : K.lookup fI = some ⟨oc_I, od_I, .func (PySem.W.fnOf "__init__" "BadColumn.__init__" (defArgs s_BadColumn_init) (defBody s_BadColumn_init) (defScope s_BadColumn_init) .none kV_I dc_I pm_I an_I cd_I ct_I), sl_I⟩)
    (c_I : PySem.W.codeIn K cd_I "BadColumn.__init__" = true)
    (k_I : PySem.W.keepIn K (.ref fI) = true)
    (s_ga : PySem.W.specialIn K (.ref CS) "__getattribute__" = some (some (.builtin "type.__getattribute__")))
    (s_rd : PySem.W.readsIn K CS (.type "type") = true)
    (s_ini : PySem.W.findCls K (.ref CS) (.type "type") "__init__" = some (.val (.builtin "ValueError.__init__")))
    (n_num : PySem.W.findIn K (.ref CC) "number" = some none)
    (n_rea : PySem.W.findIn K (.ref CC) "reason" = some none)
    (e_hg : PySem.W.findIn K (.ref CC) "__getattribute__" = some (some (.builtin "BaseException.__getattribute__")))
    (e_hk : PySem.W.findIn K (.ref CC) "__getattr__" = some none)
    (e_hd : PySem.W.hasDictIn K CC = true)
    (e_ha : PySem.W.findIn K (.ref CC) "__class__" = some (some (.builtin "object.__class__")))
    (e_hn : PySem.W.specialIn K (.builtin "object.__class__") "__get__" = some (some (.builtin "getset_descriptor.__get__")))
    (e_ht : PySem.W.takesIn K (.builtin "object.__class__") = some true)
    (e_hm : PySem.W.mroIn K CC (.type "object") = some true)
    (s1_sb : PySem.W.subIn K (.ref C1) (.type "BaseException") = some true)
    (s1_hd : PySem.W.hasDictIn K C1 = true)
    (s1_ty : PySem.W.typeIn K (.ref C1) = some (.type "type"))
    (s1_no : PySem.W.subIn K (.ref CC) (.ref C1) = some false)
    (s2_sb : PySem.W.subIn K (.ref C2) (.type "BaseException") = some true)
    (s2_hd : PySem.W.hasDictIn K C2 = true)
    (s2_ty : PySem.W.typeIn K (.ref C2) = some (.type "type"))
    (s2_no : PySem.W.subIn K (.ref CC) (.ref C2) = some false)
    (s3_sb : PySem.W.subIn K (.ref CS) (.type "BaseException") = some true)
    (s3_hd : PySem.W.hasDictIn K CS = true)
    (s3_ty : PySem.W.typeIn K (.ref CS) = some (.type "type"))
    (s3_yes : PySem.W.subIn K (.ref CC) (.ref CS) = some true)
    (s4_yes : PySem.W.subIn K (.ref CC) (.ref CC) = some true)
    (s5_yes : PySem.W.subIn K (.ref CC) (.type "ValueError") = some true)
    : ∃ fd : FuncData, (∀ (s : Shared) (v : Value), BindsTo s fd ⟨[v], []⟩ [("script", v)]) ∧ ∀ base : Heap, K.In base → base.Ns mainGlobals mg → FnG l.prog w K mg base 9 fa fd ["script"] (spLaw K) := by
  have e := hfa.symm.trans (PySem.W.mg_of X G a_law)
  cases e
  have T : Bt mg := ⟨PySem.W.mg_none_of X G z_len, PySem.W.mg_none_of X G z_int, PySem.W.mg_none_of X G z_isinstance, PySem.W.mg_none_of X G z_range, PySem.W.mg_none_of X G z_list, PySem.W.mg_none_of X G z_tuple, PySem.W.mg_none_of X G z_all, PySem.W.mg_none_of X G z_bool, PySem.W.mg_none_of X G z_str⟩
  have F_take := fun_mk (st := s_take) l_take c_take k_take
  have m_take := PySem.W.mg_of X G a_take
  have F_pool := fun_mk (st := s_pool) l_pool c_pool k_pool
  have m_pool := PySem.W.mg_of X G a_pool
  have F_pick := fun_mk (st := s_pick) l_pick c_pick k_pick
  have m_pick := PySem.W.mg_of X G a_pick
  have F_is_integer := fun_mk (st := s_is_integer) l_is_integer c_is_integer k_is_integer
  have m_is_integer := PySem.W.mg_of X G a_is_integer
  have F_same := fun_mk (st := s_same) l_same c_same k_same
  have m_same := PySem.W.mg_of X G a_same
  have F_lowest := fun_mk (st := s_lowest) l_lowest c_lowest k_lowest
  have m_lowest := PySem.W.mg_of X G a_lowest
  have F_tone := fun_mk (st := s_tone) l_tone c_tone k_tone
  have m_tone := PySem.W.mg_of X G a_tone
  have F_duration := fun_mk (st := s_duration) l_duration c_duration k_duration
  have m_duration := PySem.W.mg_of X G a_duration
  have F_column := fun_mk (st := s_column) l_column c_column k_column
  have m_column := PySem.W.mg_of X G a_column
  have F_p_is_row := fun_mk (st := s_p_is_row) l_p_is_row c_p_is_row k_p_is_row
  have m_p_is_row := PySem.W.mg_of X G a_p_is_row
  have F_p_is_pair := fun_mk (st := s_p_is_pair) l_p_is_pair c_p_is_pair k_p_is_pair
  have m_p_is_pair := PySem.W.mg_of X G a_p_is_pair
  have F_p_is_number := fun_mk (st := s_p_is_number) l_p_is_number c_p_is_number k_p_is_number
  have m_p_is_number := PySem.W.mg_of X G a_p_is_number
  have F_p_is_whole := fun_mk (st := s_p_is_whole) l_p_is_whole c_p_is_whole k_p_is_whole
  have m_p_is_whole := PySem.W.mg_of X G a_p_is_whole
  have F_p_is_tone := fun_mk (st := s_p_is_tone) l_p_is_tone c_p_is_tone k_p_is_tone
  have m_p_is_tone := PySem.W.mg_of X G a_p_is_tone
  have F_p_is_short_fraction := fun_mk (st := s_p_is_short_fraction) l_p_is_short_fraction c_p_is_short_fraction k_p_is_short_fraction
  have m_p_is_short_fraction := PySem.W.mg_of X G a_p_is_short_fraction
  have F_p_is_entry := fun_mk (st := s_p_is_entry) l_p_is_entry c_p_is_entry k_p_is_entry
  have m_p_is_entry := PySem.W.mg_of X G a_p_is_entry
  have F_p_reason := fun_mk (st := s_p_reason) l_p_reason c_p_reason k_p_reason
  have m_p_reason := PySem.W.mg_of X G a_p_reason
  have F_p_tuple_of := fun_mk (st := s_p_tuple_of) l_p_tuple_of c_p_tuple_of k_p_tuple_of
  have m_p_tuple_of := PySem.W.mg_of X G a_p_tuple_of
  have F_p_entries := fun_mk (st := s_p_entries) l_p_entries c_p_entries k_p_entries
  have m_p_entries := PySem.W.mg_of X G a_p_entries
  have F_p_with_tones := fun_mk (st := s_p_with_tones) l_p_with_tones c_p_with_tones k_p_with_tones
  have m_p_with_tones := PySem.W.mg_of X G a_p_with_tones
  have F_p_as_tuples := fun_mk (st := s_p_as_tuples) l_p_as_tuples c_p_as_tuples k_p_as_tuples
  have m_p_as_tuples := PySem.W.mg_of X G a_p_as_tuples
  have F_p_check_bar := fun_mk (st := s_p_check_bar) l_p_check_bar c_p_check_bar k_p_check_bar
  have m_p_check_bar := PySem.W.mg_of X G a_p_check_bar
  have F_wrong := fun_mk (st := s_wrong) l_wrong c_wrong k_wrong
  have m_wrong := PySem.W.mg_of X G a_wrong
  have F_told := fun_mk (st := s_told) l_told c_told k_told
  have m_told := PySem.W.mg_of X G a_told
  have F_long_bar := fun_mk (st := s_long_bar) l_long_bar c_long_bar k_long_bar
  have m_long_bar := PySem.W.mg_of X G a_long_bar
  have F_spoilt := fun_mk (st := s_spoilt) l_spoilt c_spoilt k_spoilt
  have m_spoilt := PySem.W.mg_of X G a_spoilt
  have F_listed := fun_mk (st := s_listed) l_listed c_listed k_listed
  have m_listed := PySem.W.mg_of X G a_listed
  have F_law := fun_mk (st := s_law) l_law c_law k_law
  have m_law := PySem.W.mg_of X G a_law
  have n_ValueError := PySem.W.mg_none_of X G z_ValueError
  have n_abs := PySem.W.mg_none_of X G z_abs
  have n_dict := PySem.W.mg_none_of X G z_dict
  have n_enumerate := PySem.W.mg_none_of X G z_enumerate
  have n_min := PySem.W.mg_none_of X G z_min
  have n_repr := PySem.W.mg_none_of X G z_repr
  refine ⟨PySem.W.fnOf "law" "law" (defArgs s_law) (defBody s_law) (defScope s_law) .none kV_law dc_law pm_law an_law cd_law ct_law, fun s v => .of_eq rfl, fun base _ _ => ?_⟩
  have F_I := fun_mk (st := s_BadColumn_init) l_I c_I k_I
  have O_E : OexC K CC := ⟨⟨_, _, _, _, _, _, _, _, _, _, _, _, _, _, _, o_lk, o_mro⟩, o_sa, b_sb, b_ty, b_kp⟩
  have E_col : Vt.ErrCol l.prog w K mg base CC := ⟨O_E, PySem.W.mg_of X G a_BadColumn, _, _, _, i_fn, i_ty, F_I.binds (fun _ _ _ _ _ _ us hl => match us, hl with | [_, _, _], _ => rfl), Vt.c_BadColumn_init F_I (PySem.W.mg_of X G a_ScoreError) ⟨s_ga, s_rd, s_ini⟩ O_E n_num n_rea⟩
  have G_E : Vt.GE K mg CC CS (.ref C1) (.ref C2) := ⟨PySem.W.mg_of X G a_BadName, PySem.W.mg_of X G a_BadKey, PySem.W.mg_of X G a_BadColumn, PySem.W.mg_of X G a_ScoreError, n_ValueError, no_any (PySem.W.exm_ref s1_sb s1_hd s1_ty s1_no) (PySem.W.exm_ref s2_sb s2_hd s2_ty s2_no), PySem.W.exm_ref b_sb e_hd b_ty s4_yes, ⟨e_hg, e_hk, b_sb, e_hd, e_ha, e_hn, e_ht, e_hm⟩, by obtain ⟨cd, hc, _⟩ := PySem.W.any_some e_hd; rw [hc]; rfl, kit_own rfl s3_sb s3_hd s3_ty s3_yes, kit_bt (by decide +kernel) s5_yes, ⟨e_hg, e_hk, b_sb, e_hd⟩, n_num, n_rea⟩
  have q_c_take0 := Vt.c_take0 (P := l.prog) (w := w) (base := base) F_take m_take T
  have q_c_take := Vt.c_take (P := l.prog) (w := w) (base := base) F_take m_take T
  have q_c_pool := Vt.c_pool (P := l.prog) (w := w) (base := base) F_pool m_pool
  have q_c_pick := Vt.c_pick F_pick m_pick T q_c_take
  have q_c_is_integer := Vt.c_is_integer (P := l.prog) (w := w) (base := base) F_is_integer m_is_integer T
  have q_c_same := Vt.c_same F_same m_same T q_c_is_integer
  have q_w_take := Vt.w_take q_c_take
  have q_w_pick := Vt.w_pick q_c_pick
  have q_c_lowest := Vt.c_lowest (P := l.prog) (w := w) (base := base) F_lowest m_lowest T n_abs
  have q_c_tone := Vt.c_tone F_tone m_tone T q_c_take
  have q_w_tone := Vt.w_tone q_c_tone
  have q_c_duration := Vt.c_duration F_duration m_duration T q_w_take q_w_pick q_c_lowest
  have q_c_column := Vt.c_column F_column m_column T q_w_take q_w_pick q_c_duration
  have q_c_p_is_row := Vt.c_p_is_row (P := l.prog) (w := w) (base := base) F_p_is_row m_p_is_row T
  have q_c_p_is_pair := Vt.c_p_is_pair F_p_is_pair m_p_is_pair T q_c_p_is_row
  have q_c_p_is_number := Vt.c_p_is_number (P := l.prog) (w := w) (base := base) F_p_is_number m_p_is_number T
  have q_c_p_is_whole := Vt.c_p_is_whole F_p_is_whole m_p_is_whole q_c_p_is_number
  have q_c_p_is_tone := Vt.c_p_is_tone F_p_is_tone m_p_is_tone T ⟨_, PySem.W.mg_of X G a_FAR⟩ q_c_p_is_pair q_c_p_is_whole
  have q_c_p_is_short_fraction := Vt.c_p_is_short_fraction F_p_is_short_fraction m_p_is_short_fraction T ⟨_, PySem.W.mg_of X G a_MOST_PARTS⟩ (PySem.W.mg_of X G g_gcd) q_c_p_is_pair q_c_p_is_whole
  have q_c_p_is_entry := Vt.c_p_is_entry F_p_is_entry m_p_is_entry T q_c_p_is_pair q_c_p_is_tone
  have q_c_p_reason := Vt.c_p_reason F_p_reason m_p_reason T ⟨_, PySem.W.mg_of X G a_MOST_ACCENT⟩ ⟨_, PySem.W.mg_of X G a_MOST_VOICES⟩ q_c_p_is_row q_c_p_is_whole q_c_p_is_short_fraction q_c_p_is_entry
  have q_c_p_tuple_of := Vt.c_p_tuple_of (P := l.prog) (w := w) (base := base) F_p_tuple_of m_p_tuple_of
  have q_c_p_entries := Vt.c_p_entries (P := l.prog) (w := w) (base := base) F_p_entries m_p_entries T
  have q_c_p_with_tones := Vt.c_p_with_tones F_p_with_tones m_p_with_tones T q_c_p_entries
  have q_c_p_as_tuples := Vt.c_p_as_tuples F_p_as_tuples m_p_as_tuples q_c_p_tuple_of q_c_p_with_tones
  have q_c_p_check_bar := Vt.c_p_check_bar F_p_check_bar m_p_check_bar T n_enumerate ⟨_, PySem.W.mg_of X G a_MOST_COLUMNS⟩ E_col q_c_p_is_row q_c_p_reason q_c_p_as_tuples
  have q_c_wrong := Vt.c_wrong F_wrong m_wrong T n_dict q_w_pick q_w_tone q_c_duration
  have q_c_told := Vt.c_told F_told m_told T G_E q_c_p_check_bar
  have q_c_long_bar := Vt.c_long_bar F_long_bar m_long_bar T q_w_pick q_w_tone q_c_column
  have q_c_spoilt := Vt.c_spoilt F_spoilt m_spoilt T n_min q_w_take q_w_pick q_c_wrong
  have q_c_listed := Vt.c_listed (P := l.prog) (w := w) (base := base) F_listed m_listed T
  exact Vt.c_law F_law T n_repr n_dict q_c_pool q_w_take q_w_pick q_c_long_bar (q_c_listed 5) q_c_told (q_c_same 6) q_c_spoilt
end Vt
open PySem PySem.W PyProof.Rows
set_option maxRecDepth 100000 in
set_option maxHeartbeats 0 in
theorem PySem.Challenge.cw_counterheld_k08_whole_bars_and_faults_holds : PySem.Challenge.rw_counterheld_k08_whole_bars_and_faults.Holds := by
  w_on; o_law; k_head; (case hw => w_witness2)
  k_fill
  refine Vt.walkG (l := PySem.Challenge.rw_counterheld_k08_whole_bars_and_faults) (k := 9) ⟨rfl, by decide, by decide⟩ rfl rfl (fun w h Y => PySem.W.kIn_of Y) ?F
  case F =>
    intro w mg fa h KX G hmg
    refine' Vt.all_mk KX G hmg ?a_take ?l_take ?c_take ?k_take ?a_pool ?l_pool ?c_pool ?k_pool ?a_pick ?l_pick ?c_pick ?k_pick ?a_is_integer ?l_is_integer ?c_is_integer ?k_is_integer ?a_same ?l_same ?c_same ?k_same ?a_lowest ?l_lowest ?c_lowest ?k_lowest ?a_tone ?l_tone ?c_tone ?k_tone ?a_duration ?l_duration ?c_duration ?k_duration ?a_column ?l_column ?c_column ?k_column ?a_p_is_row ?l_p_is_row ?c_p_is_row ?k_p_is_row ?a_p_is_pair ?l_p_is_pair ?c_p_is_pair ?k_p_is_pair ?a_p_is_number ?l_p_is_number ?c_p_is_number ?k_p_is_number ?a_p_is_whole ?l_p_is_whole ?c_p_is_whole ?k_p_is_whole ?a_p_is_tone ?l_p_is_tone ?c_p_is_tone ?k_p_is_tone ?a_p_is_short_fraction ?l_p_is_short_fraction ?c_p_is_short_fraction ?k_p_is_short_fraction ?a_p_is_entry ?l_p_is_entry ?c_p_is_entry ?k_p_is_entry ?a_p_reason ?l_p_reason ?c_p_reason ?k_p_reason ?a_p_tuple_of ?l_p_tuple_of ?c_p_tuple_of ?k_p_tuple_of ?a_p_entries ?l_p_entries ?c_p_entries ?k_p_entries ?a_p_with_tones ?l_p_with_tones ?c_p_with_tones ?k_p_with_tones ?a_p_as_tuples ?l_p_as_tuples ?c_p_as_tuples ?k_p_as_tuples ?a_p_check_bar ?l_p_check_bar ?c_p_check_bar ?k_p_check_bar ?a_wrong ?l_wrong ?c_wrong ?k_wrong ?a_told ?l_told ?c_told ?k_told ?a_long_bar ?l_long_bar ?c_long_bar ?k_long_bar ?a_spoilt ?l_spoilt ?c_spoilt ?k_spoilt ?a_listed ?l_listed ?c_listed ?k_listed ?a_law ?l_law ?c_law ?k_law ?z_len ?z_int ?z_isinstance ?z_range ?z_list ?z_tuple ?z_all ?z_bool ?z_str ?z_ValueError ?z_abs ?z_dict ?z_enumerate ?z_min ?z_repr ?a_FAR ?a_MOST_ACCENT ?a_MOST_COLUMNS ?a_MOST_PARTS ?a_MOST_VOICES ?g_gcd ?a_BadColumn ?a_ScoreError ?a_BadName ?a_BadKey ?o_lk ?o_mro ?o_sa ?b_kp ?b_sb ?b_ty ?i_fn ?i_ty ?l_I ?c_I ?k_I ?s_ga ?s_rd ?s_ini ?n_num ?n_rea ?e_hg ?e_hk ?e_hd ?e_ha ?e_hn ?e_ht ?e_hm ?s1_sb ?s1_hd ?s1_ty ?s1_no ?s2_sb ?s2_hd ?s2_ty ?s2_no ?s3_sb ?s3_hd ?s3_ty ?s3_yes ?s4_yes ?s5_yes
    (case a_take => k_is)
    (case l_take => k_is)
    (case c_take => k_is)
    (case k_take => k_is)
    (case a_pool => k_is)
    (case l_pool => k_is)
    (case c_pool => k_is)
    (case k_pool => k_is)
    (case a_pick => k_is)
    (case l_pick => k_is)
    (case c_pick => k_is)
    (case k_pick => k_is)
    (case a_is_integer => k_is)
    (case l_is_integer => k_is)
    (case c_is_integer => k_is)
    (case k_is_integer => k_is)
    (case a_same => k_is)
    (case l_same => k_is)
    (case c_same => k_is)
    (case k_same => k_is)
    (case a_lowest => k_is)
    (case l_lowest => k_is)
    (case c_lowest => k_is)
    (case k_lowest => k_is)
    (case a_tone => k_is)
    (case l_tone => k_is)
    (case c_tone => k_is)
    (case k_tone => k_is)
    (case a_duration => k_is)
    (case l_duration => k_is)
    (case c_duration => k_is)
    (case k_duration => k_is)
    (case a_column => k_is)
    (case l_column => k_is)
    (case c_column => k_is)
    (case k_column => k_is)
    (case a_p_is_row => k_is)
    (case l_p_is_row => k_is)
    (case c_p_is_row => k_is)
    (case k_p_is_row => k_is)
    (case a_p_is_pair => k_is)
    (case l_p_is_pair => k_is)
    (case c_p_is_pair => k_is)
    (case k_p_is_pair => k_is)
    (case a_p_is_number => k_is)
    (case l_p_is_number => k_is)
    (case c_p_is_number => k_is)
    (case k_p_is_number => k_is)
    (case a_p_is_whole => k_is)
    (case l_p_is_whole => k_is)
    (case c_p_is_whole => k_is)
    (case k_p_is_whole => k_is)
    (case a_p_is_tone => k_is)
    (case l_p_is_tone => k_is)
    (case c_p_is_tone => k_is)
    (case k_p_is_tone => k_is)
    (case a_p_is_short_fraction => k_is)
    (case l_p_is_short_fraction => k_is)
    (case c_p_is_short_fraction => k_is)
    (case k_p_is_short_fraction => k_is)
    (case a_p_is_entry => k_is)
    (case l_p_is_entry => k_is)
    (case c_p_is_entry => k_is)
    (case k_p_is_entry => k_is)
    (case a_p_reason => k_is)
    (case l_p_reason => k_is)
    (case c_p_reason => k_is)
    (case k_p_reason => k_is)
    (case a_p_tuple_of => k_is)
    (case l_p_tuple_of => k_is)
    (case c_p_tuple_of => k_is)
    (case k_p_tuple_of => k_is)
    (case a_p_entries => k_is)
    (case l_p_entries => k_is)
    (case c_p_entries => k_is)
    (case k_p_entries => k_is)
    (case a_p_with_tones => k_is)
    (case l_p_with_tones => k_is)
    (case c_p_with_tones => k_is)
    (case k_p_with_tones => k_is)
    (case a_p_as_tuples => k_is)
    (case l_p_as_tuples => k_is)
    (case c_p_as_tuples => k_is)
    (case k_p_as_tuples => k_is)
    (case a_p_check_bar => k_is)
    (case l_p_check_bar => k_is)
    (case c_p_check_bar => k_is)
    (case k_p_check_bar => k_is)
    (case a_wrong => k_is)
    (case l_wrong => k_is)
    (case c_wrong => k_is)
    (case k_wrong => k_is)
    (case a_told => k_is)
    (case l_told => k_is)
    (case c_told => k_is)
    (case k_told => k_is)
    (case a_long_bar => k_is)
    (case l_long_bar => k_is)
    (case c_long_bar => k_is)
    (case k_long_bar => k_is)
    (case a_spoilt => k_is)
    (case l_spoilt => k_is)
    (case c_spoilt => k_is)
    (case k_spoilt => k_is)
    (case a_listed => k_is)
    (case l_listed => k_is)
    (case c_listed => k_is)
    (case k_listed => k_is)
    (case a_law => k_is)
    (case l_law => k_is)
    (case c_law => k_is)
    (case k_law => k_is)
    (case z_len => k_is)
    (case z_int => k_is)
    (case z_isinstance => k_is)
    (case z_range => k_is)
    (case z_list => k_is)
    (case z_tuple => k_is)
    (case z_all => k_is)
    (case z_bool => k_is)
    (case z_str => k_is)
    (case z_ValueError => k_is)
    (case z_abs => k_is)
    (case z_dict => k_is)
    (case z_enumerate => k_is)
    (case z_min => k_is)
    (case z_repr => k_is)
    (case a_FAR => k_is)
    (case a_MOST_ACCENT => k_is)
    (case a_MOST_COLUMNS => k_is)
    (case a_MOST_PARTS => k_is)
    (case a_MOST_VOICES => k_is)
    (case g_gcd => k_is)
    (case a_BadColumn => k_is)
    (case a_ScoreError => k_is)
    (case a_BadName => k_is)
    (case a_BadKey => k_is)
    (case o_lk => k_is)
    (case o_mro => first | rfl | decide +kernel)
    (case o_sa => k_is)
    (case b_kp => k_is)
    (case b_sb => k_is)
    (case b_ty => k_is)
    (case i_fn => k_is)
    (case i_ty => k_is)
    (case l_I => k_is)
    (case c_I => k_is)
    (case k_I => k_is)
    (case s_ga => k_is)
    (case s_rd => k_is)
    (case s_ini => k_is)
    (case n_num => k_is)
    (case n_rea => k_is)
    (case e_hg => k_is)
    (case e_hk => k_is)
    (case e_hd => k_is)
    (case e_ha => k_is)
    (case e_hn => k_is)
    (case e_ht => k_is)
    (case e_hm => k_is)
    (case s1_sb => k_is)
    (case s1_hd => k_is)
    (case s1_ty => k_is)
    (case s1_no => k_is)
    (case s2_sb => k_is)
    (case s2_hd => k_is)
    (case s2_ty => k_is)
    (case s2_no => k_is)
    (case s3_sb => k_is)
    (case s3_hd => k_is)
    (case s3_ty => k_is)
    (case s3_yes => k_is)
    (case s4_yes => k_is)
    (case s5_yes => k_is)
