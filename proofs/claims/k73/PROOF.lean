import PyProof.Rows.All
import Wide.All
import OpenK.AllK
import Wide.FinOn
import HandS.ForMost
import HandS.IsInst
import HandS.Wide
import HandS.Sort
import HandS.TupAny
import HandS.StrMore
import HandS.Conv
import HandS.NoneIn
import HandS.SortRule
import HandS.Iter
import HandS.Exc
import HandS.ExcOwn
import HandS.ExcIs
import HandS.WordsExc
import HandS.TryMany
import KE.KTryMore
import PyProof.ExcBaseAll.ValueError
import HandS.Replace
import HandS.Gcd
import HandS.Style
import HandS.Zip0
import HandS.Zip
import HandS.Rev
import HandS.ExcInit
import HandS.ExcField
import HandS.CallLocal
import HandS.TupMul
import KE.KExcIs
import HandS.More
import HandS.Deep
import HandS.HeadHook3
import PyProof.P3In
import KE.KMinKey
import HandS.SortKw
import KE.DataCmp
import KE.SortData
import PySem.Challenge.RW_counterheld_k73_whole_best_lines
set_option Elab.async false
set_option linter.all false
set_option maxRecDepth 100000
set_option maxHeartbeats 2000000
/-! Values as trees: what is never changed is a tree; what is changed stands in a memory by address. -/
namespace Vt
open PySem PySem.Spec PyProof.Rows L2

inductive D where
  | val (v : V)
  | tup (ds : List D)
  | lst (ds : List D)
  | dic
abbrev dI (i : Int) : D := .val (.int i)
abbrev dB (b : Bool) : D := .val (.bl b)
abbrev dS (s : Str) : D := .val (.str s)
abbrev dN : D := .val .non
abbrev dP (a : Addr) : D := .val (.ref a)

section
variable (K : PySem.W.Frag) (G : Hp)
mutual
inductive Rep : V → D → Prop where
  | val (v : V) : Rep v (.val v)
  | tup {a : Addr} {vs : List V} {ds : List D} (h : SqT K G a vs) (r : RepL vs ds) : Rep (.ref a) (.tup ds)
  | lst {a : Addr} {vs : List V} {ds : List D} (h : SqL K G a vs) (r : RepL vs ds) : Rep (.ref a) (.lst ds)
  | dic {a : Addr} {kvs : List (Key × V)} (h : G a = some (.dK kvs)) : Rep (.ref a) .dic
inductive RepL : List V → List D → Prop where
  | nil : RepL [] []
  | cons {v : V} {d : D} {vs : List V} {ds : List D} (h : Rep v d) (t : RepL vs ds) : RepL (v :: vs) (d :: ds)
end
end

section
variable {K : PySem.W.Frag} {G G' H H' : Hp} {v : V} {d : D} {vs : List V} {ds : List D} {a : Addr}
theorem rdUp {u : HO} (e : Same G G') (h : Rd G a u) : Rd G' a u := by
  rcases h with h | ⟨o, h⟩
  · exact .inl (e _ _ h)
  · exact .inr ⟨o, e _ _ h⟩
theorem sqtUp (e : Same G G') (h : SqT K G a vs) : SqT K G' a vs := by
  rcases h with h | h
  · exact .inl (rdUp e h)
  · exact .inr h
theorem sqlUp (e : Same G G') (h : SqL K G a vs) : SqL K G' a vs := by
  rcases h with h | h
  · exact .inl (rdUp e h)
  · exact .inr h
mutual
theorem Rep.up {v : V} {d : D} (e : Same G G') : Rep K G v d → Rep K G' v d
  | .val v => .val v
  | .tup h r => .tup (sqtUp e h) (RepL.up e r)
  | .lst h r => .lst (sqlUp e h) (RepL.up e r)
  | .dic h => .dic (e _ _ h)
theorem RepL.up {vs : List V} {ds : List D} (e : Same G G') : RepL K G vs ds → RepL K G' vs ds
  | .nil => .nil
  | .cons h t => .cons (Rep.up e h) (RepL.up e t)
end
theorem RepL.len : ∀ {vs : List V} {ds : List D}, RepL K G vs ds → vs.length = ds.length
  | _, _, .nil => rfl
  | _, _, .cons _ t => congrArg (· + 1) (RepL.len t)
theorem RepL.get : ∀ {vs : List V} {ds : List D} {i : Nat} {d : D}, RepL K G vs ds → ds[i]? = some d → ∃ v, vs[i]? = some v ∧ Rep K G v d
  | _, _, _, _, .nil, e => by simp at e
  | _, _, 0, _, .cons h _, e => by simp at e; subst e; exact ⟨_, rfl, h⟩
  | _, _, i + 1, d, .cons _ t, e => by
    obtain ⟨v, h1, h2⟩ := RepL.get (i := i) (d := d) t (by simpa using e)
    exact ⟨v, by simpa using h1, h2⟩
theorem RepL.append : ∀ {vs ws : List V} {ds es : List D}, RepL K G vs ds → RepL K G ws es → RepL K G (vs ++ ws) (ds ++ es)
  | _, _, _, _, .nil, s => s
  | _, _, _, _, .cons h t, s => .cons h (RepL.append t s)
theorem RepL.set {v : V} {d : D} (r : Rep K G v d) : ∀ {vs : List V} {ds : List D} (i : Nat), RepL K G vs ds → RepL K G (vs.set i v) (ds.set i d)
  | _, _, _, .nil => .nil
  | _, _, 0, .cons _ t => .cons r t
  | _, _, i + 1, .cons q t => .cons q (RepL.set r i t)
theorem RepL.erase : ∀ {vs : List V} {ds : List D} (i : Nat), RepL K G vs ds → RepL K G (vs.eraseIdx i) (ds.eraseIdx i)
  | _, _, _, .nil => .nil
  | _, _, 0, .cons _ t => t
  | _, _, i + 1, .cons q t => .cons q (RepL.erase i t)
theorem RepL.vals : ∀ (xs : List V), RepL K G xs (xs.map D.val)
  | [] => .nil
  | v :: xs => .cons (.val v) (RepL.vals xs)
theorem RepL.of_vals : ∀ {vs : List V} {xs : List V}, RepL K G vs (xs.map D.val) → vs = xs
  | [], [], _ => rfl
  | v :: vs, x :: xs, h => by
    cases h with
    | cons h t =>
      cases h
      rw [RepL.of_vals t]
theorem Rep.of_val {v u : V} (h : Rep K G v (.val u)) : v = u := by cases h; rfl
end

/-! ### the memory -/
inductive MO where
  | lst (ds : List D)
  | xd (fs : List (Str × D))
  | ins (C : Addr) (fs : List (Str × D))
  | dK (kvs : List (Key × D))
  | dT (kvs : List (List Key × D))
/-- names or keys, each with what stands there -/
structure RepF {κ : Type} (K : PySem.W.Frag) (G : Hp) (fv : List (κ × V)) (fs : List (κ × D)) : Prop where
  ks : fv.map (·.1) = fs.map (·.1)
  vs : RepL K G (fv.map (·.2)) (fs.map (·.2))
theorem RepF.up {κ : Type} {K : PySem.W.Frag} {G G' : Hp} {fv : List (κ × V)} {fs : List (κ × D)} (e : Same G G') (h : RepF K G fv fs) : RepF K G' fv fs := ⟨h.ks, h.vs.up e⟩
theorem RepF.nil {κ : Type} {K : PySem.W.Frag} {G : Hp} : RepF K G ([] : List (κ × V)) [] := ⟨rfl, .nil⟩
theorem RepF.cons {κ : Type} {K : PySem.W.Frag} {G : Hp} {fv : List (κ × V)} {fs : List (κ × D)} {k : κ} {v : V} {d : D} (r : Rep K G v d) (h : RepF K G fv fs) : RepF K G ((k, v) :: fv) ((k, d) :: fs) := ⟨by rw [List.map_cons, List.map_cons, h.ks], .cons r h.vs⟩
theorem RepF.get {κ : Type} [BEq κ] {K : PySem.W.Frag} {G : Hp} {k : κ} {d : D} : ∀ {fv : List (κ × V)} {fs : List (κ × D)}, RepF K G fv fs → fs.lookup k = some d → ∃ v, fv.lookup k = some v ∧ Rep K G v d
  | [], [], _, e => by cases e
  | [], _ :: _, h, _ => by have := h.ks; cases this
  | _ :: _, [], h, _ => by have := h.ks; cases this
  | (k1, v1) :: fv, (k2, d2) :: fs, ⟨ks, vs⟩, e => by
    rw [List.map_cons, List.map_cons] at ks vs
    obtain ⟨e1, e2⟩ := List.cons.inj ks
    obtain rfl : k1 = k2 := e1
    cases vs with
    | cons r t =>
      rw [List.lookup_cons] at e ⊢
      cases q : k == k1 with
      | true =>
        rw [q] at e
        cases e
        exact ⟨v1, rfl, r⟩
      | false =>
        rw [q] at e
        exact RepF.get (fv := fv) (fs := fs) ⟨e2, t⟩ e
abbrev Mem := Addr → Option MO
def Mem.set (M : Mem) (a : Addr) (o : MO) : Mem := fun b => if b = a then some o else M b
theorem Mem.set_same {M : Mem} {a : Addr} {o : MO} : M.set a o a = some o := if_pos rfl
theorem Mem.set_ne {M : Mem} {a b : Addr} {o : MO} (h : b ≠ a) : M.set a o b = M b := if_neg h
theorem Mem.set_set {M : Mem} {a : Addr} {o u : MO} : (M.set a o).set a u = M.set a u := by
  funext b; unfold Mem.set; split <;> rfl
def AtM (K : PySem.W.Frag) (G H : Hp) (a : Addr) : MO → Prop
  | .lst ds => ∃ vs, H a = some (.lst vs) ∧ RepL K G vs ds
  | .xd fs => ∃ fv, H a = some (.xd fv) ∧ RepF K G fv fs
  | .ins C fs => ∃ dx fv, H a = some (.ins C dx fv) ∧ RepF K G fv fs
  | .dK kvs => ∃ kv, H a = some (.dK kv) ∧ RepF K G kv kvs
  | .dT kvs => ∃ kv, H a = some (.dT kv) ∧ RepF K G kv kvs
structure SH (K : PySem.W.Frag) (G H : Hp) (M : Mem) : Prop where
  le : Same G H
  mem : ∀ b mo, M b = some mo → G b = none ∧ AtM K G H b mo
def Mle (M M' : Mem) : Prop := ∀ b o, M b = some o → M' b = some o
theorem Mle.refl (M : Mem) : Mle M M := fun _ _ h => h
theorem Mle.trans {M M1 M2 : Mem} (a : Mle M M1) (b : Mle M1 M2) : Mle M M2 := fun c o h => b c o (a c o h)
theorem SH.weak {K : PySem.W.Frag} {G H : Hp} {M M' : Mem} (s : SH K G H M') (h : Mle M M') : SH K G H M := ⟨s.le, fun b mo e => s.mem b mo (h b mo e)⟩
theorem AtM.some {K : PySem.W.Frag} {G H : Hp} {a : Addr} {mo : MO} (h : AtM K G H a mo) : ∃ o, H a = some o := by
  cases mo with
  | lst ds => obtain ⟨vs, e, _⟩ := h; exact ⟨_, e⟩
  | xd fs => obtain ⟨vs, e, _⟩ := h; exact ⟨_, e⟩
  | ins C fs => obtain ⟨dx, vs, e, _⟩ := h; exact ⟨_, e⟩
  | dK fs => obtain ⟨vs, e, _⟩ := h; exact ⟨_, e⟩
  | dT fs => obtain ⟨vs, e, _⟩ := h; exact ⟨_, e⟩
theorem AtM.up {K : PySem.W.Frag} {G G' H H' : Hp} {a : Addr} {mo : MO} (e : Same G G') (q : H' a = H a) (h : AtM K G H a mo) : AtM K G' H' a mo := by
  cases mo with
  | lst ds => obtain ⟨vs, e1, r⟩ := h; exact ⟨vs, by rw [q]; exact e1, r.up e⟩
  | xd fs => obtain ⟨vs, e1, r⟩ := h; exact ⟨vs, by rw [q]; exact e1, r.up e⟩
  | ins C fs => obtain ⟨dx, vs, e1, r⟩ := h; exact ⟨dx, vs, by rw [q]; exact e1, r.up e⟩
  | dK fs => obtain ⟨vs, e1, r⟩ := h; exact ⟨vs, by rw [q]; exact e1, r.up e⟩
  | dT fs => obtain ⟨vs, e1, r⟩ := h; exact ⟨vs, by rw [q]; exact e1, r.up e⟩
/-- a new thing that is never changed -/
theorem SH.new {K : PySem.W.Frag} {G H : Hp} {M : Mem} {p : Addr} {o : HO} (s : SH K G H M) (hp : H p = none) : SH K (upd G p o) (upd H p o) M ∧ Same G (upd G p o) := by
  have gp : G p = none := by
    cases e : G p with
    | none => rfl
    | some u => rw [s.le p u e] at hp; cases hp
  have up : Same G (upd G p o) := fun b u e => by rw [upd_ne (ne_of_none e gp)]; exact e
  refine ⟨⟨fun b u e => ?_, fun b mo e => ?_⟩, up⟩
  · by_cases hb : b = p
    · subst hb; rw [upd_same] at e ⊢; exact e
    · rw [upd_ne hb] at e ⊢; exact s.le b u e
  · obtain ⟨g0, at0⟩ := s.mem b mo e
    obtain ⟨u, hu⟩ := at0.some
    have hb : b ≠ p := ne_of_none hu hp
    exact ⟨by rw [upd_ne hb]; exact g0, at0.up up (upd_ne hb)⟩
/-- a new thing that may be changed -/
theorem SH.newM {K : PySem.W.Frag} {G H : Hp} {M : Mem} {p : Addr} {vs : List V} {ds : List D} (s : SH K G H M) (hp : H p = none) (r : RepL K G vs ds) : SH K G (upd H p (.lst vs)) (M.set p (.lst ds)) ∧ M p = none ∧ G p = none := by
  have gp : G p = none := by
    cases e : G p with
    | none => rfl
    | some u => rw [s.le p u e] at hp; cases hp
  refine ⟨⟨fun b u e => ?_, fun b mo e => ?_⟩, ?_, gp⟩
  · rw [upd_ne (ne_of_none e gp)]; exact s.le b u e
  · by_cases hb : b = p
    · subst hb
      rw [Mem.set_same] at e
      cases e
      exact ⟨gp, vs, upd_same, r⟩
    · rw [Mem.set_ne hb] at e
      obtain ⟨g0, at0⟩ := s.mem b mo e
      exact ⟨g0, at0.up (Same.refl G) (upd_ne hb)⟩
  · cases e : M p with
    | none => rfl
    | some mo =>
      obtain ⟨_, at0⟩ := s.mem p mo e
      obtain ⟨u, hu⟩ := at0.some
      rw [hp] at hu; cases hu
/-- a list that stands in the memory is changed -/
theorem SH.put {K : PySem.W.Frag} {G H : Hp} {M : Mem} {p : Addr} {mo : MO} {vs : List V} {ds : List D} (s : SH K G H M) (hm : M p = some mo) (r : RepL K G vs ds) : SH K G (upd H p (.lst vs)) (M.set p (.lst ds)) := by
  obtain ⟨gp, _⟩ := s.mem p mo hm
  refine ⟨fun b u e => ?_, fun b mo e => ?_⟩
  · rw [upd_ne (ne_of_none e gp)]; exact s.le b u e
  · by_cases hb : b = p
    · subst hb
      rw [Mem.set_same] at e
      cases e
      exact ⟨gp, vs, upd_same, r⟩
    · rw [Mem.set_ne hb] at e
      obtain ⟨g0, at0⟩ := s.mem b mo e
      exact ⟨g0, at0.up (Same.refl G) (upd_ne hb)⟩

/-! ### the slots -/
abbrev Sl := List (Option D)
def RepS (K : PySem.W.Frag) (G : Hp) (σ : L2.St) (ρ : Sl) : Prop := σ.length = ρ.length ∧ ∀ (i : Nat) (d : D), ρ[i]? = some (some d) → ∃ v, σ[i]? = some (some v) ∧ Rep K G v d
theorem RepS.up {K : PySem.W.Frag} {G G' : Hp} {σ : L2.St} {ρ : Sl} (e : Same G G') (h : RepS K G σ ρ) : RepS K G' σ ρ :=
  ⟨h.1, fun i d q => let ⟨v, a, b⟩ := h.2 i d q; ⟨v, a, b.up e⟩⟩
theorem RepS.set {K : PySem.W.Frag} {G : Hp} {σ : L2.St} {ρ : Sl} {v : V} {d : D} (i : Nat) (h : RepS K G σ ρ) (r : Rep K G v d) : RepS K G (σ.set i (some v)) (ρ.set i (some d)) := by
  refine ⟨by rw [List.length_set, List.length_set]; exact h.1, fun j e q => ?_⟩
  by_cases hj : i = j
  · subst hj
    by_cases hl : i < ρ.length
    · rw [List.getElem?_set_self hl] at q
      cases q
      exact ⟨v, List.getElem?_set_self (by rw [h.1]; exact hl), r⟩
    · rw [List.getElem?_eq_none (by rw [List.length_set]; omega)] at q
      cases q
  · rw [List.getElem?_set_ne hj] at q ⊢
    exact h.2 j e q
/-- a slot is forgotten -/
theorem RepS.none {K : PySem.W.Frag} {G : Hp} {σ : L2.St} {ρ : Sl} {x : Option V} (i : Nat) (h : RepS K G σ ρ) : RepS K G (σ.set i x) (ρ.set i Option.none) := by
  refine ⟨by rw [List.length_set, List.length_set]; exact h.1, fun j e q => ?_⟩
  by_cases hj : i = j
  · subst hj
    by_cases hl : i < ρ.length
    · rw [List.getElem?_set_self hl] at q
      cases q
    · rw [List.getElem?_eq_none (by rw [List.length_set]; omega)] at q
      cases q
  · rw [List.getElem?_set_ne hj] at q ⊢
    exact h.2 j e q
/-- of fewer slots known -/
theorem RepS.weak {K : PySem.W.Frag} {G : Hp} {σ : L2.St} {ρ ρ' : Sl} (h : RepS K G σ ρ) (hl : ρ'.length = ρ.length) (hs : ∀ (i : Nat) (d : D), ρ'[i]? = some (some d) → ρ[i]? = some (some d)) : RepS K G σ ρ' :=
  ⟨by rw [h.1, hl], fun i d q => h.2 i d (hs i d q)⟩
structure SA (K : PySem.W.Frag) (G H : Hp) (σ : L2.St) (ρ : Sl) (M : Mem) : Prop where
  sh : SH K G H M
  sl : RepS K G σ ρ

/-! ### the judgements -/
def tE (K : PySem.W.Frag) (ρ : Sl) (M : Mem) (d : D) (M' : Mem) : TE := fun σ H Q => ∃ G, SA K G H σ ρ M ∧ ∀ v G' H', Same G G' → SH K G' H' M' → Rep K G' v d → Q v H'
def tT (K : PySem.W.Frag) (ρ : Sl) (M : Mem) (b : Bool) (M' : Mem) : TT := fun σ H Q => ∃ G, SA K G H σ ρ M ∧ ∀ G' H', Same G G' → SH K G' H' M' → Q b H'
def tA (K : PySem.W.Frag) (ρ : Sl) (M : Mem) (ds : List D) (M' : Mem) : TA := fun σ H Q => ∃ G, SA K G H σ ρ M ∧ ∀ vs G' H', Same G G' → SH K G' H' M' → RepL K G' vs ds → Q vs H'
def tO (K : PySem.W.Frag) (ρ : Sl) (M : Mem) (o : Option Int) (M' : Mem) : TO := fun σ H Q => ∃ G, SA K G H σ ρ M ∧ ∀ G' H', Same G G' → SH K G' H' M' → Q o H'
abbrev EV (X : Cx) (e : Expr) (ρ : Sl) (M : Mem) (d : D) (M' : Mem) : Prop := PE X e (tE X.K ρ M d M')
abbrev TV (X : Cx) (e : Expr) (ρ : Sl) (M : Mem) (b : Bool) (M' : Mem) : Prop := PT X e (tT X.K ρ M b M')
abbrev WV (X : Cx) (e : Expr) (ρ : Sl) (M : Mem) (b : Bool) (M' : Mem) : Prop := PW X e (tT X.K ρ M b M')
abbrev AV (X : Cx) (es : List Expr) (ρ : Sl) (M : Mem) (ds : List D) (M' : Mem) : Prop := PA X es (tA X.K ρ M ds M')
abbrev OV (X : Cx) (e : Option Expr) (ρ : Sl) (M : Mem) (o : Option Int) (M' : Mem) : Prop := PO X e (tO X.K ρ M o M')
inductive Out where
  | nx (ρ : Sl) (M : Mem) | ret (d : D) (M : Mem) | bk (ρ : Sl) (M : Mem) | ct (ρ : Sl) (M : Mem)
def okE (K : PySem.W.Frag) (G0 : Hp) (E : Ends) : Out → Prop
  | .nx ρ M => ∀ σ G H, Same G0 G → SA K G H σ ρ M → E.nx σ H
  | .ret d M => ∀ v G H, Same G0 G → SH K G H M → Rep K G v d → E.rt v H
  | .bk ρ M => ∀ σ G H, Same G0 G → SA K G H σ ρ M → E.bk σ H
  | .ct ρ M => ∀ σ G H, Same G0 G → SA K G H σ ρ M → E.ct σ H
theorem okE.up {K : PySem.W.Frag} {G0 G1 : Hp} {E : Ends} {o : Out} (e : Same G0 G1) (h : okE K G0 E o) : okE K G1 E o := by
  cases o with
  | nx ρ M => exact fun σ G H g => h σ G H (e.trans g)
  | ret d M => exact fun v G H g => h v G H (e.trans g)
  | bk ρ M => exact fun σ G H g => h σ G H (e.trans g)
  | ct ρ M => exact fun σ G H g => h σ G H (e.trans g)
def tS (K : PySem.W.Frag) (ρ : Sl) (M : Mem) (Ψ : Out → Prop) : TS := fun E σ H => ∃ G, SA K G H σ ρ M ∧ ∀ o, Ψ o → okE K G E o
abbrev SV (X : Cx) (st : Stmt) (ρ : Sl) (M : Mem) (Ψ : Out → Prop) : Prop := PS X st (tS X.K ρ M Ψ)
abbrev BV (X : Cx) (sts : List Stmt) (ρ : Sl) (M : Mem) (Ψ : Out → Prop) : Prop := PSs X sts (tS X.K ρ M Ψ)

section
variable {X : Cx}
theorem _root_.L2.PE.mono {e : Expr} {t t' : TE} (h : PE X e t) (i : ∀ σ H Q, t' σ H Q → t σ H Q) : PE X e t' := ⟨fun pins s σ H Q I q => h.run pins s σ H Q I (i σ H Q q)⟩
theorem _root_.L2.PT.mono {e : Expr} {t t' : TT} (h : PT X e t) (i : ∀ σ H Q, t' σ H Q → t σ H Q) : PT X e t' := ⟨fun pins s σ H Q I q => h.run pins s σ H Q I (i σ H Q q)⟩
theorem _root_.L2.PW.mono {e : Expr} {t t' : TT} (h : PW X e t) (i : ∀ σ H Q, t' σ H Q → t σ H Q) : PW X e t' := ⟨fun wh pins s σ H Q I q => h.run wh pins s σ H Q I (i σ H Q q)⟩
theorem _root_.L2.PA.mono {e : List Expr} {t t' : TA} (h : PA X e t) (i : ∀ σ H Q, t' σ H Q → t σ H Q) : PA X e t' := ⟨fun pos pins s σ H Q I q => h.run pos pins s σ H Q I (i σ H Q q)⟩
theorem _root_.L2.PO.mono {e : Option Expr} {t t' : TO} (h : PO X e t) (i : ∀ σ H Q, t' σ H Q → t σ H Q) : PO X e t' := ⟨fun pins s σ H Q I q => h.run pins s σ H Q I (i σ H Q q)⟩
theorem _root_.L2.PS.mono {e : Stmt} {t t' : TS} (h : PS X e t) (i : ∀ E σ H, t' E σ H → t E σ H) : PS X e t' := ⟨fun pins s σ H E I q => h.run pins s σ H E I (i E σ H q)⟩
theorem _root_.L2.PSs.mono {e : List Stmt} {t t' : TS} (h : PSs X e t) (i : ∀ E σ H, t' E σ H → t E σ H) : PSs X e t' := ⟨fun pins s σ H E I q => h.run pins s σ H E I (i E σ H q)⟩
end

section
variable {X : Cx} {ρ : Sl} {M M1 M2 M3 : Mem} {a b c e : Expr} {es : List Expr} {d d1 d2 : D} {ds : List D} {pos : Pos}
/-! ### leaves -/
theorem ev_var (i : Nat) {x : Str} (hρ : ρ[i]? = some (some d)) (hN : X.N[i]? = some x := by rfl) (hv : Vis X.env.scope x := by first | exact Or.inl rfl | exact Or.inr (Or.inl rfl) | exact Or.inr (Or.inr rfl))
    (hd : (x == ("__debug__" : Str)) = false := by decide) (hcd : (x == ("__classdict__" : Str)) = false := by decide) : EV X (.Name x pos) ρ M d M :=
  (pe_var hN hv hd hcd).mono fun σ H Q ⟨G, sa, k⟩ => let ⟨v, e1, r⟩ := sa.sl.2 i d hρ; ⟨v, e1, k v G H (Same.refl G) sa.sh r⟩
theorem ev_int {i : Int} {j} : EV X (.Constant (.int i) j pos) ρ M (dI i) M := pe_int.mono fun σ H Q ⟨G, sa, k⟩ => k _ G H (Same.refl G) sa.sh (.val _)
theorem ev_bl {i : Bool} {j} : EV X (.Constant (.bool i) j pos) ρ M (dB i) M := pe_bl.mono fun σ H Q ⟨G, sa, k⟩ => k _ G H (Same.refl G) sa.sh (.val _)
theorem ev_non {j} : EV X (.Constant .none j pos) ρ M dN M := pe_non.mono fun σ H Q ⟨G, sa, k⟩ => k _ G H (Same.refl G) sa.sh (.val _)
theorem ev_str {x : Str} {j} : EV X (.Constant (.str x) j pos) ρ M (dS x) M := pe_str.mono fun σ H Q ⟨G, sa, k⟩ => k _ G H (Same.refl G) sa.sh (.val _)
theorem ev_glob {x : Str} {v : V} {u : Value} (hg : Gl X x) (hm : X.mg x = some u) (r : RelV v u) (hd : (x == ("__debug__" : Str)) = false := by decide) : EV X (.Name x pos) ρ M (.val v) M :=
  (pe_glob hg hm r hd).mono fun σ H Q ⟨G, sa, k⟩ => k _ G H (Same.refl G) sa.sh (.val _)
/-- a tuple or a list of the module, written -/
theorem ev_globD {x : Str} {f : Addr} (hg : Gl X x) (hm : X.mg x = some (.ref f)) (h : ∀ G, Rep X.K G (.ref f) d) (hd : (x == ("__debug__" : Str)) = false := by decide) : EV X (.Name x pos) ρ M d M :=
  (pe_glob (v := .ref f) hg hm rfl hd).mono fun σ H Q ⟨G, sa, k⟩ => k _ G H (Same.refl G) sa.sh (h G)

/-! ### operators by values -/
def RS (r : R2) (x y z : V) : Prop := ∀ H Q, Q z H → r x y H Q
def RU (r : V → Hp → VK → Prop) (x z : V) : Prop := ∀ H Q, Q z H → r x H Q
theorem ev_op {op : Operator} {r : R2} {x y z : V} (ho : OpR X (binaryOp op) r) (ha : EV X a ρ M (.val x) M1) (hb : EV X b ρ M1 (.val y) M2) (hr : RS r x y z) : EV X (.BinOp a op b pos) ρ M (.val z) M2 :=
  (pe_op ho ha hb).mono fun σ H Q ⟨G, sa, k⟩ => ⟨G, sa, fun v1 G1 H1 g1 sh1 r1 => ⟨G1, ⟨sh1, sa.sl.up g1⟩, fun v2 G2 H2 g2 sh2 r2 => by
    rw [r1.of_val, r2.of_val]
    exact hr H2 Q (k _ G2 H2 (g1.trans g2) sh2 (.val _))⟩⟩
theorem ev_un {op : UnaryOp} {r : V → Hp → VK → Prop} {x z : V} (ho : UnR X (unaryOp op) r) (ha : EV X a ρ M (.val x) M1) (hr : RU r x z) : EV X (.UnaryOp op a pos) ρ M (.val z) M1 :=
  (pe_un ho ha).mono fun σ H Q ⟨G, sa, k⟩ => ⟨G, sa, fun v1 G1 H1 g1 sh1 r1 => by
    rw [r1.of_val]
    exact hr H1 Q (k _ G1 H1 g1 sh1 (.val _))⟩
theorem ev_cmpR {op : CmpOp} {r : R2} {x y z : V} (ho : OpR X (compareOp op) r) (ha : EV X a ρ M (.val x) M1) (hb : EV X b ρ M1 (.val y) M2) (hr : RS r x y z) (hm : behindInMarks op b = false) : EV X (.Compare a [op] [b] pos) ρ M (.val z) M2 :=
  (pe_cmpR ho ha hb hm).mono fun σ H Q ⟨G, sa, k⟩ => ⟨G, sa, fun v1 G1 H1 g1 sh1 r1 => ⟨G1, ⟨sh1, sa.sl.up g1⟩, fun v2 G2 H2 g2 sh2 r2 => by
    rw [r1.of_val, r2.of_val]
    exact hr H2 Q (k _ G2 H2 (g1.trans g2) sh2 (.val _))⟩⟩
theorem tv_cmpR {op : CmpOp} {r : R2} {x y : V} {z : Bool} (ho : OpR X (compareOp op) r) (ha : EV X a ρ M (.val x) M1) (hb : EV X b ρ M1 (.val y) M2) (hr : RS r x y (.bl z)) (hm : behindInMarks op b = false) : TV X (.Compare a [op] [b] pos) ρ M z M2 :=
  (pt_cmpR ho ha hb hm).mono fun σ H Q ⟨G, sa, k⟩ => ⟨G, sa, fun v1 G1 H1 g1 sh1 r1 => ⟨G1, ⟨sh1, sa.sl.up g1⟩, fun v2 G2 H2 g2 sh2 r2 => by
    rw [r1.of_val, r2.of_val]
    exact hr H2 _ ⟨_, rfl, k G2 H2 (g1.trans g2) sh2⟩⟩⟩
theorem rs_I0 {g : Int → Int → V} {i j : Int} : RS (rI0 g) (.int i) (.int j) (g i j) := fun H Q q => ⟨i, j, rfl, rfl, q⟩
theorem rs_I {C : Int → Int → Prop} {g : Int → Int → V} {i j : Int} (h : C i j) : RS (rI C g) (.int i) (.int j) (g i j) := fun H Q q => ⟨i, j, rfl, rfl, h, q⟩
theorem rs_eq {x y : V} (h : scal x y = true) : RS rEq x y (.bl (decide (x = y))) := fun H Q q => ⟨h, q⟩
theorem rs_ne {x y : V} (h : scal x y = true) : RS rNe x y (.bl (!decide (x = y))) := fun H Q q => ⟨h, q⟩

theorem sc_ii {i j : Int} : scal (.int i) (.int j) = true := rfl
theorem sc_ss {i j : Str} : scal (.str i) (.str j) = true := rfl
theorem sc_bb {i j : Bool} : scal (.bl i) (.bl j) = true := rfl

/-! ### tests -/
theorem tv_val {b : Bool} (h : EV X e ρ M (dB b) M1) (he : ∀ whole, isTrue e X.env whole = (do let v ← whole; standAt e.pos; holding [v] (truthy v)) := by intro _; rfl) : TV X e ρ M b M1 :=
  (pt_val h he).mono fun σ H Q ⟨G, sa, k⟩ => ⟨G, sa, fun v1 G1 H1 g1 sh1 r1 => ⟨b, r1.of_val, k G1 H1 g1 sh1⟩⟩
theorem wv_one_and {b : Bool} {pos} (h : TV X e ρ M b M1) : WV X (.BoolOp .And [e] pos) ρ M b M1 := pw_and1 h
theorem wv_one_or {b : Bool} {pos} (h : TV X e ρ M b M1) : WV X (.BoolOp .Or [e] pos) ρ M b M1 := pw_or1 h
/-- a and b and ..: what stands behind a is asked only where a is true; it changes nothing -/
theorem wv_and {p q : Bool} {rest : List Expr} (ha : TV X a ρ M p M1) (hb : p = true → WV X (.BoolOp .And (b :: rest) pos) ρ M1 q M1) : WV X (.BoolOp .And (a :: b :: rest) pos) ρ M (p && q) M1 := by
  cases p with
  | true => exact (pw_and ha (hb rfl)).mono fun σ H Q ⟨G, sa, k⟩ => ⟨G, sa, fun G1 H1 g1 sh1 => (⟨G1, ⟨sh1, sa.sl.up g1⟩, fun G2 H2 g2 sh2 => k G2 H2 (g1.trans g2) sh2⟩ : tT _ _ _ _ _ σ H1 Q)⟩
  | false => exact (pw_and (tB' := fun _ _ _ => False) ha ⟨fun _ _ _ _ _ _ _ h => h.elim⟩).mono fun σ H Q ⟨G, sa, k⟩ => ⟨G, sa, fun G1 H1 g1 sh1 => (k G1 H1 g1 sh1 : Q false H1)⟩
theorem wv_or {p q : Bool} {rest : List Expr} (ha : TV X a ρ M p M1) (hb : p = false → WV X (.BoolOp .Or (b :: rest) pos) ρ M1 q M1) : WV X (.BoolOp .Or (a :: b :: rest) pos) ρ M (p || q) M1 := by
  cases p with
  | false => exact (pw_or ha (hb rfl)).mono fun σ H Q ⟨G, sa, k⟩ => ⟨G, sa, fun G1 H1 g1 sh1 => (⟨G1, ⟨sh1, sa.sl.up g1⟩, fun G2 H2 g2 sh2 => k G2 H2 (g1.trans g2) sh2⟩ : tT _ _ _ _ _ σ H1 Q)⟩
  | true => exact (pw_or (tB' := fun _ _ _ => False) ha ⟨fun _ _ _ _ _ _ _ h => h.elim⟩).mono fun σ H Q ⟨G, sa, k⟩ => ⟨G, sa, fun G1 H1 g1 sh1 => (k G1 H1 g1 sh1 : Q true H1)⟩
/-- what stands behind may change the memory: the way is known -/
theorem wv_andT {q : Bool} {rest : List Expr} (ha : TV X a ρ M true M1) (hb : WV X (.BoolOp .And (b :: rest) pos) ρ M1 q M2) : WV X (.BoolOp .And (a :: b :: rest) pos) ρ M q M2 :=
  (pw_and ha hb).mono fun σ H Q ⟨G, sa, k⟩ => ⟨G, sa, fun G1 H1 g1 sh1 => (⟨G1, ⟨sh1, sa.sl.up g1⟩, fun G2 H2 g2 sh2 => k G2 H2 (g1.trans g2) sh2⟩ : tT _ _ _ _ _ σ H1 Q)⟩
theorem wv_andF {rest : List Expr} (ha : TV X a ρ M false M1) : WV X (.BoolOp .And (a :: b :: rest) pos) ρ M false M1 :=
  (pw_and (tB' := fun _ _ _ => False) ha ⟨fun _ _ _ _ _ _ _ h => h.elim⟩).mono fun σ H Q ⟨G, sa, k⟩ => ⟨G, sa, fun G1 H1 g1 sh1 => (k G1 H1 g1 sh1 : Q false H1)⟩
theorem wv_orT {rest : List Expr} (ha : TV X a ρ M true M1) : WV X (.BoolOp .Or (a :: b :: rest) pos) ρ M true M1 :=
  (pw_or (tB' := fun _ _ _ => False) ha ⟨fun _ _ _ _ _ _ _ h => h.elim⟩).mono fun σ H Q ⟨G, sa, k⟩ => ⟨G, sa, fun G1 H1 g1 sh1 => (k G1 H1 g1 sh1 : Q true H1)⟩
theorem wv_orF {q : Bool} {rest : List Expr} (ha : TV X a ρ M false M1) (hb : WV X (.BoolOp .Or (b :: rest) pos) ρ M1 q M2) : WV X (.BoolOp .Or (a :: b :: rest) pos) ρ M q M2 :=
  (pw_or ha hb).mono fun σ H Q ⟨G, sa, k⟩ => ⟨G, sa, fun G1 H1 g1 sh1 => (⟨G1, ⟨sh1, sa.sl.up g1⟩, fun G2 H2 g2 sh2 => k G2 H2 (g1.trans g2) sh2⟩ : tT _ _ _ _ _ σ H1 Q)⟩
theorem tv_not {b : Bool} (h : TV X e ρ M b M1) : TV X (.UnaryOp .Not e pos) ρ M (!b) M1 :=
  (pt_not h).mono fun σ H Q ⟨G, sa, k⟩ => ⟨G, sa, fun G1 H1 g1 sh1 => k G1 H1 g1 sh1⟩
theorem tv_to {b b' : Bool} (h : TV X e ρ M b M1) (q : b = b') : TV X e ρ M b' M1 := q ▸ h
theorem ev_to {d d' : D} (h : EV X e ρ M d M1) (q : d = d') : EV X e ρ M d' M1 := q ▸ h
theorem ev_toM {d : D} (h : EV X e ρ M d M1) (q : M1 = M2) : EV X e ρ M d M2 := q ▸ h
theorem wv_to {b b' : Bool} (h : WV X e ρ M b M1) (q : b = b') : WV X e ρ M b' M1 := q ▸ h

/-! ### and, or, not as values -/
theorem ev_one {op} {b : Bool} (h : EV X e ρ M d M1) : EV X (.BoolOp op [e] pos) ρ M d M1 := pe_one h
theorem ev_and {p : Bool} {d : D} {rest : List Expr} (ha : EV X a ρ M (dB p) M1) (hb : p = true → EV X (.BoolOp .And (b :: rest) pos) ρ M1 d M1) (hf : p = false → d = dB false) : EV X (.BoolOp .And (a :: b :: rest) pos) ρ M d M1 := by
  cases p with
  | true => exact (pe_and ha (hb rfl)).mono fun σ H Q ⟨G, sa, k⟩ => ⟨G, sa, fun v1 G1 H1 g1 sh1 r1 => ⟨true, r1.of_val, (⟨G1, ⟨sh1, sa.sl.up g1⟩, fun v G2 H2 g2 sh2 => k v G2 H2 (g1.trans g2) sh2⟩ : tE _ _ _ _ _ σ H1 Q)⟩⟩
  | false =>
    cases hf rfl
    exact (pe_and (tb := fun _ _ _ => False) ha ⟨fun _ _ _ _ _ _ h => h.elim⟩).mono fun σ H Q ⟨G, sa, k⟩ => ⟨G, sa, fun v1 G1 H1 g1 sh1 r1 => ⟨false, r1.of_val, (k _ G1 H1 g1 sh1 (.val _) : Q (.bl false) H1)⟩⟩
theorem ev_andB {p q : Bool} {rest : List Expr} (ha : EV X a ρ M (dB p) M1) (hb : p = true → EV X (.BoolOp .And (b :: rest) pos) ρ M1 (dB q) M1) : EV X (.BoolOp .And (a :: b :: rest) pos) ρ M (dB (p && q)) M1 := by
  refine ev_and ha (fun h => ?_) fun h => by rw [h]; rfl
  rw [h]
  exact hb h
theorem ev_orB {p q : Bool} {rest : List Expr} (ha : EV X a ρ M (dB p) M1) (hb : p = false → EV X (.BoolOp .Or (b :: rest) pos) ρ M1 (dB q) M1) : EV X (.BoolOp .Or (a :: b :: rest) pos) ρ M (dB (p || q)) M1 := by
  cases p with
  | false => exact (pe_or ha (hb rfl)).mono fun σ H Q ⟨G, sa, k⟩ => ⟨G, sa, fun v1 G1 H1 g1 sh1 r1 => ⟨false, r1.of_val, (⟨G1, ⟨sh1, sa.sl.up g1⟩, fun v G2 H2 g2 sh2 => k v G2 H2 (g1.trans g2) sh2⟩ : tE _ _ _ _ _ σ H1 Q)⟩⟩
  | true => exact (pe_or (tb := fun _ _ _ => False) ha ⟨fun _ _ _ _ _ _ h => h.elim⟩).mono fun σ H Q ⟨G, sa, k⟩ => ⟨G, sa, fun v1 G1 H1 g1 sh1 r1 => ⟨true, r1.of_val, (k _ G1 H1 g1 sh1 (.val _) : Q (.bl true) H1)⟩⟩
theorem ev_notB {p : Bool} (h : EV X e ρ M (dB p) M1) : EV X (.UnaryOp .Not e pos) ρ M (dB (!p)) M1 :=
  (pe_not h).mono fun σ H Q ⟨G, sa, k⟩ => ⟨G, sa, fun v1 G1 H1 g1 sh1 r1 => ⟨p, r1.of_val, k _ G1 H1 g1 sh1 (.val _)⟩⟩
/-- a if c else b -/
theorem ev_if {p : Bool} (hc : TV X c ρ M p M1) (ha : p = true → EV X a ρ M1 d M2) (hb : p = false → EV X b ρ M1 d M2) : EV X (.IfExp c a b pos) ρ M d M2 := by
  cases p with
  | true => exact (pe_ifExp (tb := fun _ _ _ => False) hc (ha rfl) ⟨fun _ _ _ _ _ _ h => h.elim⟩).mono fun σ H Q ⟨G, sa, k⟩ => ⟨G, sa, fun G1 H1 g1 sh1 => (⟨G1, ⟨sh1, sa.sl.up g1⟩, fun v G2 H2 g2 sh2 => k v G2 H2 (g1.trans g2) sh2⟩ : tE _ _ _ _ _ σ H1 Q)⟩
  | false => exact (pe_ifExp (ta := fun _ _ _ => False) hc ⟨fun _ _ _ _ _ _ h => h.elim⟩ (hb rfl)).mono fun σ H Q ⟨G, sa, k⟩ => ⟨G, sa, fun G1 H1 g1 sh1 => (⟨G1, ⟨sh1, sa.sl.up g1⟩, fun v G2 H2 g2 sh2 => k v G2 H2 (g1.trans g2) sh2⟩ : tE _ _ _ _ _ σ H1 Q)⟩
theorem ev_ifB {p : Bool} (hc : TV X c ρ M p M1) (ha : EV X a ρ M1 d1 M2) (hb : EV X b ρ M1 d2 M2) : EV X (.IfExp c a b pos) ρ M (if p = true then d1 else d2) M2 :=
  ev_if hc (fun h => by rw [if_pos h]; exact ha) (fun h => by rw [h, if_neg Bool.false_ne_true]; exact hb)

/-! ### arguments, displays -/
theorem av_nil : AV X [] ρ M [] M := pa_nil.mono fun σ H Q ⟨G, sa, k⟩ => k [] G H (Same.refl G) sa.sh .nil
theorem av_cons (ha : EV X e ρ M d M1) (hr : AV X es ρ M1 ds M2) (hs : starEach (e :: es) X.env = (false, eval e X.env) :: starEach es X.env := by rfl) : AV X (e :: es) ρ M (d :: ds) M2 :=
  (pa_cons ha hr hs).mono fun σ H Q ⟨G, sa, k⟩ => ⟨G, sa, fun v1 G1 H1 g1 sh1 r1 => ⟨G1, ⟨sh1, sa.sl.up g1⟩, fun vs G2 H2 g2 sh2 r2 => k _ G2 H2 (g1.trans g2) sh2 (.cons (r1.up g2) r2)⟩⟩
theorem ev_tup {x1} (h : AV X es ρ M ds M1) (hl : ds.length ≤ sizeLine := by first | (simp only [List.length_cons, List.length_nil]; decide) | decide) : EV X (.Tuple es x1 pos) ρ M (.tup ds) M1 :=
  (pe_tup h).mono fun σ H Q ⟨G, sa, k⟩ => ⟨G, sa, fun vs G1 H1 g1 sh1 r1 => ⟨by rw [r1.len]; exact hl, fun p hp => by
    obtain ⟨sh2, g2⟩ := sh1.new (o := .tup vs) hp
    exact k _ _ _ (g1.trans g2) sh2 (.tup (.inl (.inl upd_same)) (r1.up g2))⟩⟩
theorem ev_lst (h : AV X es ρ M ds M1) (hl : ds.length ≤ sizeLine := by first | (simp only [List.length_cons, List.length_nil]; decide) | decide) : EV X (.List es pos) ρ M (.lst ds) M1 :=
  (pe_lst h).mono fun σ H Q ⟨G, sa, k⟩ => ⟨G, sa, fun vs G1 H1 g1 sh1 r1 => ⟨by rw [r1.len]; exact hl, fun p hp => by
    obtain ⟨sh2, g2⟩ := sh1.new (o := .lst vs) hp
    exact k _ _ _ (g1.trans g2) sh2 (.lst (.inl (.inl upd_same)) (r1.up g2))⟩⟩

/-! ### items -/
theorem atI_up {K : PySem.W.Frag} {G : Hp} {vs : List V} {i : Int} (r : RepL K G vs ds) (h : atI ds i = some d) : ∃ v, atI vs i = some v ∧ Rep K G v d := by
  unfold atI at h ⊢
  rw [r.len]
  cases q : ixN ds.length i with
  | none => rw [q] at h; cases h
  | some j =>
    rw [q] at h
    exact r.get h
theorem ev_ixT {i : Int} (ha : EV X a ρ M (.tup ds) M1) (hb : EV X b ρ M1 (dI i) M2) (h : atI ds i = some d) (hs : PlainIx b := by (intro _ _; rfl)) : EV X (.Subscript a b pos) ρ M d M2 :=
  (pe_ix ix_tup ha hb hs).mono fun σ H Q ⟨G, sa, k⟩ => ⟨G, sa, fun v1 G1 H1 g1 sh1 r1 => ⟨G1, ⟨sh1, sa.sl.up g1⟩, fun v2 G2 H2 g2 sh2 r2 => by
    cases r1 with
    | tup q r =>
      obtain ⟨v, e, rv⟩ := atI_up (r.up g2) h
      exact ⟨_, _, i, v, rfl, r2.of_val, sqtUp sh2.le (sqtUp g2 q), e, k _ G2 H2 (g1.trans g2) sh2 rv⟩⟩⟩
theorem ev_ixL {i : Int} (ha : EV X a ρ M (.lst ds) M1) (hb : EV X b ρ M1 (dI i) M2) (h : atI ds i = some d) (hs : PlainIx b := by (intro _ _; rfl)) : EV X (.Subscript a b pos) ρ M d M2 :=
  (pe_ix ix_list ha hb hs).mono fun σ H Q ⟨G, sa, k⟩ => ⟨G, sa, fun v1 G1 H1 g1 sh1 r1 => ⟨G1, ⟨sh1, sa.sl.up g1⟩, fun v2 G2 H2 g2 sh2 r2 => by
    cases r1 with
    | lst q r =>
      obtain ⟨v, e, rv⟩ := atI_up (r.up g2) h
      exact ⟨_, _, i, v, rfl, r2.of_val, sqlUp sh2.le (sqlUp g2 q), e, k _ G2 H2 (g1.trans g2) sh2 rv⟩⟩⟩
/-- an item of a list of the memory -/
theorem ev_ixM {p : Addr} {i : Int} (ha : EV X a ρ M (dP p) M1) (hb : EV X b ρ M1 (dI i) M2) (hm : M2 p = some (.lst ds)) (h : atI ds i = some d) (hs : PlainIx b := by (intro _ _; rfl)) : EV X (.Subscript a b pos) ρ M d M2 :=
  (pe_ix ix_list ha hb hs).mono fun σ H Q ⟨G, sa, k⟩ => ⟨G, sa, fun v1 G1 H1 g1 sh1 r1 => ⟨G1, ⟨sh1, sa.sl.up g1⟩, fun v2 G2 H2 g2 sh2 r2 => by
    obtain ⟨_, vs, hv, r⟩ := sh2.mem p _ hm
    obtain ⟨v, e, rv⟩ := atI_up r h
    exact ⟨p, vs, i, v, r1.of_val, r2.of_val, .inl (.inl hv), e, k _ G2 H2 (g1.trans g2) sh2 rv⟩⟩⟩
theorem ev_ixS {z : Str} {i : Int} {ch : Nat} (ha : EV X a ρ M (dS z) M1) (hb : EV X b ρ M1 (dI i) M2) (hz : z.length ≤ sizeLine) (h : atI z.cps.toList i = some ch) (hs : PlainIx b := by (intro _ _; rfl)) : EV X (.Subscript a b pos) ρ M (dS ⟨#[ch]⟩) M2 :=
  (pe_ix ix_str ha hb hs).mono fun σ H Q ⟨G, sa, k⟩ => ⟨G, sa, fun v1 G1 H1 g1 sh1 r1 => ⟨G1, ⟨sh1, sa.sl.up g1⟩, fun v2 G2 H2 g2 sh2 r2 =>
    ⟨z, i, ch, r1.of_val, r2.of_val, hz, h, k _ G2 H2 (g1.trans g2) sh2 (.val _)⟩⟩⟩

/-! ### calls -/
/-- what a def of trees promises -/
def spD (K : PySem.W.Frag) (Pr : List D → Mem → D → Mem → Prop) : Sp := fun vs H Q _ => ∃ G ds M d M', SH K G H M ∧ RepL K G vs ds ∧ Pr ds M d M' ∧ ∀ v G' H', Same G G' → SH K G' H' M' → Rep K G' v d → Q v H'
structure Cal (P : Program) (w : World) (K : PySem.W.Frag) (mg : Str → Option Value) (base : Heap) (k : Nat) (x : Str) (sp : Sp) : Prop where
  ex : ∃ f fd ps, mg x = some (.ref f) ∧ PySem.W.keepIn K (.ref f) = true ∧ Binds K fd ps [] ∧ FnOk P w K mg base CX0 k f fd ps sp
theorem Cal.mono {P : Program} {w : World} {K : PySem.W.Frag} {mg : Str → Option Value} {base : Heap} {j k : Nat} {x : Str} {sp : Sp} (C : Cal P w K mg base j x sp) (h : j ≤ k) : Cal P w K mg base k x sp :=
  let ⟨f, fd, ps, a, b, c, F⟩ := C.ex
  ⟨f, fd, ps, a, b, c, F.mono h⟩
theorem Cal.imp {P : Program} {w : World} {K : PySem.W.Frag} {mg : Str → Option Value} {base : Heap} {k : Nat} {x : Str} {sp sp' : Sp} (C : Cal P w K mg base k x sp) (h : ∀ vs H Q E, sp' vs H Q E → sp vs H Q E) : Cal P w K mg base k x sp' :=
  let ⟨f, fd, ps, a, b, c, F⟩ := C.ex
  ⟨f, fd, ps, a, b, c, F.imp h⟩
theorem ev_call {k : Nat} {x : Str} {Pr : List D → Mem → D → Mem → Prop} {p : Pos} (C : Cal X.prog X.w X.K X.mg X.base k x (spD X.K Pr)) (hr : Room k X.A) (ha : AV X (e :: es) ρ M ds M1) (hp : Pr ds M1 d M2) (hg : Gl X x := by rfl)
    (hd : (x == ("__debug__" : Str)) = false := by decide) (hst : starEach (e :: es) X.env = (false, eval e X.env) :: starEach es X.env := by rfl) (hpl : (backTo pos (starEach es X.env)).any (·.1) = false := by rfl) : EV X (.Call (.Name x p) (e :: es) [] pos) ρ M d M2 := by
  obtain ⟨f, fd, ps, hm, hk, hb, F⟩ := C.ex
  refine (pe_call F hr hg hm hk hb .nil pass0 ha (hdb := hd) (he := hst) (hpl := hpl)).mono fun σ H Q ⟨G, sa, k⟩ => ⟨G, sa, fun vs G1 H1 g1 sh1 r1 => ?_⟩
  show spD X.K Pr (vs ++ []) H1 Q E0
  rw [List.append_nil]
  exact ⟨G1, ds, M1, d, M2, sh1, r1, hp, fun v G' H' g sh r => k v G' H' (g1.trans g) sh r⟩
/-- a built-in of scalars -/
def RC (r : List V → Hp → VK → Prop) (vs : List V) (z : V) : Prop := ∀ H Q, Q z H → r vs H Q
theorem ev_cb {x : Str} {p : Pos} {id : String} {r : List V → Hp → VK → Prop} {vs : List V} {z : V} (hc : CallR X (.builtin id) r) (hm : X.mg x = none) (hv : bootBuiltins x = some (.builtin id)) (ha : AV X (e :: es) ρ M (vs.map D.val) M1) (hr : RC r vs z) (hg : Gl X x := by rfl)
    (hn : x ≠ "__name__" := by decide) (hd : (x == ("__debug__" : Str)) = false := by decide) (hst : starEach (e :: es) X.env = (false, eval e X.env) :: starEach es X.env := by rfl) (hpl : (backTo pos (starEach es X.env)).any (·.1) = false := by rfl) : EV X (.Call (.Name x p) (e :: es) [] pos) ρ M (.val z) M1 :=
  (pe_callB hc hg hm hv ha hn hd hst hpl).mono fun σ H Q ⟨G, sa, k⟩ => ⟨G, sa, fun vs' G1 H1 g1 sh1 r1 => by
    rw [RepL.of_vals r1]
    exact hr H1 Q (k _ G1 H1 g1 sh1 (.val _))⟩
theorem ev_ct {x : Str} {p : Pos} {id : String} {r : List V → Hp → VK → Prop} {vs : List V} {z : V} (hc : CallR X (.type id) r) (hm : X.mg x = none) (hv : bootBuiltins x = some (.type id)) (ha : AV X (e :: es) ρ M (vs.map D.val) M1) (hr : RC r vs z) (hg : Gl X x := by rfl)
    (hn : x ≠ "__name__" := by decide) (hd : (x == ("__debug__" : Str)) = false := by decide) (hst : starEach (e :: es) X.env = (false, eval e X.env) :: starEach es X.env := by rfl) (hpl : (backTo pos (starEach es X.env)).any (·.1) = false := by rfl) : EV X (.Call (.Name x p) (e :: es) [] pos) ρ M (.val z) M1 :=
  (pe_callTy hc hg hm hv ha hn hd hst hpl).mono fun σ H Q ⟨G, sa, k⟩ => ⟨G, sa, fun vs' G1 H1 g1 sh1 r1 => by
    rw [RepL.of_vals r1]
    exact hr H1 Q (k _ G1 H1 g1 sh1 (.val _))⟩
/-- int(i) -/
theorem ev_intI {i : Int} {p : Pos} (hm : X.mg "int" = none) (ha : EV X e ρ M (dI i) M1) (hg : Gl X "int" := by rfl) (hst : starEach [e] X.env = [(false, eval e X.env)] := by rfl) : EV X (.Call (.Name "int" p) [e] [] pos) ρ M (dI i) M1 :=
  (pe_callTy call_int1 hg hm (by decide +kernel) (av_cons ha av_nil hst) (he := hst)).mono fun σ H Q ⟨G, sa, k⟩ => ⟨G, sa, fun vs' G1 H1 g1 sh1 r1 => by
    rw [RepL.of_vals (xs := [.int i]) r1]
    exact .inl ⟨i, rfl, k _ G1 H1 g1 sh1 (.val _)⟩⟩
/-- len of a tree, of a list of the memory, of a text -/
theorem ev_lenT {p : Pos} (hm : X.mg "len" = none) (ha : EV X e ρ M (.tup ds) M1) (hg : Gl X "len" := by rfl) (hst : starEach [e] X.env = [(false, eval e X.env)] := by rfl) : EV X (.Call (.Name "len" p) [e] [] pos) ρ M (dI ds.length) M1 :=
  (pe_callB call_len_seq hg hm PySem.boot_len (av_cons ha av_nil hst) (he := hst)).mono fun σ H Q ⟨G, sa, k⟩ => ⟨G, sa, fun vs' G1 H1 g1 sh1 r1 => by
    cases r1 with
    | cons h t =>
      cases t
      cases h with
      | tup q r => exact ⟨_, _, rfl, .inr (sqtUp sh1.le q), by rw [r.len]; exact k _ G1 H1 g1 sh1 (.val _)⟩⟩
theorem ev_lenL {p : Pos} (hm : X.mg "len" = none) (ha : EV X e ρ M (.lst ds) M1) (hg : Gl X "len" := by rfl) (hst : starEach [e] X.env = [(false, eval e X.env)] := by rfl) : EV X (.Call (.Name "len" p) [e] [] pos) ρ M (dI ds.length) M1 :=
  (pe_callB call_len_seq hg hm PySem.boot_len (av_cons ha av_nil hst) (he := hst)).mono fun σ H Q ⟨G, sa, k⟩ => ⟨G, sa, fun vs' G1 H1 g1 sh1 r1 => by
    cases r1 with
    | cons h t =>
      cases t
      cases h with
      | lst q r => exact ⟨_, _, rfl, .inl (sqlUp sh1.le q), by rw [r.len]; exact k _ G1 H1 g1 sh1 (.val _)⟩⟩
theorem ev_lenM {a : Addr} {p : Pos} (hm : X.mg "len" = none) (ha : EV X e ρ M (dP a) M1) (h : M1 a = some (.lst ds)) (hg : Gl X "len" := by rfl) (hst : starEach [e] X.env = [(false, eval e X.env)] := by rfl) : EV X (.Call (.Name "len" p) [e] [] pos) ρ M (dI ds.length) M1 :=
  (pe_callB call_len_seq hg hm PySem.boot_len (av_cons ha av_nil hst) (he := hst)).mono fun σ H Q ⟨G, sa, k⟩ => ⟨G, sa, fun vs' G1 H1 g1 sh1 r1 => by
    obtain ⟨_, vs, hv, r⟩ := sh1.mem a _ h
    rw [RepL.of_vals (xs := [.ref a]) r1]
    exact ⟨a, vs, rfl, .inl (.inl (.inl hv)), by rw [r.len]; exact k _ G1 H1 g1 sh1 (.val _)⟩⟩
theorem ev_lenS {z : Str} {p : Pos} (hm : X.mg "len" = none) (ha : EV X e ρ M (dS z) M1) (hz : z.length ≤ sizeLine) (hg : Gl X "len" := by rfl) (hst : starEach [e] X.env = [(false, eval e X.env)] := by rfl) : EV X (.Call (.Name "len" p) [e] [] pos) ρ M (dI z.length) M1 :=
  (pe_callB call_len_str hg hm PySem.boot_len (av_cons ha av_nil hst) (he := hst)).mono fun σ H Q ⟨G, sa, k⟩ => ⟨G, sa, fun vs' G1 H1 g1 sh1 r1 => by
    rw [RepL.of_vals (xs := [.str z]) r1]
    exact ⟨z, rfl, hz, k _ G1 H1 g1 sh1 (.val _)⟩⟩

/-! ### statements -/
variable {Ψ : Out → Prop} {st : Stmt} {rest : List Stmt}
/-- what follows -/
def thenR (X : Cx) (rest : List Stmt) (Ψ : Out → Prop) : Out → Prop
  | .nx ρ M => BV X rest ρ M Ψ
  | o => Ψ o
theorem bv_nil (h : Ψ (.nx ρ M)) : BV X [] ρ M Ψ := pss_nil.mono fun E σ H ⟨G, sa, k⟩ => k _ h σ G H (Same.refl G) sa
theorem bv_cons (h : SV X st ρ M (thenR X rest Ψ)) : BV X (st :: rest) ρ M Ψ := by
  refine (pss_cons (u := fun E σ H => ∃ ρ' M', BV X rest ρ' M' Ψ ∧ tS X.K ρ' M' Ψ E σ H) h ⟨fun pins s σ H E I ⟨ρ', M', hb, q⟩ => hb.run pins s σ H E I q⟩).mono fun E σ H ⟨G, sa, k⟩ => ⟨G, sa, fun o ho => ?_⟩
  cases o with
  | nx ρ' M' => exact fun σ' G' H' g sa' => ⟨ρ', M', ho, G', sa', fun o' ho' => (k o' ho').up g⟩
  | ret d M' => exact k _ ho
  | bk ρ' M' => exact k _ ho
  | ct ρ' M' => exact k _ ho
theorem bv_one (h : SV X st ρ M Ψ) : BV X [st] ρ M Ψ := pss_one h
theorem sv_to {Ψ' : Out → Prop} (h : SV X st ρ M Ψ) (i : ∀ o, Ψ o → Ψ' o) : SV X st ρ M Ψ' := h.mono fun E σ H ⟨G, sa, k⟩ => ⟨G, sa, fun o ho => k o (i o ho)⟩
theorem bv_to {Ψ' : Out → Prop} (h : BV X rest ρ M Ψ) (i : ∀ o, Ψ o → Ψ' o) : BV X rest ρ M Ψ' := h.mono fun E σ H ⟨G, sa, k⟩ => ⟨G, sa, fun o ho => k o (i o ho)⟩
/-- fewer slots known, the same memory -/
theorem bv_weak {ρ' : Sl} (h : BV X rest ρ' M Ψ) (hl : ρ'.length = ρ.length) (hs : ∀ (i : Nat) (d : D), ρ'[i]? = some (some d) → ρ[i]? = some (some d)) : BV X rest ρ M Ψ := h.mono fun E σ H ⟨G, sa, k⟩ => ⟨G, ⟨sa.sh, sa.sl.weak hl hs⟩, k⟩
theorem sv_ret (h : EV X e ρ M d M1) (hΨ : Ψ (.ret d M1)) : SV X (.Return (some e) pos) ρ M Ψ :=
  (ps_ret h).mono fun E σ H ⟨G, sa, k⟩ => ⟨G, sa, fun v G1 H1 g1 sh1 r1 => k _ hΨ v G1 H1 g1 sh1 r1⟩
theorem sv_retN (hΨ : Ψ (.ret dN M)) : SV X (.Return none pos) ρ M Ψ :=
  ps_retN.mono fun E σ H ⟨G, sa, k⟩ => k _ hΨ _ G H (Same.refl G) sa.sh (.val _)
theorem sv_pass (hΨ : Ψ (.nx ρ M)) : SV X (.Pass pos) ρ M Ψ := ps_pass.mono fun E σ H ⟨G, sa, k⟩ => k _ hΨ σ G H (Same.refl G) sa
theorem sv_break (hΨ : Ψ (.bk ρ M)) : SV X (.Break pos) ρ M Ψ := ps_break.mono fun E σ H ⟨G, sa, k⟩ => k _ hΨ σ G H (Same.refl G) sa
theorem sv_cont (hΨ : Ψ (.ct ρ M)) : SV X (.Continue pos) ρ M Ψ := ps_continue.mono fun E σ H ⟨G, sa, k⟩ => k _ hΨ σ G H (Same.refl G) sa
theorem sv_expr (h : EV X e ρ M d M1) (hΨ : Ψ (.nx ρ M1)) (hs : swapsWith e none pos.line X.env = pure false := by rfl) : SV X (.Expr e pos) ρ M Ψ :=
  (ps_expr h hs).mono fun E σ H ⟨G, sa, k⟩ => ⟨G, sa, fun v G1 H1 g1 sh1 r1 => k _ hΨ σ G1 H1 g1 ⟨sh1, sa.sl.up g1⟩⟩
/-- x = e -/
theorem sv_set (i : Nat) {x : Str} {pos' : Pos} (hN : X.N.Nodup) (he : EV X e ρ M d M1) (hΨ : Ψ (.nx (ρ.set i (some d)) M1)) (hi : X.N[i]? = some x := by rfl) (hx : L2.Loc X.env.scope x := by first | exact Or.inl rfl | exact Or.inr rfl) (hs : swapsWith e (some (.Name x pos')) pos.line X.env = pure false := by rfl)
    (hf : X.fn x = true ∨ X.env.scope.names.lookup x = some .local := by first | exact .inl rfl | exact .inr rfl) : SV X (.Assign [.Name x pos'] e pos) ρ M Ψ :=
  (ps_set hN hi hx he hs hf).mono fun E σ H ⟨G, sa, k⟩ => ⟨G, sa, fun v G1 H1 g1 sh1 r1 => k _ hΨ _ G1 H1 g1 ⟨sh1, (sa.sl.up g1).set i r1⟩⟩
/-- x = a new list that is going to be changed: its address p is new -/
theorem sv_setNew (i : Nat) {x : Str} {pos' pl : Pos} (hN : X.N.Nodup) (ha : AV X es ρ M ds M1) (hΨ : ∀ p, M1 p = none → Ψ (.nx (ρ.set i (some (dP p))) (M1.set p (.lst ds)))) (hl : ds.length ≤ sizeLine := by first | (simp only [List.length_cons, List.length_nil]; decide) | decide) (hi : X.N[i]? = some x := by rfl) (hx : L2.Loc X.env.scope x := by first | exact Or.inl rfl | exact Or.inr rfl)
    (hs : swapsWith (.List es pl) (some (.Name x pos')) pos.line X.env = pure false := by rfl) (hf : X.fn x = true ∨ X.env.scope.names.lookup x = some .local := by first | exact .inl rfl | exact .inr rfl) : SV X (.Assign [.Name x pos'] (.List es pl) pos) ρ M Ψ :=
  (ps_set hN hi hx (pe_lst ha) hs hf).mono fun E σ H ⟨G, sa, k⟩ => ⟨G, sa, fun vs G1 H1 g1 sh1 r1 => ⟨by rw [r1.len]; exact hl, fun p hp => by
    obtain ⟨sh2, mp, gp⟩ := sh1.newM hp r1
    exact k _ (hΨ p mp) _ G1 _ g1 ⟨sh2, (sa.sl.up g1).set i (.val _)⟩⟩⟩
theorem sv_if {p : Bool} {as bs : List Stmt} (hc : TV X c ρ M p M1) (ha : p = true → BV X as ρ M1 Ψ) (hb : p = false → BV X bs ρ M1 Ψ) : SV X (.If c as bs pos) ρ M Ψ := by
  cases p with
  | true => exact (ps_if (u := fun _ _ _ => False) hc (ha rfl) ⟨fun _ _ _ _ _ _ h => h.elim⟩).mono fun E σ H ⟨G, sa, k⟩ => ⟨G, sa, fun G1 H1 g1 sh1 => (⟨G1, ⟨sh1, sa.sl.up g1⟩, fun o ho => (k o ho).up g1⟩ : tS _ _ _ _ E σ H1)⟩
  | false => exact (ps_if (t := fun _ _ _ => False) hc ⟨fun _ _ _ _ _ _ h => h.elim⟩ (hb rfl)).mono fun E σ H ⟨G, sa, k⟩ => ⟨G, sa, fun G1 H1 g1 sh1 => (⟨G1, ⟨sh1, sa.sl.up g1⟩, fun o ho => (k o ho).up g1⟩ : tS _ _ _ _ E σ H1)⟩
/-- the list at p, which slot i names, is changed no more -/
theorem SH.freeze {K : PySem.W.Frag} {G H : Hp} {M : Mem} {p : Addr} {ds : List D} (s : SH K G H (M.set p (.lst ds))) (hm : M p = none) : ∃ vs, SH K (upd G p (.lst vs)) H M ∧ Same G (upd G p (.lst vs)) ∧ RepL K G vs ds := by
  obtain ⟨gp, vs, hv, r⟩ := s.mem p _ Mem.set_same
  have up : Same G (upd G p (.lst vs)) := fun b u e => by rw [upd_ne (ne_of_none e gp)]; exact e
  refine ⟨vs, ⟨fun b u e => ?_, fun b mo e => ?_⟩, up, r⟩
  · by_cases hb : b = p
    · subst hb; rw [upd_same] at e; rw [← e]; exact hv
    · rw [upd_ne hb] at e; exact s.le b u e
  · have hb : b ≠ p := fun q => by rw [q, hm] at e; cases e
    obtain ⟨g0, at0⟩ := s.mem b mo (by rw [Mem.set_ne hb]; exact e)
    exact ⟨by rw [upd_ne hb]; exact g0, at0.up up rfl⟩
theorem bv_freeze (i : Nat) {p : Addr} (hρ : ρ[i]? = some (some (dP p))) (hm : M p = none) (h : BV X rest (ρ.set i (some (.lst ds))) M Ψ) : BV X rest ρ (M.set p (.lst ds)) Ψ := h.mono fun E σ H ⟨G, sa, k⟩ => by
  obtain ⟨vs, sh, g, r⟩ := sa.sh.freeze hm
  obtain ⟨v, e1, r1⟩ := sa.sl.2 i _ hρ
  refine ⟨_, ⟨sh, ?_⟩, fun o ho => (k o ho).up g⟩
  have q := (sa.sl.up g).set i (v := .ref p) (d := .lst ds) (.lst (.inl (.inl upd_same)) (r.up g))
  have e2 : σ.set i (some (V.ref p)) = σ := by
    have ev : v = V.ref p := r1.of_val
    rw [ev] at e1
    obtain ⟨hi, e3⟩ := List.getElem?_eq_some_iff.mp e1
    rw [← e3]
    exact List.set_getElem_self hi
  rw [e2] at q
  exact q

/-- a def's promise by its body -/
def Fin (d : D) (M' : Mem) : Out → Prop
  | .ret d' M'' => d' = d ∧ Mle M' M''
  | .nx _ M'' => d = dN ∧ Mle M' M''
  | _ => False
def startD (N : List Str) (ds : List D) : Sl := ds.map some ++ List.replicate (N.length - ds.length) none
theorem start_rep {K : PySem.W.Frag} {G : Hp} {N : List Str} : ∀ {vs : List V} {ds : List D}, RepL K G vs ds → RepS K G (L2.start N vs) (startD N ds) := fun {vs ds} r => by
  have hl := r.len
  unfold L2.start startD
  refine ⟨by simp [hl], fun i d e => ?_⟩
  by_cases hi : i < ds.length
  · rw [List.getElem?_append_left (by simpa using hi), List.getElem?_map] at e
    rw [List.getElem?_append_left (by simpa [hl] using hi), List.getElem?_map]
    cases q : ds[i]? with
    | none => rw [q] at e; cases e
    | some d' =>
      rw [q] at e
      cases e
      obtain ⟨v, h1, h2⟩ := r.get q
      exact ⟨v, by rw [h1]; rfl, h2⟩
  · rw [List.getElem?_append_right (by simpa using hi), List.getElem?_replicate] at e
    split at e <;> cases e
theorem fn_ok {P : Program} {w : World} {K : PySem.W.Frag} {mg : Str → Option Value} {base : Heap} {x qual : Str} {sd : Stmt} {f : Addr} {fd : FuncData} {N ps : List Str} {k : Nat} {Pr : List D → Mem → D → Mem → Prop} (F : Fun K x qual sd f fd) (S : FnScope N ps (defScope sd))
    (len : ∀ ds M d M', Pr ds M d M' → ds.length = ps.length)
    (hb : ∀ (cdv : Value) (A : Around) (outer : List Env) (s : Shared) (H : Hp) (E : XK) (ds : List D) (M : Mem) (d : D) (M' : Mem), Room k (A.deeper (envOfC qual (defScope sd) s.heap.objs.size f cdv)) → Pr ds M d M' →
      BV (cxOf CX0 P w K mg base N qual (defScope sd) f cdv A outer s H E).nox (defBody sd) (startD N ds) M (Fin d M')) : FnOk P w K mg base CX0 (k + 1) f fd ps (spD K Pr) := by
  refine F.ok S (fun vs H Q E ⟨G, ds, M, d, M', sh, r, p, q⟩ => by rw [r.len]; exact len _ _ _ _ p) fun cdv A outer s H vs Q E hr ⟨G, ds, M, d, M', sh, r, p, q⟩ => ?_
  refine ⟨_, hb cdv A outer s H E ds M d M' hr p, G, ⟨sh, start_rep r⟩, fun o ho => ?_⟩
  cases o with
  | ret d' M'' =>
    obtain ⟨rfl, hm⟩ := ho
    exact fun v G' H' g sh' r' => q v G' H' g (sh'.weak hm) r'
  | nx ρ M'' =>
    obtain ⟨rfl, hm⟩ := ho
    exact fun σ' G' H' g sa' => q .non G' H' g (sa'.sh.weak hm) (.val _)
  | bk _ _ => exact ho.elim
  | ct _ _ => exact ho.elim
theorem cal_of {P : Program} {w : World} {K : PySem.W.Frag} {mg : Str → Option Value} {base : Heap} {x qual : Str} {sd : Stmt} {f : Addr} {fd : FuncData} {N ps : List Str} {k : Nat} {Pr : List D → Mem → D → Mem → Prop} (F : Fun K x qual sd f fd) (S : FnScope N ps (defScope sd)) (hm : mg x = some (.ref f))
    (hbind : ∀ (kV doc pm : Value) (an : Option Addr) (cdv ct : Value) (us : List Value), us.length = ps.length → bindArgs (PySem.W.fnOf x qual (defArgs sd) (defBody sd) (defScope sd) .none kV doc pm an cdv ct) ⟨us, []⟩ = pure (ps.zip us))
    (len : ∀ ds M d M', Pr ds M d M' → ds.length = ps.length)
    (hb : ∀ (cdv : Value) (A : Around) (outer : List Env) (s : Shared) (H : Hp) (E : XK) (ds : List D) (M : Mem) (d : D) (M' : Mem), Room k (A.deeper (envOfC qual (defScope sd) s.heap.objs.size f cdv)) → Pr ds M d M' →
      BV (cxOf CX0 P w K mg base N qual (defScope sd) f cdv A outer s H E).nox (defBody sd) (startD N ds) M (Fin d M')) : Cal P w K mg base (k + 1) x (spD K Pr) :=
  ⟨f, fd, ps, hm, F.kp, F.binds hbind, fn_ok F S len hb⟩

/-! ### a list or a tuple -/
def sq (b : Bool) (ds : List D) : D := if b = true then .lst ds else .tup ds

/-! ### isinstance, is None, abs, texts of ints -/
theorem rs_eqI {i j : Int} : RS rEq (.int i) (.int j) (.bl (decide (i = j))) := fun H Q q => ⟨rfl, by
  have e : decide (V.int i = V.int j) = decide (i = j) := decide_eq_decide.mpr ⟨fun h => by cases h; rfl, fun h => by rw [h]⟩
  rw [e]; exact q⟩
theorem rs_neI {i j : Int} : RS rNe (.int i) (.int j) (.bl (!decide (i = j))) := fun H Q q => ⟨rfl, by
  have e : decide (V.int i = V.int j) = decide (i = j) := decide_eq_decide.mpr ⟨fun h => by cases h; rfl, fun h => by rw [h]⟩
  rw [e]; exact q⟩
theorem rs_eqS {i j : Str} : RS rEq (.str i) (.str j) (.bl (decide (i = j))) := fun H Q q => ⟨rfl, by
  have e : decide (V.str i = V.str j) = decide (i = j) := decide_eq_decide.mpr ⟨fun h => by cases h; rfl, fun h => by rw [h]⟩
  rw [e]; exact q⟩
theorem rs_neS {i j : Str} : RS rNe (.str i) (.str j) (.bl (!decide (i = j))) := fun H Q q => ⟨rfl, by
  have e : decide (V.str i = V.str j) = decide (i = j) := decide_eq_decide.mpr ⟨fun h => by cases h; rfl, fun h => by rw [h]⟩
  rw [e]; exact q⟩
theorem rs_eqB {i j : Bool} : RS rEq (.bl i) (.bl j) (.bl (decide (i = j))) := fun H Q q => ⟨rfl, by
  have e : decide (V.bl i = V.bl j) = decide (i = j) := decide_eq_decide.mpr ⟨fun h => by cases h; rfl, fun h => by rw [h]⟩
  rw [e]; exact q⟩
theorem ru_neg {i : Int} : RU (rU fun i => .int (-i)) (.int i) (.int (-i)) := fun H Q q => ⟨i, rfl, q⟩
theorem cm_l {i j : Int} (h1 : -(2 ^ 64) < i) (h2 : i < 2 ^ 64) : CMul i j := .inl ⟨h1, h2⟩
theorem cm_r {i j : Int} (h1 : -(2 ^ 64) < j) (h2 : j < 2 ^ 64) : CMul i j := .inr ⟨h1, h2⟩
/-- the kind of a tree: isinstance's left side -/
def tyD : D → Option String
  | .val .non => some "NoneType"
  | .val (.bl _) => some "bool"
  | .val (.int _) => some "int"
  | .val (.str _) => some "str"
  | .val _ => none
  | .tup _ => some "tuple"
  | .lst _ => some "list"
  | .dic => some "dict"
theorem tyx_of {K : PySem.W.Frag} {G H : Hp} {v : V} {d : D} {t : String} (e : Same G H) (r : Rep K G v d) (h : tyD d = some t) : TyX K H v (.type t) := by
  cases r with
  | val v =>
    cases v with
    | non => cases h; exact .base .non
    | bl b => cases h; exact .base (.bl b)
    | int i => cases h; exact .base (.int i)
    | str z => cases h; exact .base (.str z)
    | _ => cases h
  | tup q _ =>
    cases h
    rcases sqtUp e q with (q | ⟨o, q⟩) | ⟨o, its, n, q, c, _⟩
    · exact .base (.tup q)
    · exact .fTuple q
    · exact .kTuple q c
  | lst q _ =>
    cases h
    rcases sqlUp e q with (q | ⟨o, q⟩) | ⟨o, its, n, q, c, _⟩
    · exact .base (.lst q)
    · exact .base (.frz q)
    · exact .kList q c
  | dic q =>
    cases h
    exact .base (.dK (e _ _ q))
/-- isinstance(a, T), T a built-in type -/
theorem ev_isi {x : Str} {T t : String} {r : Bool} {p p2 : Pos} (hm : X.mg "isinstance" = none) (hT : X.mg x = none) (hv : bootBuiltins x = some (.type T)) (ha : EV X a ρ M d M1) (ht : tyD d = some t) (hk : kitB t T = some r) (hg : Gl X "isinstance" := by rfl) (hgT : Gl X x := by rfl)
    (hn : x ≠ "__name__" := by decide) (hd : (x == ("__debug__" : Str)) = false := by decide)
    (h1 : starEach [a, .Name x p2] X.env = (false, eval a X.env) :: starEach [.Name x p2] X.env := by rfl) (h2 : starEach [.Name x p2] X.env = (false, eval (.Name x p2) X.env) :: starEach [] X.env := by rfl) (hpl : (backTo pos (starEach [.Name x p2] X.env)).any (·.1) = false := by rfl) :
    EV X (.Call (.Name "isinstance" p) [a, .Name x p2] [] pos) ρ M (dB r) M1 :=
  (pe_callB call_isi hg hm boot_isinstance (pa_cons ha (pa_cons (pe_bltn (v := .ty T) hgT hT hv rfl hn hd) pa_nil h2) h1) (hpl := hpl) (he := h1)).mono fun σ H Q ⟨G, sa, k⟩ => ⟨G, sa, fun v1 G1 H1 g1 sh1 r1 => 
    ⟨v1, .ty T, .type t, .type T, r, rfl, .ty T, tyx_of sh1.le r1 ht, kit_ty hk, k _ G1 H1 g1 sh1 (.val _)⟩⟩
theorem ev_isN {j} {v : V} {p2 : Pos} (ha : EV X a ρ M (.val v) M1) : EV X (.Compare a [.Is] [.Constant .none j p2] pos) ρ M (dB (decide (v = .non))) M1 :=
  (pe_cmp (pc_isN ha)).mono fun σ H Q ⟨G, sa, k⟩ => ⟨G, sa, fun v1 G1 H1 g1 sh1 r1 => by rw [r1.of_val]; exact k _ G1 H1 g1 sh1 (.val _)⟩
theorem tv_isN {j} {v : V} {p2 : Pos} (ha : EV X a ρ M (.val v) M1) : TV X (.Compare a [.Is] [.Constant .none j p2] pos) ρ M (decide (v = .non)) M1 :=
  (pt_cmp (pc_isN ha)).mono fun σ H Q ⟨G, sa, k⟩ => ⟨G, sa, fun v1 G1 H1 g1 sh1 r1 => by rw [r1.of_val]; exact ⟨_, rfl, k G1 H1 g1 sh1⟩⟩
theorem tv_isND {j} {b : Bool} {p2 : Pos} (ha : EV X a ρ M d M1) (h : ∀ v, d ≠ .val v) : TV X (.Compare a [.Is] [.Constant .none j p2] pos) ρ M false M1 :=
  (pt_cmp (pc_isN ha)).mono fun σ H Q ⟨G, sa, k⟩ => ⟨G, sa, fun v1 G1 H1 g1 sh1 r1 => by
    cases r1 with
    | val _ => exact absurd rfl (h _)
    | tup _ _ => exact ⟨_, rfl, k G1 H1 g1 sh1⟩
    | lst _ _ => exact ⟨_, rfl, k G1 H1 g1 sh1⟩
    | dic _ => exact ⟨_, rfl, k G1 H1 g1 sh1⟩⟩

/-! ### lists -/
/-- list(x) of a tree: a new list that stands as it is -/
theorem ev_listL {b : Bool} {p : Pos} (hm : X.mg "list" = none) (ha : EV X e ρ M (sq b ds) M1) (hg : Gl X "list" := by rfl) (hst : starEach [e] X.env = [(false, eval e X.env)] := by rfl) : EV X (.Call (.Name "list" p) [e] [] pos) ρ M (.lst ds) M1 :=
  (pe_callTy call_list_of hg hm boot_list (av_cons ha av_nil hst) (he := hst)).mono fun σ H Q ⟨G, sa, k⟩ => ⟨G, sa, fun vs' G1 H1 g1 sh1 r1 => by
    cases r1 with
    | cons h t =>
      cases t
      cases b with
      | true =>
        cases (show Rep X.K G1 _ (.lst ds) from h) with
        | lst q r => exact ⟨_, _, rfl, .inl (sqlUp sh1.le q), fun l hl => by
            obtain ⟨sh2, g2⟩ := sh1.new (o := .lst _) hl
            exact k _ _ _ (g1.trans g2) sh2 (.lst (.inl (.inl upd_same)) (r.up g2))⟩
      | false =>
        cases (show Rep X.K G1 _ (.tup ds) from h) with
        | tup q r => exact ⟨_, _, rfl, .inr (sqtUp sh1.le q), fun l hl => by
            obtain ⟨sh2, g2⟩ := sh1.new (o := .lst _) hl
            exact k _ _ _ (g1.trans g2) sh2 (.lst (.inl (.inl upd_same)) (r.up g2))⟩⟩
/-- tuple(x) of a tree -/
theorem ev_tupOf {b : Bool} {p : Pos} (hm : X.mg "tuple" = none) (ha : EV X e ρ M (sq b ds) M1) (hg : Gl X "tuple" := by rfl) (hst : starEach [e] X.env = [(false, eval e X.env)] := by rfl) : EV X (.Call (.Name "tuple" p) [e] [] pos) ρ M (.tup ds) M1 :=
  (pe_callTy call_tuple_of hg hm boot_tuple (av_cons ha av_nil hst) (he := hst)).mono fun σ H Q ⟨G, sa, k⟩ => ⟨G, sa, fun vs' G1 H1 g1 sh1 r1 => by
    cases r1 with
    | cons h t =>
      cases t
      cases b with
      | true =>
        cases (show Rep X.K G1 _ (.lst ds) from h) with
        | lst q r => exact ⟨_, _, rfl, .inl ⟨sqlUp sh1.le q, fun l hl => by
            obtain ⟨sh2, g2⟩ := sh1.new (o := .tup _) hl
            exact k _ _ _ (g1.trans g2) sh2 (.tup (.inl (.inl upd_same)) (r.up g2))⟩⟩
      | false =>
        cases (show Rep X.K G1 _ (.tup ds) from h) with
        | tup q r => exact ⟨_, _, rfl, .inr ⟨sqtUp sh1.le q, k _ G1 H1 g1 sh1 (.tup q r)⟩⟩⟩
theorem ev_ixQ {b' : Bool} {i : Int} (ha : EV X a ρ M (sq b' ds) M1) (hb : EV X b ρ M1 (dI i) M2) (h : atI ds i = some d) (hs : PlainIx b := by (intro _ _; rfl)) : EV X (.Subscript a b pos) ρ M d M2 := by
  cases b' with
  | true => exact ev_ixL ha hb h hs
  | false => exact ev_ixT ha hb h hs
theorem ev_lenQ {b' : Bool} {p : Pos} (hm : X.mg "len" = none) (ha : EV X e ρ M (sq b' ds) M1) (hg : Gl X "len" := by rfl) (hst : starEach [e] X.env = [(false, eval e X.env)] := by rfl) : EV X (.Call (.Name "len" p) [e] [] pos) ρ M (dI ds.length) M1 := by
  cases b' with
  | true => exact ev_lenL hm ha hg hst
  | false => exact ev_lenT hm ha hg hst
/-- all(x) of a list of bools -/
theorem ev_all {bs : List Bool} {p : Pos} (hc : X.calm = true) (hm : X.mg "all" = none) (ha : EV X e ρ M (.lst (bs.map dB)) M1) (hg : Gl X "all" := by rfl) (hst : starEach [e] X.env = [(false, eval e X.env)] := by rfl) : EV X (.Call (.Name "all" p) [e] [] pos) ρ M (dB (bs.all id)) M1 :=
  (pe_callB (cr_all hc) hg hm boot_all (av_cons ha av_nil hst) (he := hst)).mono fun σ H Q ⟨G, sa, k⟩ => ⟨G, sa, fun vs' G1 H1 g1 sh1 r1 => by
    cases r1 with
    | cons h t =>
      cases t
      cases h with
      | lst q r =>
        have e : bs.map dB = (bs.map V.bl).map D.val := by rw [List.map_map] <;> rfl
        rw [e] at r
        rw [RepL.of_vals r] at q
        exact ⟨_, bs, rfl, sqlUp sh1.le q, k _ G1 H1 g1 sh1 (.val _)⟩⟩
/-- tuple + tuple -/
theorem ev_catT {es : List D} (ha : EV X a ρ M (.tup ds) M1) (hb : EV X b ρ M1 (.tup es) M2) (hl : ds.length + es.length ≤ sizeLine) : EV X (.BinOp a .Add b pos) ρ M (.tup (ds ++ es)) M2 :=
  (pe_op op_catA ha hb).mono fun σ H Q ⟨G, sa, k⟩ => ⟨G, sa, fun v1 G1 H1 g1 sh1 r1 => ⟨G1, ⟨sh1, sa.sl.up g1⟩, fun v2 G2 H2 g2 sh2 r2 => by
    cases r1 with
    | tup q r =>
      cases r2 with
      | tup q2 r2 =>
        have rr := r.up g2
        refine ⟨_, _, _, _, rfl, rfl, sqtUp sh2.le (sqtUp g2 q), sqtUp sh2.le q2, by rw [r.len, r2.len]; exact hl, fun e => ?_, fun _ e => ?_, fun _ _ p hp => ?_⟩
        · subst e
          cases rr
          exact k _ G2 H2 (g1.trans g2) sh2 (.tup q2 r2)
        · subst e
          cases r2
          rw [List.append_nil] at k
          exact k _ G2 H2 (g1.trans g2) sh2 (.tup (sqtUp g2 q) rr)
        · obtain ⟨sh3, g3⟩ := sh2.new (o := .tup _) hp
          exact k _ _ _ ((g1.trans g2).trans g3) sh3 (.tup (.inl (.inl upd_same)) ((rr.append r2).up g3))⟩⟩
/-- xs.append(e), xs a list of the memory -/
theorem sv_append {p : Addr} {ap cp : Pos} (ho : EV X a ρ M (dP p) M1) (ha : EV X e ρ M1 d M2) (hm1 : ∃ es, M1 p = some (.lst es)) (hm : M2 p = some (.lst ds)) (hl : ds.length < sizeLine) (hΨ : Ψ (.nx ρ (M2.set p (.lst (ds ++ [d])))))
    (h1 : attributeBase a "append" X.env (eval a X.env) = eval a X.env := by rfl) (h3 : (ap.endLine == cp.line) = true := by decide) (h4 : starEach [e] X.env = (false, eval e X.env) :: starEach [] X.env := by rfl)
    (h2 : (((((backTo cp (starEach [e] X.env)).all fun x => !x.fst) && (backToKw cp (keywordEach [] X.env)).all fun x => x.fst.isSome) && decide (([e].length + ([] : List Keyword).length + if ([] : List Keyword).isEmpty = true then 0 else 1) < 30)) = true) := by rfl)
    (h5 : (((backTo cp (starEach [] X.env)).any fun x => x.fst) = false) := by rfl)
    (hs : swapsWith (.Call (.Attribute a "append" ap) [e] [] cp) none pos.line X.env = pure false := by rfl) : SV X (.Expr (.Call (.Attribute a "append" ap) [e] [] cp) pos) ρ M Ψ :=
  (ps_expr (pe_bm PySem.F.plainAttrs_list PySem.F.slot_list_append PySem.F.type_list_append mt_append ho (av_cons ha av_nil h4) h1 h2 h3 h4 h5) hs).mono fun E σ H ⟨G, sa, k⟩ => ⟨G, sa, fun v1 G1 H1 g1 sh1 r1 => by
    obtain ⟨es, hes⟩ := hm1
    obtain ⟨_, vs1, hv1, _⟩ := sh1.mem p _ hes
    rw [r1.of_val]
    refine ⟨.inl ⟨rfl, _, .inl (.inl hv1)⟩, G1, ⟨sh1, sa.sl.up g1⟩, fun vs G2 H2 g2 sh2 r2 => ?_⟩
    cases r2 with
    | cons r2 t =>
      cases t
      obtain ⟨_, vs2, hv2, rl⟩ := sh2.mem p _ hm
      exact ⟨p, vs2, _, rfl, rfl, hv2, by rw [rl.len]; exact hl, k _ hΨ σ G2 _ (g1.trans g2) ⟨sh2.put hm (rl.append (.cons r2 .nil)), (sa.sl.up g1).up g2⟩⟩⟩
/-- xs.pop(i) -/
theorem ev_pop {p : Addr} {i : Nat} {ap : Pos} (ho : EV X a ρ M (dP p) M1) (ha : EV X e ρ M1 (dI i) M2) (hm1 : ∃ es, M1 p = some (.lst es)) (hm : M2 p = some (.lst ds)) (hi : ds[i]? = some d)
    (h1 : attributeBase a "pop" X.env (eval a X.env) = eval a X.env := by rfl) (h3 : (ap.endLine == pos.line) = true := by decide) (h4 : starEach [e] X.env = (false, eval e X.env) :: starEach [] X.env := by rfl)
    (h2 : (((((backTo pos (starEach [e] X.env)).all fun x => !x.fst) && (backToKw pos (keywordEach [] X.env)).all fun x => x.fst.isSome) && decide (([e].length + ([] : List Keyword).length + if ([] : List Keyword).isEmpty = true then 0 else 1) < 30)) = true) := by rfl)
    (h5 : (((backTo pos (starEach [] X.env)).any fun x => x.fst) = false) := by rfl) (hz : ds.length < 2 ^ 62) : EV X (.Call (.Attribute a "pop" ap) [e] [] pos) ρ M d (M2.set p (.lst (ds.eraseIdx i))) :=
  (pe_bm PySem.F.plainAttrs_list PySem.F.slot_list_pop PySem.F.type_list_pop mt_popAt ho (av_cons ha av_nil h4) h1 h2 h3 h4 h5).mono fun σ H Q ⟨G, sa, k⟩ => ⟨G, sa, fun v1 G1 H1 g1 sh1 r1 => by
    obtain ⟨es, hes⟩ := hm1
    obtain ⟨_, vs1, hv1, _⟩ := sh1.mem p _ hes
    rw [r1.of_val]
    refine ⟨.inl ⟨rfl, _, .inl (.inl hv1)⟩, G1, ⟨sh1, sa.sl.up g1⟩, fun vs G2 H2 g2 sh2 r2 => ?_⟩
    rw [RepL.of_vals (xs := [.int i]) r2]
    obtain ⟨_, vs2, hv2, rl⟩ := sh2.mem p _ hm
    obtain ⟨v, hv, rv⟩ := rl.get hi
    have hlt : i < vs2.length := (List.getElem?_eq_some_iff.mp hv).1
    have hll := rl.len
    refine ⟨p, vs2, i, i, v, rfl, rfl, hv2, by omega, by omega, ?_, hv, k _ G2 _ (g1.trans g2) (sh2.put hm (rl.erase i)) rv⟩
    unfold seqIndex?
    have e1 : ¬ ((i : Int) < 0) := by omega
    simp only [e1, if_false]
    rw [if_pos (by simp only [Bool.and_eq_true, decide_eq_true_eq]; omega)]
    rfl⟩
/-- xs[i] = e -/
theorem sv_setItem {p : Addr} {i : Nat} {tp : Pos} (he : EV X e ρ M d M1) (ho : EV X a ρ M1 (dP p) M2) (hi : EV X b ρ M2 (dI i) M3) (hm : M3 p = some (.lst ds)) (hlt : i < ds.length) (hΨ : Ψ (.nx ρ (M3.set p (.lst (ds.set i d)))))
    (ha : ∀ v, assign (.Subscript a b tp) X.env v = (do
      let ov ← holding [v] (eval a X.env)
      let iv ← holding [v, ov] (eval b X.env)
      standAt tp
      holding [v, ov, iv] (setItem ov iv v)
      release [v, ov, iv] []) := by intro _; rfl)
    (hs : swapsWithSole [.Subscript a b tp] e pos.line X.env = pure false := by rfl) (hw : swappedStores [.Subscript a b tp] e X.env = pure none := by rfl)
    (h1 : (assignEach [.Subscript a b tp] X.env).map (·.2) = [assign (.Subscript a b tp) X.env] := by rfl) : SV X (.Assign [.Subscript a b tp] e pos) ρ M Ψ :=
  (ps_asg he (pg_sub ho hi set_list ha) hs hw h1).mono fun E σ H ⟨G, sa, k⟩ => ⟨G, sa, fun v G1 H1 g1 sh1 r1 => ⟨G1, ⟨sh1, sa.sl.up g1⟩, fun v2 G2 H2 g2 sh2 r2 => ⟨G2, ⟨sh2, (sa.sl.up g1).up g2⟩, fun v3 G3 H3 g3 sh3 r3 => by
    obtain ⟨_, vs, hv, rl⟩ := sh3.mem p _ hm
    refine ⟨p, vs, i, i, r2.of_val, r3.of_val, hv, ?_, k _ hΨ σ G3 _ ((g1.trans g2).trans g3) ⟨sh3.put hm (rl.set ((r1.up g2).up g3) i), ((sa.sl.up g1).up g2).up g3⟩⟩
    have hl := rl.len
    unfold ixN
    rw [if_pos (by omega), if_pos (by omega)]
    simp⟩⟩⟩

/-! ### targets -/
/-- g stores d: the slots are ρ' then -/
def TG1 (K : PySem.W.Frag) (g : TG) (ρ : Sl) (d : D) (ρ' : Sl) : Prop := ∀ v σ G H Q, Same G H → RepS K G σ ρ → Rep K G v d → (∀ σ', RepS K G σ' ρ' → Q σ' H) → g v σ H Q
def TG2 (K : PySem.W.Frag) (g : TGs) (ρ : Sl) (ds : List D) (ρ' : Sl) : Prop := ∀ vs σ G H Q, Same G H → RepS K G σ ρ → RepL K G vs ds → (∀ σ', RepS K G σ' ρ' → Q σ' H) → g vs σ H Q
variable {K : PySem.W.Frag} {ρ' ρ'' : Sl} {g : TG} {gs : TGs}
theorem tg_name {i : Nat} : TG1 K (gName i) ρ d (ρ.set i (some d)) := fun v σ G H Q e h r k => k _ (h.set i r)
theorem tg_nil : TG2 K gNil ρ [] ρ := fun vs σ G H Q e h r k => by
  cases r
  exact ⟨rfl, k σ h⟩
theorem tg_cons (h1 : TG1 K g ρ d ρ') (h2 : TG2 K gs ρ' ds ρ'') : TG2 K (gCons g gs) ρ (d :: ds) ρ'' := fun vs σ G H Q e h r k => by
  cases r with
  | cons r t => exact ⟨_, _, rfl, h1 _ σ G H _ e h r fun σ' h' => h2 _ σ' G H _ e h' t k⟩
theorem tg_tup {n : Nat} (h : TG2 K gs ρ ds ρ') (hl : ds.length = n := by rfl) : TG1 K (gTup K n gs) ρ (.tup ds) ρ' := fun v σ G H Q e h0 r k => by
  cases r with
  | tup q r => exact ⟨_, _, rfl, sqtUp e q, r.len.trans hl, h _ σ G H _ e h0 r k⟩
theorem tg_lst {n : Nat} (h : TG2 K gs ρ ds ρ') (hl : ds.length = n := by rfl) : TG1 K (gUnl K n gs) ρ (.lst ds) ρ' := fun v σ G H Q e h0 r k => by
  cases r with
  | lst q r => exact ⟨_, _, rfl, sqlUp e q, r.len.trans hl, h _ σ G H _ e h0 r k⟩
/-- target = e -/
theorem sv_asg {tg : Expr} (he : EV X e ρ M d M1) (hg : PG X tg g) (ht : TG1 X.K g ρ d ρ') (hΨ : Ψ (.nx ρ' M1)) (hs : swapsWithSole [tg] e pos.line X.env = pure false := by rfl) (hw : swappedStores [tg] e X.env = pure none := by rfl)
    (h1 : (assignEach [tg] X.env).map (·.2) = [assign tg X.env] := by rfl) : SV X (.Assign [tg] e pos) ρ M Ψ :=
  (ps_asg he hg hs hw h1).mono fun E σ H ⟨G, sa, k⟩ => ⟨G, sa, fun v G1 H1 g1 sh1 r1 => ht v σ G1 H1 _ sh1.le (sa.sl.up g1) r1 fun σ' h' => k _ hΨ σ' G1 H1 g1 ⟨sh1, h'⟩⟩

/-! ### what is walked -/
def JW (K : PySem.W.Frag) (J : It) (G : Hp) (ds : List D) : Prop := ∀ (i : Nat) H, Same G H → (∀ d, ds[i]? = some d → J.go i H ∧ ∀ x H', J.yld i H x H' → H' = H ∧ Rep K G x d) ∧ (ds.length ≤ i → J.stop i H)
def tI (K : PySem.W.Frag) (ρ : Sl) (M : Mem) (ds : List D) (M1 : Mem) : TI := fun σ H R => ∃ G, SA K G H σ ρ M ∧ ∀ J G' H', Same G G' → SH K G' H' M1 → JW K J G' ds → R J H'
abbrev IV (X : Cx) (tg iter : Expr) (ρ : Sl) (M : Mem) (ds : List D) (M1 : Mem) : Prop := PI X tg iter (tI X.K ρ M ds M1)
theorem _root_.L2.PI.mono {tg iter : Expr} {t t' : TI} (h : PI X tg iter t) (i : ∀ σ H R, t' σ H R → t σ H R) : PI X tg iter t' := ⟨fun pins s σ H R I q => h.run pins s σ H R I (i σ H R q)⟩
theorem JW.range {lo : Int} {n : Nat} {G : Hp} : JW K (Itr lo n) G ((List.range n).map fun i => dI (lo + (i : Nat))) := fun i H e => ⟨fun d h => by
    rw [List.getElem?_map] at h
    have hi : i < n := by
      rcases Nat.lt_or_ge i n with q | q
      · exact q
      · rw [List.getElem?_eq_none (by simpa using q)] at h; cases h
    rw [List.getElem?_range hi] at h
    cases h
    exact ⟨hi, fun x H' ⟨e1, e2⟩ => ⟨e1, by rw [e2]; exact .val _⟩⟩, fun h => by
    rw [List.length_map, List.length_range] at h
    exact h⟩
theorem JW.list {p : Addr} {vs : List V} {G : Hp} (q : SqL K G p vs) (r : RepL K G vs ds) : JW K (Itl K p) G ds := fun i H e => ⟨fun d h => by
    obtain ⟨v, hv, rv⟩ := r.get h
    exact ⟨⟨vs, v, sqlUp e q, hv⟩, fun x H' ⟨e1, e2⟩ => ⟨e1, by
      have := e2 vs (sqlUp e q)
      rw [hv] at this
      cases this
      exact rv⟩⟩, fun h => ⟨vs, sqlUp e q, by rw [r.len]; exact h⟩⟩
theorem JW.tup {p : Addr} {vs : List V} {G : Hp} (q : SqT K G p vs) (r : RepL K G vs ds) : JW K (Itt K p) G ds := fun i H e => ⟨fun d h => by
    obtain ⟨v, hv, rv⟩ := r.get h
    exact ⟨⟨vs, v, sqtUp e q, hv⟩, fun x H' ⟨e1, e2⟩ => ⟨e1, by
      have := e2 vs (sqtUp e q)
      rw [hv] at this
      cases this
      exact rv⟩⟩, fun h => ⟨vs, sqtUp e q, by rw [r.len]; exact h⟩⟩
theorem iv_list {tg : Expr} (h : EV X e ρ M (.lst ds) M1) : IV X tg e ρ M ds M1 :=
  (pi_list h).mono fun σ H R ⟨G, sa, k⟩ => ⟨G, sa, fun v G1 H1 g1 sh1 r1 => by
    cases r1 with
    | lst q r => exact ⟨_, rfl, ⟨_, sqlUp sh1.le q⟩, k _ G1 H1 g1 sh1 (JW.list q r)⟩⟩
theorem iv_tup {tg : Expr} (h : EV X e ρ M (.tup ds) M1) : IV X tg e ρ M ds M1 :=
  (pi_tup h).mono fun σ H R ⟨G, sa, k⟩ => ⟨G, sa, fun v G1 H1 g1 sh1 r1 => by
    cases r1 with
    | tup q r => exact ⟨_, rfl, ⟨_, sqtUp sh1.le q⟩, k _ G1 H1 g1 sh1 (JW.tup q r)⟩⟩
def rgD (lo : Int) (n : Nat) : List D := (List.range n).map fun i => dI (lo + (i : Nat))
theorem rgD_len {lo : Int} {n : Nat} : (rgD lo n).length = n := by unfold rgD; rw [List.length_map, List.length_range]
theorem rgD_get {lo : Int} {n i : Nat} {d : D} (h : (rgD lo n)[i]? = some d) : i < n ∧ d = dI (lo + (i : Nat)) := by
  have hi : i < n := by
    rcases Nat.lt_or_ge i n with q | q
    · exact q
    · rw [List.getElem?_eq_none (by rw [rgD_len]; exact q)] at h; cases h
  unfold rgD at h
  rw [List.getElem?_map, List.getElem?_range hi] at h
  cases h
  exact ⟨hi, rfl⟩
theorem iv_range1 {tg : Expr} {j : Int} {p : Pos} (hm : X.mg "range" = none) (h : EV X e ρ M (dI j) M1) (hj : -(2 ^ 62) ≤ j ∧ j < 2 ^ 62) (hg : Gl X "range" := by rfl) (hst : starEach [e] X.env = [(false, eval e X.env)] := by rfl) : IV X tg (.Call (.Name "range" p) [e] [] pos) ρ M (rgD 0 j.toNat) M1 :=
  (pi_range1 hg hm (av_cons h av_nil hst) hst).mono fun σ H R ⟨G, sa, k⟩ => ⟨G, sa, fun vs G1 H1 g1 sh1 r1 => by
    rw [RepL.of_vals (xs := [.int j]) r1]
    exact ⟨j, rfl, hj.1, hj.2, k _ G1 H1 g1 sh1 JW.range⟩⟩
theorem iv_range2 {tg : Expr} {i j : Int} {p : Pos} (hm : X.mg "range" = none) (ha : EV X a ρ M (dI i) M1) (hb : EV X b ρ M1 (dI j) M2) (hj : -(2 ^ 62) ≤ i ∧ i < 2 ^ 62 ∧ -(2 ^ 62) ≤ j ∧ j < 2 ^ 62) (hg : Gl X "range" := by rfl)
    (hst : starEach [a, b] X.env = [(false, eval a X.env), (false, eval b X.env)] := by rfl) (hs2 : starEach [b] X.env = [(false, eval b X.env)] := by rfl) : IV X tg (.Call (.Name "range" p) [a, b] [] pos) ρ M (rgD i (j - i).toNat) M2 :=
  (pi_range2 hg hm (av_cons ha (av_cons hb av_nil hs2) (by rw [hst, hs2])) hst hs2).mono fun σ H R ⟨G, sa, k⟩ => ⟨G, sa, fun vs G1 H1 g1 sh1 r1 => by
    rw [RepL.of_vals (xs := [.int i, .int j]) r1]
    exact ⟨i, j, rfl, hj, k _ G1 H1 g1 sh1 JW.range⟩⟩

/-! ### for -/
def loopR (Inv : Nat → Sl → Mem → Prop) (Ψ : Out → Prop) (i : Nat) : Out → Prop
  | .nx ρ M => Inv (i + 1) ρ M
  | .ct ρ M => Inv (i + 1) ρ M
  | .bk ρ M => Ψ (.nx ρ M)
  | .ret d M => Ψ (.ret d M)
theorem sv_for {tg iter : Expr} {body : List Stmt} (hc : X.calm = true) (hi : IV X tg iter ρ M ds M1) (hg : PG X tg g) (Iv : Nat → Sl → Mem → Prop) (start : Iv 0 ρ M1)
    (step : ∀ i d ρ' M', ds[i]? = some d → Iv i ρ' M' → ∃ ρ'', TG1 X.K g ρ' d ρ'' ∧ BV X body ρ'' M' (loopR Iv Ψ i)) (done : ∀ ρ' M', Iv ds.length ρ' M' → Ψ (.nx ρ' M'))
    (hp : PassesOwn (model X.prog X.w) X.A X.env X.xe := by exact PassesOwn.never) (hs : ∀ x, foldedSetIterable iter X.env x = pure x := by intro _; rfl) : SV X (.For tg iter body [] pos) ρ M Ψ := by
  refine (ps_for (tb := fun E σ H => ∃ ρ M Ψ', BV X body ρ M Ψ' ∧ tS X.K ρ M Ψ' E σ H) hp hc hi hg ⟨fun pins s σ H E I ⟨ρ', M', Ψ', hb, q⟩ => hb.run pins s σ H E I q⟩ hs).mono fun E σ H ⟨G, sa, k⟩ => ⟨G, sa, fun J G1 H1 g1 sh1 jw => ?_⟩
  refine ⟨fun i m σ H => m = ds.length - i ∧ i ≤ ds.length ∧ ∃ G ρ M, Same G1 G ∧ SA X.K G H σ ρ M ∧ Iv i ρ M, ⟨ds.length, by simp, Nat.zero_le _, G1, ρ, M1, Same.refl _, ⟨sh1, sa.sl.up g1⟩, start⟩, ?_⟩
  rintro i m σ2 H2 ⟨rfl, hi, G2, ρ2, M2, g2, sa2, iv⟩
  obtain ⟨j1, j2⟩ := jw i H2 (g2.trans sa2.sh.le)
  by_cases hlt : i < ds.length
  · have hd : ds[i]? = some ds[i] := List.getElem?_eq_getElem hlt
    obtain ⟨go, yl⟩ := j1 _ hd
    refine .inr ⟨go, fun σ3 H3 => ∃ G ρ M, Same G1 G ∧ SA X.K G H3 σ3 ρ M ∧ Iv (i + 1) ρ M, fun σ' H' p' => ⟨ds.length - (i + 1), by omega, rfl, hlt, p'⟩, fun x H' y => ?_⟩
    obtain ⟨e, rx⟩ := yl x H' y
    subst e
    obtain ⟨ρ3, tg3, bv⟩ := step i _ ρ2 M2 hd iv
    refine tg3 x σ2 G2 H' _ sa2.sh.le sa2.sl (rx.up g2) fun σ3 rs3 => ⟨ρ3, M2, _, bv, G2, ⟨sa2.sh, rs3⟩, fun o ho => ?_⟩
    cases o with
    | nx ρ4 M4 => exact fun σ4 G4 H4 g4 sa4 => ⟨G4, ρ4, M4, g2.trans g4, sa4, ho⟩
    | ct ρ4 M4 => exact fun σ4 G4 H4 g4 sa4 => ⟨G4, ρ4, M4, g2.trans g4, sa4, ho⟩
    | bk ρ4 M4 => exact fun σ4 G4 H4 g4 sa4 => k _ ho σ4 G4 H4 ((g1.trans g2).trans g4) sa4
    | ret d4 M4 => exact fun v G4 H4 g4 sh4 r4 => k _ ho v G4 H4 ((g1.trans g2).trans g4) sh4 r4
  · have e : i = ds.length := by omega
    subst e
    exact .inl ⟨j2 (Nat.le_refl _), k _ (done ρ2 M2 iv) σ2 G2 H2 (g1.trans g2) sa2⟩

/-! ### a list comprehension (one clause, no test) -/
def wipeD (ρ : Sl) : List Nat → Sl
  | [] => ρ
  | v :: vs => (wipeD ρ vs).set v none
theorem wipe_rep {G : Hp} {σ : L2.St} (h : RepS K G σ ρ) : ∀ vs, RepS K G (wipe σ vs) (wipeD ρ vs)
  | [] => h
  | v :: vs => (wipe_rep h vs).none v
/-- g stores d in slots that are the block's own -/
def TGb (K : PySem.W.Frag) (g : TG) (vs : List Nat) (ρ : Sl) (d : D) (ρ' : Sl) : Prop := ∀ v σ G H Q, Same G H → RepS K G (wipe σ vs) ρ → Rep K G v d → (∀ σ', RepS K G σ' ρ' → wipe σ' vs = wipe σ vs → Q σ' H) → g v (wipe σ vs) H Q
theorem tgb_name {i : Nat} : TGb K (gName i) [i] ρ d (ρ.set i (some d)) := fun v σ G H Q e h r k => k _ (h.set i r) (by
  show ((wipe σ [i]).set i (some v)).set i none = (wipe σ [i])
  show ((σ.set i none).set i (some v)).set i none = σ.set i none
  rw [List.set_set, List.set_set])
/-- the reading of a list comprehension -/
theorem lc_read {elt tg iter : Expr} {scope : Scope} {own : List (Str × Nat)}
    (f : Nat → D) (m : Nat → Mem) (h0 : m 0 = M1) (hm : ∀ i p, M1 p = none → m i p = none) (hlen : ds.length ≤ sizeLine)
    (step : ∀ i d, ds[i]? = some d → ∃ ρ', TGb X.K g (own.map (·.2)) (wipeD ρ (own.map (·.2))) d ρ' ∧ ∀ (p : Addr) (acc : List D), M1 p = none → ∀ (s : Shared) (H : Hp) (C : Addr) (cl : List (Str × Addr)) (fp : List Addr),
      EV (X.blk s H scope (compEnvC scope cl C X.env) fp) elt ρ' ((m i).set p (.lst acc)) (f i) ((m (i + 1)).set p (.lst acc))) (σ : L2.St) (H : Hp) (Q : VK) (h : tE X.K ρ M (.lst ((List.range ds.length).map f)) (m ds.length) σ H Q) :
    tLc (tI X.K ρ M ds M1) g tYes (fun σ H Q => ∃ ρ' M' d' M'', (∀ (s : Shared) (H : Hp) (C : Addr) (cl : List (Str × Addr)) (fp : List Addr), EV (X.blk s H scope (compEnvC scope cl C X.env) fp) elt ρ' M' d' M'') ∧ tE X.K ρ' M' d' M'' σ H Q) (own.map (·.2)) σ H Q := by
  obtain ⟨G, sa, k⟩ := h
  refine ⟨G, sa, fun J G1 H1 g1 sh1 jw => fun p hp => ?_⟩
  obtain ⟨shp, mp, gp⟩ := sh1.newM hp (RepL.nil (K := X.K) (G := G1))
  refine ⟨fun i mm H => mm = ds.length - i ∧ i ≤ ds.length ∧ ∃ G, Same G1 G ∧ SH X.K G H ((m i).set p (.lst ((List.range i).map f))), ⟨ds.length, by simp, Nat.zero_le _, G1, Same.refl _, by rw [h0]; exact shp⟩, ?_⟩
  rintro i mm H2 ⟨rfl, hi, G2, g2, sh2⟩
  obtain ⟨j1, j2⟩ := jw i H2 (g2.trans sh2.le)
  by_cases hlt : i < ds.length
  · have hd : ds[i]? = some ds[i] := List.getElem?_eq_getElem hlt
    obtain ⟨go, yl⟩ := j1 _ hd
    refine .inr ⟨go, fun H3 => ∃ G, Same G1 G ∧ SH X.K G H3 ((m (i + 1)).set p (.lst ((List.range (i + 1)).map f))), fun H' p' => ⟨ds.length - (i + 1), by omega, rfl, hlt, p'⟩, fun x H' y => ?_⟩
    obtain ⟨e, rx⟩ := yl x H' y
    subst e
    obtain ⟨ρ3, tg3, ev⟩ := step i _ hd
    refine tg3 x σ G2 H' _ sh2.le (wipe_rep ((sa.sl.up g1).up g2) _) (rx.up g2) fun σ3 rs3 hw => ⟨hw, ?_⟩
    show ∃ ρ' M' d' M'', _ ∧ tE X.K ρ' M' d' M'' σ3 H' _
    refine ⟨ρ3, _, _, _, ev p _ mp, G2, ⟨sh2, rs3⟩, fun v G4 H4 g4 sh4 r4 => ?_⟩
    obtain ⟨_, vs, hv, rl⟩ := sh4.mem p _ Mem.set_same
    refine ⟨vs, hv, ?_, G4, g2.trans g4, ?_⟩
    · rw [rl.len, List.length_map, List.length_range]
      exact Nat.lt_of_lt_of_le hlt hlen
    · have q := sh4.put (ds := (List.range i).map f ++ [f i]) Mem.set_same (rl.append (.cons r4 .nil))
      rw [Mem.set_set] at q
      rw [List.range_succ, List.map_append]
      exact q
  · have e : i = ds.length := by omega
    subst e
    obtain ⟨vs, sh3, g3, rl⟩ := sh2.freeze (hm _ p mp)
    exact .inl ⟨j2 (Nat.le_refl _), k _ _ H2 ((g1.trans g2).trans g3) sh3 (.lst (.inl (.inl upd_same)) (rl.up g3))⟩
theorem ev_lc {elt tg iter : Expr} {scope : Scope} {own : List (Str × Nat)} (hc : X.calm = true) (hN : X.N.Nodup) (hi : IV X tg iter ρ M ds M1) (ok : BlkOk X.N X.env.scope scope own)
    (hg : ∀ (s : Shared) (H : Hp) (C : Addr) (cl : List (Str × Addr)) (fp : List Addr), PG (X.blk s H scope (compEnvC scope cl C X.env) fp) tg g)
    (f : Nat → D) (m : Nat → Mem) (h0 : m 0 = M1) (hm : ∀ i p, M1 p = none → m i p = none) (hlen : ds.length ≤ sizeLine)
    (step : ∀ i d, ds[i]? = some d → ∃ ρ', TGb X.K g (own.map (·.2)) (wipeD ρ (own.map (·.2))) d ρ' ∧ ∀ (p : Addr) (acc : List D), M1 p = none → ∀ (s : Shared) (H : Hp) (C : Addr) (cl : List (Str × Addr)) (fp : List Addr),
      EV (X.blk s H scope (compEnvC scope cl C X.env) fp) elt ρ' ((m i).set p (.lst acc)) (f i) ((m (i + 1)).set p (.lst acc)))
    (hs : ∀ x, foldedSetIterable iter X.env x = pure x := by intro _; rfl) : EV X (.ListComp elt [⟨tg, iter, [], 0⟩] scope pos) ρ M (.lst ((List.range ds.length).map f)) (m ds.length) :=
  (pe_lc hc hN hi ok hg (fun _ _ _ _ _ => pts_nil) (fun s H C cl fp => ⟨fun pins s' σ H' Q I ⟨ρ', M', d', M'', hb, q⟩ => (hb s H C cl fp).run pins s' σ H' Q I q⟩) hs).mono (lc_read (tg := tg) (iter := iter) f m h0 hm hlen step)
/-- y = [e for x in ..] -/
theorem sv_setLc (i : Nat) {y : Str} {py : Pos} {elt tg iter : Expr} {scope : Scope} {own : List (Str × Nat)} {spos : Pos} (hc : X.calm = true) (hN : X.N.Nodup) (hy : X.N[i]? = some y) (hl : X.env.scope.names.lookup y = some .local)
    (hw : swapsWith (.ListComp elt [⟨tg, iter, [], 0⟩] scope pos) (some (.Name y py)) spos.line X.env = pure true) (hi : IV X tg iter ρ M ds M1) (ok : BlkOk X.N X.env.scope scope own)
    (hg : ∀ (s : Shared) (H : Hp) (C : Addr) (cl : List (Str × Addr)) (fp : List Addr), PG (X.blk s H scope (compEnvC scope cl C X.env) fp) tg g)
    (f : Nat → D) (m : Nat → Mem) (h0 : m 0 = M1) (hm : ∀ i p, M1 p = none → m i p = none) (hlen : ds.length ≤ sizeLine)
    (step : ∀ i d, ds[i]? = some d → ∃ ρ', TGb X.K g (own.map (·.2)) (wipeD ρ (own.map (·.2))) d ρ' ∧ ∀ (p : Addr) (acc : List D), M1 p = none → ∀ (s : Shared) (H : Hp) (C : Addr) (cl : List (Str × Addr)) (fp : List Addr),
      EV (X.blk s H scope (compEnvC scope cl C X.env) fp) elt ρ' ((m i).set p (.lst acc)) (f i) ((m (i + 1)).set p (.lst acc)))
    (hΨ : Ψ (.nx (ρ.set i (some (.lst ((List.range ds.length).map f)))) (m ds.length))) (hs : ∀ x, foldedSetIterable iter X.env x = pure x := by intro _; rfl) : SV X (.Assign [.Name y py] (.ListComp elt [⟨tg, iter, [], 0⟩] scope pos) spos) ρ M Ψ :=
  (ps_setLc hc hN hy hl hw hi ok hg (fun _ _ _ _ _ => pts_nil) (fun s H C cl fp => ⟨fun pins s' σ H' Q I ⟨ρ', M', d', M'', hb, q⟩ => (hb s H C cl fp).run pins s' σ H' Q I q⟩) hs).mono fun E σ H ⟨G, sa, k⟩ =>
    lc_read (tg := tg) (iter := iter) f m h0 hm hlen step σ H _ ⟨G, sa, fun v G1 H1 g1 sh1 r1 => k _ hΨ _ G1 H1 g1 ⟨sh1, (sa.sl.up g1).set i r1⟩⟩
end
end Vt
namespace Vt
open PySem PySem.Spec PyProof.Rows L2
/-! ### new lists that may be changed -/
def tN (K : PySem.W.Frag) (ρ : Sl) (M : Mem) (ds : List D) (M' : Mem) : TE := fun σ H Q => ∃ G, SA K G H σ ρ M ∧ ∀ p G' H', Same G G' → M' p = none → SH K G' H' (M'.set p (.lst ds)) → Q (.ref p) H'
abbrev EN (X : Cx) (e : Expr) (ρ : Sl) (M : Mem) (ds : List D) (M' : Mem) : Prop := PE X e (tN X.K ρ M ds M')
def spN (K : PySem.W.Frag) (Pr : List D → Mem → List D → Mem → Prop) : Sp := fun vs H Q _ => ∃ G ds M es M', SH K G H M ∧ RepL K G vs ds ∧ Pr ds M es M' ∧ ∀ p G' H', Same G G' → M' p = none → SH K G' H' (M'.set p (.lst es)) → Q (.ref p) H'
theorem Mem.set_comm {M : Mem} {a b : Addr} {o u : MO} (h : a ≠ b) : (M.set a o).set b u = (M.set b u).set a o := by
  funext c
  unfold Mem.set
  by_cases h1 : c = a
  · by_cases h2 : c = b
    · exact absurd (h1.symm.trans h2) h
    · rw [if_neg h2, if_pos h1, if_pos h1]
  · by_cases h2 : c = b
    · rw [if_pos h2, if_neg h1, if_pos h2]
    · rw [if_neg h2, if_neg h1, if_neg h1, if_neg h2]
theorem mle_new {M M' : Mem} {p : Addr} {o : MO} (h : Mle M M') (hp : M p = none) : Mle M (M'.set p o) := fun b u e => by
  rw [Mem.set_ne (fun q => by rw [q, hp] at e; cases e)]
  exact h b u e
/-- what a def that makes a list promises, by its body -/
def FinN (es : List D) (M' : Mem) : Out → Prop
  | .ret d M'' => ∃ p, d = dP p ∧ M' p = none ∧ Mle (M'.set p (.lst es)) M''
  | _ => False
section
variable {X : Cx} {ρ : Sl} {M M1 M2 M3 : Mem} {a b c e : Expr} {es : List Expr} {d d1 d2 : D} {ds : List D} {pos : Pos} {Ψ : Out → Prop}
theorem en_lst (h : AV X es ρ M ds M1) (hl : ds.length ≤ sizeLine := by first | (simp only [List.length_cons, List.length_nil]; decide) | decide) : EN X (.List es pos) ρ M ds M1 :=
  (pe_lst h).mono fun σ H Q ⟨G, sa, k⟩ => ⟨G, sa, fun vs G1 H1 g1 sh1 r1 => ⟨by rw [r1.len]; exact hl, fun p hp => by
    obtain ⟨sh2, mp, gp⟩ := sh1.newM hp r1
    exact k p _ _ g1 mp sh2⟩⟩
theorem en_listRg {n : Int} {p p2 pos2 : Pos} (hc : X.calm = true) (hm : X.mg "list" = none) (hm2 : X.mg "range" = none) (h : EV X e ρ M (dI n) M1) (hn : 0 ≤ n ∧ n ≤ 16777216) (hg : Gl X "list" := by rfl) (hg2 : Gl X "range" := by rfl)
    (n1 : starEach [e] X.env = (false, eval e X.env) :: starEach [] X.env := by rfl)
    (n2 : starEach [.Call (.Name "range" p2) [e] [] pos2] X.env = (false, eval (.Call (.Name "range" p2) [e] [] pos2) X.env) :: starEach [] X.env := by rfl) : EN X (.Call (.Name "list" p) [.Call (.Name "range" p2) [e] [] pos2] [] pos) ρ M (rgD 0 n.toNat) M1 :=
  (pe_listRg hc hg hm (prg_1 hg2 hm2 h n1) n2).mono fun σ H Q ⟨G, sa, k⟩ => ⟨G, sa, fun v G1 H1 g1 sh1 r1 => ⟨n, r1.of_val, RgOk.of_le (by omega) hn.2 (by omega) hn.1, fun p hp => by
    have r : RepL X.K G1 (rgV 0 n) (rgD 0 n.toNat) := by
      have q := RepL.vals (K := X.K) (G := G1) (rgV 0 n)
      have e : (rgV 0 n).map D.val = rgD 0 n.toNat := by
        unfold rgV rgD
        rw [List.map_map, Int.sub_zero]
        rfl
      rw [e] at q
      exact q
    obtain ⟨sh2, mp, gp⟩ := sh1.newM hp r
    exact k p _ _ g1 mp sh2⟩⟩
theorem sv_setN (i : Nat) {x : Str} {pos' : Pos} (hN : X.N.Nodup) (he : EN X e ρ M ds M1) (hΨ : ∀ p, M1 p = none → Ψ (.nx (ρ.set i (some (dP p))) (M1.set p (.lst ds)))) (hi : X.N[i]? = some x := by rfl) (hx : L2.Loc X.env.scope x := by first | exact Or.inl rfl | exact Or.inr rfl)
    (hs : swapsWith e (some (.Name x pos')) pos.line X.env = pure false := by rfl) (hf : X.fn x = true ∨ X.env.scope.names.lookup x = some .local := by first | exact .inl rfl | exact .inr rfl) : SV X (.Assign [.Name x pos'] e pos) ρ M Ψ :=
  (ps_set hN hi hx he hs hf).mono fun E σ H ⟨G, sa, k⟩ => ⟨G, sa, fun p G1 H1 g1 mp sh1 => k _ (hΨ p mp) _ G1 H1 g1 ⟨sh1, (sa.sl.up g1).set i (.val _)⟩⟩
theorem sv_retNew (he : EN X e ρ M ds M1) (hΨ : ∀ p, M1 p = none → Ψ (.ret (dP p) (M1.set p (.lst ds)))) : SV X (.Return (some e) pos) ρ M Ψ :=
  (ps_ret he).mono fun E σ H ⟨G, sa, k⟩ => ⟨G, sa, fun p G1 H1 g1 mp sh1 => k _ (hΨ p mp) _ G1 H1 g1 sh1 (.val _)⟩
theorem en_call {k : Nat} {x : Str} {Pr : List D → Mem → List D → Mem → Prop} {es' : List D} {p : Pos} (C : Cal X.prog X.w X.K X.mg X.base k x (spN X.K Pr)) (hr : Room k X.A) (ha : AV X (e :: es) ρ M ds M1) (hp : Pr ds M1 es' M2) (hg : Gl X x := by rfl)
    (hd : (x == ("__debug__" : Str)) = false := by decide) (hst : starEach (e :: es) X.env = (false, eval e X.env) :: starEach es X.env := by rfl) (hpl : (backTo pos (starEach es X.env)).any (·.1) = false := by rfl) : EN X (.Call (.Name x p) (e :: es) [] pos) ρ M es' M2 := by
  obtain ⟨f, fd, ps, hm, hk, hb, F⟩ := C.ex
  refine (pe_call F hr hg hm hk hb .nil pass0 ha (hdb := hd) (he := hst) (hpl := hpl)).mono fun σ H Q ⟨G, sa, k⟩ => ⟨G, sa, fun vs G1 H1 g1 sh1 r1 => ?_⟩
  show spN X.K Pr (vs ++ []) H1 Q E0
  rw [List.append_nil]
  exact ⟨G1, ds, M1, es', M2, sh1, r1, hp, fun q G' H' g mq sh => k q G' H' (g1.trans g) mq sh⟩
theorem calN_of {P : Program} {w : World} {K : PySem.W.Frag} {mg : Str → Option Value} {base : Heap} {x qual : Str} {sd : Stmt} {f : Addr} {fd : FuncData} {N ps : List Str} {k : Nat} {Pr : List D → Mem → List D → Mem → Prop} (F : Fun K x qual sd f fd) (S : FnScope N ps (defScope sd)) (hm : mg x = some (.ref f))
    (hbind : ∀ (kV doc pm : Value) (an : Option Addr) (cdv ct : Value) (us : List Value), us.length = ps.length → bindArgs (PySem.W.fnOf x qual (defArgs sd) (defBody sd) (defScope sd) .none kV doc pm an cdv ct) ⟨us, []⟩ = pure (ps.zip us))
    (len : ∀ ds M es M', Pr ds M es M' → ds.length = ps.length)
    (hb : ∀ (cdv : Value) (A : Around) (outer : List Env) (s : Shared) (H : Hp) (E : XK) (ds : List D) (M : Mem) (es : List D) (M' : Mem), Room k (A.deeper (envOfC qual (defScope sd) s.heap.objs.size f cdv)) → Pr ds M es M' →
      BV (cxOf CX0 P w K mg base N qual (defScope sd) f cdv A outer s H E).nox (defBody sd) (startD N ds) M (FinN es M')) : Cal P w K mg base (k + 1) x (spN K Pr) := by
  refine ⟨f, fd, ps, hm, F.kp, F.binds hbind, F.ok S (fun vs H Q E ⟨G, ds, M, es, M', sh, r, p, q⟩ => by rw [r.len]; exact len _ _ _ _ p) fun cdv A outer s H vs Q E hr ⟨G, ds, M, es, M', sh, r, p, q⟩ => ?_⟩
  refine ⟨_, hb cdv A outer s H E ds M es M' hr p, G, ⟨sh, start_rep r⟩, fun o ho => ?_⟩
  cases o with
  | ret d' M'' =>
    obtain ⟨p, rfl, mp, hm⟩ := ho
    exact fun v G' H' g sh' r' => by
      rw [r'.of_val]
      exact q p G' H' g mp (sh'.weak hm)
  | nx ρ M'' => exact ho.elim
  | bk _ _ => exact ho.elim
  | ct _ _ => exact ho.elim
/-- [F(x) for x in ..] that changes nothing -/
theorem range_getD {α β : Type} (x0 : α) (g : α → β) : ∀ (xs : List α), (List.range xs.length).map (fun i => g (xs.getD i x0)) = xs.map g := fun xs => by
  apply List.ext_getElem?
  intro i
  rw [List.getElem?_map, List.getElem?_map]
  rcases Nat.lt_or_ge i xs.length with h | h
  · rw [List.getElem?_range h, List.getElem?_eq_getElem h]
    show some (g (xs.getD i x0)) = some (g xs[i])
    rw [List.getD_eq_getElem?_getD, List.getElem?_eq_getElem h]
    rfl
  · rw [List.getElem?_eq_none (by simpa using h), List.getElem?_eq_none h]
    rfl
theorem getD_of {α : Type} {xs : List α} {i : Nat} {x x0 : α} (h : xs[i]? = some x) : xs.getD i x0 = x := by
  rw [List.getD_eq_getElem?_getD, h]
  rfl
theorem ev_lcM {elt tg iter : Expr} {scope : Scope} {own : List (Str × Nat)} {g : TG} (hc : X.calm = true) (hN : X.N.Nodup) (hi : IV X tg iter ρ M ds M1) (ok : BlkOk X.N X.env.scope scope own)
    (hg : ∀ (s : Shared) (H : Hp) (C : Addr) (cl : List (Str × Addr)) (fp : List Addr), PG (X.blk s H scope (compEnvC scope cl C X.env) fp) tg g) (F : D → D) (hlen : ds.length ≤ sizeLine)
    (step : ∀ (i : Nat) d, ds[i]? = some d → ∃ ρ', TGb X.K g (own.map (·.2)) (wipeD ρ (own.map (·.2))) d ρ' ∧ ∀ (M2 : Mem), ∀ (s : Shared) (H : Hp) (C : Addr) (cl : List (Str × Addr)) (fp : List Addr), EV (X.blk s H scope (compEnvC scope cl C X.env) fp) elt ρ' M2 (F d) M2)
    (hs : ∀ x, foldedSetIterable iter X.env x = pure x := by intro _; rfl) : EV X (.ListComp elt [⟨tg, iter, [], 0⟩] scope pos) ρ M (.lst (ds.map F)) M1 := by
  have q := ev_lc (f := fun i => F (ds.getD i dN)) (m := fun _ => M1) (pos := pos) hc hN hi ok hg rfl (fun _ _ h => h) hlen (fun i d h => by
    obtain ⟨ρ', h1, h2⟩ := step i d h
    refine ⟨ρ', h1, fun p acc _ s H C cl fp => ?_⟩
    show EV _ elt ρ' _ (F (ds.getD i dN)) _
    rw [getD_of h]
    exact h2 _ s H C cl fp) hs
  rw [range_getD dN F ds] at q
  exact q
end
end Vt
namespace Vt
open PySem PySem.Spec PyProof.Rows L2
/-! ### == and != of equal trees -/
mutual
def D.py : D → PyData
  | .val .non => .none
  | .val (.bl b) => .bool b
  | .val (.int i) => .int i
  | .val (.str x) => .str x
  | .val _ => .none
  | .tup ds => .tuple (D.pyL ds)
  | .lst ds => .list (D.pyL ds)
  | .dic => .none
def D.pyL : List D → List PyData
  | [] => []
  | d :: ds => D.py d :: D.pyL ds
end

mutual
def D.plain : D → Bool
  | .val .non => true
  | .val (.bl _) => true
  | .val (.int _) => true
  | .val (.str _) => true
  | .val _ => false
  | .tup ds => D.plainL ds
  | .lst ds => D.plainL ds
  | .dic => false
def D.plainL : List D → Bool
  | [] => true
  | d :: ds => D.plain d && D.plainL ds
end
section
variable {K : PySem.W.Frag} {G H : Hp}
mutual
theorem dp_of (e : Same G H) : ∀ (v : V) (d : D), D.plain d = true → Rep K G v d → Dp K H v (D.py d)
  | v, .val u, hp, r => by
    have q := r.of_val
    subst q
    cases v with
    | non => exact .non
    | bl b => exact .bl b
    | int i => exact .int i
    | str x => exact .str x
    | _ => cases hp
  | _, .tup ds, hp, .tup q r => .tup (sqtUp e q) (dpL_of e _ ds hp r)
  | _, .lst ds, hp, .lst q r => .lst (sqlUp e q) (dpL_of e _ ds hp r)
  | _, .dic, hp, _ => nomatch hp
theorem dpL_of (e : Same G H) : ∀ (vs : List V) (ds : List D), D.plainL ds = true → RepL K G vs ds → DpAll K H vs (D.pyL ds)
  | _, [], _, .nil => .nil
  | _, d :: ds, hp, .cons h t => by
    have q := (Bool.and_eq_true_iff.mp hp)
    exact .cons (dp_of e _ d q.1 h) (dpL_of e _ ds q.2 t)
end
end
section
variable {X : Cx} {ρ : Sl} {M M1 M2 M3 : Mem} {a b c e : Expr} {es : List Expr} {d d1 d2 : D} {ds : List D} {pos : Pos} {Ψ : Out → Prop}
theorem shaped_eqv {p : PyData} (h : SeqAt.shaped p = true) : PyData.eqv p p = true := SeqAt.eqv_refl p (SeqAt.canLay_of_shaped h)
theorem ev_eqD (hu : X.A.units + 64 < cLine) (ha : EV X a ρ M d1 M1) (hb : EV X b ρ M1 d2 M2) (p1 : D.plain d1 = true) (p2 : D.plain d2 = true) (s1 : SeqAt.shaped d1.py = true) (s2 : SeqAt.shaped d2.py = true) (hm : behindInMarks .Eq b = false) :
    EV X (.Compare a [.Eq] [b] pos) ρ M (dB (PyData.eqv d1.py d2.py)) M2 :=
  (pe_cmpR (op_eqD hu) ha hb hm).mono fun σ H Q ⟨G, sa, k⟩ => ⟨G, sa, fun v1 G1 H1 g1 sh1 r1 => ⟨G1, ⟨sh1, sa.sl.up g1⟩, fun v2 G2 H2 g2 sh2 r2 =>
    ⟨_, _, dp_of sh2.le _ _ p1 (r1.up g2), dp_of sh2.le _ _ p2 r2, s1, s2, k _ G2 H2 (g1.trans g2) sh2 (.val _)⟩⟩⟩
theorem tv_eqD (hu : X.A.units + 64 < cLine) (ha : EV X a ρ M d1 M1) (hb : EV X b ρ M1 d2 M2) (p1 : D.plain d1 = true) (p2 : D.plain d2 = true) (s1 : SeqAt.shaped d1.py = true) (s2 : SeqAt.shaped d2.py = true) (hm : behindInMarks .Eq b = false) :
    TV X (.Compare a [.Eq] [b] pos) ρ M (PyData.eqv d1.py d2.py) M2 :=
  (pt_cmpR (op_eqD hu) ha hb hm).mono fun σ H Q ⟨G, sa, k⟩ => ⟨G, sa, fun v1 G1 H1 g1 sh1 r1 => ⟨G1, ⟨sh1, sa.sl.up g1⟩, fun v2 G2 H2 g2 sh2 r2 =>
    ⟨_, _, dp_of sh2.le _ _ p1 (r1.up g2), dp_of sh2.le _ _ p2 r2, s1, s2, _, rfl, k G2 H2 (g1.trans g2) sh2⟩⟩⟩
theorem ev_neD (hu : X.A.units + 64 < cLine) (ha : EV X a ρ M d1 M1) (hb : EV X b ρ M1 d2 M2) (p1 : D.plain d1 = true) (p2 : D.plain d2 = true) (s1 : SeqAt.shaped d1.py = true) (s2 : SeqAt.shaped d2.py = true) (hm : behindInMarks .NotEq b = false) :
    EV X (.Compare a [.NotEq] [b] pos) ρ M (dB (!PyData.eqv d1.py d2.py)) M2 :=
  (pe_cmpR (op_neD hu) ha hb hm).mono fun σ H Q ⟨G, sa, k⟩ => ⟨G, sa, fun v1 G1 H1 g1 sh1 r1 => ⟨G1, ⟨sh1, sa.sl.up g1⟩, fun v2 G2 H2 g2 sh2 r2 =>
    ⟨_, _, dp_of sh2.le _ _ p1 (r1.up g2), dp_of sh2.le _ _ p2 r2, s1, s2, k _ G2 H2 (g1.trans g2) sh2 (.val _)⟩⟩⟩
theorem tv_neD (hu : X.A.units + 64 < cLine) (ha : EV X a ρ M d1 M1) (hb : EV X b ρ M1 d2 M2) (p1 : D.plain d1 = true) (p2 : D.plain d2 = true) (s1 : SeqAt.shaped d1.py = true) (s2 : SeqAt.shaped d2.py = true) (hm : behindInMarks .NotEq b = false) :
    TV X (.Compare a [.NotEq] [b] pos) ρ M (!PyData.eqv d1.py d2.py) M2 :=
  (pt_cmpR (op_neD hu) ha hb hm).mono fun σ H Q ⟨G, sa, k⟩ => ⟨G, sa, fun v1 G1 H1 g1 sh1 r1 => ⟨G1, ⟨sh1, sa.sl.up g1⟩, fun v2 G2 H2 g2 sh2 r2 =>
    ⟨_, _, dp_of sh2.le _ _ p1 (r1.up g2), dp_of sh2.le _ _ p2 r2, s1, s2, _, rfl, k G2 H2 (g1.trans g2) sh2⟩⟩⟩
/-- of one tree: != is false -/
theorem tv_neSame (hu : X.A.units + 64 < cLine) (ha : EV X a ρ M d M1) (hb : EV X b ρ M1 d M2) (p1 : D.plain d = true) (s1 : SeqAt.shaped d.py = true) (hm : behindInMarks .NotEq b = false) : TV X (.Compare a [.NotEq] [b] pos) ρ M false M2 := by
  have q := tv_neD (pos := pos) hu ha hb p1 p1 s1 s1 hm
  rw [shaped_eqv s1] at q
  exact q
theorem tv_eqSame (hu : X.A.units + 64 < cLine) (ha : EV X a ρ M d M1) (hb : EV X b ρ M1 d M2) (p1 : D.plain d = true) (s1 : SeqAt.shaped d.py = true) (hm : behindInMarks .Eq b = false) : TV X (.Compare a [.Eq] [b] pos) ρ M true M2 := by
  have q := tv_eqD (pos := pos) hu ha hb p1 p1 s1 s1 hm
  rw [shaped_eqv s1] at q
  exact q

/-! ### values that are known by what they meet alone -/
def tW (K : PySem.W.Frag) (ρ : Sl) (M : Mem) (Φ : D → Mem → Prop) : TE := fun σ H Q => ∃ G, SA K G H σ ρ M ∧ ∀ v G' H' d M', Φ d M' → Same G G' → SH K G' H' M' → Rep K G' v d → Q v H'
abbrev EW (X : Cx) (e : Expr) (ρ : Sl) (M : Mem) (Φ : D → Mem → Prop) : Prop := PE X e (tW X.K ρ M Φ)
def spW (K : PySem.W.Frag) (R : List D → Mem → (D → Mem → Prop) → Prop) : Sp := fun vs H Q _ => ∃ G ds M Φ, SH K G H M ∧ RepL K G vs ds ∧ R ds M Φ ∧ ∀ v G' H' d M', Φ d M' → Same G G' → SH K G' H' M' → Rep K G' v d → Q v H'
variable {Φ Φ' : D → Mem → Prop}
theorem ew_ev (h : EV X e ρ M d M1) (q : Φ d M1) : EW X e ρ M Φ := h.mono fun σ H Q ⟨G, sa, k⟩ => ⟨G, sa, fun v G1 H1 g1 sh1 r1 => k v G1 H1 d M1 q g1 sh1 r1⟩
theorem ew_to (h : EW X e ρ M Φ) (q : ∀ d M, Φ d M → Φ' d M) : EW X e ρ M Φ' := h.mono fun σ H Q ⟨G, sa, k⟩ => ⟨G, sa, fun v G1 H1 d M1 p => k v G1 H1 d M1 (q _ _ p)⟩
theorem ew_call {k : Nat} {x : Str} {R : List D → Mem → (D → Mem → Prop) → Prop} {p : Pos} (C : Cal X.prog X.w X.K X.mg X.base k x (spW X.K R)) (hr : Room k X.A) (ha : AV X (e :: es) ρ M ds M1) (hp : R ds M1 Φ) (hg : Gl X x := by rfl)
    (hd : (x == ("__debug__" : Str)) = false := by decide) (hst : starEach (e :: es) X.env = (false, eval e X.env) :: starEach es X.env := by rfl) (hpl : (backTo pos (starEach es X.env)).any (·.1) = false := by rfl) : EW X (.Call (.Name x p) (e :: es) [] pos) ρ M Φ := by
  obtain ⟨f, fd, ps, hm, hk, hb, F⟩ := C.ex
  refine (pe_call F hr hg hm hk hb .nil pass0 ha (hdb := hd) (he := hst) (hpl := hpl)).mono fun σ H Q ⟨G, sa, k⟩ => ⟨G, sa, fun vs G1 H1 g1 sh1 r1 => ?_⟩
  show spW X.K R (vs ++ []) H1 Q E0
  rw [List.append_nil]
  exact ⟨G1, ds, M1, Φ, sh1, r1, hp, fun v G' H' d M' q g sh r => k v G' H' d M' q (g1.trans g) sh r⟩
/-- x = e -/
theorem sv_setW (i : Nat) {x : Str} {pos' : Pos} (hN : X.N.Nodup) (he : EW X e ρ M Φ) (hΨ : ∀ d M1, Φ d M1 → Ψ (.nx (ρ.set i (some d)) M1)) (hi : X.N[i]? = some x := by rfl) (hx : L2.Loc X.env.scope x := by first | exact Or.inl rfl | exact Or.inr rfl) (hs : swapsWith e (some (.Name x pos')) pos.line X.env = pure false := by rfl)
    (hf : X.fn x = true ∨ X.env.scope.names.lookup x = some .local := by first | exact .inl rfl | exact .inr rfl) : SV X (.Assign [.Name x pos'] e pos) ρ M Ψ :=
  (ps_set hN hi hx he hs hf).mono fun E σ H ⟨G, sa, k⟩ => ⟨G, sa, fun v G1 H1 d M1 p g1 sh1 r1 => k _ (hΨ d M1 p) _ G1 H1 g1 ⟨sh1, (sa.sl.up g1).set i r1⟩⟩
theorem sv_retW (he : EW X e ρ M Φ) (hΨ : ∀ d M1, Φ d M1 → Ψ (.ret d M1)) : SV X (.Return (some e) pos) ρ M Ψ :=
  (ps_ret he).mono fun E σ H ⟨G, sa, k⟩ => ⟨G, sa, fun v G1 H1 d M1 p g1 sh1 r1 => k _ (hΨ d M1 p) v G1 H1 g1 sh1 r1⟩
/-- target = e -/
theorem sv_asgW {tg : Expr} {g : TG} (he : EW X e ρ M Φ) (hg : PG X tg g) (ht : ∀ d M1, Φ d M1 → ∃ ρ', TG1 X.K g ρ d ρ' ∧ Ψ (.nx ρ' M1)) (hs : swapsWithSole [tg] e pos.line X.env = pure false := by rfl) (hw : swappedStores [tg] e X.env = pure none := by rfl)
    (h1 : (assignEach [tg] X.env).map (·.2) = [assign tg X.env] := by rfl) : SV X (.Assign [tg] e pos) ρ M Ψ :=
  (ps_asg he hg hs hw h1).mono fun E σ H ⟨G, sa, k⟩ => ⟨G, sa, fun v G1 H1 d M1 p g1 sh1 r1 => by
    obtain ⟨ρ', t, q⟩ := ht d M1 p
    exact t v σ G1 H1 _ sh1.le (sa.sl.up g1) r1 fun σ' h' => k _ q σ' G1 H1 g1 ⟨sh1, h'⟩⟩
/-- a and b, a true -/
theorem ew_and {rest : List Expr} {Φ1 : Mem → Prop} (ha : EW X a ρ M (fun d M1 => d = dB true ∧ Φ1 M1)) (hb : ∀ M1, Φ1 M1 → EW X (.BoolOp .And (b :: rest) pos) ρ M1 Φ) : EW X (.BoolOp .And (a :: b :: rest) pos) ρ M Φ :=
  (pe_and (tb := fun σ H Q => ∃ M1, EW X (.BoolOp .And (b :: rest) pos) ρ M1 Φ ∧ tW X.K ρ M1 Φ σ H Q) ha ⟨fun pins s σ H Q I ⟨M1, hb, q⟩ => hb.run pins s σ H Q I q⟩).mono fun σ H Q ⟨G, sa, k⟩ => ⟨G, sa, fun v1 G1 H1 d M1 ⟨e, p⟩ g1 sh1 r1 => by
    subst e
    refine ⟨true, r1.of_val, ?_⟩
    show ∃ M1, EW X (.BoolOp .And (b :: rest) pos) ρ M1 Φ ∧ tW X.K ρ M1 Φ σ H1 Q
    exact ⟨M1, hb M1 p, G1, ⟨sh1, sa.sl.up g1⟩, fun v G2 H2 d2 M2 p2 g2 sh2 r2 => k v G2 H2 d2 M2 p2 (g1.trans g2) sh2 r2⟩⟩
theorem ew_one {op} (h : EW X e ρ M Φ) : EW X (.BoolOp op [e] pos) ρ M Φ := pe_one h
/-- a test of such a value: if e: as else: bs -/
theorem sv_ifW {as bs : List Stmt} (hc : EW X c ρ M Φ) (h : ∀ d M1, Φ d M1 → ∃ p, d = dB p ∧ (p = true → BV X as ρ M1 Ψ) ∧ (p = false → BV X bs ρ M1 Ψ)) (he : ∀ whole, isTrue c X.env whole = (do let v ← whole; standAt c.pos; holding [v] (truthy v)) := by intro _; rfl) : SV X (.If c as bs pos) ρ M Ψ :=
  (ps_if (t := fun E σ H => ∃ M1, BV X as ρ M1 Ψ ∧ tS X.K ρ M1 Ψ E σ H) (u := fun E σ H => ∃ M1, BV X bs ρ M1 Ψ ∧ tS X.K ρ M1 Ψ E σ H) (pt_val hc he) ⟨fun pins s σ H E I ⟨M1, hb, q⟩ => hb.run pins s σ H E I q⟩ ⟨fun pins s σ H E I ⟨M1, hb, q⟩ => hb.run pins s σ H E I q⟩).mono
    fun E σ H ⟨G, sa, k⟩ => ⟨G, sa, fun v G1 H1 d M1 p g1 sh1 r1 => by
      obtain ⟨b, rfl, h1, h2⟩ := h d M1 p
      refine ⟨b, r1.of_val, ?_⟩
      cases b with
      | true => exact ⟨M1, h1 rfl, G1, ⟨sh1, sa.sl.up g1⟩, fun o ho => (k o ho).up g1⟩
      | false => exact ⟨M1, h2 rfl, G1, ⟨sh1, sa.sl.up g1⟩, fun o ho => (k o ho).up g1⟩⟩
def FinW (Φ : D → Mem → Prop) : Out → Prop
  | .ret d M'' => ∃ M', Φ d M' ∧ Mle M' M''
  | .nx _ M'' => ∃ M', Φ dN M' ∧ Mle M' M''
  | _ => False
theorem calW_of {P : Program} {w : World} {K : PySem.W.Frag} {mg : Str → Option Value} {base : Heap} {x qual : Str} {sd : Stmt} {f : Addr} {fd : FuncData} {N ps : List Str} {k : Nat} {R : List D → Mem → (D → Mem → Prop) → Prop} (F : Fun K x qual sd f fd) (S : FnScope N ps (defScope sd)) (hm : mg x = some (.ref f))
    (hbind : ∀ (kV doc pm : Value) (an : Option Addr) (cdv ct : Value) (us : List Value), us.length = ps.length → bindArgs (PySem.W.fnOf x qual (defArgs sd) (defBody sd) (defScope sd) .none kV doc pm an cdv ct) ⟨us, []⟩ = pure (ps.zip us))
    (len : ∀ ds M Φ, R ds M Φ → ds.length = ps.length)
    (hb : ∀ (cdv : Value) (A : Around) (outer : List Env) (s : Shared) (H : Hp) (E : XK) (ds : List D) (M : Mem) (Φ : D → Mem → Prop), Room k (A.deeper (envOfC qual (defScope sd) s.heap.objs.size f cdv)) → R ds M Φ →
      BV (cxOf CX0 P w K mg base N qual (defScope sd) f cdv A outer s H E).nox (defBody sd) (startD N ds) M (FinW Φ)) : Cal P w K mg base (k + 1) x (spW K R) := by
  refine ⟨f, fd, ps, hm, F.kp, F.binds hbind, F.ok S (fun vs H Q E ⟨G, ds, M, Φ, sh, r, p, q⟩ => by rw [r.len]; exact len _ _ _ p) fun cdv A outer s H vs Q E hr ⟨G, ds, M, Φ, sh, r, p, q⟩ => ?_⟩
  refine ⟨_, hb cdv A outer s H E ds M Φ hr p, G, ⟨sh, start_rep r⟩, fun o ho => ?_⟩
  cases o with
  | ret d' M'' =>
    obtain ⟨M', hp, hm⟩ := ho
    exact fun v G' H' g sh' r' => q v G' H' d' M' hp g (sh'.weak hm) r'
  | nx ρ M'' =>
    obtain ⟨M', hp, hm⟩ := ho
    exact fun σ' G' H' g sa' => q .non G' H' dN M' hp g (sa'.sh.weak hm) (.val _)
  | bk _ _ => exact ho.elim
  | ct _ _ => exact ho.elim
/-- the law's own promise: of a list of at most 63 ints it hands back True -/
def spLaw (K : PySem.W.Frag) : Sp := fun vs H Q _ => ∃ (a : Addr) (ns : List Int), vs = [.ref a] ∧ SqL K H a (ns.map V.int) ∧ ns.length ≤ 63 ∧ ∀ H', Q (.bl true) H'
def FinL : Out → Prop
  | .ret d _ => d = dB true
  | _ => False
theorem law_of {P : Program} {w : World} {K : PySem.W.Frag} {mg : Str → Option Value} {base : Heap} {sd : Stmt} {f : Addr} {fd : FuncData} {N : List Str} {k : Nat} (F : Fun K "law" "law" sd f fd) (S : FnScope N ["script"] (defScope sd))
    (hb : ∀ (cdv : Value) (A : Around) (outer : List Env) (s : Shared) (H : Hp) (E : XK) (ns : List Int), Room k (A.deeper (envOfC "law" (defScope sd) s.heap.objs.size f cdv)) → ns.length ≤ 63 →
      BV (cxOf CX0 P w K mg base N "law" (defScope sd) f cdv A outer s H E).nox (defBody sd) (startD N [.lst (ns.map dI)]) (fun _ => none) FinL) : FnOk P w K mg base CX0 (k + 1) f fd ["script"] (spLaw K) := by
  refine F.ok S (fun vs H Q E ⟨a, ns, e, _⟩ => by rw [e]; rfl) fun cdv A outer s H vs Q E hr ⟨a, ns, e, hs, hl, q⟩ => ?_
  subst e
  have r : RepL K H [V.ref a] [.lst (ns.map dI)] := by
    refine .cons (.lst hs ?_) .nil
    have e := RepL.vals (K := K) (G := H) (ns.map V.int)
    rw [List.map_map] at e
    exact e
  refine ⟨_, hb cdv A outer s H E ns hr hl, H, ⟨⟨Same.refl _, fun b mo e => by cases e⟩, start_rep r⟩, fun o ho => ?_⟩
  cases o with
  | ret d M'' =>
    have e : d = dB true := ho
    subst e
    exact fun v G' H' g sh' r' => by
      rw [r'.of_val]
      exact q H'
  | nx ρ M'' => exact ho.elim
  | bk _ _ => exact ho.elim
  | ct _ _ => exact ho.elim
theorem walk {l : PySem.W.OpenLaw} {q : Program} {loose : List Str} {XP : (Str → Option Value) → Heap → Prop} {YP : World → Heap → Prop} {d : DefRec} {K : Params → PySem.W.Frag} {k : Nat} (hk : Room k callerA) (hn : l.most = some 63) (hdf : d.params.defaults = [])
    (hY : ∀ (w : World) (h : Heap), YP w h → (K w.params).In h)
    (F : ∀ (w : World) (mg : Str → Option Value) (fa : Addr) (h : Heap), (K w.params).In h → h.Ns mainGlobals mg → mg d.name = some (.ref fa) →
      ∃ fd : FuncData, (∀ (s : Shared) (u : Value), BindsTo s fd ⟨[u], []⟩ [("script", u)]) ∧ ∀ base : Heap, (K w.params).In base → base.Ns mainGlobals mg → FnOk l.prog w (K w.params) mg base CX0 k fa fd ["script"] (spLaw (K w.params))) :
    PySem.W.WalkO q loose XP YP l.row.toRowW d [] (fun f vs => PySem.call f vs) :=
  L2.walk_of (n := 63) (k := k) (x := "script") (CX := fun _ => CX0) (sp := fun w => spLaw (K w.params)) hn (by decide) hdf hk hY F (fun _ _ a ns hl _ hS => ⟨a, ns, rfl, hS, hl, fun _ => rfl⟩) fun _ _ _ _ _ z => z
end
end Vt
namespace Vt
open PySem PySem.Spec PyProof.Rows L2
/-! ### sorted of pairs of ints -/
def kOf (h : Heap) : Value → Int × Int
  | .ref t => match h.get? t with
    | some o => match o.data with
      | .seq arr _ => match arr.toList with
        | [.int i _, .int j _] => (i, j)
        | _ => (0, 0)
      | _ => (0, 0)
    | none => (0, 0)
  | _ => (0, 0)
def IsPr (K : PySem.W.Frag) (H : Hp) (x : V) (pr : Int × Int) : Prop := ∃ t, x = V.ref t ∧ SqT K H t [.int pr.1, .int pr.2]
def rSq (K : PySem.W.Frag) : List V → Hp → VK → Prop := fun vs H Q => ∃ (a : Addr) (xs : List V) (prs : List (Int × Int)) (G : Hp), vs = [V.ref a] ∧ SqL K H a xs ∧ Same G H ∧ Paired (IsPr K G) xs prs ∧
  ∀ ys qs p, Paired (IsPr K G) ys qs → qs.Perm prs → qs.Pairwise (fun a b => SrtO.lexB b a = false) → H p = none → Q (.ref p) (upd H p (.lst ys))
section
variable {X : Cx} {pins : List (Addr × Obj)} {s : Shared} {σ : L2.St} {G H : Hp}
theorem pr_val (I : Inv X pins σ H s) (g : Same G H) {x : V} {pr : Int × Int} {u : Value} (h : IsPr X.K G x pr) (r : RelV x u) : kOf s.heap u = pr ∧ Srt.IsPair s.heap u pr.1 pr.2 ∧ ∃ t, u = Value.ref t ∧ x = V.ref t := by
  obtain ⟨t, rfl, q⟩ := h
  obtain rfl : u = Value.ref t := r
  obtain ⟨its, rv, ⟨o, ho, hc, n, hd⟩, _⟩ := I.tuple (sqtUp g q)
  obtain ⟨u1, u2, rfl, ri, rj⟩ := vals2 rv
  obtain ⟨t1, rfl⟩ := ri
  obtain ⟨t2, rfl⟩ := rj
  refine ⟨?_, ⟨t, o, t1, t2, n, rfl, ho, hc, hd⟩, t, rfl, rfl⟩
  unfold kOf
  simp only [ho, hd]
theorem prs_val (I : Inv X pins σ H s) (g : Same G H) : ∀ {xs : List V} {prs : List (Int × Int)} {us : List Value}, Paired (IsPr X.K G) xs prs → Vals xs us →
    us.map (kOf s.heap) = prs ∧ ∀ u ∈ us, Srt.IsPair s.heap u (kOf s.heap u).1 (kOf s.heap u).2 ∧ ∃ t, u = Value.ref t ∧ IsPr X.K G (.ref t) (kOf s.heap u)
  | _, _, _, .nil, .nil => ⟨rfl, fun u hu => absurd hu (by simp)⟩
  | _, _, _, .cons h t, .cons r rr => by
    obtain ⟨e1, e2⟩ := prs_val I g t rr
    obtain ⟨k1, k2, t', k3, k4⟩ := pr_val I g h r
    refine ⟨by rw [List.map_cons, k1, e1], fun u hu => ?_⟩
    rcases List.mem_cons.mp hu with e | hu
    · subst e
      rw [k1]
      refine ⟨k2, t', k3, ?_⟩
      rw [← k4]
      exact h
    · exact e2 u hu
theorem paired_map {α β γ : Type} {F : β → γ → Prop} {f : α → β} {g : α → γ} : ∀ (l : List α), (∀ x ∈ l, F (f x) (g x)) → Paired F (l.map f) (l.map g)
  | [], _ => .nil
  | x :: l, h => .cons (h x List.mem_cons_self) (paired_map l fun y hy => h y (List.mem_cons_of_mem _ hy))
theorem cr_sq : CallR X (.builtin "sorted") (rSq X.K) := by
  intro pins s σ H vs us Q I r h
  obtain ⟨a, xs, prs, G, rfl, hs, g, hp, q⟩ := h
  obtain ⟨its, rv, hl, hz⟩ := I.list hs
  obtain ⟨u, rfl, ru⟩ := vals1 r
  obtain rfl : u = Value.ref a := ru
  obtain ⟨e1, e2⟩ := prs_val I g hp rv
  have hzz : its.length ≤ sizeLine := by
    have := rv.length
    omega
  refine SrtO.sorted_pairsO (k := kOf s.heap) hl.isList hzz (fun v hv => (e2 v hv).1) fun h' d out h1 h2 kp hd hn => ?_
  obtain ⟨n, hn⟩ := hn
  have hmem : ∀ u ∈ out, u ∈ its := fun u hu => h2.perm.mem_iff.mp hu
  have hv : Vals (out.map backV) out := by
    have : ∀ l : List Value, (∀ u ∈ l, u ∈ its) → Vals (l.map backV) l := fun l => by
      induction l with
      | nil => exact fun _ => .nil
      | cons u l ih =>
        intro hl
        obtain ⟨t, e, _⟩ := (e2 u (hl u List.mem_cons_self)).2
        refine .cons ?_ (ih fun v hv => hl v (List.mem_cons_of_mem _ hv))
        subst e
        rfl
    exact this out hmem
  refine ⟨.ref d, upd H d (.lst (out.map backV)), I.laid (t' := s.toks) kp hd (show ObjOk X.prog X.w _ _ _ (.lst (out.map backV)) from ⟨?_, out, n, hv, hn⟩), rfl, q _ (out.map (kOf s.heap)) d (paired_map out fun u hu => ?_) ?_ ?_ (I.hok.fresh hd)⟩
  · rw [List.length_map, h2.perm.length_eq]
    exact hzz
  · obtain ⟨t, e, h3⟩ := (e2 u (hmem u hu)).2
    subst e
    exact h3
  · rw [← e1]
    exact h2.perm.map _
  · exact List.pairwise_map.mpr h1
end
abbrev pD (pr : Int × Int) : D := .tup [dI pr.1, dI pr.2]
theorem pr_rep {K : PySem.W.Frag} {G : Hp} : ∀ {vs : List V} {prs : List (Int × Int)}, RepL K G vs (prs.map pD) → Paired (IsPr K G) vs prs
  | [], [], .nil => .nil
  | _ :: _, pr :: prs, .cons h t => by
    refine .cons ?_ (pr_rep t)
    cases h with
    | tup q r =>
      refine ⟨_, rfl, ?_⟩
      have e2 := RepL.of_vals (xs := [.int pr.1, .int pr.2]) r
      rw [e2] at q
      exact q
theorem rep_pr {K : PySem.W.Frag} {G : Hp} : ∀ {vs : List V} {prs : List (Int × Int)}, Paired (IsPr K G) vs prs → RepL K G vs (prs.map pD)
  | _, _, .nil => .nil
  | _, _, .cons h t => by
    obtain ⟨a, rfl, q⟩ := h
    exact .cons (.tup q (RepL.vals (K := K) (G := G) [.int _, .int _])) (rep_pr t)
/-- what is sorted and has the same items is the same -/
theorem lex_uniq : ∀ {l m : List (Int × Int)}, l.Pairwise (fun a b => SrtO.lexB b a = false) → m.Pairwise (fun a b => SrtO.lexB b a = false) → l.Perm m → l = m
  | [], m, _, _, h => (List.Perm.eq_nil h.symm).symm
  | x :: l, [], _, _, h => absurd h.length_eq (by simp)
  | x :: l, y :: m, hl, hm, h => by
    have hx : x ∈ y :: m := h.mem_iff.mp List.mem_cons_self
    have hy : y ∈ x :: l := h.mem_iff.mpr List.mem_cons_self
    have e : x = y := by
      rcases List.mem_cons.mp hx with e | hx
      · exact e
      · rcases List.mem_cons.mp hy with e | hy
        · exact e.symm
        · have h1 := (List.pairwise_cons.mp hm).1 x hx
          have h2 := (List.pairwise_cons.mp hl).1 y hy
          have q1 := SrtO.lexB_no.mp h1
          have q2 := SrtO.lexB_no.mp h2
          apply Prod.ext <;> omega
    subst e
    rw [lex_uniq (List.pairwise_cons.mp hl).2 (List.pairwise_cons.mp hm).2 h.cons_inv]
section
variable {X : Cx} {ρ : Sl} {M M1 M2 M3 : Mem} {a b c e : Expr} {es : List Expr} {d d1 d2 : D} {ds : List D} {pos : Pos} {Ψ : Out → Prop}
theorem ev_sortedM {q : Addr} {prs qs : List (Int × Int)} {p : Pos} (hm : X.mg "sorted" = none) (ha : EV X e ρ M (dP q) M1) (h : M1 q = some (.lst (prs.map pD))) (hq : qs.Pairwise (fun a b => SrtO.lexB b a = false)) (hp : qs.Perm prs) (hg : Gl X "sorted" := by rfl)
    (hst : starEach [e] X.env = [(false, eval e X.env)] := by rfl) : EV X (.Call (.Name "sorted" p) [e] [] pos) ρ M (.lst (qs.map pD)) M1 :=
  (pe_callB cr_sq hg hm boot_sorted (av_cons ha av_nil hst) (he := hst)).mono fun σ H Q ⟨G, sa, k⟩ => ⟨G, sa, fun vs' G1 H1 g1 sh1 r1 => by
    obtain ⟨gq, vs, hv, r⟩ := sh1.mem q _ h
    rw [RepL.of_vals (xs := [.ref q]) r1]
    refine ⟨q, vs, prs, G1, rfl, .inl (.inl hv), sh1.le, pr_rep r, fun ys qs' l hys hperm hsort hl => ?_⟩
    have e : qs' = qs := lex_uniq hsort hq (hperm.trans hp.symm)
    subst e
    obtain ⟨sh2, g2⟩ := sh1.new (o := .lst ys) hl
    exact k _ _ _ (g1.trans g2) sh2 (.lst (.inl (.inl upd_same)) ((rep_pr hys).up g2))⟩
theorem ev_abs {i : Int} {p : Pos} (hm : X.mg "abs" = none) (ha : EV X e ρ M (dI i) M1) (hg : Gl X "abs" := by rfl) (hst : starEach [e] X.env = [(false, eval e X.env)] := by rfl) : EV X (.Call (.Name "abs" p) [e] [] pos) ρ M (dI (if i < 0 then -i else i)) M1 :=
  (pe_callB call_abs hg hm boot_abs (av_cons ha av_nil hst) (he := hst)).mono fun σ H Q ⟨G, sa, k⟩ => ⟨G, sa, fun vs' G1 H1 g1 sh1 r1 => by
    rw [RepL.of_vals (xs := [.int i]) r1]
    exact ⟨i, rfl, k _ G1 H1 g1 sh1 (.val _)⟩⟩
theorem JW.rangeC {K : PySem.W.Frag} {lo c : Int} {n : Nat} {G : Hp} : JW K (Itc lo c n) G ((List.range n).map fun i => dI (lo + (i : Nat) * c)) := fun i H e => ⟨fun d h => by
    rw [List.getElem?_map] at h
    have hi : i < n := by
      rcases Nat.lt_or_ge i n with q | q
      · exact q
      · rw [List.getElem?_eq_none (by simpa using q)] at h; cases h
    rw [List.getElem?_range hi] at h
    cases h
    exact ⟨hi, fun x H' ⟨e1, e2⟩ => ⟨e1, by rw [e2]; exact .val _⟩⟩, fun h => by
    rw [List.length_map, List.length_range] at h
    exact h⟩
theorem iv_range3 {tg : Expr} {i j k : Int} {n : Nat} {p : Pos} (hm : X.mg "range" = none) (ha : EV X a ρ M (dI i) M1) (hb : EV X b ρ M1 (dI j) M2) (hc : EV X c ρ M2 (dI k) M3) (hr : RgC i j k n) (hg : Gl X "range" := by rfl)
    (h1 : starEach [a, b, c] X.env = (false, eval a X.env) :: starEach [b, c] X.env := by rfl) (h2 : starEach [b, c] X.env = (false, eval b X.env) :: starEach [c] X.env := by rfl) (h3 : starEach [c] X.env = (false, eval c X.env) :: starEach [] X.env := by rfl)
    (hpl : (backTo pos (starEach [b, c] X.env)).any (·.1) = false := by rfl) : IV X tg (.Call (.Name "range" p) [a, b, c] [] pos) ρ M ((List.range n).map fun m => dI (i + (m : Nat) * k)) M3 :=
  (pi_range3 hg hm (av_cons ha (av_cons hb (av_cons hc av_nil h3) h2) h1) h1 hpl).mono fun σ H R ⟨G, sa, kk⟩ => ⟨G, sa, fun vs G1 H1 g1 sh1 r1 => by
    rw [RepL.of_vals (xs := [.int i, .int j, .int k]) r1]
    exact ⟨i, j, k, n, rfl, hr, kk _ G1 H1 g1 sh1 JW.rangeC⟩⟩
theorem rgC_up {i j k : Int} {n : Nat} (h1 : -1000000000 < i ∧ i < 1000000000) (h2 : -1000000000 < j ∧ j < 1000000000) (h3 : 0 < k ∧ k < 1000000000) (hn : Builtin.Range.rangeSize i j k = n) (hs : Builtin.Range.small i j k = true) : RgC i j k n :=
  ⟨by omega, by omega, hs, hn⟩
end
end Vt
namespace Vt
open PySem PySem.Spec PyProof.Rows L2
/-! ### texts by their signs -/
def S (l : List Nat) : Str := ⟨l.toArray⟩
theorem S_list (l : List Nat) : (S l).cps.toList = l := by show l.toArray.toList = l; simp
theorem S_len (l : List Nat) : (S l).length = l.length := by show l.toArray.size = _; simp
theorem S_of (z : Str) : S z.cps.toList = z := by
  cases z with
  | mk c => show (⟨c.toList.toArray⟩ : Str) = ⟨c⟩; simp
theorem S_app (l m : List Nat) : S l ++ S m = S (l ++ m) := by
  show (⟨l.toArray ++ m.toArray⟩ : Str) = ⟨(l ++ m).toArray⟩
  simp
theorem S_one (c : Nat) : (⟨#[c]⟩ : Str) = S [c] := rfl
theorem S_inj {l m : List Nat} (h : S l = S m) : l = m := by
  have := congrArg (fun z : Str => z.cps.toList) h
  simpa [S] using this
theorem fold_app : ∀ (n : Nat) (c : Nat) (acc : Array Nat), (List.replicate n #[c]).foldl (· ++ ·) acc = acc ++ (List.replicate n c).toArray
  | 0, c, acc => by simp
  | n + 1, c, acc => by
    rw [List.replicate_succ, List.foldl_cons, fold_app n c, List.replicate_succ]
    apply Array.ext'
    simp
/-- one sign, so many times -/
def rRepS : R2 := fun x y H Q => ∃ (c : Nat) (n : Int), x = .str (S [c]) ∧ y = .int n ∧ (-1000000 ≤ n ∧ n ≤ 1000000) ∧ Q (.str (S (List.replicate n.toNat c))) H
section
variable {X : Cx}
theorem op_repS : OpR X (binaryOp .Mult) rRepS := by
  intro pins s σ H x y v u Q I rx ry h
  obtain ⟨c, n, rfl, rfl, hn, q⟩ := h
  obtain ⟨t, rfl⟩ := rx
  obtain ⟨t', rfl⟩ := ry
  refine P.mul_str (x := S [c]) ?_ (fun h1 _ => ?_) (fun h1 _ => ?_) ?_
  · rw [decide_eq_false (by omega), decide_eq_false (by omega)]
    rfl
  · show ¬ (((1 : Nat) : Int) > (2 ^ 63 - 1) / n)
    have : (1 : Int) ≤ (2 ^ 63 - 1) / n := by
      rw [Int.le_ediv_iff_mul_le (by omega)]
      omega
    omega
  · have : (S [c]).length * n.toNat ≤ 1000000 := by
      rw [S_len]
      show 1 * n.toNat ≤ 1000000
      omega
    show decide _ = false
    refine decide_eq_false ?_
    have e : (1000000 : Nat) ≤ sizeLine := by decide
    omega
  · by_cases h1 : n < 1
    · rw [if_pos h1]
      have e : n.toNat = 0 := by omega
      rw [e] at q
      exact ⟨by decide, .str _, H, I.tok _, ⟨_, rfl⟩, q⟩
    · rw [if_neg h1]
      by_cases h2 : (n == 1 || (S [c]).length == 0) = true
      · rw [if_pos h2]
        have e : n = 1 := by
          rw [Bool.or_eq_true, beq_iff_eq, beq_iff_eq, S_len] at h2
          rcases h2 with h2 | h2
          · exact h2
          · cases h2
        subst e
        exact ⟨.str (S [c]), H, I, ⟨_, rfl⟩, q⟩
      · rw [if_neg h2]
        have e : (⟨(List.replicate n.toNat (S [c]).cps).foldl (· ++ ·) #[]⟩ : Str) = S (List.replicate n.toNat c) := by
          have e2 := fold_app n.toNat c #[]
          show (⟨(List.replicate n.toNat #[c]).foldl (· ++ ·) #[]⟩ : Str) = ⟨_⟩
          rw [e2]
          simp
        rw [e]
        refine ⟨?_, .str _, H, I.tok _, ⟨_, rfl⟩, q⟩
        rw [S_len, List.length_replicate]
        exact Nat.le_trans (show n.toNat ≤ 1000000 by omega) (by decide)
end
section
variable {X : Cx} {ρ : Sl} {M M1 M2 M3 : Mem} {a b c e : Expr} {es : List Expr} {d d1 d2 : D} {ds : List D} {pos : Pos} {Ψ : Out → Prop}
theorem ev_repS {ch : Nat} {n : Int} (ha : EV X a ρ M (dS (S [ch])) M1) (hb : EV X b ρ M1 (dI n) M2) (hn : -1000000 ≤ n ∧ n ≤ 1000000) : EV X (.BinOp a .Mult b pos) ρ M (dS (S (List.replicate n.toNat ch))) M2 :=
  ev_op op_repS ha hb fun H Q q => ⟨ch, n, rfl, rfl, hn, q⟩
theorem ev_catS {l m : List Nat} (ha : EV X a ρ M (dS (S l)) M1) (hb : EV X b ρ M1 (dS (S m)) M2) (hn : l.length + m.length ≤ 1000000) : EV X (.BinOp a .Add b pos) ρ M (dS (S (l ++ m))) M2 :=
  ev_op op_add_str ha hb fun H Q q => ⟨S l, S m, rfl, rfl, by rw [S_len, S_len]; exact Nat.le_trans hn (by decide), by rw [S_app]; exact q⟩
theorem ev_strI {i : Int} {p : Pos} (hm : X.mg "str" = none) (ha : EV X e ρ M (dI i) M1) (hi : -1000000000 < i ∧ i < 1000000000) (hg : Gl X "str" := by rfl) (hst : starEach [e] X.env = [(false, eval e X.env)] := by rfl) : EV X (.Call (.Name "str" p) [e] [] pos) ρ M (dS (toString i : String)) M1 :=
  (pe_callTy call_str_int hg hm boot_str (av_cons ha av_nil hst) (he := hst)).mono fun σ H Q ⟨G, sa, k⟩ => ⟨G, sa, fun vs' G1 H1 g1 sh1 r1 => by
    rw [RepL.of_vals (xs := [.int i]) r1]
    refine ⟨i, rfl, ?_, k _ G1 H1 g1 sh1 (.val _)⟩
    have h1 : i.natAbs < 1000000000 := by omega
    have h2 : i.natAbs < 2 ^ 30 := by omega
    rcases Nat.eq_zero_or_pos i.natAbs with h0 | h0
    · rw [h0]; decide
    · exact Nat.lt_trans ((Nat.log2_lt (by omega)).mpr h2) (by decide)⟩
theorem ev_intS {z : Str} {n : Int} {p : Pos} (hm : X.mg "int" = none) (ha : EV X e ρ M (dS z) M1) (hz : PySem.intText? z = some n) (hl : z.length ≤ 640) (hg : Gl X "int" := by rfl) (hst : starEach [e] X.env = [(false, eval e X.env)] := by rfl) : EV X (.Call (.Name "int" p) [e] [] pos) ρ M (dI n) M1 :=
  (pe_callTy call_int_str hg hm (by decide +kernel) (av_cons ha av_nil hst) (he := hst)).mono fun σ H Q ⟨G, sa, k⟩ => ⟨G, sa, fun vs' G1 H1 g1 sh1 r1 => by
    rw [RepL.of_vals (xs := [.str z]) r1]
    exact ⟨z, n, rfl, hz, hl, k _ G1 H1 g1 sh1 (.val _)⟩⟩
/-- c in z -/
theorem rs_inC {ch : Nat} {z : Str} : RS (fun x y H Q => ∃ (c : Nat) (z : Str), x = .str ⟨#[c]⟩ ∧ y = .str z ∧ Q (.bl (decide (c ∈ z.cps.toList))) H) (.str (S [ch])) (.str z) (.bl (decide (ch ∈ z.cps.toList))) := fun H Q q => ⟨ch, z, rfl, rfl, q⟩
theorem ov_none : OV X none ρ M none M := po_none.mono fun σ H Q ⟨G, sa, k⟩ => k G H (Same.refl G) sa.sh
theorem ov_some {i : Int} (h : EV X e ρ M (dI i) M1) : OV X (some e) ρ M (some i) M1 := (po_some h).mono fun σ H Q ⟨G, sa, k⟩ => ⟨G, sa, fun v G1 H1 g1 sh1 r1 => ⟨i, r1.of_val, k G1 H1 g1 sh1⟩⟩
theorem ev_sliceS {lo hi : Option Expr} {l : List Nat} {o1 o2 : Option Int} {p2 : Pos} (ha : EV X a ρ M (dS (S l)) M1) (h1 : OV X lo ρ M1 o1 M2) (h2 : OV X hi ρ M2 o2 M3) (hl : l.length ≤ 1000000) :
    EV X (.Subscript a (.Slice lo hi none p2) pos) ρ M (dS (S ((l.drop (HT.sIx l.length 0 o1)).take (HT.sIx l.length l.length o2 - HT.sIx l.length 0 o1)))) M3 :=
  (pe_slice sl_str ha h1 h2).mono fun σ H Q ⟨G, sa, k⟩ => ⟨G, sa, fun v G1 H1 g1 sh1 r1 => ⟨G1, ⟨sh1, sa.sl.up g1⟩, fun G2 H2 g2 sh2 => ⟨G2, ⟨sh2, (sa.sl.up g1).up g2⟩, fun G3 H3 g3 sh3 => by
    rw [r1.of_val]
    refine ⟨S l, rfl, by rw [S_len]; exact Nat.le_trans hl (by decide), ?_⟩
    have e : cutS (S l) o1 o2 = S ((l.drop (HT.sIx l.length 0 o1)).take (HT.sIx l.length l.length o2 - HT.sIx l.length 0 o1)) := by
      unfold cutS
      rw [S_list, S_len]
      rfl
    rw [e]
    exact k _ G3 H3 ((g1.trans g2).trans g3) sh3 (.val _)⟩⟩⟩
/-- a method of a text with texts as arguments -/
theorem ev_bmS {name : Str} {id : String} {r : V → List V → Hp → VK → Prop} {z : Str} {vs : List V} {y : V} {ap : Pos} (pa : PlainAttrs "str") (slot : Slot "str" name id) (hty : typeOf (.builtin id) = pure (.type "method_descriptor")) (hm : MtR X id r) (ho : EV X a ρ M (dS z) M1) (ha : AV X (e :: es) ρ M1 (vs.map D.val) M2)
    (hr : ∀ H Q, Q y H → r (.str z) vs H Q) (h1 : attributeBase a name X.env (eval a X.env) = eval a X.env := by rfl) (h3 : (ap.endLine == pos.line) = true := by decide) (h4 : starEach (e :: es) X.env = (false, eval e X.env) :: starEach es X.env := by rfl)
    (h2 : (((((backTo pos (starEach (e :: es) X.env)).all fun x => !x.fst) && (backToKw pos (keywordEach [] X.env)).all fun x => x.fst.isSome) && decide (((e :: es).length + ([] : List Keyword).length + if ([] : List Keyword).isEmpty = true then 0 else 1) < 30)) = true) := by rfl)
    (h5 : (((backTo pos (starEach es X.env)).any fun x => x.fst) = false) := by rfl) : EV X (.Call (.Attribute a name ap) (e :: es) [] pos) ρ M (.val y) M2 :=
  (pe_bm pa slot hty hm ho ha h1 h2 h3 h4 h5).mono fun σ H Q ⟨G, sa, k⟩ => ⟨G, sa, fun v1 G1 H1 g1 sh1 r1 => by
    rw [r1.of_val]
    refine ⟨(show tyV X.K "str" (.str z) H1 from rfl), G1, ⟨sh1, sa.sl.up g1⟩, fun vs' G2 H2 g2 sh2 r2 => ?_⟩
    rw [RepL.of_vals r2]
    exact hr H2 Q (k _ G2 H2 (g1.trans g2) sh2 (.val _))⟩
theorem drop_while (p : Nat → Bool) : ∀ l : List Nat, l.drop (l.takeWhile p).length = l.dropWhile p
  | [] => rfl
  | x :: l => by
    by_cases h : p x = true
    · rw [List.takeWhile_cons_of_pos h, List.dropWhile_cons_of_pos h]
      exact drop_while p l
    · rw [List.takeWhile_cons_of_neg h, List.dropWhile_cons_of_neg h]
      rfl
theorem lstripS (l m : List Nat) : Txt.lstripChars (S l) (S m) = S (l.dropWhile fun c => m.contains c) := by
  unfold Txt.lstripChars
  rw [PyProof.Rows.stripBy_eq]
  show (⟨(S l).cps.extract _ _⟩ : Str) = ⟨_⟩
  have e1 : (fun c => (S m).cps.contains c) = fun c => m.contains c := by
    funext c
    show m.toArray.contains c = _
    simp
  have e2 : stripLo (S m).cps.contains true (S l) = (l.takeWhile fun c => m.contains c).length := by
    simp only [stripLo, if_true]
    rw [show (S m).cps.contains = fun c => m.contains c from e1, S_list]
  have e3 : ∀ k, stripHi (S m).cps.contains false (S l) k = l.length := fun k => by
    simp only [stripHi, Bool.false_eq_true, if_false]
    exact S_len l
  rw [e2, e3]
  refine congrArg Str.mk ?_
  rw [← drop_while]
  show l.toArray.extract _ l.length = _
  rw [List.extract_toArray]
  simp [List.extract]
  exact List.take_of_length_le (by rw [List.length_drop]; exact Nat.le_refl _)
/-- z.lstrip(chars) -/
theorem ev_lstrip {l m : List Nat} {ap : Pos} (ho : EV X a ρ M (dS (S l)) M1) (ha : EV X e ρ M1 (dS (S m)) M2) (hl : l.length ≤ 1000000) (h1 : attributeBase a "lstrip" X.env (eval a X.env) = eval a X.env := by rfl) (h3 : (ap.endLine == pos.line) = true := by decide) (h4 : starEach [e] X.env = (false, eval e X.env) :: starEach [] X.env := by rfl)
    (h2 : (((((backTo pos (starEach [e] X.env)).all fun x => !x.fst) && (backToKw pos (keywordEach [] X.env)).all fun x => x.fst.isSome) && decide (([e].length + ([] : List Keyword).length + if ([] : List Keyword).isEmpty = true then 0 else 1) < 30)) = true) := by rfl)
    (h5 : (((backTo pos (starEach [] X.env)).any fun x => x.fst) = false) := by rfl) : EV X (.Call (.Attribute a "lstrip" ap) [e] [] pos) ρ M (dS (S (l.dropWhile fun c => m.contains c))) M2 :=
  ev_bmS (vs := [.str (S m)]) PySem.F.plainAttrs_str PySem.F.slot_str_lstrip PySem.F.type_str_lstrip mt_lstripChars ho (av_cons ha av_nil h4) (fun H Q q => ⟨S l, S m, rfl, rfl, by rw [S_len]; exact Nat.le_trans hl (by decide), by rw [lstripS]; exact q⟩) h1 h3 h4 h2 h5
theorem ev_find {z y : Str} {i : Int} {ap : Pos} (ho : EV X a ρ M (dS z) M1) (ha : EV X e ρ M1 (dS y) M2) (hi : Txt.find z y = i) (h1 : attributeBase a "find" X.env (eval a X.env) = eval a X.env := by rfl) (h3 : (ap.endLine == pos.line) = true := by decide) (h4 : starEach [e] X.env = (false, eval e X.env) :: starEach [] X.env := by rfl)
    (h2 : (((((backTo pos (starEach [e] X.env)).all fun x => !x.fst) && (backToKw pos (keywordEach [] X.env)).all fun x => x.fst.isSome) && decide (([e].length + ([] : List Keyword).length + if ([] : List Keyword).isEmpty = true then 0 else 1) < 30)) = true) := by rfl)
    (h5 : (((backTo pos (starEach [] X.env)).any fun x => x.fst) = false) := by rfl) : EV X (.Call (.Attribute a "find" ap) [e] [] pos) ρ M (dI i) M2 :=
  ev_bmS (vs := [.str y]) PySem.F.plainAttrs_str PySem.F.slot_str_find PySem.F.type_str_find mt_find ho (av_cons ha av_nil h4) (fun H Q q => ⟨z, y, rfl, rfl, by rw [hi]; exact q⟩) h1 h3 h4 h2 h5
theorem ev_count {z y : Str} {i : Int} {ap : Pos} (ho : EV X a ρ M (dS z) M1) (ha : EV X e ρ M1 (dS y) M2) (hi : Txt.count z y = i) (h1 : attributeBase a "count" X.env (eval a X.env) = eval a X.env := by rfl) (h3 : (ap.endLine == pos.line) = true := by decide) (h4 : starEach [e] X.env = (false, eval e X.env) :: starEach [] X.env := by rfl)
    (h2 : (((((backTo pos (starEach [e] X.env)).all fun x => !x.fst) && (backToKw pos (keywordEach [] X.env)).all fun x => x.fst.isSome) && decide (([e].length + ([] : List Keyword).length + if ([] : List Keyword).isEmpty = true then 0 else 1) < 30)) = true) := by rfl)
    (h5 : (((backTo pos (starEach [] X.env)).any fun x => x.fst) = false) := by rfl) : EV X (.Call (.Attribute a "count" ap) [e] [] pos) ρ M (dI i) M2 :=
  ev_bmS (vs := [.str y]) PySem.F.plainAttrs_str PySem.F.slot_str_count PySem.F.type_str_count mt_count ho (av_cons ha av_nil h4) (fun H Q q => ⟨z, y, rfl, rfl, by rw [hi]; exact q⟩) h1 h3 h4 h2 h5
theorem JW.str {K : PySem.W.Frag} {l : List Nat} {G : Hp} : JW K (Its (S l)) G (l.map fun c => dS (S [c])) := fun i H e => ⟨fun d h => by
    rw [List.getElem?_map] at h
    cases q : l[i]? with
    | none => rw [q] at h; cases h
    | some c =>
      rw [q] at h
      cases h
      refine ⟨?_, fun x H' ⟨e1, c', e2, e3⟩ => ⟨e1, ?_⟩⟩
      · show i < l.toArray.size
        have := (List.getElem?_eq_some_iff.mp q).1
        simpa using this
      · have e4 : l.toArray[i]? = some c' := e2
        rw [List.getElem?_toArray, q] at e4
        cases e4
        rw [e3]
        exact .val _, fun h => by
    show l.toArray.size ≤ i
    rw [List.length_map] at h
    simpa using h⟩
theorem iv_str {tg : Expr} {l : List Nat} (h : EV X e ρ M (dS (S l)) M1) : IV X tg e ρ M (l.map fun c => dS (S [c])) M1 :=
  (pi_str h).mono fun σ H R ⟨G, sa, k⟩ => ⟨G, sa, fun v G1 H1 g1 sh1 r1 => ⟨S l, r1.of_val, k _ G1 H1 g1 sh1 JW.str⟩⟩
/-- a <= b <= c of ints -/
theorem tv_chain {op op' : CmpOp} {g g' : Int → Int → Bool} {i j k : Int} (ho : OpR X (compareOp op) (rI0 fun i j => .bl (g i j))) (ho' : OpR X (compareOp op') (rI0 fun i j => .bl (g' i j))) (ha : EV X a ρ M (dI i) M1) (hb : EV X b ρ M1 (dI j) M2) (hc : EV X c ρ M2 (dI k) M2) (hm : lastMarks [op, op'] [b, c] = false := by rfl) :
    TV X (.Compare a [op, op'] [b, c] pos) ρ M (g i j && g' j k) M2 :=
  (pt_chain ho ho' ha hb hc hm).mono fun σ H Q ⟨G, sa, kk⟩ => ⟨G, sa, fun v1 G1 H1 g1 sh1 r1 => ⟨G1, ⟨sh1, sa.sl.up g1⟩, fun v2 G2 H2 g2 sh2 r2 => by
    rw [r1.of_val, r2.of_val]
    refine ⟨i, j, rfl, rfl, g i j, rfl, ?_⟩
    cases q : g i j with
    | true =>
      rw [if_pos rfl]
      refine ⟨G2, ⟨sh2, (sa.sl.up g1).up g2⟩, fun v3 G3 H3 g3 sh3 r3 => ?_⟩
      rw [r3.of_val]
      rw [q] at kk
      exact ⟨j, k, rfl, rfl, _, rfl, kk G3 H3 ((g1.trans g2).trans g3) sh3⟩
    | false =>
      rw [if_neg Bool.false_ne_true]
      rw [q] at kk
      exact ⟨_, rfl, kk G2 H2 (g1.trans g2) sh2⟩⟩⟩
theorem ev_chain {op op' : CmpOp} {g g' : Int → Int → Bool} {i j k : Int} (ho : OpR X (compareOp op) (rI0 fun i j => .bl (g i j))) (ho' : OpR X (compareOp op') (rI0 fun i j => .bl (g' i j))) (ha : EV X a ρ M (dI i) M1) (hb : EV X b ρ M1 (dI j) M2) (hc : EV X c ρ M2 (dI k) M2) (hm : lastMarks [op, op'] [b, c] = false := by rfl) :
    EV X (.Compare a [op, op'] [b, c] pos) ρ M (dB (g i j && g' j k)) M2 :=
  (pe_chain ho ho' ha hb hc hm).mono fun σ H Q ⟨G, sa, kk⟩ => ⟨G, sa, fun v1 G1 H1 g1 sh1 r1 => ⟨G1, ⟨sh1, sa.sl.up g1⟩, fun v2 G2 H2 g2 sh2 r2 => by
    rw [r1.of_val, r2.of_val]
    refine ⟨i, j, rfl, rfl, g i j, rfl, ?_⟩
    cases q : g i j with
    | true =>
      rw [if_pos rfl]
      refine ⟨G2, ⟨sh2, (sa.sl.up g1).up g2⟩, fun v3 G3 H3 g3 sh3 r3 => ?_⟩
      rw [r3.of_val]
      rw [q] at kk
      exact ⟨j, k, rfl, rfl, kk _ G3 H3 ((g1.trans g2).trans g3) sh3 (.val _)⟩
    | false =>
      rw [if_neg Bool.false_ne_true]
      rw [q] at kk
      exact kk _ G2 H2 (g1.trans g2) sh2 (.val _)⟩⟩
/-- isinstance(a, (list, tuple)) -/
theorem ev_isi2 {x y : Str} {T1 T2 t : String} {r1 r2 : Bool} {p p2 p3 p4 : Pos} {k1 : Nat} (hm : X.mg "isinstance" = none) (hT1 : X.mg x = none) (hv1 : bootBuiltins x = some (.type T1)) (hT2 : X.mg y = none) (hv2 : bootBuiltins y = some (.type T2)) (ha : EV X a ρ M d M1) (ht : tyD d = some t) (hk1 : kitB t T1 = some r1) (hk2 : kitB t T2 = some r2)
    (hg : Gl X "isinstance" := by rfl) (hg1 : Gl X x := by rfl) (hg2 : Gl X y := by rfl) (hn1 : x ≠ "__name__" := by decide) (hd1 : (x == ("__debug__" : Str)) = false := by decide) (hn2 : y ≠ "__name__" := by decide) (hd2 : (y == ("__debug__" : Str)) = false := by decide)
    (s1 : starEach [a, .Tuple [.Name x p2, .Name y p3] k1 p4] X.env = (false, eval a X.env) :: starEach [.Tuple [.Name x p2, .Name y p3] k1 p4] X.env := by rfl) (s2 : starEach [.Tuple [.Name x p2, .Name y p3] k1 p4] X.env = (false, eval (.Tuple [.Name x p2, .Name y p3] k1 p4) X.env) :: starEach [] X.env := by rfl)
    (s3 : starEach [.Name x p2, .Name y p3] X.env = (false, eval (.Name x p2) X.env) :: starEach [.Name y p3] X.env := by rfl) (s4 : starEach [.Name y p3] X.env = (false, eval (.Name y p3) X.env) :: starEach [] X.env := by rfl)
    (hpl : (backTo pos (starEach [.Tuple [.Name x p2, .Name y p3] k1 p4] X.env)).any (·.1) = false := by rfl) :
    EV X (.Call (.Name "isinstance" p) [a, .Tuple [.Name x p2, .Name y p3] k1 p4] [] pos) ρ M (dB (r1 || r2)) M1 :=
  (pe_callB call_isiT hg hm boot_isinstance (pa_cons ha (pa_cons (pe_tup (pa_cons (pe_bltn (v := .ty T1) hg1 hT1 hv1 rfl hn1 hd1) (pa_cons (pe_bltn (v := .ty T2) hg2 hT2 hv2 rfl hn2 hd2) pa_nil s4) s3)) pa_nil s2) s1) (hpl := hpl) (he := s1)).mono fun σ H Q ⟨G, sa, k⟩ => ⟨G, sa, fun v1 G1 H1 g1 sh1 rr => ⟨by show 2 ≤ sizeLine; decide, fun q hq => by
    obtain ⟨sh2, g2⟩ := sh1.new (o := .tup [.ty T1, .ty T2]) hq
    refine ⟨v1, q, _, .type t, [.type T1, .type T2], r1 || r2, rfl, upd_same, .cons (.ty T1) (.cons (.ty T2) .nil), tyx_of sh2.le (rr.up g2) ht, kitAny_cons (kit_ty hk1) (fun e => ?_) (fun e => ?_), k _ _ _ (g1.trans g2) sh2 (.val _)⟩
    · subst e
      exact kitAny_cons (kit_ty hk2) (fun e => by subst e; exact kitAny_nil) (fun e => by rw [e]; rfl)
    · rw [e]; rfl⟩⟩
/-- code that is not come to -/
theorem sv_never {st : Stmt} (h : False) : SV X st ρ M Ψ := h.elim
end
/-! ### tuples of ints that stand at the top -/
theorem kVals {ns : List Int} {its : List Value} (h : Vals (ns.map V.int) its) : Vals (ns.map V.int) its := h
theorem rep_kT {K : PySem.W.Frag} {G : Hp} {a : Addr} {o : Obj} {its : Array Value} {n : Nat} {ns : List Int} (hk : K.lookup a = some o) (hc : o.cls = .type "tuple") (hd : o.data = .seq its n) (hz : its.size ≤ sizeLine) (hv : Vals (ns.map V.int) its.toList) : Rep K G (.ref a) (.tup (ns.map dI)) := by
  refine .tup (.inr ⟨o, its, n, hk, hc, hd, hz, hv⟩) ?_
  have e := RepL.vals (K := K) (G := G) (ns.map V.int)
  rw [List.map_map] at e
  exact e
/-! ### further rules: in, is not None, truth of a list, += -/
section
variable {X : Cx} {ρ : Sl} {M M1 M2 M3 : Mem} {a b c e : Expr} {es : List Expr} {d d1 d2 : D} {ds : List D} {pos : Pos} {Ψ : Out → Prop}
theorem ev_inT {x : V} {xs : List V} (ha : EV X a ρ M (.val x) M1) (hb : EV X b ρ M1 (.tup (xs.map D.val)) M2) (fx : flatV x = true) (fs : xs.all flatV = true) (hm : behindInMarks .In b = false) : EV X (.Compare a [.In] [b] pos) ρ M (dB (inV x xs)) M2 :=
  (pe_cmpR op_in_seq ha hb hm).mono fun σ H Q ⟨G, sa, k⟩ => ⟨G, sa, fun v1 G1 H1 g1 sh1 r1 => ⟨G1, ⟨sh1, sa.sl.up g1⟩, fun v2 G2 H2 g2 sh2 r2 => by
    rw [r1.of_val]
    cases r2 with
    | tup q r =>
      rw [RepL.of_vals r] at q
      exact ⟨_, xs, rfl, .inr (sqtUp sh2.le q), fx, fs, k _ G2 H2 (g1.trans g2) sh2 (.val _)⟩⟩⟩
theorem tv_lstM {p : Addr} (ha : EV X e ρ M (dP p) M1) (h : M1 p = some (.lst ds)) (he : ∀ whole, isTrue e X.env whole = (do let v ← whole; standAt e.pos; holding [v] (truthy v)) := by intro _; rfl) : TV X e ρ M (!ds.isEmpty) M1 :=
  (pt_truth ha he).mono fun σ H Q ⟨G, sa, k⟩ => ⟨G, sa, fun v1 G1 H1 g1 sh1 r1 => by
    obtain ⟨_, vs, hv, r⟩ := sh1.mem p _ h
    rw [r1.of_val]
    refine ⟨_, .inl ⟨vs, .inl (.inl hv), rfl⟩, ?_⟩
    have e1 : (!vs.isEmpty) = !ds.isEmpty := by
      have := r.len
      cases vs <;> cases ds <;> first | rfl | cases this
    rw [e1]
    exact k G1 H1 g1 sh1⟩
theorem tv_notN {j} {v : V} {p2 : Pos} (ha : EV X a ρ M (.val v) M1) : TV X (.Compare a [.IsNot] [.Constant .none j p2] pos) ρ M (!decide (v = .non)) M1 :=
  (pt_cmp (pc_notN ha)).mono fun σ H Q ⟨G, sa, k⟩ => ⟨G, sa, fun v1 G1 H1 g1 sh1 r1 => by rw [r1.of_val]; exact ⟨_, rfl, k G1 H1 g1 sh1⟩⟩
theorem tv_notND {j} {p2 : Pos} (ha : EV X a ρ M (.tup ds) M1) : TV X (.Compare a [.IsNot] [.Constant .none j p2] pos) ρ M true M1 :=
  (pt_cmp (pc_notN ha)).mono fun σ H Q ⟨G, sa, k⟩ => ⟨G, sa, fun v1 G1 H1 g1 sh1 r1 => by
    cases r1 with
    | tup q r => exact ⟨_, by rw [decide_eq_false (fun h => V.noConfusion h)]; rfl, k G1 H1 g1 sh1⟩⟩
theorem sv_augI (i : Nat) {x : Str} {n m : Int} {pos' : Pos} (hN : X.N.Nodup) (h0 : ρ[i]? = some (some (dI n))) (he : EV X e ρ M (dI m) M1) (hΨ : Ψ (.nx (ρ.set i (some (dI (n + m)))) M1)) (hi : X.N[i]? = some x := by rfl) (hx : L2.Loc X.env.scope x := by first | exact Or.inl rfl | exact Or.inr rfl)
    (hf : X.fn x = true ∨ X.env.scope.names.lookup x = some .local := by first | exact .inl rfl | exact .inr rfl) : SV X (.AugAssign (.Name x pos') .Add e pos) ρ M Ψ :=
  (ps_aug hN hi hx he ip_add hf).mono fun E σ H ⟨G, sa, k⟩ => by
    obtain ⟨v, e1, r⟩ := sa.sl.2 i _ h0
    refine ⟨v, e1, G, sa, fun y G1 H1 g1 sh1 r1 => ?_⟩
    rw [r.of_val, r1.of_val]
    exact ⟨n, m, rfl, rfl, k _ hΨ _ G1 H1 g1 ⟨sh1, (sa.sl.up g1).set i (.val _)⟩⟩
end
/-! ### try with clauses of all forms that the laws have: tuples of classes that do not match, a class as a name -/
inductive HD where
  | skip (cs : List Value)
  | as (c : Value) (i : Nat) (ts : Addr → Value → Option Addr → TS)
def wG (K : PySem.W.Frag) (Wout : WX) (D : Ends) : List HD → WX
  | [] => Wout
  | .skip cs :: r => fun cls d σ H => PySem.W.exmAny K cls cs = some false ∧ wG K Wout D r cls d σ H
  | .as c i ts :: r => fun cls d σ H => ∃ b, PySem.W.exmOne K cls c = some b ∧ (b = true → ∀ a, H a = none → ts a cls d { nx := fun σ' H' => D.nx (σ'.set i none) H', rt := D.rt, bk := fun σ' H' => D.bk (σ'.set i none) H', ct := fun σ' H' => D.ct (σ'.set i none) H' } (σ.set i (some (.ref a))) H) ∧
      (b = false → wG K Wout D r cls d σ H)
inductive HdsG (X : Cx) : List ExceptHandler → List HD → Prop
  | nil : HdsG X [] []
  | skip2 {x y : Str} {c1 c2 : Value} {b₀ : Stmt} {suite : List Stmt} {p1 p2 p3 pos' : Pos} {kk : Nat} {nm : Option Str} {hds : List ExceptHandler} {l : List HD} (h1 : Names X x c1) (h2 : Names X y c2) (r : HdsG X hds l) :
      HdsG X (.ExceptHandler (some (.Tuple [.Name x p1, .Name y p2] kk p3)) nm (b₀ :: suite) pos' :: hds) (.skip [c1, c2] :: l)
  | as {x n : Str} {c : Value} {i : Nat} {ts : Addr → Value → Option Addr → TS} {b₀ : Stmt} {suite : List Stmt} {np pos' : Pos} {hds : List ExceptHandler} {l : List HD} (hc : Names X x c) (hN : X.N.Nodup) (hi : X.N[i]? = some n) (hln : X.env.kindOf n = some .local)
      (hsu : ∀ (a : Addr) (oe : Obj) (cls : Value) (d : Option Addr) (pn : List (Addr × Obj)), Zc cls d oe → (∃ vs, oe.data = .fields vs) → PSs (X.suite a ((a, oe) :: pn)) (b₀ :: suite) (ts a cls d)) (r : HdsG X hds l) :
      HdsG X (.ExceptHandler (some (.Name x np)) (some n) (b₀ :: suite) pos' :: hds) (.as c i ts :: l)
theorem fly_keeps {base h h' : Heap} {l : List Env} {e : Addr} {Z : Obj → Prop} (R : HandSPX.FlyingZ base l e Z h) (k : ∀ b o, h.get? b = some o → h'.get? b = some o) : HandSPX.FlyingZ base l e Z h' := by
  obtain ⟨f1, f2, f3, oe, ws, T, oT, ts, he, hz, hd, h1, hn, hne, hT, hdT, h3⟩ := R
  exact ⟨fun b o q => k b o (f1 b o q), f2, f3.of_keeps fun b o q _ => ⟨o, k b o q, rfl⟩, oe, ws, T, oT, ts, k _ _ he, hz, hd, h1, hn, hne, k _ _ hT, hdT, h3⟩
section
variable {X : Cx} {body : List Stmt} {h₀ : ExceptHandler} {hds : List ExceptHandler} {l : List HD} {pos : Pos} {tb : WX → TS} {Wout : WX}
theorem ps_try_g (hs : X.stack = X.env :: X.outer) (hf : X.env.frame = some X.env.locals) (tk : Takes X Wout)
    (hb : ∀ (W : WX) (pn : List (Addr × Obj)) (xe : Value → Shared → Prop), Takes (X.tr pn xe) W → PassesOwn (model X.prog X.w) X.A X.env xe → PSs (X.tr pn xe) body (tb W))
    (hh : HdsG X (h₀ :: hds) l) : PS X (.Try body (h₀ :: hds) [] [] pos) (fun D σ H => tb (wG X.K Wout D l) D σ H) := by
  refine ⟨fun pins s σ H D I h => ?_⟩
  have ok := I.ok
  have hfr : X.A.frames = some (X.env :: X.outer) := by rw [ok.frames, hs]
  refine wpAny_Try_except ?_
  refine wpAny_mono ((hb (wG X.K Wout D l) (X.pn ++ pins) (fun e s₁ => wpAny (model X.prog X.w) X.A (noteFrame e X.env) (fun _ s₂ => wpAny (model X.prog X.w) X.A (setFlight e none) (fun _ s₃ =>
    wpAny (model X.prog X.w) X.A (handleBy e X.env (h₀ :: hds)) (SP X pins D) X.xe s₃) X.xe s₂) X.xe s₁) (fun u s' xx => ?_) PassesOwn.looking).run [] s σ H D (I.toTry _) h) (fun f s1 hsp => ?_) (fun e s1 he => he)
  · obtain ⟨a, B, sI, pins', σ', H', cls, d, rfl, J', nb, up, sky, na, os, ag, w⟩ := xx
    have J : Inv X pins σ' H' sI := J'.ofTry ok
    have sky' : Sky B (X.env :: X.outer) a (Zc cls d) X.env.locals s'.heap := by rw [← hs]; exact sky
    show wpAny (model X.prog X.w) X.A (noteFrame (.ref a) X.env) _ _ _
    refine Sky.land Zc.steady hfr hf sky' fun h3 fl3 up3 => ?_
    have go : ∀ {hds' : List ExceptHandler} {l' : List HD}, HdsG X hds' l' → wG X.K Wout D l' cls d σ' H' → ∀ h3, HandSPX.FlyingZ B (X.env :: X.outer) a (Zc cls d) h3 → s'.heap.UpToSlots h3 →
        wpAny (model X.prog X.w) X.A (handleBy (.ref a) X.env hds') (SP X pins D) X.xe { s' with heap := h3 } := by
      intro hds' l' hk
      have notFr : ∀ {h : Heap} {o : Obj} {vs : Array Value}, h.FunFrames B (X.env :: X.outer) → h.get? a = some o → o.data = .fields vs → a ∉ frs (X.env :: X.outer) := fun {h o vs} ff e dd hm => by
        obtain ⟨_, o', e', hnf⟩ := ff.mem hm
        rw [e] at e'; cases e'
        exact hnf _ dd
      have pre : ∀ h3, HandSPX.FlyingZ B (X.env :: X.outer) a (Zc cls d) h3 → s'.heap.UpToSlots h3 → ∃ oe3 vs3, h3.get? a = some oe3 ∧ Zc cls d oe3 ∧ oe3.data = .fields vs3 ∧ a ≠ X.env.locals ∧ a ∉ X.fs ∧ Inv X pins σ' H' { s' with heap := h3 } := fun h3 fl3 up3 => by
        have J3 : Inv X pins σ' H' { s' with heap := h3 } := J.landed nb fl3.1 (up.trans up3) os ag
        obtain ⟨oe3, vs3, he3, hz3, hd3⟩ := fl3.there
        have nfr := notFr fl3.2.2.1 he3 hd3
        refine ⟨oe3, vs3, he3, hz3, hd3, fun z => nfr (List.mem_filterMap.mpr ⟨X.env, List.mem_cons_self, by rw [hf, z]⟩), fun hm => ?_, J3⟩
        obtain ⟨e, he, q⟩ := List.mem_filterMap.mp hm
        exact nfr (List.mem_filterMap.mpr ⟨e, List.mem_cons_of_mem _ he, q⟩)
      have test : ∀ {x : Str} {c : Value} {np : Pos}, Names X x c → ∀ h3, HandSPX.FlyingZ B (X.env :: X.outer) a (Zc cls d) h3 → s'.heap.UpToSlots h3 → ∀ {Q : Value → Shared → Prop} {E : Value → Shared → Prop}, Q c { s' with heap := h3 } → wpAny (model X.prog X.w) (X.A.mark (some (.ref a))) (eval (.Name x np) X.env) Q E { s' with heap := h3 } := fun {x c np} hc h3 fl3 up3 {Q E} q => by
        obtain ⟨oe3, vs3, he3, hz3, hd3, nL, nF, J3⟩ := pre h3 fl3 up3
        have S3 := J3.suite he3 hd3 na nL nF
        obtain ⟨hg, hdbg, hm | ⟨hm, hv, hnn⟩⟩ := hc
        · exact ld_glob (X := X.suite a ((a, oe3) :: (X.pn ++ pins))) S3 hg hm q hdbg
        · exact ld_blt (X := X.suite a ((a, oe3) :: (X.pn ++ pins))) S3 hg hm hv q hnn hdbg
      induction hk with
      | nil =>
        intro w h3 fl3 up3
        obtain ⟨oe3, vs3, he3, hz3, hd3, nL, nF, J3⟩ := pre h3 fl3 up3
        refine wpAny_handleBy_nil ?_
        obtain ⟨k1, k2, k3, oe, vs, T, oT, ts', he, hz, hd, h1, hr⟩ := id fl3
        unfold PySem.passOn
        refine wpAny_bind (wpAny_field he hd h1 ?_)
        rw [if_neg (show ¬ ((Value.ref T == Value.none) = true) from by simp)]
        have fin : wpAny (model X.prog X.w) X.A (setFlight (.ref a) X.env.frame) (fun _ s4 => wpAny (model X.prog X.w) X.A (throw (.ref a) : Sem Flow) (SP X pins D) X.xe s4) X.xe { s' with heap := h3 } := by
          rw [hf]
          refine HandSPX.setFlight_upZ fl3 fun h4 hh4 up4 => wpAny_throw (tk _ _ ?_)
          exact ⟨a, B, sI, pins, σ', H', cls, d, rfl, J, nb, (up.trans up3).trans up4, .inr (.inr (by rw [hs]; exact hh4)), na, os, ag, w⟩
        first
          | exact wpAny_bind (wpAny_pure (wpAny_bind fin))
          | exact wpAny_bind fin
      | skip2 h1 h2 r ih =>
        intro w h3 fl3 up3
        obtain ⟨he, w⟩ := w
        obtain ⟨oe3, vs3, he3, hz3, hd3, nL, nF, J3⟩ := pre h3 fl3 up3
        have LT : PySem.W.Looks (model X.prog X.w) h3 (typeOf (.ref a)) cls := fun A Q E s k q => wpAny_typeOf_ref (k _ _ he3) (by rw [hz3.1]; exact q)
        refine wpAny_handleBy_cons (codeAny_handlers_test ?_) (by intro q; cases q)
        refine wpAny_Tuple ?_
        refine wpAny_items_cons (test h1 h3 fl3 up3 ?_)
        refine wpAny_items_cons (test h2 h3 fl3 up3 ?_)
        refine wpAny_items_nil ⟨by size_fits, ?_⟩
        rename_i c1 c2 _ _ _ _ _ _ _ _ _ _
        have kp : ∀ q o, h3.get? q = some o → (h3.push { cls := .type "tuple", data := .seq [c1, c2].toArray }).get? q = some o := fun _ _ z => Heap.get?_push_of_some _ z
        exact (PySem.W.exm_tup2 (M := model X.prog X.w) ((J3.kIn).keeps kp) (LT.keeps kp) (Heap.get?_push_size h3 rfl) he).here (ih w _ (fly_keeps fl3 kp) (up3.trans (Heap.UpToSlots.of_keeps kp)))
      | @as x n c i ts b₀ suite np pos' hds2 l2 hc hN hi hln hsu r ih =>
        intro w h3 fl3 up3
        obtain ⟨b, hb1, hyes, hno⟩ := w
        obtain ⟨oe3, vs3, he3, hz3, hd3, nL, nF, J3⟩ := pre h3 fl3 up3
        have LT : PySem.W.Looks (model X.prog X.w) h3 (typeOf (.ref a)) cls := fun A Q E s k q => wpAny_typeOf_ref (k _ _ he3) (by rw [hz3.1]; exact q)
        refine wpAny_handleBy_cons (codeAny_handlers_test ?_) (by intro q; cases q)
        have LM := PySem.W.exm_one (M := model X.prog X.w) (J3.kIn) LT hb1
        refine test hc h3 fl3 up3 (LM.here ?_)
        cases b with
        | true =>
          refine codeAny_handlers_suite_as ?_
          refine HandSPX.lands_againZ fl3 fun h4 fl4 up4 => ?_
          have J4 : Inv X pins σ' H' { s' with heap := h4 } := J.landed nb fl4.1 ((up.trans up3).trans up4) os ag
          obtain ⟨oe4, vs4, he4, hz4, hd4⟩ := fl4.there
          have S4 := J4.suite he4 hd4 na nL nF
          refine store_ok (X := X.suite a ((a, oe4) :: (X.pn ++ pins))) (v := .ref a) S4 hN hi (.inl hln) rfl (fun s5 S5 => ?_) (.inr hln)
          refine wpAny_mono ((hsu a oe4 cls d (X.pn ++ pins) hz4 ⟨_, hd4⟩).run [] s5 _ H' _ S5 (hyes rfl a na)) (fun f s6 hsp => ?_) (fun _ _ z => False.elim z)
          have end_ : ∀ {σ6 : L2.St} {H6 : Hp} {Q : Shared → Prop}, Inv (X.suite a ((a, oe4) :: (X.pn ++ pins))) [] σ6 H6 s6 → (∀ s7, Inv X pins (σ6.set i none) H6 s7 → Q s7) →
              wpAny (model X.prog X.w) X.A (do bindName X.env n .none; unbindBehindTheSuite X.env n pos') (fun _ s7 => Q s7) X.xe s6 := fun {σ6 H6 Q} S6 hq => gone_ok (S6.unsuite ok) hN hi hln hq
          cases f with
          | next =>
            obtain ⟨σ6, H6, S6, q6⟩ := hsp
            exact end_ S6 fun s7 J7 => ⟨_, _, J7, q6⟩
          | brk =>
            obtain ⟨σ6, H6, S6, q6⟩ := hsp
            exact end_ S6 fun s7 J7 => ⟨_, _, J7, q6⟩
          | cont =>
            obtain ⟨σ6, H6, S6, q6⟩ := hsp
            exact end_ S6 fun s7 J7 => ⟨_, _, J7, q6⟩
          | ret u =>
            obtain ⟨v6, σ6, H6, S6, r6, q6⟩ := hsp
            exact end_ S6 fun s7 J7 => ⟨_, _, _, J7, r6, q6⟩
        | false =>
          show wpAny _ X.A (handleBy (.ref a) X.env hds2) _ _ _
          exact ih (hno rfl) h3 fl3 up3
    exact go hh w h3 fl3 up3
  · cases f with
    | next =>
      obtain ⟨σ', H', J', q⟩ := hsp
      exact wpAny_execs_nil ⟨σ', H', J'.ofTry ok, q⟩
    | brk =>
      obtain ⟨σ', H', J', q⟩ := hsp
      exact ⟨σ', H', J'.ofTry ok, q⟩
    | cont =>
      obtain ⟨σ', H', J', q⟩ := hsp
      exact ⟨σ', H', J'.ofTry ok, q⟩
    | ret u =>
      obtain ⟨v, σ', H', J', r, q⟩ := hsp
      exact ⟨v, σ', H', J'.ofTry ok, r, q⟩
end
/-! ### what raises: an exception of a class of the program, made without a dict -/
def tX (K : PySem.W.Frag) (W : WX) (ρ : Sl) (M : Mem) (cls : Value) (ρ' : Sl) (M' : Mem) : L2.St → Hp → Prop := fun σ H => ∃ G, SA K G H σ ρ M ∧ ∀ G' H' σ', Same G G' → SA K G' H' σ' ρ' M' → W cls none σ' H'
abbrev EX (X : Cx) (W : WX) (e : Expr) (ρ : Sl) (M : Mem) (cls : Value) (M' : Mem) : Prop := PE X e (fun σ H _ => tX X.K W ρ M cls ρ M' σ H)
abbrev SX (X : Cx) (W : WX) (st : Stmt) (ρ : Sl) (M : Mem) (cls : Value) (ρ' : Sl) (M' : Mem) : Prop := PS X st (fun _ σ H => tX X.K W ρ M cls ρ' M' σ H)
abbrev BX (X : Cx) (W : WX) (sts : List Stmt) (ρ : Sl) (M : Mem) (cls : Value) (ρ' : Sl) (M' : Mem) : Prop := PSs X sts (fun _ σ H => tX X.K W ρ M cls ρ' M' σ H)
def spX (K : PySem.W.Frag) (R : List D → Mem → Value → Mem → Prop) : Sp := fun vs H _ E => ∃ G ds M cls M', SH K G H M ∧ RepL K G vs ds ∧ R ds M cls M' ∧ ∀ G' H', Same G G' → SH K G' H' M' → E cls none H'
structure CalX (P : Program) (w : World) (K : PySem.W.Frag) (mg : Str → Option Value) (base : Heap) (k : Nat) (x : Str) (sp : Sp) : Prop where
  ex : ∃ f fd ps, mg x = some (.ref f) ∧ PySem.W.keepIn K (.ref f) = true ∧ Binds K fd ps [] ∧ FnOk P w K mg base (L2.CX P w) k f fd ps sp
section
variable {X : Cx} {W : WX} {ρ ρ1 ρ' : Sl} {M M1 M2 M' : Mem} {a b c e : Expr} {es : List Expr} {d : D} {ds : List D} {pos : Pos} {cls : Value} {st : Stmt} {rest : List Stmt} {Ψ : Out → Prop}
theorem ex_call {k : Nat} {x : Str} {R : List D → Mem → Value → Mem → Prop} {p : Pos} (C : CalX X.prog X.w X.K X.mg X.base k x (spX X.K R)) (tk : Takes X W) (hr : Room k X.A) (ha : AV X (e :: es) ρ M ds M1) (hp : R ds M1 cls M2) (hg : Gl X x := by rfl)
    (hd : (x == ("__debug__" : Str)) = false := by decide) (hst : starEach (e :: es) X.env = (false, eval e X.env) :: starEach es X.env := by rfl) (hpl : (backTo pos (starEach es X.env)).any (·.1) = false := by rfl) : EX X W (.Call (.Name x p) (e :: es) [] pos) ρ M cls M2 := by
  obtain ⟨f, fd, ps, hm, hk, hb, F⟩ := C.ex
  refine (pe_callS (E := WE W) F hr hg hm hk hb (passAt tk) ha (hdb := hd) (he := hst) (hpl := hpl)).mono fun σ H Q ⟨G, sa, k⟩ => ⟨G, sa, fun vs G1 H1 g1 sh1 r1 => ?_⟩
  exact ⟨G1, ds, M1, cls, M2, sh1, r1, hp, fun G' H' g sh => k G' H' σ (g1.trans g) ⟨sh, (sa.sl.up g1).up g⟩⟩
/-- a op b, a raises -/
theorem ex_opL {op : Operator} {r : R2} (ho : OpR X (binaryOp op) r) (ha : EX X W a ρ M cls M') : EX X W (.BinOp a op b pos) ρ M cls M' :=
  (pe_op (tb := fun _ _ _ => False) ho ha ⟨fun _ _ _ _ _ _ h => h.elim⟩).mono fun _ _ _ h => h
/-- f(a), a raises, f a def of the program -/
theorem ex_arg {k : Nat} {x : Str} {sp : Sp} {p : Pos} (C : Cal X.prog X.w X.K X.mg X.base k x sp) (hr : Room k X.A) (ha : EX X W e ρ M cls M') (hg : Gl X x := by rfl)
    (hd : (x == ("__debug__" : Str)) = false := by decide) (hst : starEach [e] X.env = (false, eval e X.env) :: starEach [] X.env := by rfl) (hpl : (backTo pos (starEach [] X.env)).any (·.1) = false := by rfl) : EX X W (.Call (.Name x p) [e] [] pos) ρ M cls M' := by
  obtain ⟨f, fd, ps, hm, hk, hb, F⟩ := C.ex
  exact (pe_call F hr hg hm hk hb .nil pass0 (pa_cons ha pa_nil hst) (hdb := hd) (he := hst) (hpl := hpl)).mono fun σ H Q h => h
theorem sx_set (i : Nat) {x : Str} {pos' : Pos} (hN : X.N.Nodup) (he : EX X W e ρ M cls M') (hi : X.N[i]? = some x := by rfl) (hx : L2.Loc X.env.scope x := by first | exact Or.inl rfl | exact Or.inr rfl) (hs : swapsWith e (some (.Name x pos')) pos.line X.env = pure false := by rfl)
    (hf : X.fn x = true ∨ X.env.scope.names.lookup x = some .local := by first | exact .inl rfl | exact .inr rfl) : SX X W (.Assign [.Name x pos'] e pos) ρ M cls ρ M' :=
  (ps_set hN hi hx he hs hf).mono fun _ _ _ h => h
theorem sx_ret (he : EX X W e ρ M cls M') : SX X W (.Return (some e) pos) ρ M cls ρ M' := (ps_ret he).mono fun _ _ _ h => h
theorem sx_ifT {as bs : List Stmt} (hc : TV X c ρ M true M1) (ha : BX X W as ρ M1 cls ρ' M') : SX X W (.If c as bs pos) ρ M cls ρ' M' :=
  (ps_if (u := fun _ _ _ => False) hc ha ⟨fun _ _ _ _ _ _ h => h.elim⟩).mono fun E σ H ⟨G, sa, k⟩ => ⟨G, sa, fun G1 H1 g1 sh1 => (⟨G1, ⟨sh1, sa.sl.up g1⟩, fun G' H' σ' g q => k G' H' σ' (g1.trans g) q⟩ : tX _ _ _ _ _ _ _ σ H1)⟩
theorem sx_ifF {as bs : List Stmt} (hc : TV X c ρ M false M1) (hb : BX X W bs ρ M1 cls ρ' M') : SX X W (.If c as bs pos) ρ M cls ρ' M' :=
  (ps_if (t := fun _ _ _ => False) hc ⟨fun _ _ _ _ _ _ h => h.elim⟩ hb).mono fun E σ H ⟨G, sa, k⟩ => ⟨G, sa, fun G1 H1 g1 sh1 => (⟨G1, ⟨sh1, sa.sl.up g1⟩, fun G' H' σ' g q => k G' H' σ' (g1.trans g) q⟩ : tX _ _ _ _ _ _ _ σ H1)⟩
theorem bx_head (h : SX X W st ρ M cls ρ' M') : BX X W (st :: rest) ρ M cls ρ' M' :=
  (pss_cons (u := fun _ _ _ => False) h ⟨fun _ _ _ _ _ _ h => h.elim⟩).mono fun _ _ _ h => h
theorem bx_cons (h : SV X st ρ M (fun o => match o with | .nx ρ1 M1 => BX X W rest ρ1 M1 cls ρ' M' | _ => False)) : BX X W (st :: rest) ρ M cls ρ' M' := by
  refine (pss_cons (u := fun E σ H => ∃ ρ1 M1, BX X W rest ρ1 M1 cls ρ' M' ∧ tX X.K W ρ1 M1 cls ρ' M' σ H) h ⟨fun pins s σ H E I ⟨ρ1, M1, hb, q⟩ => hb.run pins s σ H E I q⟩).mono fun E σ H ⟨G, sa, k⟩ => ⟨G, sa, fun o ho => ?_⟩
  cases o with
  | nx ρ1 M1 => exact fun σ1 G1 H1 g sa1 => ⟨ρ1, M1, ho, G1, sa1, fun G' H' σ' g' q => k G' H' σ' (g.trans g') q⟩
  | ret d M1 => exact ho.elim
  | bk ρ1 M1 => exact ho.elim
  | ct ρ1 M1 => exact ho.elim
/-- raise C('m'), C a class of the program without own __init__ -/
theorem sx_raise {x m : Str} {j : Nat} {p p2 pos' : Pos} {C : Addr} {bmB : List Value} {B newId initId : String} (hc : X.calm = true) (tk : Takes X W) (F : ExcBaseFacts B newId initId bmB) (q : PySem.W.excIn X.K C bmB newId = true) (gC : X.mg x = some (.ref C)) (kC : PySem.W.keepIn X.K (.ref C) = true)
    (h1 : PySem.W.subIn X.K (.ref C) (.type "BaseException") = some true) (h2 : PySem.W.typeIn X.K (.ref C) = some (.type "type")) (hg : Gl X x := by rfl) (hdb : (x == ("__debug__" : Str)) = false := by decide) :
    SX X W (.Raise (some (.Call (.Name x p) [.Constant (.str m) j p2] [] pos)) none pos') ρ M (.ref C) ρ M :=
  (L2.ps_raise hc tk (L2.pmk_own F q gC kC (raises_own h1 h2) hg hdb)).mono fun E σ H ⟨G, sa, k⟩ => k G H σ (Same.refl G) sa
/-- a try whose body raises nothing -/
theorem sv_tryThru {body : List Stmt} {h₀ : ExceptHandler} {hs : List ExceptHandler} (hb : BV X.nox body ρ M Ψ) : SV X (.Try body (h₀ :: hs) [] [] pos) ρ M Ψ := ps_try_thru0 hb
/-- a try whose body raises: two clauses, the first a tuple of two other classes, the second one takes it and returns -/
theorem sv_try2 {body suite : List Stmt} {b₀ : Stmt} {x y z n : Str} {p1 p2 p3 p4 p5 p6 : Pos} {kk i : Nat} {nm : Option Str} {c0 : Stmt} {cr : List Stmt} {c1 c2 : Value} {C : Addr} (hs : X.stack = X.env :: X.outer) (hf : X.env.frame = some X.env.locals) (tk : Takes X (fun _ _ _ _ => False))
    (hb : ∀ (W : WX) (pn : List (Addr × Obj)) (xe : Value → Shared → Prop), Takes (X.tr pn xe) W → BX (X.tr pn xe) W body ρ M (.ref C) ρ' M')
    (h1 : Names X x c1) (h2 : Names X y c2) (h3 : Names X z (.ref C)) (hno : PySem.W.exmAny X.K (.ref C) [c1, c2] = some false) (hyes : PySem.W.exmOne X.K (.ref C) (.ref C) = some true) (hN : X.N.Nodup) (hi : X.N[i]? = some n) (hln : X.env.kindOf n = some .local)
    (hsu : ∀ (a : Addr) (oe : Obj) (pn : List (Addr × Obj)), Zc (.ref C) none oe → (∃ vs, oe.data = .fields vs) → BV (X.suite a ((a, oe) :: pn)) (b₀ :: suite) (ρ'.set i (some (dP a))) M' (fun o => match o with | .ret d M2 => Ψ (.ret d M2) | _ => False)) :
    SV X (.Try body [.ExceptHandler (some (.Tuple [.Name x p1, .Name y p2] kk p3)) nm (c0 :: cr) p4, .ExceptHandler (some (.Name z p5)) (some n) (b₀ :: suite) p6] [] [] pos) ρ M Ψ := by
  refine (ps_try_g (tb := fun W _ σ H => tX X.K W ρ M (.ref C) ρ' M' σ H) (Wout := fun _ _ _ _ => False) (l := [.skip [c1, c2], .as (.ref C) i (fun a cls d D σ H => cls = .ref C ∧ d = none ∧ tS X.K (ρ'.set i (some (dP a))) M' (fun o => match o with | .ret d M2 => Ψ (.ret d M2) | _ => False) D σ H)])
    hs hf tk (fun W pn xe tk' _ => hb W pn xe tk') (.skip2 h1 h2 (.as h3 hN hi hln (fun a oe cls d pn hz hd => ⟨fun pins s σ H D I ⟨e1, e2, h⟩ => ?_⟩) .nil))).mono fun E σ H ⟨G, sa, k⟩ => ⟨G, sa, fun G' H' σ' g q => ⟨hno, true, hyes, fun _ a na => ⟨rfl, rfl, G', ⟨q.sh, q.sl.set i (.val _)⟩, fun o ho => ?_⟩, fun h => nomatch h⟩⟩
  · subst e1 e2
    exact (hsu a oe pn hz hd).run pins s σ H D I h
  · cases o with
    | ret d M2 => exact (k _ ho).up g
    | nx _ _ => exact ho.elim
    | bk _ _ => exact ho.elim
    | ct _ _ => exact ho.elim
/-- isinstance(e, c) in an except suite -/
theorem ev_isE {n x : Str} {a C : Addr} {oe : Obj} {pn : List (Addr × Obj)} {cv : Value} {vc : V} {r : Bool} {p p2 p3 : Pos} {i : Nat} (hm : X.mg "isinstance" = none) (EC : ExcC X.K C) (hz : Zc (.ref C) none oe) (hf : ∃ vs, oe.data = .fields vs)
    (hv : ∀ u, RelV vc u → u = cv) (hk : PySem.W.kitOne X.K (.ref C) cv = some r) (ha : AV (X.suite a ((a, oe) :: pn)) [e, .Name x p2] ρ M [dP a, .val vc] M) (hg : Gl (X.suite a ((a, oe) :: pn)) "isinstance" := by rfl)
    (h1 : starEach [e, .Name x p2] X.env = (false, eval e X.env) :: starEach [.Name x p2] X.env := by rfl) (hpl : (backTo pos (starEach [.Name x p2] X.env)).any (·.1) = false := by rfl) :
    EV (X.suite a ((a, oe) :: pn)) (.Call (.Name "isinstance" p) [e, .Name x p2] [] pos) ρ M (dB r) M :=
  (pe_callB (call_isE EC hz hf) hg hm boot_isinstance ha (hpl := hpl) (he := h1)).mono fun σ H Q ⟨G, sa, k⟩ => ⟨G, sa, fun vs G1 H1 g1 sh1 r1 => by
    rw [RepL.of_vals (xs := [.ref a, vc]) r1]
    exact ⟨vc, cv, r, rfl, hv, hk, k _ G1 H1 g1 sh1 (.val _)⟩⟩
end
theorem calX_of {P : Program} {w : World} {K : PySem.W.Frag} {mg : Str → Option Value} {base : Heap} {x qual : Str} {sd : Stmt} {f : Addr} {fd : FuncData} {N ps : List Str} {k : Nat} {R : List D → Mem → Value → Mem → Prop} (F : Fun K x qual sd f fd) (S : FnScope N ps (defScope sd)) (hm : mg x = some (.ref f))
    (hbind : ∀ (kV doc pm : Value) (an : Option Addr) (cdv ct : Value) (us : List Value), us.length = ps.length → bindArgs (PySem.W.fnOf x qual (defArgs sd) (defBody sd) (defScope sd) .none kV doc pm an cdv ct) ⟨us, []⟩ = pure (ps.zip us))
    (len : ∀ ds M cls M', R ds M cls M' → ds.length = ps.length)
    (hb : ∀ (cdv : Value) (A : Around) (outer : List Env) (s : Shared) (H : Hp) (E : XK) (ds : List D) (M : Mem) (cls : Value) (M' : Mem), Room k (A.deeper (envOfC qual (defScope sd) s.heap.objs.size f cdv)) → R ds M cls M' →
      ∀ W, W = (fun cls d _ H' => E cls d H' : WX) → Takes (cxOf (L2.CX P w) P w K mg base N qual (defScope sd) f cdv A outer s H E) W →
      ∃ ρ', BX (cxOf (L2.CX P w) P w K mg base N qual (defScope sd) f cdv A outer s H E) W (defBody sd) (startD N ds) M cls ρ' M') : CalX P w K mg base (k + 1) x (spX K R) :=
  ⟨f, fd, ps, hm, F.kp, F.binds hbind, F.okX S (fun vs H Q E ⟨G, ds, M, cls, M', sh, r, p, q⟩ => by rw [r.len]; exact len _ _ _ _ p) fun cdv A outer s H vs Q E hr ⟨G, ds, M, cls, M', sh, r, p, q⟩ => by
    obtain ⟨ρ', h⟩ := hb cdv A outer s H E ds M cls M' hr p _ rfl (takes_of (E := E) rfl rfl rfl rfl)
    exact ⟨_, h, G, ⟨sh, start_rep r⟩, fun G' H' σ' g sa => q G' H' g sa.sh⟩⟩
section
variable {X : Cx} {ρ : Sl} {M M1 M2 : Mem} {a e : Expr} {pos : Pos}
theorem ev_sindex {z y : Str} {i : Nat} {rest : List Nat} {ap : Pos} (ho : EV X a ρ M (dS z) M1) (ha : EV X e ρ M1 (dS y) M2) (hi : Builtin.Str.occurrences z y 0 z.length 1 = i :: rest) (h1 : attributeBase a "index" X.env (eval a X.env) = eval a X.env := by rfl) (h3 : (ap.endLine == pos.line) = true := by decide) (h4 : starEach [e] X.env = (false, eval e X.env) :: starEach [] X.env := by rfl)
    (h2 : (((((backTo pos (starEach [e] X.env)).all fun x => !x.fst) && (backToKw pos (keywordEach [] X.env)).all fun x => x.fst.isSome) && decide (([e].length + ([] : List Keyword).length + if ([] : List Keyword).isEmpty = true then 0 else 1) < 30)) = true) := by rfl)
    (h5 : (((backTo pos (starEach [] X.env)).any fun x => x.fst) = false) := by rfl) : EV X (.Call (.Attribute a "index" ap) [e] [] pos) ρ M (dI (i : Int)) M2 :=
  ev_bmS (vs := [.str y]) PySem.F.plainAttrs_str PySem.F.slot_str_index PySem.F.type_str_index mt_sindex ho (av_cons ha av_nil h4) (fun H Q q => ⟨z, y, i, rest, rfl, rfl, hi, q⟩) h1 h3 h4 h2 h5
end
end Vt
namespace Vt
open PySem PySem.Spec PyProof.Rows L2
/-! ### defs that run where no guard is up: repr of trees -/
structure FnG (P : Program) (w : World) (K : PySem.W.Frag) (mg : Str → Option Value) (base : Heap) (k : Nat) (f : Addr) (fd : FuncData) (ps : List Str) (sp : Sp) : Prop where
  size : ∀ vs H Q E, sp vs H Q E → vs.length = ps.length
  goes : ∀ (A : Around) (out : List Env) (s : Shared) (H : Hp) (args : Args) (us : List Value) (vs : List V) (Q : VK) (E : XK), A.guards = some [] → Room k A → Env0 P w K mg base A out s H → BindsTo s fd args (ps.zip us) → Vals vs us → sp vs H Q E → codeAny (model P w) A (.call (.ref f) args) (CR CX0 out P w H s Q E) s
def bodyEnds (Q : VK) : Ends := { nx := fun _ H' => Q .non H', rt := Q }
theorem okG {P : Program} {w : World} {K : PySem.W.Frag} {mg : Str → Option Value} {base : Heap} {x qual : Str} {sd : Stmt} {f : Addr} {fd : FuncData} {N ps : List Str} {k : Nat} {sp : Sp} (F : Fun K x qual sd f fd) (S : FnScope N ps (defScope sd)) (size : ∀ vs H Q E, sp vs H Q E → vs.length = ps.length)
    (body : ∀ (cdv : Value) (A : Around) (out : List Env) (s : Shared) (H : Hp) (vs : List V) (Q : VK) (E : XK), (A.deeper (envOfC qual (defScope sd) s.heap.objs.size f cdv)).guards = some [] → Room k (A.deeper (envOfC qual (defScope sd) s.heap.objs.size f cdv)) → sp vs H Q E →
      ∃ t, PSs (cxOf CX0 P w K mg base N qual (defScope sd) f cdv A out s H E).nox (defBody sd) t ∧ t (bodyEnds Q) (L2.start N vs) H) : FnG P w K mg base (k + 1) f fd ps sp := by
  obtain ⟨_, _, _, _, _, _, cdv, _, _, rfl, found, code⟩ := F.ex
  refine ⟨size, fun A out s H args us vs Q E g room env bind rel want => ?_⟩
  have same := size _ _ _ _ want
  have up : ∀ b o, base.get? b = some o → s.heap.get? b = some o := fun b o z => (env.bs b o z).1
  have Kin : K.In s.heap := env.mod.kin.keeps up
  have noL : s.heap.NoLimit := env.mod.nolimit.keeps up
  have kinds : ∀ y ∈ ps.zip us, (defScope sd).names.lookup y.1 = some .local ∨ ((defScope sd).names.lookup y.1 = some .cell ∧ ((cellsFrom (s.heap.objs.size + 1) (defScope sd).names []).lookup y.1).isSome = true) := by
    rintro ⟨n, v⟩ hy
    exact (S.par n (List.of_mem_zip hy).1).imp id fun q => ⟨q, PySem.W.cellsFrom_some _ _ _ (.inl q)⟩
  apply codeAny_call_function room.depth (Kin _ _ found) rfl S.co S.gen rfl (PySem.W.codeRec_of Kin code)
  apply bind
  apply wpAny_newFunctionEnv_cells S.kind kinds
  rintro env1 rfl s1 x
  refine ⟨noL.keeps x.toInCall.keep, codeAny_func ?_⟩
  obtain ⟨t, ht0, atStart⟩ := body cdv A out s H vs Q E g (room.deeper _) want
  have ht := ht0.nox
  have J0 : Inv (cxOf CX0 P w K mg base N qual (defScope sd) f cdv A out s H E) [] (L2.start N vs) H s1 := inv_start S room.hd env same rel x
  refine wpAny_mono (ht.run [] s1 (L2.start N vs) H _ J0 atStart) ?_ (fun _ _ z => z)
  rintro fl s' end_
  match fl, end_ with
  | .ret u, ⟨v, _, H', J, rv, q⟩ => exact ⟨v, H', J.os, J.bare, J.base, J.hok, rv, q⟩
  | .next, ⟨_, H', J, q⟩ => exact ⟨.non, H', J.os, J.bare, J.base, J.hok, rfl, q⟩
  | .brk, ⟨_, _, _, q⟩ => exact q.elim
  | .cont, ⟨_, _, _, q⟩ => exact q.elim
section
variable {X : Cx} {ρ : Sl} {M M1 M2 M3 : Mem} {a b c e : Expr} {es : List Expr} {d d1 d2 : D} {ds : List D} {pos : Pos} {Ψ : Out → Prop}
theorem run_g {k : Nat} {f : Addr} {fd : FuncData} {ps : List Str} {sp : Sp} {pins : List (Addr × Obj)} {σ : L2.St} {H : Hp} {s : Shared} {Q : VK} {us : List Value} {vs : List V} (F : FnG X.prog X.w X.K X.mg X.base k f fd ps sp) (g : X.A.guards = some []) (hr : Room k X.A) (hb : L2.Binds X.K fd ps [])
    (I : Inv X pins σ H s) (r : Vals vs us) (h : sp vs H Q E0) : wpAny (model X.prog X.w) X.A (call (.ref f) us) (EP X pins σ Q) X.xe s := by
  have n : (us ++ []).length = ps.length := by rw [List.append_nil, ← r.length]; exact F.size _ _ _ _ h
  have b := hb s us I.kIn n
  rw [List.append_nil] at b
  refine wpAny_call (codeAny_mono (F.goes X.A X.stack s H ⟨us, []⟩ us vs Q E0 g hr I.env0 b r h) ?_)
  rintro (e | fl) s' hq
  · exact pass0 pins σ H s e s' I hq
  · match fl, hq with
    | .ret u, hq => exact I.after hq
    | .next, hq => exact hq.elim
    | .brk, hq => exact hq.elim
    | .cont, hq => exact hq.elim
structure CalG (P : Program) (w : World) (K : PySem.W.Frag) (mg : Str → Option Value) (base : Heap) (k : Nat) (x : Str) (sp : Sp) : Prop where
  ex : ∃ (f : Addr) (fd : FuncData) (ps : List Str), mg x = some (.ref f) ∧ PySem.W.keepIn K (.ref f) = true ∧ L2.Binds K fd ps [] ∧ FnG P w K mg base k f fd ps sp
theorem pe_callG {k : Nat} {f : Addr} {fd : FuncData} {ps : List Str} {sp : Sp} {x : Str} {p : Pos} {t : TA} (F : FnG X.prog X.w X.K X.mg X.base k f fd ps sp) (g : X.A.guards = some []) (hr : Room k X.A) (hg : Gl X x) (hm : X.mg x = some (.ref f)) (hk : PySem.W.keepIn X.K (.ref f) = true) (hb : L2.Binds X.K fd ps [])
    (ha : PA X (e :: es) t) (hdb : (x == ("__debug__" : Str)) = false) (he : starEach (e :: es) X.env = (false, eval e X.env) :: starEach es X.env) (hpl : (backTo pos (starEach es X.env)).any (·.1) = false) :
    PE X (.Call (.Name x p) (e :: es) [] pos) (fun σ H Q => t σ H fun vs H1 => sp vs H1 Q E0) :=
  ⟨fun pins s σ H Q I h => wpAny_Call_Name_kw (ld_glob I hg hm (PySem.W.callWith_K (h₀ := X.base) I.ok.mod.kin hk (thn (ha.run pos pins s σ H _ I h) fun _ _ ⟨_, _, J, r, q⟩ => ⟨J.kIn, run_g F g hr hb J r q⟩) he hpl) hdb)⟩
theorem ev_callG {k : Nat} {x : Str} {Pr : List D → Mem → D → Mem → Prop} {p : Pos} (C : CalG X.prog X.w X.K X.mg X.base k x (spD X.K Pr)) (g : X.A.guards = some []) (hr : Room k X.A) (ha : AV X (e :: es) ρ M ds M1) (hp : Pr ds M1 d M2) (hg : Gl X x := by rfl)
    (hd : (x == ("__debug__" : Str)) = false := by decide) (hst : starEach (e :: es) X.env = (false, eval e X.env) :: starEach es X.env := by rfl) (hpl : (backTo pos (starEach es X.env)).any (·.1) = false := by rfl) : EV X (.Call (.Name x p) (e :: es) [] pos) ρ M d M2 := by
  obtain ⟨f, fd, ps, hm, hk, hb, F⟩ := C.ex
  exact (pe_callG F g hr hg hm hk hb ha hd hst hpl).mono fun σ H Q ⟨G, sa, k⟩ => ⟨G, sa, fun vs G1 H1 g1 sh1 r1 => ⟨G1, ds, M1, d, M2, sh1, r1, hp, fun v G' H' g2 sh r => k v G' H' (g1.trans g2) sh r⟩⟩
/-- repr(x) of a tree -/
theorem ev_repr {p : Pos} (g : X.A.guards = some []) (hu : X.A.units + 64 < cLine) (hm : X.mg "repr" = none) (ha : EV X e ρ M d M1) (pl : D.plain d = true) (nv : ∀ v, d ≠ .val v) (nd : d.py.hasDict = false) (ss : d.py.showable = true) (dd : d.py.depth < 60) (sz : d.py.shown.length ≤ sizeLine) (hg : Gl X "repr" := by rfl) (hst : starEach [e] X.env = [(false, eval e X.env)] := by rfl) :
    EV X (.Call (.Name "repr" p) [e] [] pos) ρ M (dS d.py.shown) M1 := by
  have cr : CallR X (.builtin "repr") (fun vs H Q => ∃ a, vs = [V.ref a] ∧ Dp X.K H (.ref a) d.py ∧ Q (.str d.py.shown) H) := by
    intro pins s σ H vs us Q I r h
    obtain ⟨a, rfl, dp, q⟩ := h
    obtain ⟨u, rfl, ru⟩ := vals1 r
    obtain rfl : u = Value.ref a := ru
    obtain ⟨as, rd⟩ := Dp.reads I _ _ _ dp rfl
    refine repr_of_reads' rd ss (fun z => by rw [nd] at z; cases z) g (by omega) (fun _ _ z => z) (fun h' u tk hk => ?_) sz
    exact ⟨.str d.py.shown, H, I.kept hk, ⟨_, rfl⟩, q⟩
  refine (pe_callB cr hg hm boot_repr (av_cons ha av_nil hst) (he := hst) (hpl := by rfl)).mono fun σ H Q ⟨G, sa, k⟩ => ⟨G, sa, fun vs G1 H1 g1 sh1 r1 => ?_⟩
  cases r1 with
  | cons h t =>
    cases t
    have dp := dp_of sh1.le _ _ pl h
    cases h with
    | val => exact absurd rfl (nv _)
    | tup q r => exact ⟨_, rfl, dp, k _ G1 H1 g1 sh1 (.val _)⟩
    | lst q r => exact ⟨_, rfl, dp, k _ G1 H1 g1 sh1 (.val _)⟩
    | dic q => cases pl
end
end Vt
namespace Vt
open PySem PySem.Spec PyProof.Rows L2
/-! ### the end of a law whose body asks repr -/
/-- what may be tracked at the entry: the script alone -/
def soleH (K : PySem.W.Frag) (a : Addr) (o : Obj) (xs : List V) : Hp := fun b => if b = a ∧ (K.lookup a).isNone = true then some (.frz o (.lst xs)) else none
theorem soleH_of {K : PySem.W.Frag} {a b : Addr} {o : Obj} {xs : List V} {u : HO} (h : soleH K a o xs b = some u) : b = a ∧ K.lookup a = none ∧ u = .frz o (.lst xs) := by
  unfold soleH at h
  by_cases c : b = a ∧ (K.lookup a).isNone = true
  · rw [if_pos c] at h
    exact ⟨c.1, Option.isNone_iff_eq_none.mp c.2, (Option.some.inj h).symm⟩
  · rw [if_neg c] at h
    cases h
theorem law_runG {P : Program} {w : World} {K : PySem.W.Frag} {mg mb : Str → Option Value} {k : Nat} {fa a : Addr} {fd : FuncData} {x : Str} {s : Shared} {vs : List Value} {ns : List Int}
    (kin : K.In s.heap) (glob : s.heap.Ns mainGlobals mg) (blt : s.heap.Ns builtinsNs mb) (bltE : ∀ z : Str, z ≠ "__name__" → mb z = bootBuiltins z) (noL : s.heap.NoLimit) (gens : s.gens = #[])
    (at_ : s.heap.get? a = some { cls := .type "list", data := .seq vs.toArray }) (are : IntsAre vs ns) (short : ns.length ≤ 63) (room : Room k callerA)
    (F : ∀ base : Heap, K.In base → base.Ns mainGlobals mg → FnG P w K mg base k fa fd [x] (spLaw K)) (binds : ∀ (s : Shared) (u : Value), BindsTo s fd ⟨[u], []⟩ [(x, u)]) :
    codeAny (model P w) callerA (.call (.ref fa) ⟨[.ref a], []⟩) (fun r s' => r = .ok (.ret (.bool true)) ∧ OldK s.heap s'.heap ∧ s'.os = s.os ∧ AllBare s'.gens) s := by
  have rv := vals_ints are
  have size : ns.length ≤ sizeLine := Nat.le_trans short (by decide)
  let o : Obj := { cls := .type "list", data := .seq vs.toArray }
  let H : Hp := soleH K a o (ns.map V.int)
  have only : ∀ {b : Addr} {u : HO}, H b = some u → b = a ∧ K.lookup a = none ∧ u = .frz o (.lst (ns.map V.int)) := fun h => soleH_of h
  have apart : ∀ {b : Addr} {ob : Obj}, s.heap.get? b = some ob → (b = a → K.lookup a = none → False) → (hidT s.heap H).get? b = some ob := fun {b ob} e no => hidT_get e (by
    cases q : H b with
    | none => rfl
    | some u => exact (no (only q).1 (only q).2.1).elim)
  have names : ∀ {b : Addr} {m : Str → Option Value}, s.heap.Ns b m → (hidT s.heap H).Ns b m := by
    rintro b m ⟨ob, es, ep, e, d, r⟩
    refine ⟨ob, es, ep, apart e (fun z _ => ?_), d, r⟩
    rw [z, at_] at e
    cases e
    cases d
  have kin' : K.In (hidT s.heap H) := fun b ob e => apart (kin b ob e) fun z n => by
    rw [z, n] at e
    cases e
  have lst : SqL K H a (ns.map V.int) := by
    cases q : K.lookup a with
    | none => exact .inl (.inr ⟨o, if_pos ⟨rfl, by rw [q]; rfl⟩⟩)
    | some oa =>
      have e := kin a oa q
      rw [at_] at e
      cases e
      refine .inr ⟨_, vs.toArray, _, q, rfl, rfl, rfl, ?_, by simpa using rv⟩
      rw [List.size_toArray, are.length]
      exact size
  have hok : HOk P w H s.heap := fun b u e => by
    obtain ⟨rfl, _, rfl⟩ := only e
    exact ⟨at_, by rw [List.length_map]; exact size, vs, _, rv, at_⟩
  have env : Env0 P w K mg (hidT s.heap H) callerA [] s H :=
    ⟨rfl, ⟨kin', names glob, ⟨mb, names blt, bltE⟩, let ⟨mc, h1, h2⟩ := noL; ⟨mc, names h1, h2⟩⟩, fun b ob e => of_hidT e, Nat.le_of_eq (hidT_size _ _), trivial, fun b hb => absurd hb List.not_mem_nil, hok, .of_eq gens⟩
  refine codeAny_mono ((F _ kin' (names glob)).goes callerA [] s H ⟨[.ref a], []⟩ [.ref a] [.ref a] (fun v _ => v = .bl true) (fun _ _ _ => False) rfl room env (binds s (.ref a)) (.cons rfl .nil) ⟨a, ns, rfl, lst, short, fun _ => rfl⟩) ?_
  rintro (e | fl) s' end_
  · exact (end_ : False).elim
  · match fl, end_ with
    | .next, z => exact z.elim
    | .brk, z => exact z.elim
    | .cont, z => exact z.elim
    | .ret u, ⟨v, H', os, bare, un, hok', ru, q⟩ =>
      have q : v = .bl true := q
      subst q
      obtain rfl : u = Value.bool true := ru
      have old : ∀ b ob, s.heap.get? b = some ob → s'.heap.get? b = some ob := fun b ob e => by
        cases q : H b with
        | none => exact un.keep b ob e q (fun z => absurd z List.not_mem_nil) (fun z => absurd z List.not_mem_nil)
        | some u =>
          obtain ⟨rfl, _, rfl⟩ := only q
          obtain ⟨e1, _⟩ := hok b _ q
          obtain ⟨e2, _⟩ := hok' b _ (un.frzs b o _ q)
          rw [e] at e1
          cases e1
          exact e2
      exact ⟨rfl, ⟨fun b ob e => .inl (old b ob e), fun b ob e => ⟨ob, old b ob e⟩⟩, os, bare⟩
theorem walkG {l : PySem.W.OpenLaw} {q : Program} {loose : List Str} {XP : (Str → Option Value) → Heap → Prop} {YP : World → Heap → Prop} {d : DefRec} {K : Params → PySem.W.Frag} {k : Nat} (hk : Room k callerA) (hn : l.most = some 63) (hdf : d.params.defaults = [])
    (hY : ∀ (w : World) (h : Heap), YP w h → (K w.params).In h)
    (F : ∀ (w : World) (mg : Str → Option Value) (fa : Addr) (h : Heap), (K w.params).In h → h.Ns mainGlobals mg → mg d.name = some (.ref fa) →
      ∃ fd : FuncData, (∀ (s : Shared) (u : Value), BindsTo s fd ⟨[u], []⟩ [("script", u)]) ∧ ∀ base : Heap, (K w.params).In base → base.Ns mainGlobals mg → FnG l.prog w (K w.params) mg base k fa fd ["script"] (spLaw (K w.params))) :
    PySem.W.WalkO q loose XP YP l.row.toRowW d [] (fun f vs => PySem.call f vs) := by
  refine Att.attach_call hn hdf fun w s₀ s₁ mg mb fa o pm cd doc a vs ns G Y ho hd hcd hmg hobj hints hlen hg => ?_
  obtain ⟨fd, hb, hF⟩ := F w mg fa _ (hY w _ Y) G.T.g hmg
  exact law_runG (hY w _ Y) G.T.g G.T.b G.T.builtins G.T.nolimit hg hobj hints hlen hk hF hb
theorem law_ofG {P : Program} {w : World} {K : PySem.W.Frag} {mg : Str → Option Value} {base : Heap} {sd : Stmt} {f : Addr} {fd : FuncData} {N : List Str} {k : Nat} (F : Fun K "law" "law" sd f fd) (S : FnScope N ["script"] (defScope sd))
    (hb : ∀ (cdv : Value) (A : Around) (outer : List Env) (s : Shared) (H : Hp) (E : XK) (ns : List Int), (A.deeper (envOfC "law" (defScope sd) s.heap.objs.size f cdv)).guards = some [] → Room k (A.deeper (envOfC "law" (defScope sd) s.heap.objs.size f cdv)) → ns.length ≤ 63 →
      BV (cxOf CX0 P w K mg base N "law" (defScope sd) f cdv A outer s H E).nox (defBody sd) (startD N [.lst (ns.map dI)]) (fun _ => none) FinL) : FnG P w K mg base (k + 1) f fd ["script"] (spLaw K) := by
  refine okG F S (fun vs H Q E ⟨a, ns, e, _⟩ => by rw [e]; rfl) fun cdv A outer s H vs Q E g hr ⟨a, ns, e, hs, hl, q⟩ => ?_
  subst e
  have rl : ∀ xs : List Int, RepL K H (xs.map V.int) (xs.map dI) := fun xs => by
    have e := RepL.vals (K := K) (G := H) (xs.map V.int)
    rwa [List.map_map] at e
  have r : RepL K H [V.ref a] [.lst (ns.map dI)] := .cons (.lst hs (rl ns)) .nil
  refine ⟨_, hb cdv A outer s H E ns g hr hl, H, ⟨⟨Same.refl _, fun b mo e => nomatch e⟩, start_rep r⟩, fun o ho => ?_⟩
  cases o with
  | ret d M =>
    have ho : d = dB true := ho
    subst ho
    exact fun v G' H' g sh r => by
      rw [r.of_val]
      exact q H'
  | nx ρ M => exact (show False from ho).elim
  | bk _ _ => exact (show False from ho).elim
  | ct _ _ => exact (show False from ho).elim
end Vt
namespace Vt
open PySem PySem.Spec PyProof.Rows L2
/-! ### the relational calculus: what follows is told in the place of the answer -/
def tAW (K : PySem.W.Frag) (ρ : Sl) (M : Mem) (Φ : List D → Mem → Prop) : TA := fun σ H Q => ∃ G, SA K G H σ ρ M ∧ ∀ vs G' H' ds M', Φ ds M' → Same G G' → SH K G' H' M' → RepL K G' vs ds → Q vs H'
def tTW (K : PySem.W.Frag) (ρ : Sl) (M : Mem) (Φ : Bool → Mem → Prop) : TT := fun σ H Q => ∃ G, SA K G H σ ρ M ∧ ∀ b G' H' M', Φ b M' → Same G G' → SH K G' H' M' → Q b H'
abbrev AW (X : Cx) (es : List Expr) (ρ : Sl) (M : Mem) (Φ : List D → Mem → Prop) : Prop := PA X es (tAW X.K ρ M Φ)
abbrev TW (X : Cx) (e : Expr) (ρ : Sl) (M : Mem) (Φ : Bool → Mem → Prop) : Prop := PT X e (tTW X.K ρ M Φ)
abbrev WW (X : Cx) (e : Expr) (ρ : Sl) (M : Mem) (Φ : Bool → Mem → Prop) : Prop := PW X e (tTW X.K ρ M Φ)
def pkE (X : Cx) (e : Expr) (ρ : Sl) : TE := fun σ H Q => ∃ M Φ, EW X e ρ M Φ ∧ tW X.K ρ M Φ σ H Q
theorem pk_e {X : Cx} {e : Expr} {ρ : Sl} : PE X e (pkE X e ρ) := ⟨fun pins s σ H Q I ⟨_, _, h, q⟩ => h.run pins s σ H Q I q⟩
def pkA (X : Cx) (es : List Expr) (ρ : Sl) : TA := fun σ H Q => ∃ M Φ, AW X es ρ M Φ ∧ tAW X.K ρ M Φ σ H Q
theorem pk_a {X : Cx} {es : List Expr} {ρ : Sl} : PA X es (pkA X es ρ) := ⟨fun pos pins s σ H Q I ⟨_, _, h, q⟩ => h.run pos pins s σ H Q I q⟩
def pkT (X : Cx) (e : Expr) (ρ : Sl) : TT := fun σ H Q => ∃ M Φ, TW X e ρ M Φ ∧ tTW X.K ρ M Φ σ H Q
theorem pk_t {X : Cx} {e : Expr} {ρ : Sl} : PT X e (pkT X e ρ) := ⟨fun pins s σ H Q I ⟨_, _, h, q⟩ => h.run pins s σ H Q I q⟩
def pkW (X : Cx) (e : Expr) (ρ : Sl) : TT := fun σ H Q => ∃ M Φ, WW X e ρ M Φ ∧ tTW X.K ρ M Φ σ H Q
theorem pk_w {X : Cx} {e : Expr} {ρ : Sl} : PW X e (pkW X e ρ) := ⟨fun wh pins s σ H Q I ⟨_, _, h, q⟩ => h.run wh pins s σ H Q I q⟩
def pkB (X : Cx) (sts : List Stmt) (ρ : Sl) (Ψ : Out → Prop) : TS := fun E σ H => ∃ M, BV X sts ρ M Ψ ∧ tS X.K ρ M Ψ E σ H
theorem pk_b {X : Cx} {sts : List Stmt} {ρ : Sl} {Ψ : Out → Prop} : PSs X sts (pkB X sts ρ Ψ) := ⟨fun pins s σ H E I ⟨_, h, q⟩ => h.run pins s σ H E I q⟩
section
variable {X : Cx} {ρ : Sl} {M M1 M2 M3 : Mem} {a b c e : Expr} {es : List Expr} {d d1 d2 : D} {ds : List D} {pos : Pos} {Ψ : Out → Prop} {Φ : D → Mem → Prop} {ΦA : List D → Mem → Prop} {ΦT : Bool → Mem → Prop}
theorem aw_av (h : AV X es ρ M ds M1) (q : ΦA ds M1) : AW X es ρ M ΦA := h.mono fun σ H Q ⟨G, sa, k⟩ => ⟨G, sa, fun vs G1 H1 g1 sh1 r1 => k vs G1 H1 ds M1 q g1 sh1 r1⟩
theorem tw_tv {p : Bool} (h : TV X e ρ M p M1) (q : ΦT p M1) : TW X e ρ M ΦT := h.mono fun σ H Q ⟨G, sa, k⟩ => ⟨G, sa, fun G1 H1 g1 sh1 => k p G1 H1 M1 q g1 sh1⟩
theorem ww_wv {p : Bool} (h : WV X e ρ M p M1) (q : ΦT p M1) : WW X e ρ M ΦT := h.mono fun σ H Q ⟨G, sa, k⟩ => ⟨G, sa, fun G1 H1 g1 sh1 => k p G1 H1 M1 q g1 sh1⟩
theorem aw_nil (q : ΦA [] M) : AW X [] ρ M ΦA := aw_av av_nil q
theorem aw_cons (h : EW X e ρ M (fun d M1 => AW X es ρ M1 (fun ds M2 => ΦA (d :: ds) M2))) (hs : starEach (e :: es) X.env = (false, eval e X.env) :: starEach es X.env := by rfl) : AW X (e :: es) ρ M ΦA :=
  (pa_cons h pk_a hs).mono fun σ H Q ⟨G, sa, k⟩ => ⟨G, sa, fun v1 G1 H1 d M1 h g1 sh1 r1 => ⟨M1, _, h, G1, ⟨sh1, sa.sl.up g1⟩, fun vs G2 H2 ds M2 p g2 sh2 r2 => k _ G2 H2 _ M2 p (g1.trans g2) sh2 (.cons (r1.up g2) r2)⟩⟩
theorem ew_op {op : Operator} {r : R2} (ho : OpR X (binaryOp op) r) (h : EW X a ρ M (fun d1 M1 => ∃ x, d1 = .val x ∧ EW X b ρ M1 (fun d2 M2 => ∃ y z, d2 = .val y ∧ RS r x y z ∧ Φ (.val z) M2))) : EW X (.BinOp a op b pos) ρ M Φ :=
  (pe_op ho h pk_e).mono fun σ H Q ⟨G, sa, k⟩ => ⟨G, sa, fun v1 G1 H1 d1 M1 ⟨x, e1, h⟩ g1 sh1 r1 => ⟨M1, _, h, G1, ⟨sh1, sa.sl.up g1⟩, fun v2 G2 H2 d2 M2 ⟨y, z, e2, hr, p⟩ g2 sh2 r2 => by
    subst e1 e2
    rw [r1.of_val, r2.of_val]
    exact hr H2 Q (k _ G2 H2 _ M2 p (g1.trans g2) sh2 (.val _))⟩⟩
theorem ew_un {op : UnaryOp} {r : V → Hp → VK → Prop} (ho : UnR X (unaryOp op) r) (h : EW X a ρ M (fun d1 M1 => ∃ x z, d1 = .val x ∧ RU r x z ∧ Φ (.val z) M1)) : EW X (.UnaryOp op a pos) ρ M Φ :=
  (pe_un ho h).mono fun σ H Q ⟨G, sa, k⟩ => ⟨G, sa, fun v1 G1 H1 d1 M1 ⟨x, z, e1, hr, p⟩ g1 sh1 r1 => by
    subst e1
    rw [r1.of_val]
    exact hr H1 Q (k _ G1 H1 _ M1 p g1 sh1 (.val _))⟩
theorem ew_cmp {op : CmpOp} {r : R2} (ho : OpR X (compareOp op) r) (h : EW X a ρ M (fun d1 M1 => ∃ x, d1 = .val x ∧ EW X b ρ M1 (fun d2 M2 => ∃ y z, d2 = .val y ∧ RS r x y z ∧ Φ (.val z) M2))) (hm : behindInMarks op b = false) : EW X (.Compare a [op] [b] pos) ρ M Φ :=
  (pe_cmpR ho h pk_e hm).mono fun σ H Q ⟨G, sa, k⟩ => ⟨G, sa, fun v1 G1 H1 d1 M1 ⟨x, e1, h⟩ g1 sh1 r1 => ⟨M1, _, h, G1, ⟨sh1, sa.sl.up g1⟩, fun v2 G2 H2 d2 M2 ⟨y, z, e2, hr, p⟩ g2 sh2 r2 => by
    subst e1 e2
    rw [r1.of_val, r2.of_val]
    exact hr H2 Q (k _ G2 H2 _ M2 p (g1.trans g2) sh2 (.val _))⟩⟩
theorem tw_cmp {op : CmpOp} {r : R2} (ho : OpR X (compareOp op) r) (h : EW X a ρ M (fun d1 M1 => ∃ x, d1 = .val x ∧ EW X b ρ M1 (fun d2 M2 => ∃ y z, d2 = .val y ∧ RS r x y (.bl z) ∧ ΦT z M2))) (hm : behindInMarks op b = false) : TW X (.Compare a [op] [b] pos) ρ M ΦT :=
  (pt_cmpR ho h pk_e hm).mono fun σ H Q ⟨G, sa, k⟩ => ⟨G, sa, fun v1 G1 H1 d1 M1 ⟨x, e1, h⟩ g1 sh1 r1 => ⟨M1, _, h, G1, ⟨sh1, sa.sl.up g1⟩, fun v2 G2 H2 d2 M2 ⟨y, z, e2, hr, p⟩ g2 sh2 r2 => by
    subst e1 e2
    rw [r1.of_val, r2.of_val]
    exact hr H2 _ ⟨z, rfl, k z G2 H2 M2 p (g1.trans g2) sh2⟩⟩⟩
theorem tw_val (h : EW X e ρ M (fun d M1 => ∃ p, d = dB p ∧ ΦT p M1)) (he : ∀ whole, isTrue e X.env whole = (do let v ← whole; standAt e.pos; holding [v] (truthy v)) := by intro _; rfl) : TW X e ρ M ΦT :=
  (pt_val h he).mono fun σ H Q ⟨G, sa, k⟩ => ⟨G, sa, fun v1 G1 H1 d M1 ⟨p, e1, q⟩ g1 sh1 r1 => by
    subst e1
    exact ⟨p, r1.of_val, k p G1 H1 M1 q g1 sh1⟩⟩
theorem tw_not (h : TW X e ρ M (fun p M1 => ΦT (!p) M1)) : TW X (.UnaryOp .Not e pos) ρ M ΦT :=
  (pt_not h).mono fun σ H Q ⟨G, sa, k⟩ => ⟨G, sa, fun p G1 H1 M1 q g1 sh1 => k _ G1 H1 M1 q g1 sh1⟩
theorem ww_one_and (h : TW X e ρ M ΦT) : WW X (.BoolOp .And [e] pos) ρ M ΦT := pw_and1 h
theorem ww_one_or (h : TW X e ρ M ΦT) : WW X (.BoolOp .Or [e] pos) ρ M ΦT := pw_or1 h
theorem ww_and {rest : List Expr} (h : TW X a ρ M (fun p M1 => (p = true → WW X (.BoolOp .And (b :: rest) pos) ρ M1 ΦT) ∧ (p = false → ΦT false M1))) : WW X (.BoolOp .And (a :: b :: rest) pos) ρ M ΦT :=
  (pw_and h pk_w).mono fun σ H Q ⟨G, sa, k⟩ => ⟨G, sa, fun p G1 H1 M1 ⟨h1, h2⟩ g1 sh1 => by
    cases p with
    | true => exact (⟨M1, _, h1 rfl, G1, ⟨sh1, sa.sl.up g1⟩, fun p G2 H2 M2 q g2 sh2 => k p G2 H2 M2 q (g1.trans g2) sh2⟩ : pkW X _ ρ σ H1 Q)
    | false => exact (k false G1 H1 M1 (h2 rfl) g1 sh1 : Q false H1)⟩
theorem ww_or {rest : List Expr} (h : TW X a ρ M (fun p M1 => (p = false → WW X (.BoolOp .Or (b :: rest) pos) ρ M1 ΦT) ∧ (p = true → ΦT true M1))) : WW X (.BoolOp .Or (a :: b :: rest) pos) ρ M ΦT :=
  (pw_or h pk_w).mono fun σ H Q ⟨G, sa, k⟩ => ⟨G, sa, fun p G1 H1 M1 ⟨h1, h2⟩ g1 sh1 => by
    cases p with
    | false => exact (⟨M1, _, h1 rfl, G1, ⟨sh1, sa.sl.up g1⟩, fun p G2 H2 M2 q g2 sh2 => k p G2 H2 M2 q (g1.trans g2) sh2⟩ : pkW X _ ρ σ H1 Q)
    | true => exact (k true G1 H1 M1 (h2 rfl) g1 sh1 : Q true H1)⟩
/-- a and b as values: bools -/
theorem ew_andB {rest : List Expr} (h : EW X a ρ M (fun d M1 => ∃ p, d = dB p ∧ (p = true → EW X (.BoolOp .And (b :: rest) pos) ρ M1 Φ) ∧ (p = false → Φ (dB false) M1))) : EW X (.BoolOp .And (a :: b :: rest) pos) ρ M Φ :=
  (pe_and h pk_e).mono fun σ H Q ⟨G, sa, k⟩ => ⟨G, sa, fun v1 G1 H1 d M1 ⟨p, e1, h1, h2⟩ g1 sh1 r1 => by
    subst e1
    refine ⟨p, r1.of_val, ?_⟩
    cases p with
    | true => exact (⟨M1, _, h1 rfl, G1, ⟨sh1, sa.sl.up g1⟩, fun v G2 H2 d2 M2 q g2 sh2 r2 => k v G2 H2 d2 M2 q (g1.trans g2) sh2 r2⟩ : pkE X _ ρ σ H1 Q)
    | false => exact (k _ G1 H1 _ M1 (h2 rfl) g1 sh1 (.val _) : Q (.bl false) H1)⟩
theorem ew_orB {rest : List Expr} (h : EW X a ρ M (fun d M1 => ∃ p, d = dB p ∧ (p = false → EW X (.BoolOp .Or (b :: rest) pos) ρ M1 Φ) ∧ (p = true → Φ (dB true) M1))) : EW X (.BoolOp .Or (a :: b :: rest) pos) ρ M Φ :=
  (pe_or h pk_e).mono fun σ H Q ⟨G, sa, k⟩ => ⟨G, sa, fun v1 G1 H1 d M1 ⟨p, e1, h1, h2⟩ g1 sh1 r1 => by
    subst e1
    refine ⟨p, r1.of_val, ?_⟩
    cases p with
    | false => exact (⟨M1, _, h1 rfl, G1, ⟨sh1, sa.sl.up g1⟩, fun v G2 H2 d2 M2 q g2 sh2 r2 => k v G2 H2 d2 M2 q (g1.trans g2) sh2 r2⟩ : pkE X _ ρ σ H1 Q)
    | true => exact (k _ G1 H1 _ M1 (h2 rfl) g1 sh1 (.val _) : Q (.bl true) H1)⟩
theorem ew_notB (h : EW X e ρ M (fun d M1 => ∃ p, d = dB p ∧ Φ (dB (!p)) M1)) : EW X (.UnaryOp .Not e pos) ρ M Φ :=
  (pe_not h).mono fun σ H Q ⟨G, sa, k⟩ => ⟨G, sa, fun v1 G1 H1 d M1 ⟨p, e1, q⟩ g1 sh1 r1 => by
    subst e1
    exact ⟨p, r1.of_val, k _ G1 H1 _ M1 q g1 sh1 (.val _)⟩⟩
theorem ew_if (h : TW X c ρ M (fun p M1 => (p = true → EW X a ρ M1 Φ) ∧ (p = false → EW X b ρ M1 Φ))) : EW X (.IfExp c a b pos) ρ M Φ :=
  (pe_ifExp h pk_e pk_e).mono fun σ H Q ⟨G, sa, k⟩ => ⟨G, sa, fun p G1 H1 M1 ⟨h1, h2⟩ g1 sh1 => by
    cases p with
    | true => exact (⟨M1, _, h1 rfl, G1, ⟨sh1, sa.sl.up g1⟩, fun v G2 H2 d2 M2 q g2 sh2 r2 => k v G2 H2 d2 M2 q (g1.trans g2) sh2 r2⟩ : pkE X _ ρ σ H1 Q)
    | false => exact (⟨M1, _, h2 rfl, G1, ⟨sh1, sa.sl.up g1⟩, fun v G2 H2 d2 M2 q g2 sh2 r2 => k v G2 H2 d2 M2 q (g1.trans g2) sh2 r2⟩ : pkE X _ ρ σ H1 Q)⟩
theorem ew_tup {x1} (h : AW X es ρ M (fun ds M1 => ds.length ≤ sizeLine ∧ Φ (.tup ds) M1)) : EW X (.Tuple es x1 pos) ρ M Φ :=
  (pe_tup h).mono fun σ H Q ⟨G, sa, k⟩ => ⟨G, sa, fun vs G1 H1 ds M1 ⟨hl, q⟩ g1 sh1 r1 => ⟨by rw [r1.len]; exact hl, fun p hp => by
    obtain ⟨sh2, g2⟩ := sh1.new (o := .tup vs) hp
    exact k _ _ _ _ M1 q (g1.trans g2) sh2 (.tup (.inl (.inl upd_same)) (r1.up g2))⟩⟩
theorem ew_lst (h : AW X es ρ M (fun ds M1 => ds.length ≤ sizeLine ∧ Φ (.lst ds) M1)) : EW X (.List es pos) ρ M Φ :=
  (pe_lst h).mono fun σ H Q ⟨G, sa, k⟩ => ⟨G, sa, fun vs G1 H1 ds M1 ⟨hl, q⟩ g1 sh1 r1 => ⟨by rw [r1.len]; exact hl, fun p hp => by
    obtain ⟨sh2, g2⟩ := sh1.new (o := .lst vs) hp
    exact k _ _ _ _ M1 q (g1.trans g2) sh2 (.lst (.inl (.inl upd_same)) (r1.up g2))⟩⟩
theorem ew_ixQ (h : EW X a ρ M (fun d1 M1 => ∃ q ds, d1 = sq q ds ∧ EW X b ρ M1 (fun d2 M2 => ∃ i d, d2 = dI i ∧ atI ds i = some d ∧ Φ d M2))) (hs : PlainIx b := by (intro _ _; rfl)) : EW X (.Subscript a b pos) ρ M Φ :=
  (pe_ix ix_seq h pk_e hs).mono fun σ H Q ⟨G, sa, k⟩ => ⟨G, sa, fun v1 G1 H1 d1 M1 ⟨q, ds, e1, h2⟩ g1 sh1 r1 => ⟨M1, _, h2, G1, ⟨sh1, sa.sl.up g1⟩, fun v2 G2 H2 d2 M2 ⟨i, d, e2, hat, p⟩ g2 sh2 r2 => by
    subst e1 e2
    cases q with
    | true =>
      cases (show Rep X.K G1 v1 (.lst ds) from r1) with
      | lst q r =>
        obtain ⟨v, e, rv⟩ := atI_up (r.up g2) hat
        exact .inl ⟨_, _, i, v, rfl, r2.of_val, sqlUp sh2.le (sqlUp g2 q), e, k _ G2 H2 _ M2 p (g1.trans g2) sh2 rv⟩
    | false =>
      cases (show Rep X.K G1 v1 (.tup ds) from r1) with
      | tup q r =>
        obtain ⟨v, e, rv⟩ := atI_up (r.up g2) hat
        exact .inr (.inl ⟨_, _, i, v, rfl, r2.of_val, sqtUp sh2.le (sqtUp g2 q), e, k _ G2 H2 _ M2 p (g1.trans g2) sh2 rv⟩)⟩⟩
end
end Vt
namespace Vt
open PySem PySem.Spec PyProof.Rows L2
section
variable {X : Cx} {ρ : Sl} {M M1 M2 M3 : Mem} {a b c e : Expr} {es : List Expr} {d d1 d2 : D} {ds : List D} {pos : Pos} {Ψ : Out → Prop} {Φ : D → Mem → Prop} {ΦA : List D → Mem → Prop} {ΦT : Bool → Mem → Prop}
/-! calls -/
theorem ew_callD {k : Nat} {x : Str} {Pr : List D → Mem → D → Mem → Prop} {p : Pos} (C : Cal X.prog X.w X.K X.mg X.base k x (spD X.K Pr)) (hr : Room k X.A) (h : AW X (e :: es) ρ M (fun ds M1 => ∃ d M2, Pr ds M1 d M2 ∧ Φ d M2)) (hg : Gl X x := by rfl)
    (hd : (x == ("__debug__" : Str)) = false := by decide) (hst : starEach (e :: es) X.env = (false, eval e X.env) :: starEach es X.env := by rfl) (hpl : (backTo pos (starEach es X.env)).any (·.1) = false := by rfl) : EW X (.Call (.Name x p) (e :: es) [] pos) ρ M Φ := by
  obtain ⟨f, fd, ps, hm, hk, hb, F⟩ := C.ex
  refine (pe_call F hr hg hm hk hb .nil pass0 h (hdb := hd) (he := hst) (hpl := hpl)).mono fun σ H Q ⟨G, sa, k⟩ => ⟨G, sa, fun vs G1 H1 ds M1 ⟨d, M2, hp, q⟩ g1 sh1 r1 => ?_⟩
  show spD X.K Pr (vs ++ []) H1 Q E0
  rw [List.append_nil]
  exact ⟨G1, ds, M1, d, M2, sh1, r1, hp, fun v G' H' g sh r => k v G' H' d M2 q (g1.trans g) sh r⟩
theorem ew_callW {k : Nat} {x : Str} {R : List D → Mem → (D → Mem → Prop) → Prop} {p : Pos} (C : Cal X.prog X.w X.K X.mg X.base k x (spW X.K R)) (hr : Room k X.A) (h : AW X (e :: es) ρ M (fun ds M1 => R ds M1 Φ)) (hg : Gl X x := by rfl)
    (hd : (x == ("__debug__" : Str)) = false := by decide) (hst : starEach (e :: es) X.env = (false, eval e X.env) :: starEach es X.env := by rfl) (hpl : (backTo pos (starEach es X.env)).any (·.1) = false := by rfl) : EW X (.Call (.Name x p) (e :: es) [] pos) ρ M Φ := by
  obtain ⟨f, fd, ps, hm, hk, hb, F⟩ := C.ex
  refine (pe_call F hr hg hm hk hb .nil pass0 h (hdb := hd) (he := hst) (hpl := hpl)).mono fun σ H Q ⟨G, sa, k⟩ => ⟨G, sa, fun vs G1 H1 ds M1 hp g1 sh1 r1 => ?_⟩
  show spW X.K R (vs ++ []) H1 Q E0
  rw [List.append_nil]
  exact ⟨G1, ds, M1, Φ, sh1, r1, hp, fun v G' H' d M' q g sh r => k v G' H' d M' q (g1.trans g) sh r⟩
theorem ew_callN {k : Nat} {x : Str} {Pr : List D → Mem → List D → Mem → Prop} {p : Pos} (C : Cal X.prog X.w X.K X.mg X.base k x (spN X.K Pr)) (hr : Room k X.A) (h : AW X (e :: es) ρ M (fun ds M1 => ∃ es' M2, Pr ds M1 es' M2 ∧ ∀ q, M2 q = none → Φ (dP q) (M2.set q (.lst es')))) (hg : Gl X x := by rfl)
    (hd : (x == ("__debug__" : Str)) = false := by decide) (hst : starEach (e :: es) X.env = (false, eval e X.env) :: starEach es X.env := by rfl) (hpl : (backTo pos (starEach es X.env)).any (·.1) = false := by rfl) : EW X (.Call (.Name x p) (e :: es) [] pos) ρ M Φ := by
  obtain ⟨f, fd, ps, hm, hk, hb, F⟩ := C.ex
  refine (pe_call F hr hg hm hk hb .nil pass0 h (hdb := hd) (he := hst) (hpl := hpl)).mono fun σ H Q ⟨G, sa, k⟩ => ⟨G, sa, fun vs G1 H1 ds M1 ⟨es', M2, hp, q⟩ g1 sh1 r1 => ?_⟩
  show spN X.K Pr (vs ++ []) H1 Q E0
  rw [List.append_nil]
  exact ⟨G1, ds, M1, es', M2, sh1, r1, hp, fun p G' H' g mp sh => k _ G' H' _ _ (q p mp) (g1.trans g) sh (.val _)⟩
/-- a new list that is going to be changed -/
theorem ew_lstN (h : AW X es ρ M (fun ds M1 => ds.length ≤ sizeLine ∧ ∀ p, M1 p = none → Φ (dP p) (M1.set p (.lst ds)))) : EW X (.List es pos) ρ M Φ :=
  (pe_lst h).mono fun σ H Q ⟨G, sa, k⟩ => ⟨G, sa, fun vs G1 H1 ds M1 ⟨hl, q⟩ g1 sh1 r1 => ⟨by rw [r1.len]; exact hl, fun p hp => by
    obtain ⟨sh2, mp, gp⟩ := sh1.newM hp r1
    exact k _ _ _ _ _ (q p mp) g1 sh2 (.val _)⟩⟩
/-! built-ins -/
theorem aw_one (h : EW X e ρ M (fun d M1 => ΦA [d] M1)) (hs : starEach [e] X.env = (false, eval e X.env) :: starEach [] X.env := by rfl) : AW X [e] ρ M ΦA := aw_cons (ew_to h fun _ _ q => aw_nil q) hs
theorem ew_intI {p : Pos} (hm : X.mg "int" = none) (h : EW X e ρ M (fun d M1 => ∃ i, d = dI i ∧ Φ (dI i) M1)) (hg : Gl X "int" := by rfl) (hst : starEach [e] X.env = [(false, eval e X.env)] := by rfl) : EW X (.Call (.Name "int" p) [e] [] pos) ρ M Φ :=
  (pe_callTy call_int1 hg hm (by decide +kernel) (aw_one (ΦA := fun ds M1 => ∃ i, ds = [dI i] ∧ Φ (dI i) M1) (ew_to h fun d M1 ⟨i, e, q⟩ => ⟨i, by rw [e], q⟩) hst) (he := hst)).mono fun σ H Q ⟨G, sa, k⟩ => ⟨G, sa, fun vs G1 H1 ds M1 ⟨i, e, q⟩ g1 sh1 r1 => by
    subst e
    rw [RepL.of_vals (xs := [.int i]) r1]
    exact .inl ⟨i, rfl, k _ G1 H1 _ M1 q g1 sh1 (.val _)⟩⟩
theorem ew_lenQ {p : Pos} (hm : X.mg "len" = none) (h : EW X e ρ M (fun d M1 => ∃ q ds, d = sq q ds ∧ Φ (dI ds.length) M1)) (hg : Gl X "len" := by rfl) (hst : starEach [e] X.env = [(false, eval e X.env)] := by rfl) : EW X (.Call (.Name "len" p) [e] [] pos) ρ M Φ :=
  (pe_callB call_len_seq hg hm PySem.boot_len (aw_one (ΦA := fun ds M1 => ∃ q es, ds = [sq q es] ∧ Φ (dI es.length) M1) (ew_to h fun d M1 ⟨i, es, e, q⟩ => ⟨i, es, by rw [e], q⟩) hst) (he := hst)).mono fun σ H Q ⟨G, sa, k⟩ => ⟨G, sa, fun vs G1 H1 ds M1 ⟨q, es, e, p⟩ g1 sh1 r1 => by
    subst e
    cases r1 with
    | cons h t =>
      cases t
      cases q with
      | true =>
        cases (show Rep X.K G1 _ (.lst es) from h) with
        | lst q r => exact ⟨_, _, rfl, .inl (sqlUp sh1.le q), by rw [r.len]; exact k _ G1 H1 _ M1 p g1 sh1 (.val _)⟩
      | false =>
        cases (show Rep X.K G1 _ (.tup es) from h) with
        | tup q r => exact ⟨_, _, rfl, .inr (sqtUp sh1.le q), by rw [r.len]; exact k _ G1 H1 _ M1 p g1 sh1 (.val _)⟩⟩
theorem ew_tupOf {p : Pos} (hm : X.mg "tuple" = none) (h : EW X e ρ M (fun d M1 => ∃ q ds, d = sq q ds ∧ Φ (.tup ds) M1)) (hg : Gl X "tuple" := by rfl) (hst : starEach [e] X.env = [(false, eval e X.env)] := by rfl) : EW X (.Call (.Name "tuple" p) [e] [] pos) ρ M Φ :=
  (pe_callTy call_tuple_of hg hm boot_tuple (aw_one (ΦA := fun ds M1 => ∃ q es, ds = [sq q es] ∧ Φ (.tup es) M1) (ew_to h fun d M1 ⟨i, es, e, q⟩ => ⟨i, es, by rw [e], q⟩) hst) (he := hst)).mono fun σ H Q ⟨G, sa, k⟩ => ⟨G, sa, fun vs' G1 H1 ds M1 ⟨b, es, e, p⟩ g1 sh1 r1 => by
    subst e
    cases r1 with
    | cons h t =>
      cases t
      cases b with
      | true =>
        cases (show Rep X.K G1 _ (.lst es) from h) with
        | lst q r => exact ⟨_, _, rfl, .inl ⟨sqlUp sh1.le q, fun l hl => by
            obtain ⟨sh2, g2⟩ := sh1.new (o := .tup _) hl
            exact k _ _ _ _ M1 p (g1.trans g2) sh2 (.tup (.inl (.inl upd_same)) (r.up g2))⟩⟩
      | false =>
        cases (show Rep X.K G1 _ (.tup es) from h) with
        | tup q r => exact ⟨_, _, rfl, .inr ⟨sqtUp sh1.le q, k _ G1 H1 _ M1 p g1 sh1 (.tup q r)⟩⟩⟩
theorem ew_listL {p : Pos} (hm : X.mg "list" = none) (h : EW X e ρ M (fun d M1 => ∃ q ds, d = sq q ds ∧ Φ (.lst ds) M1)) (hg : Gl X "list" := by rfl) (hst : starEach [e] X.env = [(false, eval e X.env)] := by rfl) : EW X (.Call (.Name "list" p) [e] [] pos) ρ M Φ :=
  (pe_callTy call_list_of hg hm boot_list (aw_one (ΦA := fun ds M1 => ∃ q es, ds = [sq q es] ∧ Φ (.lst es) M1) (ew_to h fun d M1 ⟨i, es, e, q⟩ => ⟨i, es, by rw [e], q⟩) hst) (he := hst)).mono fun σ H Q ⟨G, sa, k⟩ => ⟨G, sa, fun vs' G1 H1 ds M1 ⟨b, es, e, p⟩ g1 sh1 r1 => by
    subst e
    cases r1 with
    | cons h t =>
      cases t
      cases b with
      | true =>
        cases (show Rep X.K G1 _ (.lst es) from h) with
        | lst q r => exact ⟨_, _, rfl, .inl (sqlUp sh1.le q), fun l hl => by
            obtain ⟨sh2, g2⟩ := sh1.new (o := .lst _) hl
            exact k _ _ _ _ M1 p (g1.trans g2) sh2 (.lst (.inl (.inl upd_same)) (r.up g2))⟩
      | false =>
        cases (show Rep X.K G1 _ (.tup es) from h) with
        | tup q r => exact ⟨_, _, rfl, .inr (sqtUp sh1.le q), fun l hl => by
            obtain ⟨sh2, g2⟩ := sh1.new (o := .lst _) hl
            exact k _ _ _ _ M1 p (g1.trans g2) sh2 (.lst (.inl (.inl upd_same)) (r.up g2))⟩⟩
theorem ew_all {p : Pos} (hc : X.calm = true) (hm : X.mg "all" = none) (h : EW X e ρ M (fun d M1 => ∃ bs : List Bool, d = .lst (bs.map dB) ∧ Φ (dB (bs.all id)) M1)) (hg : Gl X "all" := by rfl) (hst : starEach [e] X.env = [(false, eval e X.env)] := by rfl) : EW X (.Call (.Name "all" p) [e] [] pos) ρ M Φ :=
  (pe_callB (cr_all hc) hg hm boot_all (aw_one (ΦA := fun ds M1 => ∃ bs : List Bool, ds = [.lst (bs.map dB)] ∧ Φ (dB (bs.all id)) M1) (ew_to h fun d M1 ⟨bs, e, q⟩ => ⟨bs, by rw [e], q⟩) hst) (he := hst)).mono fun σ H Q ⟨G, sa, k⟩ => ⟨G, sa, fun vs' G1 H1 ds M1 ⟨bs, e, p⟩ g1 sh1 r1 => by
    subst e
    cases r1 with
    | cons h t =>
      cases t
      cases h with
      | lst q r =>
        have e : bs.map dB = (bs.map V.bl).map D.val := by rw [List.map_map] <;> rfl
        rw [e] at r
        rw [RepL.of_vals r] at q
        exact ⟨_, bs, rfl, sqlUp sh1.le q, k _ G1 H1 _ M1 p g1 sh1 (.val _)⟩⟩
end
end Vt
namespace Vt
open PySem PySem.Spec PyProof.Rows L2
/-! statements -/
section
variable {X : Cx} {ρ ρ' : Sl} {M M1 M2 M3 : Mem} {a b c e : Expr} {es : List Expr} {d d1 d2 : D} {ds : List D} {pos : Pos} {Ψ : Out → Prop} {Φ : D → Mem → Prop} {g : TG}
theorem sw_set (i : Nat) {x : Str} {pos' : Pos} (hN : X.N.Nodup) (he : EW X e ρ M (fun d M1 => Ψ (.nx (ρ.set i (some d)) M1))) (hi : X.N[i]? = some x := by rfl) (hx : L2.Loc X.env.scope x := by first | exact Or.inl rfl | exact Or.inr rfl) (hs : swapsWith e (some (.Name x pos')) pos.line X.env = pure false := by rfl)
    (hf : X.fn x = true ∨ X.env.scope.names.lookup x = some .local := by first | exact .inl rfl | exact .inr rfl) : SV X (.Assign [.Name x pos'] e pos) ρ M Ψ := sv_setW i hN he (fun _ _ h => h) hi hx hs hf
theorem sw_ret (he : EW X e ρ M (fun d M1 => Ψ (.ret d M1))) : SV X (.Return (some e) pos) ρ M Ψ := sv_retW he fun _ _ h => h
theorem sw_expr (h : EW X e ρ M (fun _ M1 => Ψ (.nx ρ M1))) (hs : swapsWith e none pos.line X.env = pure false := by rfl) : SV X (.Expr e pos) ρ M Ψ :=
  (ps_expr h hs).mono fun E σ H ⟨G, sa, k⟩ => ⟨G, sa, fun v G1 H1 d M1 q g1 sh1 r1 => k _ q σ G1 H1 g1 ⟨sh1, sa.sl.up g1⟩⟩
theorem sw_if {as bs : List Stmt} (hc : TW X c ρ M (fun p M1 => (p = true → BV X as ρ M1 Ψ) ∧ (p = false → BV X bs ρ M1 Ψ))) : SV X (.If c as bs pos) ρ M Ψ :=
  (ps_if hc pk_b pk_b).mono fun E σ H ⟨G, sa, k⟩ => ⟨G, sa, fun p G1 H1 M1 ⟨h1, h2⟩ g1 sh1 => by
    cases p with
    | true => exact (⟨M1, h1 rfl, G1, ⟨sh1, sa.sl.up g1⟩, fun o ho => (k o ho).up g1⟩ : pkB X as ρ Ψ E σ H1)
    | false => exact (⟨M1, h2 rfl, G1, ⟨sh1, sa.sl.up g1⟩, fun o ho => (k o ho).up g1⟩ : pkB X bs ρ Ψ E σ H1)⟩
theorem sw_asg {tg : Expr} (hg : PG X tg g) (he : EW X e ρ M (fun d M1 => ∃ ρ', TG1 X.K g ρ d ρ' ∧ Ψ (.nx ρ' M1))) (hs : swapsWithSole [tg] e pos.line X.env = pure false := by rfl) (hw : swappedStores [tg] e X.env = pure none := by rfl)
    (h1 : (assignEach [tg] X.env).map (·.2) = [assign tg X.env] := by rfl) : SV X (.Assign [tg] e pos) ρ M Ψ := sv_asgW he hg (fun _ _ h => h) hs hw h1
/-- xs.append(e), xs a list of the memory -/
theorem sw_append {p : Addr} {ap cp : Pos} (ho : EV X a ρ M (dP p) M1) (hm1 : ∃ es, M1 p = some (.lst es)) (ha : EW X e ρ M1 (fun d M2 => ∃ ds, M2 p = some (.lst ds) ∧ ds.length < sizeLine ∧ Ψ (.nx ρ (M2.set p (.lst (ds ++ [d]))))))
    (h1 : attributeBase a "append" X.env (eval a X.env) = eval a X.env := by rfl) (h3 : (ap.endLine == cp.line) = true := by decide) (h4 : starEach [e] X.env = (false, eval e X.env) :: starEach [] X.env := by rfl)
    (h2 : (((((backTo cp (starEach [e] X.env)).all fun x => !x.fst) && (backToKw cp (keywordEach [] X.env)).all fun x => x.fst.isSome) && decide (([e].length + ([] : List Keyword).length + if ([] : List Keyword).isEmpty = true then 0 else 1) < 30)) = true) := by rfl)
    (h5 : (((backTo cp (starEach [] X.env)).any fun x => x.fst) = false) := by rfl)
    (hs : swapsWith (.Call (.Attribute a "append" ap) [e] [] cp) none pos.line X.env = pure false := by rfl) : SV X (.Expr (.Call (.Attribute a "append" ap) [e] [] cp) pos) ρ M Ψ :=
  (ps_expr (pe_bm PySem.F.plainAttrs_list PySem.F.slot_list_append PySem.F.type_list_append mt_append ho (aw_one (ΦA := fun ds' M2 => ∃ d ds, ds' = [d] ∧ M2 p = some (.lst ds) ∧ ds.length < sizeLine ∧ Ψ (.nx ρ (M2.set p (.lst (ds ++ [d]))))) (ew_to ha fun d M2 ⟨ds, q1, q2, q3⟩ => ⟨d, ds, rfl, q1, q2, q3⟩) h4) h1 h2 h3 h4 h5) hs).mono fun E σ H ⟨G, sa, k⟩ => ⟨G, sa, fun v1 G1 H1 g1 sh1 r1 => by
    obtain ⟨es, hes⟩ := hm1
    obtain ⟨_, vs1, hv1, _⟩ := sh1.mem p _ hes
    rw [r1.of_val]
    refine ⟨.inl ⟨rfl, _, .inl (.inl hv1)⟩, G1, ⟨sh1, sa.sl.up g1⟩, fun vs G2 H2 ds' M2 ⟨d, ds, e, hm, hl, hΨ⟩ g2 sh2 r2 => ?_⟩
    subst e
    cases r2 with
    | cons r2 t =>
      cases t
      obtain ⟨_, vs2, hv2, rl⟩ := sh2.mem p _ hm
      exact ⟨p, vs2, _, rfl, rfl, hv2, by rw [rl.len]; exact hl, k _ hΨ σ G2 _ (g1.trans g2) ⟨sh2.put hm (rl.append (.cons r2 .nil)), (sa.sl.up g1).up g2⟩⟩⟩
/-! what is walked -/
/-- what is walked may make new items -/
def JW2 (K : PySem.W.Frag) (J : It) (G : Hp) (ds : List D) : Prop := ∀ (i : Nat) H, Same G H → (∀ d, ds[i]? = some d → J.go i H ∧ ∀ x H', J.yld i H x H' → ∀ G2 M, Same G G2 → SH K G2 H M → ∃ G3, Same G2 G3 ∧ SH K G3 H' M ∧ Rep K G3 x d) ∧ (ds.length ≤ i → J.stop i H)
theorem JW.two {K : PySem.W.Frag} {J : It} {G : Hp} {ds : List D} (h : JW K J G ds) : JW2 K J G ds := fun i H e => ⟨fun d hd => ⟨((h i H e).1 d hd).1, fun x H' y G2 M g2 sh => by
  obtain ⟨e2, r⟩ := ((h i H e).1 d hd).2 x H' y
  subst e2
  exact ⟨G2, Same.refl _, sh, r.up g2⟩⟩, (h i H e).2⟩
def tIW (K : PySem.W.Frag) (ρ : Sl) (M : Mem) (Φ : List D → Mem → Prop) : TI := fun σ H R => ∃ G, SA K G H σ ρ M ∧ ∀ J G' H' ds M1, Φ ds M1 → Same G G' → SH K G' H' M1 → JW2 K J G' ds → R J H'
abbrev IW (X : Cx) (tg iter : Expr) (ρ : Sl) (M : Mem) (Φ : List D → Mem → Prop) : Prop := PI X tg iter (tIW X.K ρ M Φ)
variable {tg iter : Expr} {ΦI : List D → Mem → Prop}
theorem iw_iv (h : IV X tg iter ρ M ds M1) (q : ΦI ds M1) : IW X tg iter ρ M ΦI := h.mono fun σ H R ⟨G, sa, k⟩ => ⟨G, sa, fun J G1 H1 g1 sh1 jw => k J G1 H1 ds M1 q g1 sh1 jw.two⟩
theorem iw_list (h : EW X e ρ M (fun d M1 => ∃ ds, d = .lst ds ∧ ΦI ds M1)) : IW X tg e ρ M ΦI :=
  (pi_list h).mono fun σ H R ⟨G, sa, k⟩ => ⟨G, sa, fun v G1 H1 d M1 ⟨ds, e, p⟩ g1 sh1 r1 => by
    subst e
    cases r1 with
    | lst q r => exact ⟨_, rfl, ⟨_, sqlUp sh1.le q⟩, k _ G1 H1 _ M1 p g1 sh1 (JW.list q r).two⟩⟩
theorem iw_tup (h : EW X e ρ M (fun d M1 => ∃ ds, d = .tup ds ∧ ΦI ds M1)) : IW X tg e ρ M ΦI :=
  (pi_tup h).mono fun σ H R ⟨G, sa, k⟩ => ⟨G, sa, fun v G1 H1 d M1 ⟨ds, e, p⟩ g1 sh1 r1 => by
    subst e
    cases r1 with
    | tup q r => exact ⟨_, rfl, ⟨_, sqtUp sh1.le q⟩, k _ G1 H1 _ M1 p g1 sh1 (JW.tup q r).two⟩⟩
theorem iw_range1 {p : Pos} (hm : X.mg "range" = none) (h : EW X e ρ M (fun d M1 => ∃ j : Int, d = dI j ∧ (-(2 ^ 62) ≤ j ∧ j < 2 ^ 62) ∧ ΦI (rgD 0 j.toNat) M1)) (hg : Gl X "range" := by rfl) (hst : starEach [e] X.env = [(false, eval e X.env)] := by rfl) : IW X tg (.Call (.Name "range" p) [e] [] pos) ρ M ΦI :=
  (pi_range1 hg hm (aw_one (ΦA := fun ds M1 => ∃ j : Int, ds = [dI j] ∧ (-(2 ^ 62) ≤ j ∧ j < 2 ^ 62) ∧ ΦI (rgD 0 j.toNat) M1) (ew_to h fun d M1 ⟨j, e, q1, q2⟩ => ⟨j, by rw [e], q1, q2⟩) hst) hst).mono fun σ H R ⟨G, sa, k⟩ => ⟨G, sa, fun vs G1 H1 ds M1 ⟨j, e, hj, q⟩ g1 sh1 r1 => by
    subst e
    rw [RepL.of_vals (xs := [.int j]) r1]
    exact ⟨j, rfl, hj.1, hj.2, k _ G1 H1 _ M1 q g1 sh1 JW.range.two⟩⟩
/-- for: Iv i is what holds ahead of turn i -/
theorem sw_for {body : List Stmt} (hc : X.calm = true) (hg : PG X tg g)
    (hi : IW X tg iter ρ M (fun ds M1 => ∃ Iv : Nat → Sl → Mem → Prop, Iv 0 ρ M1 ∧ (∀ i d ρ' M', ds[i]? = some d → Iv i ρ' M' → ∃ ρ'', TG1 X.K g ρ' d ρ'' ∧ BV X body ρ'' M' (loopR Iv Ψ i)) ∧ ∀ ρ' M', Iv ds.length ρ' M' → Ψ (.nx ρ' M')))
    (hp : PassesOwn (model X.prog X.w) X.A X.env X.xe := by exact PassesOwn.never) (hs : ∀ x, foldedSetIterable iter X.env x = pure x := by intro _; rfl) : SV X (.For tg iter body [] pos) ρ M Ψ := by
  refine (ps_for (tb := fun E σ H => ∃ ρ M Ψ', BV X body ρ M Ψ' ∧ tS X.K ρ M Ψ' E σ H) hp hc hi hg ⟨fun pins s σ H E I ⟨ρ', M', Ψ', hb, q⟩ => hb.run pins s σ H E I q⟩ hs).mono fun E σ H ⟨G, sa, k⟩ => ⟨G, sa, fun J G1 H1 ds M1 ⟨Iv, iv0, step, done⟩ g1 sh1 jw => ?_⟩
  refine ⟨fun i m σ H => m = ds.length - i ∧ i ≤ ds.length ∧ ∃ G ρ M, Same G1 G ∧ SA X.K G H σ ρ M ∧ Iv i ρ M, ⟨ds.length, by simp, Nat.zero_le _, G1, ρ, M1, Same.refl _, ⟨sh1, sa.sl.up g1⟩, iv0⟩, ?_⟩
  rintro i m σ2 H2 ⟨rfl, hi, G2, ρ2, M2, g2, sa2, iv⟩
  obtain ⟨j1, j2⟩ := jw i H2 (g2.trans sa2.sh.le)
  by_cases hlt : i < ds.length
  · have hd : ds[i]? = some ds[i] := List.getElem?_eq_getElem hlt
    obtain ⟨go, yl⟩ := j1 _ hd
    refine .inr ⟨go, fun σ3 H3 => ∃ G ρ M, Same G1 G ∧ SA X.K G H3 σ3 ρ M ∧ Iv (i + 1) ρ M, fun σ' H' p' => ⟨ds.length - (i + 1), by omega, rfl, hlt, p'⟩, fun x H' y => ?_⟩
    obtain ⟨G3, g3, sh3, rx⟩ := yl x H' y G2 M2 g2 sa2.sh
    have g2 := g2.trans g3
    obtain ⟨ρ3, tg3, bv⟩ := step i _ ρ2 M2 hd iv
    refine tg3 x σ2 G3 H' _ sh3.le (sa2.sl.up g3) rx fun σ3 rs3 => ⟨ρ3, M2, _, bv, G3, ⟨sh3, rs3⟩, fun o ho => ?_⟩
    cases o with
    | nx ρ4 M4 => exact fun σ4 G4 H4 g4 sa4 => ⟨G4, ρ4, M4, g2.trans g4, sa4, ho⟩
    | ct ρ4 M4 => exact fun σ4 G4 H4 g4 sa4 => ⟨G4, ρ4, M4, g2.trans g4, sa4, ho⟩
    | bk ρ4 M4 => exact fun σ4 G4 H4 g4 sa4 => k _ ho σ4 G4 H4 ((g1.trans g2).trans g4) sa4
    | ret d4 M4 => exact fun v G4 H4 g4 sh4 r4 => k _ ho v G4 H4 ((g1.trans g2).trans g4) sh4 r4
  · have e : i = ds.length := by omega
    subst e
    exact .inl ⟨j2 (Nat.le_refl _), k _ (done ρ2 M2 iv) σ2 G2 H2 (g1.trans g2) sa2⟩
/-- [e for x in ..]: Iv i acc is what holds of the memory ahead of turn i (without the list that is being made) -/
def LcI (X : Cx) (g : TG) (own : List (Str × Nat)) (scope : Scope) (elt : Expr) (ρ : Sl) (Φ : D → Mem → Prop) (ds : List D) (M1 : Mem) : Prop :=
  ds.length ≤ sizeLine ∧ ∃ Iv : Nat → List D → Mem → Prop, Iv 0 [] M1 ∧
    (∀ i d acc M, ds[i]? = some d → acc.length = i → Iv i acc M → ∃ ρ', TGb X.K g (own.map (·.2)) (wipeD ρ (own.map (·.2))) d ρ' ∧ ∀ (p : Addr), M p = none → ∀ (s : Shared) (H : Hp) (C : Addr) (cl : List (Str × Addr)) (fp : List Addr),
      EW (X.blk s H scope (compEnvC scope cl C X.env) fp) elt ρ' (M.set p (.lst acc)) (fun d' M' => ∃ M2, M' = M2.set p (.lst acc) ∧ M2 p = none ∧ Iv (i + 1) (acc ++ [d']) M2)) ∧
    ∀ acc M, acc.length = ds.length → Iv ds.length acc M → Φ (.lst acc) M
theorem lcw_read {elt : Expr} {scope : Scope} {own : List (Str × Nat)} (σ : L2.St) (H : Hp) (Q : VK) (hΦ : ∃ G, SA X.K G H σ ρ M ∧ ∀ v G' H' d M', Φ d M' → Same G G' → SH X.K G' H' M' → Rep X.K G' v d → Q v H') :
    tLc (tIW X.K ρ M (LcI X g own scope elt ρ Φ)) g tYes (fun σ H Q => ∃ ρ' M' Φ', (∀ (s : Shared) (H : Hp) (C : Addr) (cl : List (Str × Addr)) (fp : List Addr), EW (X.blk s H scope (compEnvC scope cl C X.env) fp) elt ρ' M' Φ') ∧ tW X.K ρ' M' Φ' σ H Q) (own.map (·.2)) σ H Q := by
  obtain ⟨G, sa, k⟩ := hΦ
  refine ⟨G, sa, fun J G1 H1 ds M1 ⟨hlen, Iv, h0, step, done⟩ g1 sh1 jw => fun p hp => ?_⟩
  obtain ⟨shp, mp, gp⟩ := sh1.newM hp (RepL.nil (K := X.K) (G := G1))
  refine ⟨fun i mm H => mm = ds.length - i ∧ i ≤ ds.length ∧ ∃ G acc M, Same G1 G ∧ acc.length = i ∧ M p = none ∧ Iv i acc M ∧ SH X.K G H (M.set p (.lst acc)), ⟨ds.length, by simp, Nat.zero_le _, G1, [], M1, Same.refl _, rfl, mp, h0, shp⟩, ?_⟩
  rintro i mm H2 ⟨rfl, hi, G2, acc, M2, g2, hacc, hmp, iv, sh2⟩
  obtain ⟨j1, j2⟩ := jw i H2 (g2.trans sh2.le)
  by_cases hlt : i < ds.length
  · have hd : ds[i]? = some ds[i] := List.getElem?_eq_getElem hlt
    obtain ⟨go, yl⟩ := j1 _ hd
    refine .inr ⟨go, fun H3 => ∃ G acc M, Same G1 G ∧ acc.length = i + 1 ∧ M p = none ∧ Iv (i + 1) acc M ∧ SH X.K G H3 (M.set p (.lst acc)), fun H' p' => ⟨ds.length - (i + 1), by omega, rfl, hlt, p'⟩, fun x H' y => ?_⟩
    obtain ⟨G3, g3, sh3, rx⟩ := yl x H' y G2 _ g2 sh2
    have g2 := g2.trans g3
    obtain ⟨ρ3, tg3, ev⟩ := step i _ acc M2 hd hacc iv
    refine tg3 x σ G3 H' _ sh3.le (wipe_rep ((sa.sl.up g1).up g2) _) rx fun σ3 rs3 hw => ⟨hw, ?_⟩
    show ∃ ρ' M' Φ', _ ∧ tW X.K ρ' M' Φ' σ3 H' _
    refine ⟨ρ3, _, _, ev p hmp, G3, ⟨sh3, rs3⟩, fun v G4 H4 d4 M4 ⟨M5, e5, n5, iv5⟩ g4 sh4 r4 => ?_⟩
    subst e5
    obtain ⟨_, vs, hv, rl⟩ := sh4.mem p _ Mem.set_same
    refine ⟨vs, hv, ?_, G4, acc ++ [d4], M5, g2.trans g4, by rw [List.length_append, hacc]; rfl, n5, iv5, ?_⟩
    · rw [rl.len, hacc]
      exact Nat.lt_of_lt_of_le hlt hlen
    · have q := sh4.put (ds := acc ++ [d4]) Mem.set_same (rl.append (.cons r4 .nil))
      rw [Mem.set_set] at q
      exact q
  · have e : i = ds.length := by omega
    subst e
    obtain ⟨vs, sh3, g3, rl⟩ := sh2.freeze hmp
    exact .inl ⟨j2 (Nat.le_refl _), k _ _ H2 _ M2 (done acc M2 hacc iv) ((g1.trans g2).trans g3) sh3 (.lst (.inl (.inl upd_same)) (rl.up g3))⟩
theorem ew_lc {elt : Expr} {scope : Scope} {own : List (Str × Nat)} (hc : X.calm = true) (hN : X.N.Nodup) (ok : BlkOk X.N X.env.scope scope own)
    (hg : ∀ (s : Shared) (H : Hp) (C : Addr) (cl : List (Str × Addr)) (fp : List Addr), PG (X.blk s H scope (compEnvC scope cl C X.env) fp) tg g) (hi : IW X tg iter ρ M (LcI X g own scope elt ρ Φ))
    (hs : ∀ x, foldedSetIterable iter X.env x = pure x := by intro _; rfl) : EW X (.ListComp elt [⟨tg, iter, [], 0⟩] scope pos) ρ M Φ :=
  (pe_lc hc hN hi ok hg (fun _ _ _ _ _ => pts_nil) (fun s H C cl fp => ⟨fun pins s' σ H' Q I ⟨ρ', M', Φ', hb, q⟩ => (hb s H C cl fp).run pins s' σ H' Q I q⟩) hs).mono fun σ H Q h => lcw_read σ H Q h
theorem sw_setLc (i : Nat) {y : Str} {py : Pos} {elt : Expr} {scope : Scope} {own : List (Str × Nat)} {spos : Pos} (hc : X.calm = true) (hN : X.N.Nodup) (ok : BlkOk X.N X.env.scope scope own)
    (hg : ∀ (s : Shared) (H : Hp) (C : Addr) (cl : List (Str × Addr)) (fp : List Addr), PG (X.blk s H scope (compEnvC scope cl C X.env) fp) tg g) (hi : IW X tg iter ρ M (LcI X g own scope elt ρ (fun d M1 => Ψ (.nx (ρ.set i (some d)) M1))))
    (hw : swapsWith (.ListComp elt [⟨tg, iter, [], 0⟩] scope pos) (some (.Name y py)) spos.line X.env = pure true := by rfl) (hy : X.N[i]? = some y := by rfl) (hl : X.env.scope.names.lookup y = some .local := by rfl)
    (hs : ∀ x, foldedSetIterable iter X.env x = pure x := by intro _; rfl) : SV X (.Assign [.Name y py] (.ListComp elt [⟨tg, iter, [], 0⟩] scope pos) spos) ρ M Ψ :=
  (ps_setLc hc hN hy hl hw hi ok hg (fun _ _ _ _ _ => pts_nil) (fun s H C cl fp => ⟨fun pins s' σ H' Q I ⟨ρ', M', Φ', hb, q⟩ => (hb s H C cl fp).run pins s' σ H' Q I q⟩) hs).mono fun E σ H ⟨G, sa, k⟩ =>
    lcw_read (Φ := fun d M1 => Ψ (.nx (ρ.set i (some d)) M1)) σ H _ ⟨G, sa, fun v G1 H1 d M1 q g1 sh1 r1 => k _ q _ G1 H1 g1 ⟨sh1, (sa.sl.up g1).set i r1⟩⟩
end
end Vt
namespace Vt
open PySem PySem.Spec PyProof.Rows L2
section
variable {X : Cx} {ρ : Sl} {M M1 : Mem} {a b c e : Expr} {pos : Pos} {Ψ : Out → Prop}
/-- x, y = a, b -/
theorem sw_par (i j : Nat) {x y : Str} {px py pt pt2 : Pos} {kt k2} (hc : X.calm = true) (hN : X.N.Nodup) (h : AW X [a, b] ρ M (fun ds M1 => ∃ d1 d2, ds = [d1, d2] ∧ Ψ (.nx ((ρ.set i (some d1)).set j (some d2)) M1)))
    (hij : i ≠ j := by decide) (hi : X.N[i]? = some x := by rfl) (hj : X.N[j]? = some y := by rfl) (hx : X.env.scope.names.lookup x = some .local := by rfl) (hy : X.env.scope.names.lookup y = some .local := by rfl)
    (hw : swappedStores [.Tuple [.Name x px, .Name y py] kt pt] (.Tuple [a, b] k2 pt2) X.env = pure (some [x, y]) := by rfl) : SV X (.Assign [.Tuple [.Name x px, .Name y py] kt pt] (.Tuple [a, b] k2 pt2) pos) ρ M Ψ :=
  (ps_par hc hN hi hj hij hx hy h hw).mono fun E σ H ⟨G, sa, k⟩ => ⟨G, sa, fun vs G1 H1 ds M1 ⟨d1, d2, e, q⟩ g1 sh1 r1 => by
    subst e
    match vs, r1 with
    | [v1, v2], .cons r1 (.cons r2 .nil) => exact ⟨v1, v2, rfl, k _ q _ G1 H1 g1 ⟨sh1, ((sa.sl.up g1).set i r1).set j r2⟩⟩⟩
theorem sw_par3 (i j l : Nat) {x y z : Str} {px py pz pt pt2 : Pos} {kt k2} (hc : X.calm = true) (hN : X.N.Nodup) (h : AW X [a, b, c] ρ M (fun ds M1 => ∃ d1 d2 d3, ds = [d1, d2, d3] ∧ Ψ (.nx (((ρ.set i (some d1)).set j (some d2)).set l (some d3)) M1)))
    (hij : i ≠ j := by decide) (hil : i ≠ l := by decide) (hjl : j ≠ l := by decide) (hi : X.N[i]? = some x := by rfl) (hj : X.N[j]? = some y := by rfl) (hl : X.N[l]? = some z := by rfl) (hx : X.env.scope.names.lookup x = some .local := by rfl) (hy : X.env.scope.names.lookup y = some .local := by rfl) (hz : X.env.scope.names.lookup z = some .local := by rfl)
    (hw : swappedStores [.Tuple [.Name x px, .Name y py, .Name z pz] kt pt] (.Tuple [a, b, c] k2 pt2) X.env = pure (some [x, y, z]) := by rfl) : SV X (.Assign [.Tuple [.Name x px, .Name y py, .Name z pz] kt pt] (.Tuple [a, b, c] k2 pt2) pos) ρ M Ψ :=
  (ps_par3 hc hN hi hj hl hij hil hjl hx hy hz h hw).mono fun E σ H ⟨G, sa, k⟩ => ⟨G, sa, fun vs G1 H1 ds M1 ⟨d1, d2, d3, e, q⟩ g1 sh1 r1 => by
    subst e
    match vs, r1 with
    | [v1, v2, v3], .cons r1 (.cons r2 (.cons r3 .nil)) => exact ⟨v1, v2, v3, rfl, k _ q _ G1 H1 g1 ⟨sh1, (((sa.sl.up g1).set i r1).set j r2).set l r3⟩⟩⟩
end
end Vt
namespace Vt
open PySem PySem.Spec PyProof.Rows L2
/-! targets and walks over tuples or lists -/
def gSq (K : PySem.W.Frag) (b : Bool) (n : Nat) (t : TGs) : TG := if b = true then gUnl K n t else gTup K n t
section
variable {X : Cx} {K : PySem.W.Frag} {ρ ρ' ρ'' : Sl} {M M1 : Mem} {e : Expr} {es : List Expr} {d : D} {ds : List D} {pos : Pos} {g : TG} {gs : TGs} {tg : Expr}
theorem pg_sq (b : Bool) {k n : Nat} (hc : X.calm = true) (h : PGs X es gs) (hn : (assignEach es X.env).length = n := by rfl) (hst : (assignEach es X.env).findIdx? (·.1) = none := by rfl) : PG X (.Tuple es k pos) (gSq X.K b n gs) := by
  cases b with
  | true => exact pg_unl hc h hn hst
  | false => exact pg_tup hc h hn hst
theorem tg_sq {b : Bool} {n : Nat} (h : TG2 K gs ρ ds ρ') (hl : ds.length = n := by rfl) : TG1 K (gSq K b n gs) ρ (sq b ds) ρ' := by
  cases b with
  | true => exact tg_lst h hl
  | false => exact tg_tup h hl
theorem iv_sq {b : Bool} (h : EV X e ρ M (sq b ds) M1) : IV X tg e ρ M ds M1 := by
  cases b with
  | true => exact iv_list h
  | false => exact iv_tup h
/-- the same within a comprehension: what is stored in are slots of the block's own, vs -/
def TBs (K : PySem.W.Frag) (gs : TGs) (vs : List Nat) (ρ : Sl) (ds : List D) (ρ' : Sl) : Prop := ∀ xs σ0 σ G H Q, Same G H → RepS K G σ ρ → wipe σ vs = wipe σ0 vs → RepL K G xs ds → (∀ σ', RepS K G σ' ρ' → wipe σ' vs = wipe σ0 vs → Q σ' H) → gs xs σ H Q
def TB (K : PySem.W.Frag) (g : TG) (vs : List Nat) (ρ : Sl) (d : D) (ρ' : Sl) : Prop := ∀ x σ0 σ G H Q, Same G H → RepS K G σ ρ → wipe σ vs = wipe σ0 vs → Rep K G x d → (∀ σ', RepS K G σ' ρ' → wipe σ' vs = wipe σ0 vs → Q σ' H) → g x σ H Q
theorem wipe_set {vs : List Nat} {i : Nat} {x : Option V} (hi : i ∈ vs) : ∀ {σ : L2.St}, wipe (σ.set i x) vs = wipe σ vs := by
  induction vs with
  | nil => cases hi
  | cons v vs ih =>
    intro σ
    show (wipe (σ.set i x) vs).set v none = (wipe σ vs).set v none
    by_cases hv : i ∈ vs
    · rw [ih hv]
    · have e : i = v := by
        rcases List.mem_cons.mp hi with e | e
        · exact e
        · exact absurd e hv
      subst e
      have key : ∀ (ws : List Nat), i ∉ ws → ∀ σ : L2.St, wipe (σ.set i x) ws = (wipe σ ws).set i x := by
        intro ws
        induction ws with
        | nil => intro _ σ; rfl
        | cons w ws ihw =>
          intro hw σ
          show (wipe (σ.set i x) ws).set w none = ((wipe σ ws).set w none).set i x
          rw [ihw (fun z => hw (List.mem_cons_of_mem _ z)), List.set_comm _ _ (fun z => hw (by rw [z]; exact List.mem_cons_self))]
      rw [key vs hv, List.set_set]
theorem wipe_wipe {vs : List Nat} : ∀ {σ : L2.St}, wipe (wipe σ vs) vs = wipe σ vs := by
  have key : ∀ (ws vs : List Nat), (∀ v ∈ vs, v ∈ ws) → ∀ σ : L2.St, wipe (wipe σ vs) ws = wipe σ ws := by
    intro ws vs
    induction vs with
    | nil => intro _ σ; rfl
    | cons v vs ih =>
      intro h σ
      show wipe ((wipe σ vs).set v none) ws = _
      rw [wipe_set (h v List.mem_cons_self), ih (fun u hu => h u (List.mem_cons_of_mem _ hu))]
  exact fun {σ} => key vs vs (fun _ h => h) σ
theorem tb_name {vs : List Nat} {i : Nat} (hi : i ∈ vs := by decide) : TB K (gName i) vs ρ d (ρ.set i (some d)) := fun x σ0 σ G H Q e h hw r k => k _ (h.set i r) (by rw [wipe_set hi]; exact hw)
theorem tbs_nil {vs : List Nat} : TBs K gNil vs ρ [] ρ := fun xs σ0 σ G H Q e h hw r k => by
  cases r
  exact ⟨rfl, k σ h hw⟩
theorem tbs_cons {vs : List Nat} (h1 : TB K g vs ρ d ρ') (h2 : TBs K gs vs ρ' ds ρ'') : TBs K (gCons g gs) vs ρ (d :: ds) ρ'' := fun xs σ0 σ G H Q e h hw r k => by
  cases r with
  | cons r t => exact ⟨_, _, rfl, h1 _ σ0 σ G H _ e h hw r fun σ' h' hw' => h2 _ σ0 σ' G H _ e h' hw' t k⟩
theorem tb_tup {vs : List Nat} {n : Nat} (h : TBs K gs vs ρ ds ρ') (hl : ds.length = n := by rfl) : TB K (gTup K n gs) vs ρ (.tup ds) ρ' := fun x σ0 σ G H Q e h0 hw r k => by
  cases r with
  | tup q r => exact ⟨_, _, rfl, sqtUp e q, r.len.trans hl, h _ σ0 σ G H _ e h0 hw r k⟩
theorem tb_sq {vs : List Nat} {b : Bool} {n : Nat} (h : TBs K gs vs ρ ds ρ') (hl : ds.length = n := by rfl) : TB K (gSq K b n gs) vs ρ (sq b ds) ρ' := by
  cases b with
  | false => exact tb_tup h hl
  | true =>
    intro x σ0 σ G H Q e h0 hw r k
    cases (show Rep K G x (.lst ds) from r) with
    | lst q r => exact ⟨_, _, rfl, sqlUp e q, r.len.trans hl, h _ σ0 σ G H _ e h0 hw r k⟩
theorem tgb_of {vs : List Nat} (h : TB K g vs ρ d ρ') : TGb K g vs ρ d ρ' := fun x σ G H Q e hs r k => h x σ (wipe σ vs) G H Q e hs wipe_wipe r k
end
end Vt
namespace Vt
open PySem PySem.Spec PyProof.Rows L2
/-! ### enumerate of a tuple -/
end Vt
namespace VtEnum
open PySem
open PySem.Sem (wp)
open AutoSeq1 (wpAny_loadPart')
/-- what enumerate(t) makes: the walk of t, and the enumeration -/
def walkO (t : Addr) : Obj := { cls := .type "tuple_iterator", data := .fields #[.ref t, .int 0 0] }
def enumO (it : Addr) (i : Int) (old : Value) : Obj := { cls := .type "enumerate", data := .fields #[.none, .bool false, .ref it, rawInt i, .none, old] }
theorem meets_new (t : Addr) (items : Array Value) (n : Nat) (dd : Option Addr) (sl : Array (Option Value)) :
    Meets (Builtin.«enumerate.__new__» ⟨[.type "enumerate", .ref t], []⟩) (fun _ R s => s.heap.get? t = some { cls := .type "tuple", dict := dd, data := .seq items n, slots := sl } ∧
      R (.ok (.ret (.ref (s.heap.push (walkO t)).objs.size))) { s with heap := (s.heap.push (walkO t)).push (enumO s.heap.objs.size 0 .none) }) :=
  .of_wp fun prog w A R s z => by
    obtain ⟨hp, gens, dr, tk, os⟩ := s
    obtain ⟨ht, z⟩ := z
    have sub := sub_enumerate
    have isT : Heap.IsTuple (Shared.heap ⟨hp, gens, dr, tk, os⟩) t items := ⟨_, ht, rfl, n, rfl⟩
    wp_walk using wpAny_loadPart' ht
    refine wpAny_stack_any fun _ => wpAny_pure ?_
    split
    · rename_i c _ _ _ _ _
      cases (c == Value.type "enumerate") <;>
      · wp_walk using wpAny_loadPart' ht, wpAny_pyIter_tuple isT
        exact ⟨_, rfl, z⟩
    · wp_walk using wpAny_loadPart' ht, wpAny_pyIter_tuple isT
      exact ⟨_, rfl, z⟩
section
variable {prog : Program} {w : World} {A : Around} {E : Value → Shared → Prop} {s : Shared}
theorem call_new {t : Addr} {items : Array Value} {Q : Value → Shared → Prop} (isT : s.heap.IsTuple t items)
    (k : ∀ h', IsEnum h' (s.heap.objs.size + 1) s.heap.objs.size 0 .none → h'.IsTupleIter s.heap.objs.size t 0 → (∀ b o, s.heap.get? b = some o → h'.get? b = some o) → Q (.ref (s.heap.objs.size + 1)) { s with heap := h' }) :
    wpAny (model prog w) A (call (.type "enumerate") [.ref t]) Q E s := by
  obtain ⟨⟨c, dct, dt, sl⟩, ht, hc, n, hd⟩ := isT
  have hc : c = .type "tuple" := hc
  have hd : dt = .seq items n := hd
  subst hc hd
  have sz : (s.heap.push (walkO t)).objs.size = s.heap.objs.size + 1 := Heap.size_push ..
  have e1 : IsEnum ((s.heap.push (walkO t)).push (enumO s.heap.objs.size 0 .none)) (s.heap.objs.size + 1) s.heap.objs.size 0 .none := by
    have q := Heap.get?_push_size (s.heap.push (walkO t)) (o := enumO s.heap.objs.size 0 .none) rfl
    rwa [sz] at q
  refine callType_new F.called_enumerate (by decide) (F.typeCall_enumerate_1 _) (F.newCall_enumerate_1 _) (fun obj => F.args_object_init_2 obj _) F.entry_enumerate_new (meets_new t items n dct sl) ⟨ht, ?_⟩
  show _ ∧ _
  rw [sz]
  exact ⟨⟨_, e1, rfl⟩, k _ e1 ⟨_, Heap.get?_push_of_some _ (Heap.get?_push_size _ rfl), rfl, rfl⟩ fun b o x => Heap.get?_push_of_some _ (Heap.get?_push_of_some _ x)⟩
/-- a turn -/
theorem turn_item {e it t : Addr} {i : Nat} {items : Array Value} {x old : Value} {Q : Value → Shared → Prop} (en : IsEnum s.heap e it i old) (wk : s.heap.IsTupleIter it t i) (tp : s.heap.IsTuple t items) (hx : items[i]? = some x) (apart : e ≠ it)
    (k : ∀ h', IsEnumOut h' e it ((i : Int) + 1) x s.heap.objs.size → h'.IsTupleIter it t (i + 1) → h'.get? s.heap.objs.size = some { cls := .type "tuple", data := .seq #[.int i s.toks, x] } →
      (∀ b o, b ≠ e → b ≠ it → s.heap.get? b = some o → h'.get? b = some o) → Q (.ref s.heap.objs.size) { s with heap := h', toks := s.toks + 1 }) :
    wpAny (model prog w) A (Builtin.«enumerate.__next__» ⟨[.ref e], []⟩) (fun fin s' => ∃ v, fin = .done (.ret v) ∧ Q v s') E s := by
  obtain ⟨h0, gens, dr, tk, os⟩ := s
  have back := apart.symm
  show wpAny _ _ (field (.ref e) 2 >>= _) _ _ _
  apply wpAny_bind
  refine wpAny_field en rfl (x := .ref it) rfl (wpAny_bind (RZ.nextOf_tuple_item wk tp hx fun h1 wk1 (q1 : Heap.SameBut it h0 h1) => ?_))
  have en1 : IsEnum h1 e it i old := (q1.2 e apart).trans en
  show wpAny _ _ (field (.ref e) 3 >>= _) _ _ ⟨h1, gens, dr, tk, os⟩
  refine wpAny_bind (wpAny_field en1 rfl (x := rawInt i) rfl ?_)
  show wpAny _ _ (field (.ref e) 4 >>= _) _ _ ⟨h1, gens, dr, tk, os⟩
  refine wpAny_bind (wpAny_field en1 rfl (x := .none) rfl ?_)
  show wpAny _ _ (mkInt i >>= _) _ _ ⟨h1, gens, dr, tk, os⟩
  refine wpAny_bind (wpAny_mkInt ?_)
  show wpAny _ _ (setField (.ref e) 3 (rawInt ((i : Int) + 1)) >>= _) _ _ ⟨h1, gens, dr, tk + 1, os⟩
  refine wpAny_bind (wpAny_setField_rec en1 (by simp) fun h2 (en2 : IsEnum h2 e it ((i : Int) + 1) old) (q2 : Heap.SameBut e h1 h2) => ?_)
  show wpAny _ _ (setField (.ref e) 4 .none >>= _) _ _ ⟨h2, gens, dr, tk + 1, os⟩
  refine wpAny_bind (wpAny_setField_rec en2 (by simp) fun h3 (en3 : IsEnum h3 e it ((i : Int) + 1) old) (q3 : Heap.SameBut e h2 h3) => ?_)
  show wpAny _ _ (newTuple [.int i tk, x] >>= _) _ _ ⟨h3, gens, dr, tk + 1, os⟩
  refine wpAny_bind (wpAny_newTuple ?_)
  have s3 : h3.objs.size = h0.objs.size := by rw [q3.1, q2.1, q1.1]
  have below : e < h0.objs.size := Heap.lt_size en
  obtain ⟨h4, e4⟩ : ∃ h4, h4 = h3.push { cls := .type "tuple", data := .seq #[.int i tk, x] } := ⟨_, rfl⟩
  have en4 : IsEnum h4 e it ((i : Int) + 1) old := by rw [e4]; exact Heap.get?_push_of_some _ en3
  have new4 : h4.get? h0.objs.size = some { cls := .type "tuple", data := .seq #[.int i tk, x] } := by rw [e4, ← s3]; exact Heap.get?_push_size _ rfl
  have old4 : ∀ b o, b ≠ e → b ≠ it → h0.get? b = some o → h4.get? b = some o := fun b o n1 n2 hb => by
    rw [e4]
    exact Heap.get?_push_of_some _ (q3.extBut b o n1 (q2.extBut b o n1 (q1.extBut b o n2 hb)))
  have wk4 : h4.IsTupleIter it t (i + 1) := by
    obtain ⟨o, ho, r⟩ := (wk1.extBut q2.extBut back).extBut q3.extBut back
    rw [e4]
    exact ⟨o, Heap.get?_push_of_some _ ho, r⟩
  show wpAny _ _ (Builtin.SmallTypes.ownedTupleIsFree (.ref e) >>= _) _ _ ⟨_, gens, dr, tk + 1, os⟩
  rw [← e4, s3]
  clear e4 en3 q3 en2 q2 en1 q1 wk1 s3
  refine wpAny_bind ?_
  unfold Builtin.SmallTypes.ownedTupleIsFree
  refine wpAny_bind (wpAny_field en4 rfl (x := .none) rfl (wpAny_pure ?_))
  simp only [if_true]
  refine wpAny_bind (wpAny_rule (wpAny_bind (wpAny_field en4 rfl (x := old) rfl (wpAny_bind (wpAny_setField_rec en4 (by simp) fun h5 (en5 : IsEnum h5 e it ((i : Int) + 1) x) (q5 : Heap.SameBut e h4 h5) => ?_)))))
  show wpAny _ _ (Builtin.SmallTypes.ownedTupleHandOut (.ref e) (.ref h0.objs.size) >>= _) _ _ ⟨h5, gens, dr, tk + 1, os⟩
  refine wpAny_bind ?_
  unfold Builtin.SmallTypes.ownedTupleHandOut
  refine wpAny_bind (wpAny_setField_rec en5 (by simp) fun h6 (en6 : IsEnumOut h6 e it ((i : Int) + 1) x h0.objs.size) (q6 : Heap.SameBut e h5 h6) => ?_)
  refine wpAny_setField_rec en6 (by simp) fun h7 (en7 : IsEnumOut h7 e it ((i : Int) + 1) x h0.objs.size) (q7 : Heap.SameBut e h6 h7) => ?_
  have on : ∀ b o, b ≠ e → h4.get? b = some o → h7.get? b = some o := fun b o n hb => q7.extBut b o n (q6.extBut b o n (q5.extBut b o n hb))
  refine wpAny_bind (wpAny_letGo (wpAny_pure ⟨_, rfl, k h7 en7 ?_ (on _ _ (Nat.ne_of_gt below) new4) fun b o n1 n2 hb => on b o n1 (old4 b o n1 n2 hb)⟩))
  exact ((wk4.extBut q5.extBut back).extBut q6.extBut back).extBut q7.extBut back
theorem next_item {e it t : Addr} {i : Nat} {items : Array Value} {x old : Value} {Q : Option Value → Shared → Prop} (en : IsEnum s.heap e it i old) (wk : s.heap.IsTupleIter it t i) (tp : s.heap.IsTuple t items) (hx : items[i]? = some x) (apart : e ≠ it)
    (k : ∀ h', IsEnumOut h' e it ((i : Int) + 1) x s.heap.objs.size → h'.IsTupleIter it t (i + 1) → h'.get? s.heap.objs.size = some { cls := .type "tuple", data := .seq #[.int i s.toks, x] } →
      (∀ b o, b ≠ e → b ≠ it → s.heap.get? b = some o → h'.get? b = some o) → Q (some (.ref s.heap.objs.size)) { s with heap := h', toks := s.toks + 1 }) : wpAny (model prog w) A (pyNext (.ref e)) Q E s := by
  have ty : s.TypeIs (.ref e) "enumerate" := ⟨_, en, rfl⟩
  unfold pyNext
  refine wpAny_bind (wpAny_attempt (wpAny_callSpecial?_slot (name := Str.ofString "__next__") ty F.slot_enumerate_next (wpAny_call_entry F.slot_enumerate_next ty F.entry_enumerate_next ?_ (F.args_enumerate_next_1 _))))
  exact turn_item en wk tp hx apart fun h' a b c d => wpAny_pure (k h' a b c d)
theorem next_end {e it t : Addr} {i : Nat} {items : Array Value} {old : Value} {Q : Option Value → Shared → Prop} (hh : A.handled = none) (en : IsEnum s.heap e it i old) (wk : s.heap.IsTupleIter it t i) (tp : s.heap.IsTuple t items) (hx : items[i]? = none)
    (k : ∀ h', Heap.ExtBut it s.heap h' → Q none { s with heap := h' }) : wpAny (model prog w) A (pyNext (.ref e)) Q E s := by
  have ty : s.TypeIs (.ref e) "enumerate" := ⟨_, en, rfl⟩
  unfold pyNext
  refine wpAny_bind (wpAny_attempt (wpAny_callSpecial?_slot (name := Str.ofString "__next__") ty F.slot_enumerate_next (wpAny_call_entry F.slot_enumerate_next ty F.entry_enumerate_next ?_ (F.args_enumerate_next_1 _))))
  show wpAny _ _ (field (.ref e) 2 >>= _) _ _ _
  refine wpAny_bind (wpAny_field en rfl (x := .ref it) rfl (wpAny_bind (RZ.nextOf_tuple_end hh wk tp hx fun h' y ext ⟨o, ho, hc⟩ => ?_)))
  exact wpAny_bind (wpAny_isInstance (T := "StopIteration") (b := true) ⟨o, ho, hc⟩ isSubtype_stop (wpAny_pure (k _ ext)))
end
end VtEnum
namespace Vt
open PySem PySem.Spec PyProof.Rows L2
/-- the tuple at a, its items in new pairs -/
def Ite2 (K : PySem.W.Frag) (a : Addr) : It :=
  ⟨fun i H => ∃ (xs : List V) (x : V), SqT K H a xs ∧ xs[i]? = some x, fun i H v H' => ∃ T x, v = .ref T ∧ H T = none ∧ H' = upd H T (.tup [.int (i : Nat), x]) ∧ ∀ xs, SqT K H a xs → xs[i]? = some x, fun i H => ∃ xs : List V, SqT K H a xs ∧ xs.length ≤ i⟩
theorem turn_enumT {P : Program} {w : World} {K : PySem.W.Frag} {elts : List Expr} {kk : Nat} {tpos : Pos} (a e it : Addr) :
    Turn P w K (.Tuple elts kk tpos) (Ite2 K a) [e, it] e (fun i h => (∃ old, IsEnum h e it ((i : Nat) : Int) old) ∧ h.IsTupleIter it a i ∧ e ≠ it) where
  mem := List.mem_cons_self
  obj := by
    rintro i h ⟨⟨old, en⟩, ⟨o, ho, _, hd⟩, _⟩ b hb
    rcases List.mem_cons.mp hb with rfl | hb
    · exact ⟨_, en, fun v z => nomatch z⟩
    · rw [List.mem_singleton.mp hb]
      exact ⟨o, ho, fun v z => by rw [hd] at z; cases z⟩
  keep := by
    rintro i h h' ⟨⟨old, en⟩, wk, ne⟩ k
    exact ⟨⟨old, k e List.mem_cons_self _ en⟩, wk.at fun o z => k it (List.mem_cons_of_mem _ List.mem_cons_self) o z, ne⟩
  item := by
    intro X hP hw hK hc i pins s σ H E I hf st hg
    subst hP hw hK
    obtain ⟨⟨old, en⟩, wk, ne⟩ := st
    obtain ⟨xs, x, hq, hx⟩ := hg
    obtain ⟨its, rv, p, hz⟩ := I.tuple hq
    obtain ⟨u, hu, ru⟩ := rv.get hx
    have le : e < s.heap.objs.size := Heap.lt_size en
    have li : it < s.heap.objs.size := by obtain ⟨_, z, _⟩ := wk; exact Heap.lt_size z
    refine VtEnum.next_item en wk p (x := u) (by simpa using hu) ne fun h' out wk' hT hk => ⟨_, rfl, wpAny_letOwnedTupleGo_enum (s := { s with heap := h', toks := s.toks + 1 }) out fun h'' en' sb => ?_⟩
    have hT2 : h''.get? s.heap.objs.size = some { cls := .type "tuple", data := .seq #[.int i s.toks, u] } := (sb.2 _ (Nat.ne_of_gt le)).trans hT
    have fresh : ObjOk X.prog X.w (upd H s.heap.objs.size (.tup [.int (i : Nat), x])) h'' s.heap.objs.size (.tup [.int (i : Nat), x]) := ⟨by show 2 ≤ sizeLine; decide, [.int i s.toks, u], .cons ⟨_, rfl⟩ (.cons ru .nil), ⟨_, hT2, rfl, _, rfl⟩⟩
    have two : ∀ b, b ∈ [e, it] → b = e ∨ b = it := fun b hb => by simpa using hb
    have J := I.turnedNew (t' := s.toks + 1) (ch := [e, it]) (fun b ob hb z => (sb.2 b (fun y => hb (by simp [y]))).trans (hk b ob (fun y => hb (by simp [y])) (fun y => hb (by simp [y])) z)) hf (Nat.le_refl _) fresh
    refine ⟨.ref s.heap.objs.size, _, J, rfl, ⟨_, x, rfl, I.hok.fresh (Nat.le_refl _), rfl, fun ys hy => by rw [I.tuple_inj hy hq]; exact hx⟩, ⟨⟨u, ?_⟩, wk'.at fun o z => (sb.2 it ne.symm).trans z, ne⟩, fun b hb => ?_⟩
    · rw [show ((i + 1 : Nat) : Int) = (i : Int) + 1 by omega]
      exact en'
    · have lb : b < s.heap.objs.size := by rcases two b hb with z | z <;> rw [z] <;> assumption
      rw [upd_ne (Nat.ne_of_lt lb)]
      exact (hf b hb).1
  done := by
    intro X hP hw hK hc i pins s σ H E I hf st hg
    subst hP hw hK
    obtain ⟨⟨old, en⟩, wk, ne⟩ := st
    obtain ⟨xs, hq, hx⟩ := hg
    obtain ⟨its, rv, p, hz⟩ := I.tuple hq
    obtain ⟨f0, f1, f2, f3, f4, f5⟩ := hf it (by simp)
    have hl := rv.length
    exact VtEnum.next_end (I.ok.hd hc) en wk p (by simp; omega) fun h' eb => ⟨rfl, I.turned (t' := s.toks) (fun b o hb z => eb b o hb z) f0 f1 f3 f4 f5⟩
  self := fun A i s Q E ⟨⟨_, en⟩, _⟩ h => wpAny_pyIter_enum en h
theorem pi_enumT {X : Cx} {e : Expr} {ta : TA} {p pos tpos : Pos} {elts : List Expr} {kk : Nat} (hg : Gl X "enumerate") (hm : X.mg "enumerate" = none) (ha : PA X [e] ta) (hs : starEach [e] X.env = [(false, eval e X.env)]) :
    PI X (.Tuple elts kk tpos) (.Call (.Name "enumerate" p) [e] [] pos) (fun σ H R => ta σ H fun vs H1 => ∃ a xs, vs = [.ref a] ∧ SqT X.K H1 a xs ∧ R (Ite2 X.K a) H1) := by
  refine ⟨fun pins s σ H R I h => Call_ (ld_blt I hg hm boot_enumerate (PyProof.Rows.callWith_type1 (thn (ha.run pos pins s σ H _ I h) fun us s1 ⟨vs, H1, I1, r1, q1⟩ => ?_) hs rfl))⟩
  obtain ⟨a, xs, rfl, hq, q⟩ := q1
  obtain ⟨u, rfl, ru⟩ := vals1 r1
  obtain rfl : u = Value.ref a := ru
  obtain ⟨its, rv, tp, hz⟩ := I1.tuple hq
  refine VtEnum.call_new tp fun h' en wk hk => wpAny_pyIter_enum en ?_
  have I2 : Inv X pins σ H1 { s1 with heap := h' } := I1.kept (t' := s1.toks) hk
  refine ⟨s1.heap.objs.size + 1, [s1.heap.objs.size + 1, s1.heap.objs.size], _, _, H1, rfl, I2, turn_enumT a (s1.heap.objs.size + 1) s1.heap.objs.size, ⟨⟨.none, en⟩, wk, Nat.succ_ne_self _⟩, fun b hb => ?_, q⟩
  have hle : s1.heap.objs.size ≤ b := by
    rcases List.mem_cons.mp hb with z | hb
    · rw [z]; exact Nat.le_succ _
    · rw [List.mem_singleton.mp hb]; exact Nat.le_refl _
  exact I1.fpOk hle (I1.hok.fresh hle)
end Vt
namespace Vt
open PySem PySem.Spec PyProof.Rows L2
/-! ### more of the relational calculus -/
def enD : Nat → List D → List D
  | _, [] => []
  | k, d :: ds => .tup [dI (k : Int), d] :: enD (k + 1) ds
theorem enD_len : ∀ (ds : List D) (k : Nat), (enD k ds).length = ds.length
  | [], _ => rfl
  | _ :: ds, k => congrArg (· + 1) (enD_len ds (k + 1))
theorem enD_get : ∀ {ds : List D} {k i : Nat} {d : D}, (enD k ds)[i]? = some d → ∃ e, ds[i]? = some e ∧ d = .tup [dI ((k + i : Nat) : Int), e]
  | [], _, _, _, h => by simp [enD] at h
  | e :: ds, k, 0, d, h => ⟨e, rfl, by simpa [enD] using h.symm⟩
  | e :: ds, k, i + 1, d, h => by
    obtain ⟨e', h1, h2⟩ := enD_get (ds := ds) (k := k + 1) (i := i) (by simpa [enD] using h)
    exact ⟨e', by simpa using h1, by rw [h2, show k + 1 + i = k + (i + 1) by omega]⟩
theorem enD_at : ∀ {ds : List D} {k i : Nat} {e : D}, ds[i]? = some e → (enD k ds)[i]? = some (.tup [dI ((k + i : Nat) : Int), e])
  | [], _, _, _, h => by simp at h
  | e :: ds, k, 0, _, h => by
    cases h
    rfl
  | e :: ds, k, i + 1, d, h => by
    have q := enD_at (ds := ds) (k := k + 1) (i := i) (e := d) (by simpa using h)
    rw [show k + 1 + i = k + (i + 1) by omega] at q
    simpa [enD] using q
theorem RepL.rev {K : PySem.W.Frag} {G : Hp} : ∀ {vs : List V} {ds : List D}, RepL K G vs ds → RepL K G vs.reverse ds.reverse
  | _, _, .nil => .nil
  | _, _, .cons h t => by
    rw [List.reverse_cons, List.reverse_cons]
    exact (RepL.rev t).append (.cons h .nil)
theorem RepL.drop {K : PySem.W.Frag} {G : Hp} : ∀ {vs : List V} {ds : List D} (n : Nat), RepL K G vs ds → RepL K G (vs.drop n) (ds.drop n)
  | _, _, 0, h => h
  | _, _, _ + 1, .nil => .nil
  | _, _, n + 1, .cons _ t => RepL.drop n t
theorem RepL.take {K : PySem.W.Frag} {G : Hp} : ∀ {vs : List V} {ds : List D} (n : Nat), RepL K G vs ds → RepL K G (vs.take n) (ds.take n)
  | _, _, 0, _ => .nil
  | _, _, _ + 1, .nil => .nil
  | _, _, n + 1, .cons h t => .cons h (RepL.take n t)
def cutD (ds : List D) (lo hi : Option Int) : List D := (ds.drop (HT.sIx ds.length 0 lo)).take (HT.sIx ds.length ds.length hi - HT.sIx ds.length 0 lo)
theorem cut_rep {K : PySem.W.Frag} {G : Hp} {vs : List V} {ds : List D} {lo hi : Option Int} (r : RepL K G vs ds) : RepL K G (cutV vs lo hi) (cutD ds lo hi) := by
  unfold cutV cutD
  rw [r.len]
  exact (r.drop _).take _
section
variable {X : Cx} {K : PySem.W.Frag} {ρ ρ' : Sl} {M M1 M2 M3 : Mem} {a b c e : Expr} {es : List Expr} {d d1 d2 : D} {ds : List D} {pos : Pos} {Ψ : Out → Prop} {Φ : D → Mem → Prop} {ΦI : List D → Mem → Prop}
theorem pairR {G : Hp} {H : Hp} {M : Mem} {T : Addr} {i : Int} {x : V} {d : D} (sh : SH K G H M) (hT : H T = none) (r : Rep K G x d) : ∃ G3, Same G G3 ∧ SH K G3 (upd H T (.tup [.int i, x])) M ∧ Rep K G3 (.ref T) (.tup [dI i, d]) := by
  obtain ⟨sh2, g2⟩ := sh.new (o := .tup [V.int i, x]) hT
  exact ⟨_, g2, sh2, .tup (.inl (.inl upd_same)) (.cons (.val _) (.cons (r.up g2) .nil))⟩
theorem JW2.enumL {p : Addr} {vs : List V} {G : Hp} (q : SqL K G p vs) (r : RepL K G vs ds) : JW2 K (Ite K p) G (enD 0 ds) := fun i H g => ⟨fun d h => by
    obtain ⟨e, h1, rfl⟩ := enD_get h
    obtain ⟨v, hv, rv⟩ := r.get h1
    refine ⟨⟨vs, v, sqlUp g q, hv⟩, ?_⟩
    rintro x H' ⟨T, y, rfl, hT, rfl, e2⟩ G2 M g2 sh
    have := e2 vs (sqlUp g q)
    rw [hv] at this
    cases this
    rw [Nat.zero_add]
    exact pairR sh hT (rv.up g2), fun h => ⟨vs, sqlUp g q, by rw [r.len]; rw [enD_len] at h; exact h⟩⟩
theorem JW2.enumT {p : Addr} {vs : List V} {G : Hp} (q : SqT K G p vs) (r : RepL K G vs ds) : JW2 K (Ite2 K p) G (enD 0 ds) := fun i H g => ⟨fun d h => by
    obtain ⟨e, h1, rfl⟩ := enD_get h
    obtain ⟨v, hv, rv⟩ := r.get h1
    refine ⟨⟨vs, v, sqtUp g q, hv⟩, ?_⟩
    rintro x H' ⟨T, y, rfl, hT, rfl, e2⟩ G2 M g2 sh
    have := e2 vs (sqtUp g q)
    rw [hv] at this
    cases this
    rw [Nat.zero_add]
    exact pairR sh hT (rv.up g2), fun h => ⟨vs, sqtUp g q, by rw [r.len]; rw [enD_len] at h; exact h⟩⟩
/-- for .. in enumerate(x), x a tree -/
theorem iw_enum (b : Bool) {elts : List Expr} {kk : Nat} {tpos p : Pos} (hm : X.mg "enumerate" = none) (h : EV X e ρ M (sq b ds) M1) (q : ΦI (enD 0 ds) M1) (hg : Gl X "enumerate" := by rfl) (hst : starEach [e] X.env = [(false, eval e X.env)] := by rfl) : IW X (.Tuple elts kk tpos) (.Call (.Name "enumerate" p) [e] [] pos) ρ M ΦI := by
  cases b with
  | true => exact (pi_enum hg hm (av_cons h av_nil hst) hst).mono fun σ H R ⟨G, sa, k⟩ => ⟨G, sa, fun vs G1 H1 g1 sh1 r1 => by
      cases r1 with
      | cons r t =>
        cases t
        cases (show Rep X.K G1 _ (.lst ds) from r) with
        | lst q' r => exact ⟨_, _, rfl, sqlUp sh1.le q', k _ G1 H1 _ M1 q g1 sh1 (JW2.enumL q' r)⟩⟩
  | false => exact (pi_enumT hg hm (av_cons h av_nil hst) hst).mono fun σ H R ⟨G, sa, k⟩ => ⟨G, sa, fun vs G1 H1 g1 sh1 r1 => by
      cases r1 with
      | cons r t =>
        cases t
        cases (show Rep X.K G1 _ (.tup ds) from r) with
        | tup q' r => exact ⟨_, _, rfl, sqtUp sh1.le q', k _ G1 H1 _ M1 q g1 sh1 (JW2.enumT q' r)⟩⟩
/-- xs[::-1], xs a tree or a list of the memory -/
theorem ew_rev {kk : Nat} {p1 p2 p3 : Pos} (h : EW X e ρ M (fun d M1 => ∃ ds, (d = .lst ds ∨ ∃ p, d = dP p ∧ M1 p = some (.lst ds)) ∧ Φ (.lst ds.reverse) M1)) : EW X (.Subscript e (.Slice none none (some (.UnaryOp .USub (.Constant (.int 1) kk p1) p2)) p3) pos) ρ M Φ :=
  (pe_revL h).mono fun σ H Q ⟨G, sa, k⟩ => ⟨G, sa, fun v G1 H1 d M1 ⟨ds, c, q⟩ g1 sh1 r1 => by
    have key : ∃ p vs, v = .ref p ∧ SqL X.K H1 p vs ∧ RepL X.K G1 vs ds := by
      rcases c with rfl | ⟨p, rfl, hp⟩
      · cases r1 with
        | lst q' r => exact ⟨_, _, rfl, sqlUp sh1.le q', r⟩
      · obtain ⟨_, vs, hv, r⟩ := sh1.mem p _ hp
        exact ⟨p, vs, r1.of_val, .inl (.inl hv), r⟩
    obtain ⟨p, vs, rfl, hs, r⟩ := key
    have rr : RepL X.K G1 vs.reverse ds.reverse := r.rev
    refine ⟨p, vs, rfl, hs, fun p' hp' => ?_⟩
    obtain ⟨sh2, g2⟩ := sh1.new (o := .lst vs.reverse) hp'
    exact k _ _ _ _ M1 q (g1.trans g2) sh2 (.lst (.inl (.inl upd_same)) (rr.up g2))⟩
/-- xs[i] = e, any sign -/
theorem sw_setItem {tp : Pos} (he : EW X e ρ M (fun d M1 => ∃ p i ds j, EV X a ρ M1 (dP p) M1 ∧ EV X b ρ M1 (dI i) M1 ∧ M1 p = some (.lst ds) ∧ ixN ds.length i = some j ∧ Ψ (.nx ρ (M1.set p (.lst (ds.set j d))))))
    (ha : ∀ v, assign (.Subscript a b tp) X.env v = (do
      let ov ← holding [v] (eval a X.env)
      let iv ← holding [v, ov] (eval b X.env)
      standAt tp
      holding [v, ov, iv] (setItem ov iv v)
      release [v, ov, iv] []) := by intro _; rfl)
    (hs : swapsWithSole [.Subscript a b tp] e pos.line X.env = pure false := by rfl) (hw : swappedStores [.Subscript a b tp] e X.env = pure none := by rfl)
    (h1 : (assignEach [.Subscript a b tp] X.env).map (·.2) = [assign (.Subscript a b tp) X.env] := by rfl) : SV X (.Assign [.Subscript a b tp] e pos) ρ M Ψ :=
  (ps_asg he (pg_sub (pk_e (ρ := ρ)) (pk_e (ρ := ρ)) set_list ha) hs hw h1).mono fun E σ H ⟨G, sa, k⟩ => ⟨G, sa, fun v G1 H1 d M1 ⟨p, i, ds, j, ho, hi, hm, hj, hΨ⟩ g1 sh1 r1 =>
    ⟨M1, fun d' M' => d' = dP p ∧ M' = M1, ew_ev ho ⟨rfl, rfl⟩, G1, ⟨sh1, sa.sl.up g1⟩, fun v2 G2 H2 d2 M2 ⟨e2, e2'⟩ g2 sh2 r2 => ⟨M1, fun d' M' => d' = dI i ∧ M' = M1, ew_ev hi ⟨rfl, rfl⟩, G2, ⟨by rw [e2'] at sh2; exact sh2, (sa.sl.up g1).up g2⟩, fun v3 G3 H3 d3 M3 ⟨e3, e3'⟩ g3 sh3 r3 => by
      subst e2 e3 e3'
      obtain ⟨_, vs, hv, rl⟩ := sh3.mem p _ hm
      exact ⟨p, vs, i, j, r2.of_val, r3.of_val, hv, by rw [rl.len]; exact hj, k _ hΨ σ G3 _ ((g1.trans g2).trans g3) ⟨sh3.put hm (rl.set ((r1.up g2).up g3) j), ((sa.sl.up g1).up g2).up g3⟩⟩⟩⟩⟩
/-- a tree's truth: a list, a tuple -/
theorem tv_sqT {b : Bool} (ha : EV X e ρ M (sq b ds) M1) (he : ∀ whole, isTrue e X.env whole = (do let v ← whole; standAt e.pos; holding [v] (truthy v)) := by intro _; rfl) : TV X e ρ M (!ds.isEmpty) M1 :=
  (pt_truth ha he).mono fun σ H Q ⟨G, sa, k⟩ => ⟨G, sa, fun v1 G1 H1 g1 sh1 r1 => by
    have emp : ∀ {vs : List V}, RepL X.K G1 vs ds → (!vs.isEmpty) = !ds.isEmpty := fun {vs} r => by
      have := r.len
      cases vs <;> cases ds <;> first | rfl | cases this
    cases b with
    | true =>
      cases (show Rep X.K G1 v1 (.lst ds) from r1) with
      | lst q r => exact ⟨_, .inl ⟨_, sqlUp sh1.le q, rfl⟩, by rw [emp r]; exact k G1 H1 g1 sh1⟩
    | false =>
      cases (show Rep X.K G1 v1 (.tup ds) from r1) with
      | tup q r => exact ⟨_, .inr (.inl ⟨_, sqtUp sh1.le q, rfl⟩), by rw [emp r]; exact k G1 H1 g1 sh1⟩⟩
/-- x[a:b] of a tree -/
theorem ev_sliceQ {b' : Bool} {lo hi : Option Expr} {o1 o2 : Option Int} {p2 : Pos} (ha : EV X a ρ M (sq b' ds) M1) (h1 : OV X lo ρ M1 o1 M2) (h2 : OV X hi ρ M2 o2 M3) : EV X (.Subscript a (.Slice lo hi none p2) pos) ρ M (sq b' (cutD ds o1 o2)) M3 := by
  cases b' with
  | true => exact (pe_slice sl_list ha h1 h2).mono fun σ H Q ⟨G, sa, k⟩ => ⟨G, sa, fun v G1 H1 g1 sh1 r1 => ⟨G1, ⟨sh1, sa.sl.up g1⟩, fun G2 H2 g2 sh2 => ⟨G2, ⟨sh2, (sa.sl.up g1).up g2⟩, fun G3 H3 g3 sh3 => by
      cases (show Rep X.K G1 v (.lst ds) from r1) with
      | lst q r =>
        refine ⟨_, _, rfl, sqlUp sh3.le (sqlUp g3 (sqlUp g2 q)), fun p hp => ?_⟩
        obtain ⟨sh4, g4⟩ := sh3.new (o := .lst _) hp
        exact k _ _ _ (((g1.trans g2).trans g3).trans g4) sh4 (.lst (.inl (.inl upd_same)) (cut_rep (((r.up g2).up g3).up g4)))⟩⟩⟩
  | false => exact (pe_slice sl_tupA ha h1 h2).mono fun σ H Q ⟨G, sa, k⟩ => ⟨G, sa, fun v G1 H1 g1 sh1 r1 => ⟨G1, ⟨sh1, sa.sl.up g1⟩, fun G2 H2 g2 sh2 => ⟨G2, ⟨sh2, (sa.sl.up g1).up g2⟩, fun G3 H3 g3 sh3 => by
      cases (show Rep X.K G1 v (.tup ds) from r1) with
      | tup q r =>
        refine ⟨_, _, rfl, sqtUp sh3.le (sqtUp g3 (sqtUp g2 q)), fun hw => ?_, fun hw p hp => ?_⟩
        · have e : cutD ds o1 o2 = ds := by
            rw [r.len] at hw
            unfold cutD
            rw [hw.1, hw.2, List.drop_zero, Nat.sub_zero, List.take_length]
          rw [e] at k
          exact k _ _ _ ((g1.trans g2).trans g3) sh3 (.tup (sqtUp g3 (sqtUp g2 q)) ((r.up g2).up g3))
        · obtain ⟨sh4, g4⟩ := sh3.new (o := .tup _) hp
          exact k _ _ _ (((g1.trans g2).trans g3).trans g4) sh4 (.tup (.inl (.inl upd_same)) (cut_rep (((r.up g2).up g3).up g4)))⟩⟩⟩
end
end Vt
namespace Vt
open PySem PySem.Spec PyProof.Rows L2
/-! is None of any tree -/
def D.isN : D → Bool
  | .val v => decide (v = .non)
  | .tup _ => false
  | .lst _ => false
  | .dic => false
section
variable {X : Cx} {ρ : Sl} {M M1 : Mem} {a e : Expr} {d : D} {pos : Pos} {Φ : D → Mem → Prop} {ΦT : Bool → Mem → Prop}
theorem isN_of {K : PySem.W.Frag} {G : Hp} {v : V} (r : Rep K G v d) : decide (v = .non) = d.isN := by
  cases r with
  | val v => rfl
  | tup _ _ => rfl
  | lst _ _ => rfl
  | dic _ => rfl
theorem ev_isNn {j} {p2 : Pos} (ha : EV X a ρ M d M1) : EV X (.Compare a [.Is] [.Constant .none j p2] pos) ρ M (dB d.isN) M1 :=
  (pe_cmp (pc_isN ha)).mono fun σ H Q ⟨G, sa, k⟩ => ⟨G, sa, fun v1 G1 H1 g1 sh1 r1 => by have q := k _ G1 H1 g1 sh1 (.val _); rw [← isN_of r1] at q; exact q⟩
theorem tv_isNn {j} {p2 : Pos} (ha : EV X a ρ M d M1) : TV X (.Compare a [.Is] [.Constant .none j p2] pos) ρ M d.isN M1 :=
  (pt_cmp (pc_isN ha)).mono fun σ H Q ⟨G, sa, k⟩ => ⟨G, sa, fun v1 G1 H1 g1 sh1 r1 => by have q := k G1 H1 g1 sh1; rw [← isN_of r1] at q; exact ⟨_, rfl, q⟩⟩
theorem ev_notNn {j} {p2 : Pos} (ha : EV X a ρ M d M1) : EV X (.Compare a [.IsNot] [.Constant .none j p2] pos) ρ M (dB (!d.isN)) M1 :=
  (pe_cmp (pc_notN ha)).mono fun σ H Q ⟨G, sa, k⟩ => ⟨G, sa, fun v1 G1 H1 g1 sh1 r1 => by have q := k _ G1 H1 g1 sh1 (.val _); rw [← isN_of r1] at q; exact q⟩
theorem tv_notNn {j} {p2 : Pos} (ha : EV X a ρ M d M1) : TV X (.Compare a [.IsNot] [.Constant .none j p2] pos) ρ M (!d.isN) M1 :=
  (pt_cmp (pc_notN ha)).mono fun σ H Q ⟨G, sa, k⟩ => ⟨G, sa, fun v1 G1 H1 g1 sh1 r1 => by have q := k G1 H1 g1 sh1; rw [← isN_of r1] at q; exact ⟨_, rfl, q⟩⟩
end
section
variable {X : Cx} {ρ : Sl} {M M1 : Mem} {a b e : Expr} {d : D} {ds : List D} {pos : Pos} {Φ : D → Mem → Prop} {ΦT : Bool → Mem → Prop}
/-- tuple + tuple -/
theorem ew_catT (h : EW X a ρ M (fun d1 M1 => ∃ ds, d1 = .tup ds ∧ EW X b ρ M1 (fun d2 M2 => ∃ es, d2 = .tup es ∧ ds.length + es.length ≤ sizeLine ∧ Φ (.tup (ds ++ es)) M2))) : EW X (.BinOp a .Add b pos) ρ M Φ :=
  (pe_op op_catA h pk_e).mono fun σ H Q ⟨G, sa, k⟩ => ⟨G, sa, fun v1 G1 H1 d1 M1 ⟨ds, e1, h⟩ g1 sh1 r1 => ⟨M1, _, h, G1, ⟨sh1, sa.sl.up g1⟩, fun v2 G2 H2 d2 M2 ⟨es, e2, hl, q⟩ g2 sh2 r2 => by
    subst e1 e2
    cases r1 with
    | tup q1 r =>
      cases r2 with
      | tup q2 r2 =>
        have rr := r.up g2
        refine ⟨_, _, _, _, rfl, rfl, sqtUp sh2.le (sqtUp g2 q1), sqtUp sh2.le q2, by rw [r.len, r2.len]; exact hl, fun e => ?_, fun _ e => ?_, fun _ _ p hp => ?_⟩
        · subst e
          cases rr
          exact k _ G2 H2 _ M2 q (g1.trans g2) sh2 (.tup q2 r2)
        · subst e
          cases r2
          rw [List.append_nil] at q
          exact k _ G2 H2 _ M2 q (g1.trans g2) sh2 (.tup (sqtUp g2 q1) rr)
        · obtain ⟨sh3, g3⟩ := sh2.new (o := .tup _) hp
          exact k _ _ _ _ M2 q ((g1.trans g2).trans g3) sh3 (.tup (.inl (.inl upd_same)) ((rr.append r2).up g3))⟩⟩
theorem atI_last {α : Type} {xs : List α} {x : α} (h : xs.getLast? = some x) : atI xs (-1) = some x := by
  rw [List.getLast?_eq_getElem?] at h
  have hl : 0 < xs.length := by
    rcases Nat.eq_zero_or_pos xs.length with e | e
    · rw [List.getElem?_eq_none (by omega)] at h
      cases h
    · exact e
  unfold atI ixN
  rw [if_neg (by omega), if_pos (by omega)]
  show xs[((-1 : Int) + xs.length).toNat]? = _
  rw [show ((-1 : Int) + (xs.length : Nat)).toNat = xs.length - 1 by omega]
  exact h
theorem ixN_last {n : Nat} (h : 0 < n) : ixN n (-1) = some (n - 1) := by
  unfold ixN
  rw [if_neg (by omega), if_pos (by omega), show ((-1 : Int) + n).toNat = n - 1 by omega]
end
end Vt
namespace Vt
open PySem PySem.Spec PyProof.Rows L2
/-! ### answers and errors: what an expression, a statement tells or raises -/
inductive Res where
  | ok (d : D)
  | ex (cls : Value) (dd : Option Addr)
inductive OutX where
  | o (o : Out)
  | ex (cls : Value) (dd : Option Addr) (ρ : Sl) (M : Mem)
def tU (K : PySem.W.Frag) (W : WX) (ρ : Sl) (M : Mem) (Φ : Res → Mem → Prop) : TE := fun σ H Q => ∃ G, SA K G H σ ρ M ∧ (∀ v G' H' d M', Φ (.ok d) M' → Same G G' → SH K G' H' M' → Rep K G' v d → Q v H') ∧
  ∀ cls dd G' H' M', Φ (.ex cls dd) M' → Same G G' → SH K G' H' M' → W cls dd σ H'
abbrev EU (X : Cx) (W : WX) (e : Expr) (ρ : Sl) (M : Mem) (Φ : Res → Mem → Prop) : Prop := PE X e (tU X.K W ρ M Φ)
def okX (K : PySem.W.Frag) (W : WX) (G0 : Hp) (E : Ends) : OutX → Prop
  | .o o => okE K G0 E o
  | .ex cls dd ρ M => ∀ σ G H, Same G0 G → SA K G H σ ρ M → W cls dd σ H
theorem okX.up {K : PySem.W.Frag} {W : WX} {G0 G1 : Hp} {E : Ends} {o : OutX} (e : Same G0 G1) (h : okX K W G0 E o) : okX K W G1 E o := by
  cases o with
  | o o => exact okE.up e h
  | ex cls dd ρ M => exact fun σ G H g => h σ G H (e.trans g)
def tSU (K : PySem.W.Frag) (W : WX) (ρ : Sl) (M : Mem) (Ψ : OutX → Prop) : TS := fun E σ H => ∃ G, SA K G H σ ρ M ∧ ∀ o, Ψ o → okX K W G E o
abbrev SU (X : Cx) (W : WX) (st : Stmt) (ρ : Sl) (M : Mem) (Ψ : OutX → Prop) : Prop := PS X st (tSU X.K W ρ M Ψ)
abbrev BU (X : Cx) (W : WX) (sts : List Stmt) (ρ : Sl) (M : Mem) (Ψ : OutX → Prop) : Prop := PSs X sts (tSU X.K W ρ M Ψ)
def pkU (X : Cx) (W : WX) (sts : List Stmt) (ρ : Sl) (Ψ : OutX → Prop) : TS := fun E σ H => ∃ M, BU X W sts ρ M Ψ ∧ tSU X.K W ρ M Ψ E σ H
theorem pk_u {X : Cx} {W : WX} {sts : List Stmt} {ρ : Sl} {Ψ : OutX → Prop} : PSs X sts (pkU X W sts ρ Ψ) := ⟨fun pins s σ H E I ⟨_, h, q⟩ => h.run pins s σ H E I q⟩
/-- a promise of a def that tells or raises -/
def spU (K : PySem.W.Frag) (R : List D → Mem → (Res → Mem → Prop) → Prop) : Sp := fun vs H Q E => ∃ G ds M Φ, SH K G H M ∧ RepL K G vs ds ∧ R ds M Φ ∧ (∀ v G' H' d M', Φ (.ok d) M' → Same G G' → SH K G' H' M' → Rep K G' v d → Q v H') ∧
  ∀ cls dd G' H' M', Φ (.ex cls dd) M' → Same G G' → SH K G' H' M' → E cls dd H'
section
variable {X : Cx} {W : WX} {ρ ρ1 ρ' : Sl} {M M1 M2 M' : Mem} {a b c e : Expr} {es : List Expr} {d : D} {ds : List D} {pos : Pos} {cls : Value} {st : Stmt} {rest : List Stmt} {Ψ : OutX → Prop} {Φ : Res → Mem → Prop}
theorem eu_ew {Φ' : D → Mem → Prop} (h : EW X e ρ M Φ') (q : ∀ d M, Φ' d M → Φ (.ok d) M) : EU X W e ρ M Φ := h.mono fun σ H Q ⟨G, sa, k, _⟩ => ⟨G, sa, fun v G1 H1 d M1 p => k v G1 H1 d M1 (q _ _ p)⟩
theorem eu_ev (h : EV X e ρ M d M1) (q : Φ (.ok d) M1) : EU X W e ρ M Φ := h.mono fun σ H Q ⟨G, sa, k, _⟩ => ⟨G, sa, fun v G1 H1 g1 sh1 r1 => k v G1 H1 d M1 q g1 sh1 r1⟩
theorem eu_call {k : Nat} {x : Str} {R : List D → Mem → (Res → Mem → Prop) → Prop} {p : Pos} (C : CalX X.prog X.w X.K X.mg X.base k x (spU X.K R)) (tk : Takes X W) (hr : Room k X.A) (h : AW X (e :: es) ρ M (fun ds M1 => R ds M1 Φ)) (hg : Gl X x := by rfl)
    (hd : (x == ("__debug__" : Str)) = false := by decide) (hst : starEach (e :: es) X.env = (false, eval e X.env) :: starEach es X.env := by rfl) (hpl : (backTo pos (starEach es X.env)).any (·.1) = false := by rfl) : EU X W (.Call (.Name x p) (e :: es) [] pos) ρ M Φ := by
  obtain ⟨f, fd, ps, hm, hk, hb, F⟩ := C.ex
  refine (pe_callS (E := WE W) F hr hg hm hk hb (passAt tk) h (hdb := hd) (he := hst) (hpl := hpl)).mono fun σ H Q ⟨G, sa, k1, k2⟩ => ⟨G, sa, fun vs G1 H1 ds M1 hp g1 sh1 r1 => ?_⟩
  exact ⟨G1, ds, M1, Φ, sh1, r1, hp, fun v G' H' d M' q g sh r => k1 v G' H' d M' q (g1.trans g) sh r, fun cls dd G' H' M' q g sh => k2 cls dd G' H' M' q (g1.trans g) sh⟩
theorem su_sv {Ψ' : Out → Prop} (h : SV X st ρ M Ψ') (q : ∀ o, Ψ' o → Ψ (.o o)) : SU X W st ρ M Ψ := h.mono fun E σ H ⟨G, sa, k⟩ => ⟨G, sa, fun o ho => k _ (q o ho)⟩
theorem bu_bv {Ψ' : Out → Prop} (h : BV X rest ρ M Ψ') (q : ∀ o, Ψ' o → Ψ (.o o)) : BU X W rest ρ M Ψ := h.mono fun E σ H ⟨G, sa, k⟩ => ⟨G, sa, fun o ho => k _ (q o ho)⟩
theorem su_to {Ψ' : OutX → Prop} (h : SU X W st ρ M Ψ') (q : ∀ o, Ψ' o → Ψ o) : SU X W st ρ M Ψ := h.mono fun E σ H ⟨G, sa, k⟩ => ⟨G, sa, fun o ho => k _ (q o ho)⟩
def thenU (X : Cx) (W : WX) (rest : List Stmt) (Ψ : OutX → Prop) : OutX → Prop
  | .o (.nx ρ M) => BU X W rest ρ M Ψ
  | o => Ψ o
theorem bu_nil (h : Ψ (.o (.nx ρ M))) : BU X W [] ρ M Ψ := pss_nil.mono fun E σ H ⟨G, sa, k⟩ => k _ h σ G H (Same.refl G) sa
theorem bu_cons (h : SU X W st ρ M (thenU X W rest Ψ)) : BU X W (st :: rest) ρ M Ψ := by
  refine (pss_cons (u := fun E σ H => ∃ ρ', pkU X W rest ρ' Ψ E σ H) h ⟨fun pins s σ H E I ⟨_, _, hb, q⟩ => hb.run pins s σ H E I q⟩).mono fun E σ H ⟨G, sa, k⟩ => ⟨G, sa, fun o ho => ?_⟩
  cases o with
  | ex cls dd ρ' M' => exact k _ ho
  | o o =>
    cases o with
    | nx ρ' M' => exact fun σ' G' H' g sa' => ⟨ρ', M', ho, G', sa', fun o' ho' => (k o' ho').up g⟩
    | ret d M' => exact k _ ho
    | bk ρ' M' => exact k _ ho
    | ct ρ' M' => exact k _ ho
theorem bu_one (h : SU X W st ρ M Ψ) : BU X W [st] ρ M Ψ := pss_one h
/-- a statement that raises nothing, ahead of others -/
theorem bu_sv (h : SV X st ρ M (fun o => match o with | .nx ρ' M' => BU X W rest ρ' M' Ψ | o => Ψ (.o o))) : BU X W (st :: rest) ρ M Ψ := bu_cons (su_sv h fun o ho => by
  cases o with
  | nx ρ' M' => exact ho
  | ret d M' => exact ho
  | bk ρ' M' => exact ho
  | ct ρ' M' => exact ho)
theorem su_if {as bs : List Stmt} (hc : TW X c ρ M (fun p M1 => (p = true → BU X W as ρ M1 Ψ) ∧ (p = false → BU X W bs ρ M1 Ψ))) : SU X W (.If c as bs pos) ρ M Ψ :=
  (ps_if hc pk_u pk_u).mono fun E σ H ⟨G, sa, k⟩ => ⟨G, sa, fun p G1 H1 M1 ⟨h1, h2⟩ g1 sh1 => by
    cases p with
    | true => exact (⟨M1, h1 rfl, G1, ⟨sh1, sa.sl.up g1⟩, fun o ho => (k o ho).up g1⟩ : pkU X W as ρ Ψ E σ H1)
    | false => exact (⟨M1, h2 rfl, G1, ⟨sh1, sa.sl.up g1⟩, fun o ho => (k o ho).up g1⟩ : pkU X W bs ρ Ψ E σ H1)⟩
theorem su_set (i : Nat) {x : Str} {pos' : Pos} (hN : X.N.Nodup) (he : EU X W e ρ M (fun r M1 => match r with | .ok d => Ψ (.o (.nx (ρ.set i (some d)) M1)) | .ex cls dd => Ψ (.ex cls dd ρ M1))) (hi : X.N[i]? = some x := by rfl) (hx : L2.Loc X.env.scope x := by first | exact Or.inl rfl | exact Or.inr rfl)
    (hs : swapsWith e (some (.Name x pos')) pos.line X.env = pure false := by rfl) (hf : X.fn x = true ∨ X.env.scope.names.lookup x = some .local := by first | exact .inl rfl | exact .inr rfl) : SU X W (.Assign [.Name x pos'] e pos) ρ M Ψ :=
  (ps_set hN hi hx he hs hf).mono fun E σ H ⟨G, sa, k⟩ => ⟨G, sa, fun v G1 H1 d M1 q g1 sh1 r1 => k _ q _ G1 H1 g1 ⟨sh1, (sa.sl.up g1).set i r1⟩, fun cls dd G1 H1 M1 q g1 sh1 => k _ q σ G1 H1 g1 ⟨sh1, sa.sl.up g1⟩⟩
theorem su_ret (he : EU X W e ρ M (fun r M1 => match r with | .ok d => Ψ (.o (.ret d M1)) | .ex cls dd => Ψ (.ex cls dd ρ M1))) : SU X W (.Return (some e) pos) ρ M Ψ :=
  (ps_ret he).mono fun E σ H ⟨G, sa, k⟩ => ⟨G, sa, fun v G1 H1 d M1 q g1 sh1 r1 => k _ q v G1 H1 g1 sh1 r1, fun cls dd G1 H1 M1 q g1 sh1 => k _ q σ G1 H1 g1 ⟨sh1, sa.sl.up g1⟩⟩
def loopU (Inv : Nat → Sl → Mem → Prop) (Ψ : OutX → Prop) (i : Nat) : OutX → Prop
  | .o (.nx ρ M) => Inv (i + 1) ρ M
  | .o (.ct ρ M) => Inv (i + 1) ρ M
  | .o (.bk ρ M) => Ψ (.o (.nx ρ M))
  | .o (.ret d M) => Ψ (.o (.ret d M))
  | .ex cls dd ρ M => Ψ (.ex cls dd ρ M)
theorem su_for {tg iter : Expr} {g : TG} {body : List Stmt} (hc : X.calm = true) (hg : PG X tg g)
    (hi : IW X tg iter ρ M (fun ds M1 => ∃ Iv : Nat → Sl → Mem → Prop, Iv 0 ρ M1 ∧ (∀ i d ρ' M', ds[i]? = some d → Iv i ρ' M' → ∃ ρ'', TG1 X.K g ρ' d ρ'' ∧ BU X W body ρ'' M' (loopU Iv Ψ i)) ∧ ∀ ρ' M', Iv ds.length ρ' M' → Ψ (.o (.nx ρ' M'))))
    (hp : PassesOwn (model X.prog X.w) X.A X.env X.xe) (hs : ∀ x, foldedSetIterable iter X.env x = pure x := by intro _; rfl) : SU X W (.For tg iter body [] pos) ρ M Ψ := by
  refine (ps_for (tb := fun E σ H => ∃ ρ Ψ', pkU X W body ρ Ψ' E σ H) hp hc hi hg ⟨fun pins s σ H E I ⟨_, _, _, hb, q⟩ => hb.run pins s σ H E I q⟩ hs).mono fun E σ H ⟨G, sa, k⟩ => ⟨G, sa, fun J G1 H1 ds M1 ⟨Iv, iv0, step, done⟩ g1 sh1 jw => ?_⟩
  refine ⟨fun i m σ H => m = ds.length - i ∧ i ≤ ds.length ∧ ∃ G ρ M, Same G1 G ∧ SA X.K G H σ ρ M ∧ Iv i ρ M, ⟨_, (Nat.sub_zero _).symm, Nat.zero_le _, G1, ρ, M1, Same.refl _, ⟨sh1, sa.sl.up g1⟩, iv0⟩, ?_⟩
  rintro i m σ2 H2 ⟨rfl, hi, G2, ρ2, M2, g2, sa2, iv⟩
  obtain ⟨j1, j2⟩ := jw i H2 (g2.trans sa2.sh.le)
  rcases Nat.lt_or_ge i ds.length with hlt | hge
  · obtain ⟨go, yl⟩ := j1 _ (List.getElem?_eq_getElem hlt)
    refine .inr ⟨go, fun σ3 H3 => ∃ G ρ M, Same G1 G ∧ SA X.K G H3 σ3 ρ M ∧ Iv (i + 1) ρ M, fun σ' H' p' => ⟨_, by omega, rfl, hlt, p'⟩, fun x H' y => ?_⟩
    obtain ⟨G3, g3, sh3, rx⟩ := yl x H' y G2 M2 g2 sa2.sh
    have g13 := g2.trans g3
    obtain ⟨ρ3, tg3, bv⟩ := step i _ ρ2 M2 (List.getElem?_eq_getElem hlt) iv
    refine tg3 x σ2 G3 H' _ sh3.le (sa2.sl.up g3) rx fun σ3 rs3 => ⟨ρ3, _, M2, bv, G3, ⟨sh3, rs3⟩, fun o ho => ?_⟩
    cases o with
    | ex cls dd ρ4 M4 => exact fun σ4 G4 H4 g4 sa4 => k _ ho σ4 G4 H4 ((g1.trans g13).trans g4) sa4
    | o o =>
      cases o with
      | nx ρ4 M4 => exact fun σ4 G4 H4 g4 sa4 => ⟨G4, ρ4, M4, g13.trans g4, sa4, ho⟩
      | ct ρ4 M4 => exact fun σ4 G4 H4 g4 sa4 => ⟨G4, ρ4, M4, g13.trans g4, sa4, ho⟩
      | bk ρ4 M4 => exact fun σ4 G4 H4 g4 sa4 => k _ ho σ4 G4 H4 ((g1.trans g13).trans g4) sa4
      | ret d4 M4 => exact fun v G4 H4 g4 sh4 r4 => k _ ho v G4 H4 ((g1.trans g13).trans g4) sh4 r4
  · obtain rfl : i = ds.length := by omega
    exact .inl ⟨j2 (Nat.le_refl _), k _ (done ρ2 M2 iv) σ2 G2 H2 (g1.trans g2) sa2⟩
end
def FinU (Φ : Res → Mem → Prop) : OutX → Prop
  | .o (.ret d M'') => ∃ M', Φ (.ok d) M' ∧ Mle M' M''
  | .o (.nx _ M'') => ∃ M', Φ (.ok dN) M' ∧ Mle M' M''
  | .ex cls dd _ M'' => ∃ M', Φ (.ex cls dd) M' ∧ Mle M' M''
  | _ => False
theorem calU_of {P : Program} {w : World} {K : PySem.W.Frag} {mg : Str → Option Value} {base : Heap} {x qual : Str} {sd : Stmt} {f : Addr} {fd : FuncData} {N ps : List Str} {k : Nat} {R : List D → Mem → (Res → Mem → Prop) → Prop} (F : Fun K x qual sd f fd) (S : FnScope N ps (defScope sd)) (hm : mg x = some (.ref f))
    (hbind : ∀ (kV doc pm : Value) (an : Option Addr) (cdv ct : Value) (us : List Value), us.length = ps.length → bindArgs (PySem.W.fnOf x qual (defArgs sd) (defBody sd) (defScope sd) .none kV doc pm an cdv ct) ⟨us, []⟩ = pure (ps.zip us))
    (len : ∀ ds M Φ, R ds M Φ → ds.length = ps.length)
    (hb : ∀ (cdv : Value) (A : Around) (outer : List Env) (s : Shared) (H : Hp) (E : XK) (ds : List D) (M : Mem) (Φ : Res → Mem → Prop), Room k (A.deeper (envOfC qual (defScope sd) s.heap.objs.size f cdv)) → R ds M Φ →
      ∀ W, Takes (cxOf (L2.CX P w) P w K mg base N qual (defScope sd) f cdv A outer s H E) W → PassesOwn (model P w) (cxOf (L2.CX P w) P w K mg base N qual (defScope sd) f cdv A outer s H E).A (cxOf (L2.CX P w) P w K mg base N qual (defScope sd) f cdv A outer s H E).env (cxOf (L2.CX P w) P w K mg base N qual (defScope sd) f cdv A outer s H E).xe →
      BU (cxOf (L2.CX P w) P w K mg base N qual (defScope sd) f cdv A outer s H E) W (defBody sd) (startD N ds) M (FinU Φ)) : CalX P w K mg base (k + 1) x (spU K R) :=
  ⟨f, fd, ps, hm, F.kp, F.binds hbind, F.okX S (fun vs H Q E ⟨G, ds, M, Φ, sh, r, p, q⟩ => by rw [r.len]; exact len _ _ _ p) fun cdv A outer s H vs Q E hr ⟨G, ds, M, Φ, sh, r, p, q1, q2⟩ => by
    refine ⟨_, hb cdv A outer s H E ds M Φ hr p (fun cls d _ H' => E cls d H') (takes_of (E := E) rfl rfl rfl rfl) (passes_of rfl), G, ⟨sh, start_rep r⟩, fun o ho => ?_⟩
    cases o with
    | ex cls dd ρ' M'' =>
      obtain ⟨M', hp, hm⟩ := ho
      exact fun σ' G' H' g sa' => q2 cls dd G' H' M' hp g (sa'.sh.weak hm)
    | o o =>
      cases o with
      | ret d' M'' =>
        obtain ⟨M', hp, hm⟩ := ho
        exact fun v G' H' g sh' r' => q1 v G' H' d' M' hp g (sh'.weak hm) r'
      | nx ρ' M'' =>
        obtain ⟨M', hp, hm⟩ := ho
        exact fun σ' G' H' g sa' => q1 _ G' H' dN M' hp g (sa'.sh.weak hm) (.val _)
      | bk ρ' M'' => exact ho.elim
      | ct ρ' M'' => exact ho.elim⟩
/-! ### defs as values -/
structure CalF (P : Program) (w : World) (K : PySem.W.Frag) (mg : Str → Option Value) (base : Heap) (k : Nat) (f : Addr) (sp : Sp) : Prop where
  ex : ∃ fd ps, PySem.W.keepIn K (.ref f) = true ∧ Binds K fd ps [] ∧ FnOk P w K mg base CX0 k f fd ps sp
theorem Cal.val {P : Program} {w : World} {K : PySem.W.Frag} {mg : Str → Option Value} {base : Heap} {k : Nat} {x : Str} {sp : Sp} (C : Cal P w K mg base k x sp) : ∃ f, mg x = some (.ref f) ∧ CalF P w K mg base k f sp :=
  let ⟨f, fd, ps, a, b, c, F⟩ := C.ex
  ⟨f, a, fd, ps, b, c, F⟩
section
variable {X : Cx} {ρ : Sl} {M M1 M2 : Mem} {e : Expr} {es : List Expr} {d : D} {ds : List D} {pos : Pos} {Φ : D → Mem → Prop}
/-- the name of a def, as a value -/
theorem ev_def {x : Str} {f : Addr} (hm : X.mg x = some (.ref f)) (hg : Gl X x := by rfl) (hd : (x == ("__debug__" : Str)) = false := by decide) : EV X (.Name x pos) ρ M (dP f) M :=
  ⟨fun pins s σ H Q I ⟨G, sa, k⟩ => ld_glob I hg hm ⟨.ref f, H, I, rfl, k _ G H (Same.refl G) sa.sh (.val _)⟩ hd⟩
theorem ev_callL {k : Nat} {x : Str} {f : Addr} {Pr : List D → Mem → D → Mem → Prop} {p : Pos} (i : Nat) (C : CalF X.prog X.w X.K X.mg X.base k f (spD X.K Pr)) (hr : Room k X.A) (hρ : ρ[i]? = some (some (dP f))) (ha : AV X (e :: es) ρ M ds M1) (hp : Pr ds M1 d M2) (hN : X.N[i]? = some x := by rfl) (hv : Vis X.env.scope x := by first | exact Or.inl rfl | exact Or.inr (Or.inl rfl) | exact Or.inr (Or.inr rfl))
    (hd : (x == ("__debug__" : Str)) = false := by decide) (hcd : (x == ("__classdict__" : Str)) = false := by decide) (hst : starEach (e :: es) X.env = (false, eval e X.env) :: starEach es X.env := by rfl) (hpl : (backTo pos (starEach es X.env)).any (·.1) = false := by rfl) : EV X (.Call (.Name x p) (e :: es) [] pos) ρ M d M2 := by
  obtain ⟨fd, ps, hk, hb, F⟩ := C.ex
  refine (pe_callL (i := i) (E := E0) F hr hN hv hk hb .nil (fun _ _ _ _ _ _ _ z => z.elim) ha hd hcd hst hpl).mono fun σ H Q ⟨G, sa, k⟩ => ?_
  obtain ⟨v, e1, r⟩ := sa.sl.2 i _ hρ
  rw [r.of_val] at e1
  refine ⟨e1, G, sa, fun vs G1 H1 g1 sh1 r1 => ?_⟩
  show spD X.K Pr (vs ++ []) H1 Q E0
  rw [List.append_nil]
  exact ⟨G1, ds, M1, d, M2, sh1, r1, hp, fun v G' H' g sh r => k v G' H' (g1.trans g) sh r⟩
end
end Vt
namespace Vt
open PySem PySem.Spec PyProof.Rows L2
/-! ### errors of the program with fields: made, raised, read -/
/-- what is known of the class at S whose __init__ is that of ValueError -/
structure BaseE (K : PySem.W.Frag) (S : Addr) : Prop where
  ga : PySem.W.specialIn K (.ref S) "__getattribute__" = some (some (.builtin "type.__getattribute__"))
  rd : PySem.W.readsIn K S (.type "type") = true
  ini : PySem.W.findCls K (.ref S) (.type "type") "__init__" = some (.val (.builtin "ValueError.__init__"))
theorem pe_seinit {X : Cx} {e : Expr} {es : List Expr} {p1 p2 pos : Pos} {ta : TA} {pl : Sem Bool} {S : Addr} (hg : Gl X "ScoreError") (hm : X.mg "ScoreError" = some (.ref S)) (B : BaseE X.K S) (ha : PA X (e :: es) ta)
    (hc : eval (.Call (.Attribute (.Name "ScoreError" p1) "__init__" p2) (e :: es) [] pos) X.env = (do
      let b ← eval (.Name "ScoreError" p1) X.env
      standAt p2.atName
      let (g, l) ← holding [b] (getMethod b "__init__" pl)
      callWith pos g l (backTo pos (starEach (e :: es) X.env)) (backToKw pos (keywordEach [] X.env))) := by rfl)
    (he : starEach (e :: es) X.env = (false, eval e X.env) :: starEach es X.env := by rfl) (hpl : (backTo pos (starEach es X.env)).any (·.1) = false := by rfl) :
    PE X (.Call (.Attribute (.Name "ScoreError" p1) "__init__" p2) (e :: es) [] pos) (tVeI X.K ta) := ⟨fun pins s σ H Q I h => by
  have run {s1 : Shared} (J : Inv X pins σ H s1) : wpAny (model X.prog X.w) X.A (callWith pos (Value.builtin "ValueError.__init__") [] (backTo pos (starEach (e :: es) X.env)) []) (fun u s2 => ∃ v H2, Inv X pins σ H2 s2 ∧ RelV v u ∧ Q v H2) X.xe s1 := by
    refine PyProof.Rows.callWith_method1 (thn (ha.run pos pins _ σ H _ J h) fun us s2 made => ?_) he hpl
    obtain ⟨vs, H2, I2, r, a, C, ws, rfl, short, T, at_, q⟩ := made
    cases r with
    | cons r1 r2 =>
      cases r1
      exact oinit_ok T I2 at_ (Nat.le_trans (Nat.le_of_eq (Paired.length r2).symm) (Nat.le_trans short (by decide))) fun s3 J3 => ⟨V.non, H2, J3, rfl, q⟩
  exact PySem.W.methodCall_KW (ld_glob I hg hm (PySem.W.method_cls I.kIn B.ga (PySem.W.cls_value I.kIn B.rd B.ini rfl (run (I.tok _)))) (by decide)) hc⟩
/-- what C(..) leaves: the fields' names, latest first, each with the place of its argument (behind self) -/
def spI (C : Addr) (fl : List (Str × Nat)) (pre : List V → Prop) : Sp := fun vs H Q _ => ∃ a args, vs = .ref a :: args ∧ H a = some (exo a C none) ∧ pre args ∧ ∀ dx, H dx = none → dx ≠ a → Q .non (upd (upd H dx (exd dx (fl.map fun p => (p.1, args.getD p.2 .non)))) a (exo a C (some dx)))
structure ErrC (P : Program) (w : World) (K : PySem.W.Frag) (mg : Str → Option Value) (base : Heap) (x : Str) (C : Addr) (fl : List (Str × Nat)) (pre : List V → Prop) : Prop where
  ok : OexC K C
  mgC : mg x = some (.ref C)
  ini : ∃ fI fd ps, PySem.W.findIn K (.ref C) "__init__" = some (some (.ref fI)) ∧ PySem.W.typeIn K (.ref fI) = some (.type "function") ∧ Binds K fd ps [] ∧ FnOk P w K mg base CX0 1 fI fd ps (spI C fl pre)
theorem exo_ne {a C dx : Addr} {fs : List (Str × V)} : exo a C none ≠ exd dx fs ∨ True := .inr trivial
/-- two fields stored -/
theorem upd_two {H : Hp} {a dx : Addr} {A A2 B B2 : HO} (n : dx ≠ a) : upd (upd (upd (upd H dx A) a B) dx A2) a B2 = upd (upd H dx A2) a B2 := by
  funext b
  by_cases ha : b = a
  · subst ha
    rw [upd_same, upd_same]
  · rw [upd_ne ha, upd_ne ha]
    by_cases hd : b = dx
    · subst hd
      rw [upd_same, upd_same]
    · rw [upd_ne hd, upd_ne ha, upd_ne hd, upd_ne hd]
/-- the second field behind the first -/
theorem upd_once {H : Hp} {a dx : Addr} {A A2 B : HO} (n : dx ≠ a) (hB : (upd (upd H dx A) a B) a = some B) : upd (upd (upd H dx A) a B) dx A2 = upd (upd H dx A2) a B := by
  funext b
  by_cases hd : b = dx
  · subst hd
    rw [upd_same, upd_ne n, upd_same]
  · rw [upd_ne hd]
    by_cases ha : b = a
    · subst ha
      rw [upd_same, upd_same]
    · rw [upd_ne ha, upd_ne ha, upd_ne hd, upd_ne hd]
theorem SH.newX {K : PySem.W.Frag} {G H : Hp} {M : Mem} {p : Addr} {o : HO} {mo : MO} (s : SH K G H M) (hp : H p = none) (r : AtM K G (upd H p o) p mo) : SH K G (upd H p o) (M.set p mo) ∧ M p = none := by
  have gp : G p = none := by
    cases e : G p with
    | none => rfl
    | some u =>
      have := s.le p u e
      rw [hp] at this
      cases this
  have mp : M p = none := by
    cases e : M p with
    | none => rfl
    | some mo =>
      obtain ⟨u, hu⟩ := (s.mem p mo e).2.some
      rw [hp] at hu
      cases hu
  refine ⟨⟨fun b u e => ?_, fun b mo' e => ?_⟩, mp⟩
  · rw [upd_ne (ne_of_none e gp)]
    exact s.le b u e
  · by_cases hb : b = p
    · subst hb
      rw [Mem.set_same] at e
      cases e
      exact ⟨gp, r⟩
    · rw [Mem.set_ne hb] at e
      exact ⟨(s.mem b mo' e).1, (s.mem b mo' e).2.up (Same.refl G) (upd_ne hb)⟩
theorem RepL.getD {K : PySem.W.Frag} {G : Hp} : ∀ {vs : List V} {ds : List D}, RepL K G vs ds → ∀ i, Rep K G (vs.getD i .non) (ds.getD i dN)
  | _, _, .nil, i => by
    rw [List.getD_eq_getElem?_getD, List.getD_eq_getElem?_getD, List.getElem?_nil, List.getElem?_nil]
    exact .val _
  | _, _, .cons r _, 0 => r
  | _, _, .cons _ t, i + 1 => RepL.getD t i
theorem repF_of {K : PySem.W.Frag} {G : Hp} {vs : List V} {ds : List D} (r : RepL K G vs ds) : ∀ fl : List (Str × Nat), RepF K G (fl.map fun p => (p.1, vs.getD p.2 .non)) (fl.map fun p => (p.1, ds.getD p.2 dN))
  | [] => .nil
  | (n, i) :: fl => .cons (r.getD i) (repF_of r fl)
section
variable {X : Cx} {W : WX} {ρ : Sl} {M M1 : Mem} {e : Expr} {es : List Expr} {pos pos' p : Pos} {Ψ : OutX → Prop}
theorem su_raiseF {x : Str} {C : Addr} {fl : List (Str × Nat)} {pre : List V → Prop} (hc : X.calm = true) (tk : Takes X W) (B : ErrC X.prog X.w X.K X.mg X.base x C fl pre) (hr : Room 2 X.A)
    (h : AW X (e :: es) ρ M (fun ds M1 => ds.length ≤ 1000 ∧ (∀ G vs, RepL X.K G vs ds → pre vs) ∧ ∀ dx, M1 dx = none → Ψ (.ex (.ref C) (some dx) ρ (M1.set dx (.xd (fl.map fun q => (q.1, ds.getD q.2 dN)))))))
    (hg : Gl X x := by rfl) (hdb : (x == ("__debug__" : Str)) = false := by decide) (he : starEach (e :: es) X.env = (false, eval e X.env) :: starEach es X.env := by rfl) (hpl : (backTo pos (starEach es X.env)).any (·.1) = false := by rfl) :
    SU X W (.Raise (some (.Call (.Name x p) (e :: es) [] pos)) none pos') ρ M Ψ := by
  obtain ⟨fI, fd, ps, i1, i2, i3, F⟩ := B.ini
  refine (L2.ps_raise hc tk (pmk_oex (dvs := []) B.ok i1 i2 F hr i3 .nil pass0 hg B.mgC h hdb he hpl)).mono fun E σ H ⟨G, sa, k⟩ => ⟨G, sa, fun vs G1 H1 ds M1 ⟨hl, hpre, q⟩ g1 sh1 r1 => ⟨by rw [r1.len]; exact hl, fun a ha => ?_⟩⟩
  show spI C fl pre (.ref a :: (vs ++ [])) _ _ _
  rw [List.append_nil]
  refine ⟨a, vs, rfl, upd_same, hpre _ _ r1, fun dx hdx hne => ⟨rfl, dx, _, upd_same, by rw [upd_ne hne]; exact upd_same, by rw [upd_ne hne] at hdx; exact hdx, ?_⟩⟩
  have hd1 : H1 dx = none := by rw [upd_ne hne] at hdx; exact hdx
  have eH : upd (L2.del (upd (upd (upd H1 a (exo a C none)) dx (exd dx (fl.map fun p => (p.1, vs.getD p.2 .non)))) a (exo a C (some dx))) a) dx (.xd (fl.map fun p => (p.1, vs.getD p.2 .non))) = upd H1 dx (.xd (fl.map fun p => (p.1, vs.getD p.2 .non))) := by
    funext b
    by_cases hb : b = dx
    · subst hb
      rw [upd_same, upd_same]
    · rw [upd_ne hb, upd_ne hb]
      by_cases hba : b = a
      · subst hba
        rw [del_same, ha]
      · rw [del_ne hba, upd_ne hba, upd_ne hb, upd_ne hba]
  rw [eH]
  obtain ⟨sh2, m0⟩ := sh1.newX (o := .xd (fl.map fun p => (p.1, vs.getD p.2 .non))) (mo := .xd (fl.map fun p => (p.1, ds.getD p.2 dN))) hd1 ⟨_, upd_same, repF_of r1 fl⟩
  exact k _ (q dx m0) σ G1 _ g1 ⟨sh2, sa.sl.up g1⟩
/-- e.f in the suite of an except -/
theorem ev_xfld {a C : Addr} {oe : Obj} {dd : Addr} {pn : List (Addr × Obj)} {n : Str} {d : D} {fs : List (Str × D)} (T : XfC X.K C) (hno : PySem.W.findIn X.K (.ref C) n = some none) (hz : Zc (.ref C) (some dd) oe) (hf : ∃ vs, oe.data = .fields vs)
    (he : EV (X.suite a ((a, oe) :: pn)) e ρ M (dP a) M) (hm : M dd = some (.xd fs)) (hl : fs.lookup n = some d) (hb : attributeBase e n X.env (eval e X.env) = eval e X.env := by rfl) : EV (X.suite a ((a, oe) :: pn)) (.Attribute e n pos) ρ M d M :=
  (pe_xf T hno hz hf he hb).mono fun σ H Q ⟨G, sa, k⟩ => ⟨G, sa, fun v G1 H1 g1 sh1 r1 => by
    obtain ⟨_, fv, hv, r⟩ := sh1.mem dd _ hm
    obtain ⟨u, e1, ru⟩ := r.get hl
    exact ⟨r1.of_val, rfl, dd, fv, u, rfl, hv, e1, k u G1 H1 g1 sh1 ru⟩⟩
theorem call_isF {a D : Addr} {oe : Obj} {dd : Option Addr} {pn : List (Addr × Obj)} (C : ExcC X.K D) (hcl : (PySem.W.clsIn X.K D).isSome = true) (hz : Zc (.ref D) dd oe) (hf : ∃ vs, oe.data = .fields vs) (hd : ∀ x, dd = some x → ∃ fs, M x = some (.xd fs)) :
    ∀ {ρ : Sl} {a1 : Expr} {e1 : Expr} {cv : Value} {vc : V} {r : Bool} {p pos : Pos}, (∀ u, RelV vc u → u = cv) → PySem.W.kitOne X.K (.ref D) cv = some r → X.mg "isinstance" = none → AV (X.suite a ((a, oe) :: pn)) [a1, e1] ρ M [dP a, .val vc] M → (hg : Gl (X.suite a ((a, oe) :: pn)) "isinstance") →
      (h1 : starEach [a1, e1] X.env = (false, eval a1 X.env) :: starEach [e1] X.env) → (hpl : (backTo pos (starEach [e1] X.env)).any (·.1) = false) → EV (X.suite a ((a, oe) :: pn)) (.Call (.Name "isinstance" p) [a1, e1] [] pos) ρ M (dB r) M := by
  intro ρ a1 e1 cv vc r p pos hcv hk hm ha hg h1 hpl
  refine (pe_callB (r := fun xs H Q => (∀ x, dd = some x → ∃ fs, H x = some (.xd fs)) ∧ xs = [.ref a, vc] ∧ Q (.bl r) H) ?_ hg hm boot_isinstance ha (hpl := hpl) (he := h1)).mono fun σ H Q ⟨G, sa, k⟩ => ⟨G, sa, fun vs G1 H1 g1 sh1 r1 => ?_⟩
  · intro pins s σ H xs us Q I rr h
    obtain ⟨hx, rfl, q⟩ := h
    cases rr with
    | cons rx rr =>
      cases rr with
      | cons rt rr =>
        cases rr
        cases rx
        obtain rfl := hcv _ rt
        obtain ⟨there, _⟩ := I.pin (a, oe) (List.mem_append.mpr (Or.inl List.mem_cons_self))
        obtain ⟨flds, isF⟩ := hf
        have at_ : ∃ od, PySem.W.InstAt s.heap a oe D od := by
          obtain ⟨z1, z2⟩ := hz
          have nc : PySem.W.notCls oe = true := by unfold PySem.W.notCls; rw [isF] <;> rfl
          cases dd with
          | none => exact ⟨none, there, z1, nc, by rw [z2]; trivial⟩
          | some x =>
            obtain ⟨fs, hfs⟩ := hx x rfl
            obtain ⟨mA, hns, _⟩ := (I.hok x _ hfs : ObjOk X.prog X.w H s.heap x (.xd fs))
            obtain ⟨ob, here, _⟩ := lookIn_ns hns
            exact ⟨some ob, there, z1, nc, by rw [z2]; exact here⟩
        obtain ⟨od, J⟩ := at_
        exact PySem.W.kia_one (PySem.W.kitx_exc (od := od) hcl C.hg C.hk C.hs C.ha C.hn C.ht C.hm) I.kIn J hk (fun z => nomatch z) fun tk => ⟨V.bl r, H, I.kept (t' := tk) fun _ _ z => z, rfl, q⟩
  · refine ⟨fun x hx => ?_, RepL.of_vals (xs := [.ref a, vc]) r1, k _ G1 H1 g1 sh1 (.val _)⟩
    obtain ⟨fs, hfs⟩ := hd x hx
    obtain ⟨_, fv, hv, _⟩ := sh1.mem x _ hfs
    exact ⟨fv, hv⟩
/-- isinstance(e, c) in the suite of an except, e with fields -/
theorem ev_isF {n x : Str} {a C : Addr} {oe : Obj} {dd : Option Addr} {pn : List (Addr × Obj)} {cv : Value} {vc : V} {r : Bool} {p2 p3 : Pos} {i : Nat} (hm : X.mg "isinstance" = none) (EC : ExcC X.K C) (hcl : (PySem.W.clsIn X.K C).isSome = true) (hz : Zc (.ref C) dd oe) (hf : ∃ vs, oe.data = .fields vs) (hd : ∀ x, dd = some x → ∃ fs, M x = some (.xd fs))
    (hv : ∀ u, RelV vc u → u = cv) (hk : PySem.W.kitOne X.K (.ref C) cv = some r) (ha : AV (X.suite a ((a, oe) :: pn)) [e, .Name x p2] ρ M [dP a, .val vc] M) (hg : Gl (X.suite a ((a, oe) :: pn)) "isinstance" := by rfl)
    (h1 : starEach [e, .Name x p2] X.env = (false, eval e X.env) :: starEach [.Name x p2] X.env := by rfl) (hpl : (backTo pos (starEach [.Name x p2] X.env)).any (·.1) = false := by rfl) :
    EV (X.suite a ((a, oe) :: pn)) (.Call (.Name "isinstance" p) [e, .Name x p2] [] pos) ρ M (dB r) M := call_isF EC hcl hz hf hd hv hk hm ha hg h1 hpl
end
end Vt
namespace Vt
open PySem PySem.Spec PyProof.Rows L2
/-! ### try around what tells or raises -/
def suiteR (i : Nat) (Ψ : Out → Prop) : Out → Prop
  | .ret d M => Ψ (.ret d M)
  | .nx ρ M => Ψ (.nx (ρ.set i none) M)
  | _ => False
section
variable {X : Cx} {ρ : Sl} {M : Mem} {pos : Pos} {Ψ : Out → Prop}
def tryR (X : Cx) (c1 c2 : Value) (C : Addr) (i : Nat) (suite : List Stmt) (Ψ : Out → Prop) : OutX → Prop
  | .o o => Ψ o
  | .ex cls dd ρ' M' => cls = .ref C ∧ ∀ (a : Addr) (oe : Obj) (pn : List (Addr × Obj)), Zc (.ref C) dd oe → (∃ vs, oe.data = .fields vs) → BV (X.suite a ((a, oe) :: pn)) suite (ρ'.set i (some (dP a))) M' (suiteR i Ψ)
theorem sv_tryU {body suite : List Stmt} {b₀ : Stmt} {x y z n : Str} {p1 p2 p3 p4 p5 p6 : Pos} {kk i : Nat} {nm : Option Str} {c0 : Stmt} {cr : List Stmt} {c1 c2 : Value} {C : Addr} (hs : X.stack = X.env :: X.outer) (hf : X.env.frame = some X.env.locals) (tk : Takes X (fun _ _ _ _ => False))
    (h1 : Names X x c1) (h2 : Names X y c2) (h3 : Names X z (.ref C)) (hno : PySem.W.exmAny X.K (.ref C) [c1, c2] = some false) (hyes : PySem.W.exmOne X.K (.ref C) (.ref C) = some true) (hN : X.N.Nodup) (hi : X.N[i]? = some n) (hln : X.env.kindOf n = some .local)
    (hb : ∀ (W : WX) (pn : List (Addr × Obj)) (xe : Value → Shared → Prop), Takes (X.tr pn xe) W → PassesOwn (model X.prog X.w) X.A X.env xe → BU (X.tr pn xe) W body ρ M (tryR X c1 c2 C i (b₀ :: suite) Ψ)) :
    SV X (.Try body [.ExceptHandler (some (.Tuple [.Name x p1, .Name y p2] kk p3)) nm (c0 :: cr) p4, .ExceptHandler (some (.Name z p5)) (some n) (b₀ :: suite) p6] [] [] pos) ρ M Ψ := by
  refine (ps_try_g (tb := fun W => tSU X.K W ρ M (tryR X c1 c2 C i (b₀ :: suite) Ψ)) (Wout := fun _ _ _ _ => False)
    (l := [.skip [c1, c2], .as (.ref C) i (fun a cls d D σ H => ∃ (ρ' : Sl) (M' : Mem), cls = .ref C ∧ (∀ (oe : Obj) (pn : List (Addr × Obj)), Zc (.ref C) d oe → (∃ vs, oe.data = .fields vs) → BV (X.suite a ((a, oe) :: pn)) (b₀ :: suite) (ρ'.set i (some (dP a))) M' (suiteR i Ψ)) ∧ tS X.K (ρ'.set i (some (dP a))) M' (suiteR i Ψ) D σ H)])
    hs hf tk (fun W pn xe tk' po => hb W pn xe tk' po) (.skip2 h1 h2 (.as h3 hN hi hln (fun a oe cls d pn hz hd => ⟨fun pins s σ H D I ⟨ρ', M', e1, run, q⟩ => ?_⟩) .nil))).mono fun E σ H ⟨G, sa, k⟩ => ⟨G, sa, fun o ho => ?_⟩
  · subst e1
    exact (run oe pn hz hd).run pins s σ H D I q
  · cases o with
    | o o => exact k o ho
    | ex cls dd ρ' M' =>
      obtain ⟨rfl, run⟩ := ho
      refine fun σ' G' H' g sa' => ⟨hno, true, hyes, fun _ a na => ⟨ρ', M', rfl, run a, G', ⟨sa'.sh, sa'.sl.set i (.val _)⟩, fun o ho => ?_⟩, fun h => nomatch h⟩
      cases o with
      | ret d M2 => exact (k _ ho).up g
      | nx ρ2 M2 => exact fun σ2 G2 H2 g2 sa2 => (k _ ho).up g _ G2 H2 g2 ⟨sa2.sh, sa2.sl.none i⟩
      | bk ρ2 M2 => exact ho.elim
      | ct ρ2 M2 => exact ho.elim
end
end Vt
namespace Vt
open PySem PySem.Spec PyProof.Rows L2
/-! ### targets that take tuples and lists -/
def gAny (K : PySem.W.Frag) (n : Nat) (gs : TGs) : TG := fun v σ H Q => gTup K n gs v σ H Q ∨ gUnl K n gs v σ H Q
section
variable {X : Cx} {K : PySem.W.Frag} {ρ ρ' : Sl} {es : List Expr} {ds : List D} {pos : Pos} {gs : TGs}
theorem pg_any {k n : Nat} (hc : X.calm = true) (h : PGs X es gs) (hn : (assignEach es X.env).length = n := by rfl) (hst : (assignEach es X.env).findIdx? (·.1) = none := by rfl) : PG X (.Tuple es k pos) (gAny X.K n gs) :=
  ⟨fun pins s σ H v u Q I r hw => hw.elim ((pg_tup hc h hn hst).run pins s σ H v u Q I r) ((pg_unl hc h hn hst).run pins s σ H v u Q I r)⟩
theorem tg_any {b : Bool} {n : Nat} (h : TG2 K gs ρ ds ρ') (hl : ds.length = n := by rfl) : TG1 K (gAny K n gs) ρ (sq b ds) ρ' := fun v σ G H Q e h0 r k => by
  cases b with
  | true => exact .inr (tg_lst h hl v σ G H Q e h0 r k)
  | false => exact .inl (tg_tup h hl v σ G H Q e h0 r k)
theorem tb_any {vs : List Nat} {b : Bool} {n : Nat} (h : TBs K gs vs ρ ds ρ') (hl : ds.length = n := by rfl) : TB K (gAny K n gs) vs ρ (sq b ds) ρ' := fun x σ0 σ G H Q e h0 hw r k => by
  cases b with
  | true => exact .inr (tb_sq (b := true) h hl x σ0 σ G H Q e h0 hw r k)
  | false => exact .inl (tb_sq (b := false) h hl x σ0 σ G H Q e h0 hw r k)
end
end Vt
namespace Vt
open PySem PySem.Spec PyProof.Rows L2
/-! ### more of lists and tuples -/
theorem tup_mul_one (l : Addr) (xs : Array Value) (n : Nat) (dd : Option Addr) (sl : Array (Option Value)) (u : Tok) :
    Meets (Builtin.«tuple.__mul__» ⟨[.ref l, .int 1 u], []⟩) (fun _ R s => s.heap.get? l = some { cls := .type "tuple", dict := dd, data := .seq xs n, slots := sl } ∧ R (.ok (.ret (.ref l))) s) :=
  .of_wp fun prog w A R s h => by
    obtain ⟨hp, g, d, tk, os⟩ := s
    obtain ⟨hl, h⟩ := h
    have f1 := AutoSeq1.idx_int
    have e1 : (xs.isEmpty || (1 : Int) == 1) = true := by cases xs.isEmpty <;> rfl
    wp_walk using wpAny_loadPart' hl
    repeat (first
      | (refine wpAny_ite_false (by decide) ?_; wp_walk using wpAny_loadPart' hl)
      | (refine wpAny_ite_true (by rw [e1]) ?_; wp_walk using wpAny_loadPart' hl)
      | (refine wpAny_ite_true (by decide) ?_; wp_walk using wpAny_loadPart' hl))
    exact ⟨_, rfl, h⟩
theorem tup_mul_none (l : Addr) (xs : Array Value) (n : Nat) (dd : Option Addr) (sl : Array (Option Value)) (k : Int) (u : Tok) (hk : k ≤ 0) (hk2 : -(2 ^ 63) ≤ k) (hx : xs.isEmpty = false) :
    Meets (Builtin.«tuple.__mul__» ⟨[.ref l, .int k u], []⟩) (fun _ R s => s.heap.get? l = some { cls := .type "tuple", dict := dd, data := .seq xs n, slots := sl } ∧
      R (.ok (.ret (Value.ref s.heap.objs.size))) { s with heap := s.heap.push { cls := Value.type "tuple", data := Data.seq #[] }, toks := s.toks }) :=
  .of_wp fun prog w A R s h => by
    obtain ⟨hp, g, d, tk, os⟩ := s
    obtain ⟨hl, h⟩ := h
    have f1 := AutoSeq1.idx_int
    have e0 : (decide (k < -(2 ^ 63)) || decide (k ≥ 2 ^ 63)) = false := by rw [decide_eq_false (by omega), decide_eq_false (by omega)]; rfl
    have e1 : (xs.isEmpty || k == 1) = false := by rw [hx, Bool.false_or]; exact beq_eq_false_iff_ne.mpr (by omega)
    have e2 : (decide (k ≤ 0) || xs.isEmpty) = true := by rw [decide_eq_true hk]; rfl
    wp_walk using wpAny_loadPart' hl
    repeat (first
      | (refine wpAny_ite_false (decide_eq_false (by rw [e0]; exact Bool.false_ne_true)) ?_; wp_walk using wpAny_loadPart' hl)
      | (refine wpAny_ite_false (decide_eq_false (by rw [e1]; exact Bool.false_ne_true)) ?_; wp_walk using wpAny_loadPart' hl)
      | (refine wpAny_ite_true (decide_eq_true (by rw [e2])) ?_; wp_walk using wpAny_loadPart' hl))
    exact ⟨_, rfl, h⟩
/-- (x, ..) * k for k up to 1 -/
def rRep1 (K : PySem.W.Frag) : R2 := fun x y H Q => ∃ l k xs, x = .ref l ∧ y = .int k ∧ SqT K H l xs ∧ xs ≠ [] ∧ ((k = 1 ∧ Q (.ref l) H) ∨ (-1000 ≤ k ∧ k ≤ 0 ∧ ∀ p, H p = none → Q (.ref p) (upd H p (.tup []))))
theorem op_rep1 {X : Cx} : OpR X (binaryOp .Mult) (rRep1 X.K) := fun pins s σ H x y v u Q I rx ry h => by
  obtain ⟨l, k, xs, rfl, rfl, hT, ne, q⟩ := h
  cases rx
  obtain ⟨t, rfl⟩ := ry
  obtain ⟨its, r, ⟨⟨c, dd, data, sl⟩, ho, hc, n, hd⟩, _⟩ := I.tuple hT
  dsimp only at hc hd
  subst hc hd
  have hi : its.toArray.isEmpty = false := by
    cases r with
    | nil => exact absurd rfl ne
    | cons _ _ => rfl
  rcases q with ⟨rfl, q⟩ | ⟨k0, k1, q⟩
  · exact wpAny_binaryOp_repeat_ref (T := "tuple") (U := "int") (by decide) ⟨_, ho, rfl⟩ (fun s' => typeIs_int s' 1 t) noFill_tuple_mul F.fills_int_mul F.slot_int_rmul repeat_tuple F.slot_int_index.lookup
      (call_meets F.slot_int_rmul (typeIs_int s 1 t) F.entry_int_rmul (F.args_int_rmul_2 _ _) (int_rmul_tuple 1 t l its.toArray n dd sl)
        ⟨ho, rfl, ⟨_, ho, rfl⟩, call_meets F.slot_tuple_mul ⟨_, ho, rfl⟩ F.entry_tuple_mul (F.args_tuple_mul_2 _ _) (tup_mul_one l its.toArray n dd sl t) ⟨ho, .ref l, H, I, rfl, q⟩⟩)
  · refine wpAny_binaryOp_repeat_ref (T := "tuple") (U := "int") (by decide) ⟨_, ho, rfl⟩ (fun s' => typeIs_int s' k t) noFill_tuple_mul F.fills_int_mul F.slot_int_rmul repeat_tuple F.slot_int_index.lookup
      (call_meets F.slot_int_rmul (typeIs_int s k t) F.entry_int_rmul (F.args_int_rmul_2 _ _) (int_rmul_tuple k t l its.toArray n dd sl)
        ⟨ho, rfl, ⟨_, ho, rfl⟩, call_meets F.slot_tuple_mul ⟨_, ho, rfl⟩ F.entry_tuple_mul (F.args_tuple_mul_2 _ _) (tup_mul_none l its.toArray n dd sl k t k1 (by omega) hi) ⟨ho, ?_⟩⟩)
    have new := I.laid (t' := s.toks) (a := s.heap.objs.size) (h' := s.heap.push { cls := Value.type "tuple", data := Data.seq #[] }) (o := .tup ([] : List V)) (fun b ob q => Heap.get?_push_of_some _ q) (Nat.le_refl _) ⟨Nat.zero_le _, [], .nil, IsTup.new _ _⟩
    exact ⟨.ref s.heap.objs.size, _, new, rfl, q _ (I.hok.fresh (Nat.le_refl _))⟩
section
variable {X : Cx} {ρ : Sl} {M M1 M2 : Mem} {a b e : Expr} {d : D} {ds es : List D} {pos : Pos} {Φ : D → Mem → Prop}
theorem rep_flat {K : PySem.W.Frag} {G : Hp} {vs : List V} {ds : List D} (r : RepL K G vs ds) : ∀ n, RepL K G (List.replicate n vs).flatten (List.replicate n ds).flatten
  | 0 => .nil
  | n + 1 => r.append (rep_flat r n)
theorem ev_mulT {k : Int} (ha : EV X a ρ M (.tup ds) M1) (hb : EV X b ρ M1 (dI k) M2) (hne : ds ≠ []) (hk : -1000 ≤ k ∧ k ≤ 1000) (hl : ds.length ≤ 1000) : EV X (.BinOp a .Mult b pos) ρ M (.tup (List.replicate k.toNat ds).flatten) M2 := by
  have ne {G : Hp} {vs : List V} (r : RepL X.K G vs ds) : vs ≠ [] := fun e => by
    rw [e] at r
    cases r
    exact hne rfl
  by_cases h2 : 2 ≤ k
  · exact (pe_op op_repT ha hb).mono fun σ H Q ⟨G, sa, kk⟩ => ⟨G, sa, fun v1 G1 H1 g1 sh1 r1 => ⟨G1, ⟨sh1, sa.sl.up g1⟩, fun v2 G2 H2 g2 sh2 r2 => by
      cases r1 with
      | tup q r =>
        refine ⟨_, k, _, rfl, r2.of_val, sqtUp sh2.le (sqtUp g2 q), ne r, h2, hk.2, by rw [r.len]; exact hl, fun p hp => ?_⟩
        obtain ⟨sh3, g3⟩ := sh2.new (o := .tup (List.replicate k.toNat _).flatten) hp
        exact kk _ _ _ ((g1.trans g2).trans g3) sh3 (.tup (.inl (.inl upd_same)) (rep_flat ((r.up g2).up g3) _))⟩⟩
  · refine (pe_op op_rep1 ha hb).mono fun σ H Q ⟨G, sa, kk⟩ => ⟨G, sa, fun v1 G1 H1 g1 sh1 r1 => ⟨G1, ⟨sh1, sa.sl.up g1⟩, fun v2 G2 H2 g2 sh2 r2 => ?_⟩⟩
    cases r1 with
    | tup q r =>
      by_cases h1 : k = 1
      · subst h1
        refine ⟨_, 1, _, rfl, r2.of_val, sqtUp sh2.le (sqtUp g2 q), ne r, .inl ⟨rfl, kk _ _ _ (g1.trans g2) sh2 ?_⟩⟩
        show Rep _ _ _ (.tup (ds ++ []))
        rw [List.append_nil]
        exact .tup (sqtUp g2 q) (r.up g2)
      · refine ⟨_, k, _, rfl, r2.of_val, sqtUp sh2.le (sqtUp g2 q), ne r, .inr ⟨hk.1, by omega, fun p hp => ?_⟩⟩
        obtain ⟨sh3, g3⟩ := sh2.new (o := .tup ([] : List V)) hp
        rw [show k.toNat = 0 by omega] at kk
        exact kk _ _ _ ((g1.trans g2).trans g3) sh3 (.tup (.inl (.inl upd_same)) .nil)
end
section
variable {X : Cx} {ρ : Sl} {M M1 : Mem} {d : D} {ds : List D} {pos : Pos} {Ψ : Out → Prop} {Φ : D → Mem → Prop} {tg iter : Expr} {g : TG}
/-- [e for x in ..], the list is going to be changed -/
def LcN (X : Cx) (g : TG) (own : List (Str × Nat)) (scope : Scope) (elt : Expr) (ρ : Sl) (Φ : D → Mem → Prop) (ds : List D) (M1 : Mem) : Prop :=
  ds.length ≤ sizeLine ∧ ∃ Iv : Nat → List D → Mem → Prop, Iv 0 [] M1 ∧
    (∀ i d acc M, ds[i]? = some d → acc.length = i → Iv i acc M → ∃ ρ', TGb X.K g (own.map (·.2)) (wipeD ρ (own.map (·.2))) d ρ' ∧ ∀ (p : Addr), M p = none → ∀ (s : Shared) (H : Hp) (C : Addr) (cl : List (Str × Addr)) (fp : List Addr),
      EW (X.blk s H scope (compEnvC scope cl C X.env) fp) elt ρ' (M.set p (.lst acc)) (fun d' M' => ∃ M2, M' = M2.set p (.lst acc) ∧ M2 p = none ∧ Iv (i + 1) (acc ++ [d']) M2)) ∧
    ∀ acc M, acc.length = ds.length → Iv ds.length acc M → ∀ p, M p = none → Φ (dP p) (M.set p (.lst acc))
theorem lcw_readN {elt : Expr} {scope : Scope} {own : List (Str × Nat)} (σ : L2.St) (H : Hp) (Q : VK) (hΦ : ∃ G, SA X.K G H σ ρ M ∧ ∀ v G' H' d M', Φ d M' → Same G G' → SH X.K G' H' M' → Rep X.K G' v d → Q v H') :
    tLc (tIW X.K ρ M (LcN X g own scope elt ρ Φ)) g tYes (fun σ H Q => ∃ ρ' M' Φ', (∀ (s : Shared) (H : Hp) (C : Addr) (cl : List (Str × Addr)) (fp : List Addr), EW (X.blk s H scope (compEnvC scope cl C X.env) fp) elt ρ' M' Φ') ∧ tW X.K ρ' M' Φ' σ H Q) (own.map (·.2)) σ H Q := by
  obtain ⟨G, sa, k⟩ := hΦ
  refine ⟨G, sa, fun J G1 H1 ds M1 ⟨hlen, Iv, h0, step, done⟩ g1 sh1 jw => fun p hp => ?_⟩
  obtain ⟨shp, mp, gp⟩ := sh1.newM hp (RepL.nil (K := X.K) (G := G1))
  refine ⟨fun i mm H => mm = ds.length - i ∧ i ≤ ds.length ∧ ∃ G acc M, Same G1 G ∧ acc.length = i ∧ M p = none ∧ Iv i acc M ∧ SH X.K G H (M.set p (.lst acc)), ⟨ds.length, by simp, Nat.zero_le _, G1, [], M1, Same.refl _, rfl, mp, h0, shp⟩, ?_⟩
  rintro i mm H2 ⟨rfl, hi, G2, acc, M2, g2, hacc, hmp, iv, sh2⟩
  obtain ⟨j1, j2⟩ := jw i H2 (g2.trans sh2.le)
  by_cases hlt : i < ds.length
  · have hd : ds[i]? = some ds[i] := List.getElem?_eq_getElem hlt
    obtain ⟨go, yl⟩ := j1 _ hd
    refine .inr ⟨go, fun H3 => ∃ G acc M, Same G1 G ∧ acc.length = i + 1 ∧ M p = none ∧ Iv (i + 1) acc M ∧ SH X.K G H3 (M.set p (.lst acc)), fun H' p' => ⟨ds.length - (i + 1), by omega, rfl, hlt, p'⟩, fun x H' y => ?_⟩
    obtain ⟨G3, g3, sh3, rx⟩ := yl x H' y G2 _ g2 sh2
    have g2 := g2.trans g3
    obtain ⟨ρ3, tg3, ev⟩ := step i _ acc M2 hd hacc iv
    refine tg3 x σ G3 H' _ sh3.le (wipe_rep ((sa.sl.up g1).up g2) _) rx fun σ3 rs3 hw => ⟨hw, ?_⟩
    show ∃ ρ' M' Φ', _ ∧ tW X.K ρ' M' Φ' σ3 H' _
    refine ⟨ρ3, _, _, ev p hmp, G3, ⟨sh3, rs3⟩, fun v G4 H4 d4 M4 ⟨M5, e5, n5, iv5⟩ g4 sh4 r4 => ?_⟩
    subst e5
    obtain ⟨_, vs, hv, rl⟩ := sh4.mem p _ Mem.set_same
    refine ⟨vs, hv, ?_, G4, acc ++ [d4], M5, g2.trans g4, by rw [List.length_append, hacc]; rfl, n5, iv5, ?_⟩
    · rw [rl.len, hacc]
      exact Nat.lt_of_lt_of_le hlt hlen
    · have q := sh4.put (ds := acc ++ [d4]) Mem.set_same (rl.append (.cons r4 .nil))
      rw [Mem.set_set] at q
      exact q
  · have e : i = ds.length := by omega
    subst e
    exact .inl ⟨j2 (Nat.le_refl _), k _ _ H2 _ _ (done acc M2 hacc iv p hmp) (g1.trans g2) sh2 (.val _)⟩
theorem ew_lcN {elt : Expr} {scope : Scope} {own : List (Str × Nat)} (hc : X.calm = true) (hN : X.N.Nodup) (ok : BlkOk X.N X.env.scope scope own)
    (hg : ∀ (s : Shared) (H : Hp) (C : Addr) (cl : List (Str × Addr)) (fp : List Addr), PG (X.blk s H scope (compEnvC scope cl C X.env) fp) tg g) (hi : IW X tg iter ρ M (LcN X g own scope elt ρ Φ))
    (hs : ∀ x, foldedSetIterable iter X.env x = pure x := by intro _; rfl) : EW X (.ListComp elt [⟨tg, iter, [], 0⟩] scope pos) ρ M Φ :=
  (pe_lc hc hN hi ok hg (fun _ _ _ _ _ => pts_nil) (fun s H C cl fp => ⟨fun pins s' σ H' Q I ⟨ρ', M', Φ', hb, q⟩ => (hb s H C cl fp).run pins s' σ H' Q I q⟩) hs).mono fun σ H Q h => lcw_readN σ H Q h
end
section
variable {X : Cx} {ρ : Sl} {M M1 M2 : Mem} {a b e : Expr} {d : D} {ds es : List D} {pos : Pos} {Φ : D → Mem → Prop} {Ψ : Out → Prop}
/-- xs + ys, both new lists -/
theorem ew_catL (h : EW X a ρ M (fun d1 M1 => ∃ p ds, d1 = dP p ∧ M1 p = some (.lst ds) ∧ EW X b ρ M1 (fun d2 M2 => ∃ q es, d2 = dP q ∧ M2 p = some (.lst ds) ∧ M2 q = some (.lst es) ∧ ds.length + es.length ≤ sizeLine ∧ Φ (.lst (ds ++ es)) M2))) : EW X (.BinOp a .Add b pos) ρ M Φ :=
  (pe_op op_cat h pk_e).mono fun σ H Q ⟨G, sa, k⟩ => ⟨G, sa, fun v1 G1 H1 d1 M1 ⟨p, ds, e1, m1, h2⟩ g1 sh1 r1 => ⟨M1, _, h2, G1, ⟨sh1, sa.sl.up g1⟩, fun v2 G2 H2 d2 M2 ⟨q, es, e2, m1', m2, hl, hp⟩ g2 sh2 r2 => by
    subst e1 e2
    obtain ⟨_, vs, hv, r⟩ := sh2.mem p _ m1'
    obtain ⟨_, ws, hw, s⟩ := sh2.mem q _ m2
    refine ⟨p, q, vs, ws, r1.of_val, r2.of_val, hv, hw, by rw [r.len, s.len]; exact hl, fun l hl => ?_⟩
    obtain ⟨sh3, g3⟩ := sh2.new (o := .lst (vs ++ ws)) hl
    exact k _ _ _ _ _ hp ((g1.trans g2).trans g3) sh3 (.lst (.inl (.inl upd_same)) ((r.append s).up g3))⟩⟩
end
end Vt
namespace Vt
open PySem PySem.Spec PyProof.Rows L2
/-! ### lists that are going to be changed; min, in, dict -/
section
variable {X : Cx} {ρ : Sl} {M M1 M2 : Mem} {a b e : Expr} {d : D} {ds es : List D} {pos : Pos} {Φ : D → Mem → Prop} {Ψ : Out → Prop}
theorem ew_listN {p : Pos} (hm : X.mg "list" = none) (h : EW X e ρ M (fun d M1 => ∃ q ds, d = sq q ds ∧ ∀ l, M1 l = none → Φ (dP l) (M1.set l (.lst ds)))) (hg : Gl X "list" := by rfl) (hst : starEach [e] X.env = [(false, eval e X.env)] := by rfl) : EW X (.Call (.Name "list" p) [e] [] pos) ρ M Φ :=
  (pe_callTy call_list_of hg hm boot_list (aw_one (ΦA := fun ds M1 => ∃ q es, ds = [sq q es] ∧ ∀ l, M1 l = none → Φ (dP l) (M1.set l (.lst es))) (ew_to h fun d M1 ⟨i, es, e, q⟩ => ⟨i, es, by rw [e], q⟩) hst) (he := hst)).mono fun σ H Q ⟨G, sa, k⟩ => ⟨G, sa, fun vs' G1 H1 ds M1 ⟨b, es, e, p⟩ g1 sh1 r1 => by
    subst e
    cases r1 with
    | cons h t =>
      cases t
      cases b with
      | true =>
        cases (show Rep X.K G1 _ (.lst es) from h) with
        | lst q r =>
          refine ⟨_, _, rfl, .inl (sqlUp sh1.le q), fun l hl => ?_⟩
          obtain ⟨sh2, m2, _⟩ := sh1.newM hl r
          exact k _ _ _ _ _ (p l m2) g1 sh2 (.val _)
      | false =>
        cases (show Rep X.K G1 _ (.tup es) from h) with
        | tup q r =>
          refine ⟨_, _, rfl, .inr (sqtUp sh1.le q), fun l hl => ?_⟩
          obtain ⟨sh2, m2, _⟩ := sh1.newM hl r
          exact k _ _ _ _ _ (p l m2) g1 sh2 (.val _)⟩
/-- xs[i] = e, i drawn behind e -/
theorem sw_setItemW {tp : Pos} (he : EW X e ρ M (fun d M1 => ∃ p, EV X a ρ M1 (dP p) M1 ∧ EW X b ρ M1 (fun d2 M2 => ∃ i ds j, d2 = dI i ∧ M2 p = some (.lst ds) ∧ ixN ds.length i = some j ∧ Ψ (.nx ρ (M2.set p (.lst (ds.set j d)))))))
    (ha : ∀ v, assign (.Subscript a b tp) X.env v = (do
      let ov ← holding [v] (eval a X.env)
      let iv ← holding [v, ov] (eval b X.env)
      standAt tp
      holding [v, ov, iv] (setItem ov iv v)
      release [v, ov, iv] []) := by intro _; rfl)
    (hs : swapsWithSole [.Subscript a b tp] e pos.line X.env = pure false := by rfl) (hw : swappedStores [.Subscript a b tp] e X.env = pure none := by rfl)
    (h1 : (assignEach [.Subscript a b tp] X.env).map (·.2) = [assign (.Subscript a b tp) X.env] := by rfl) : SV X (.Assign [.Subscript a b tp] e pos) ρ M Ψ :=
  (ps_asg he (pg_sub (pk_e (ρ := ρ)) (pk_e (ρ := ρ)) set_list ha) hs hw h1).mono fun E σ H ⟨G, sa, k⟩ => ⟨G, sa, fun v G1 H1 d M1 ⟨p, ho, hi⟩ g1 sh1 r1 =>
    ⟨M1, fun d' M' => d' = dP p ∧ M' = M1, ew_ev ho ⟨rfl, rfl⟩, G1, ⟨sh1, sa.sl.up g1⟩, fun v2 G2 H2 d2 M2 ⟨e2, e2'⟩ g2 sh2 r2 => ⟨M1, _, hi, G2, ⟨by rw [e2'] at sh2; exact sh2, (sa.sl.up g1).up g2⟩, fun v3 G3 H3 d3 M3 ⟨i, ds, j, e3, hm, hj, hΨ⟩ g3 sh3 r3 => by
      subst e2 e3
      obtain ⟨_, vs, hv, rl⟩ := sh3.mem p _ hm
      exact ⟨p, vs, i, j, r2.of_val, r3.of_val, hv, by rw [rl.len]; exact hj, k _ hΨ σ G3 _ ((g1.trans g2).trans g3) ⟨sh3.put hm (rl.set ((r1.up g2).up g3) j), ((sa.sl.up g1).up g2).up g3⟩⟩⟩⟩⟩
/-- x in xs, xs a list of ints of the memory -/
theorem any_eqI (x : Int) : ∀ xs : List Int, inV (.int x) (xs.map V.int) = decide (x ∈ xs)
  | [] => rfl
  | y :: ys => by
    have ih := any_eqI x ys
    show (eqV (.int y) (.int x) || inV (.int x) (ys.map V.int)) = _
    rw [ih]
    have e : eqV (.int y) (.int x) = decide (y = x) := rfl
    rw [e]
    by_cases h : y = x
    · subst h
      simp
    · have h2 : ¬ x = y := fun q => h q.symm
      simp [h, h2]
theorem flat_ints (xs : List Int) : (xs.map V.int).all flatV = true := by
  induction xs with
  | nil => rfl
  | cons x xs ih => rw [List.map_cons, List.all_cons, ih]; rfl
theorem tv_inM {x : Int} {xs : List Int} {p : Addr} (ha : EV X a ρ M (dI x) M1) (hb : EV X b ρ M1 (dP p) M2) (hm2 : M2 p = some (.lst (xs.map dI))) (hm : behindInMarks .In b = false) : TV X (.Compare a [.In] [b] pos) ρ M (decide (x ∈ xs)) M2 :=
  (pt_cmpR op_in_seq ha hb hm).mono fun σ H Q ⟨G, sa, k⟩ => ⟨G, sa, fun v1 G1 H1 g1 sh1 r1 => ⟨G1, ⟨sh1, sa.sl.up g1⟩, fun v2 G2 H2 g2 sh2 r2 => by
    obtain ⟨_, vs, hv, r⟩ := sh2.mem p _ hm2
    have ev : vs = xs.map V.int := RepL.of_vals (xs := xs.map V.int) (by rw [List.map_map]; exact r)
    subst ev
    refine ⟨p, xs.map V.int, r2.of_val, .inl (.inl (.inl hv)), by rw [r1.of_val]; rfl, flat_ints xs, ?_⟩
    rw [r1.of_val]
    exact ⟨_, congrArg V.bl (any_eqI x xs), k G2 H2 (g1.trans g2) sh2⟩⟩⟩
/-- min(xs), xs a list of ints of the memory -/
theorem ev_minM {xs : List Int} {m : Int} {p : Addr} {np : Pos} (hc : X.calm = true) (hm : X.mg "min" = none) (ha : EV X e ρ M (dP p) M1) (hm2 : M1 p = some (.lst (xs.map dI))) (h0 : m ∈ xs) (h1 : ∀ y ∈ xs, m ≤ y) (hg : Gl X "min" := by rfl) (hst : starEach [e] X.env = [(false, eval e X.env)] := by rfl) : EV X (.Call (.Name "min" np) [e] [] pos) ρ M (dI m) M1 :=
  (pe_callB (cr_min hc) hg hm boot_min (av_cons ha av_nil hst) (he := hst)).mono fun σ H Q ⟨G, sa, k⟩ => ⟨G, sa, fun vs' G1 H1 g1 sh1 r1 => by
    obtain ⟨_, vs, hv, r⟩ := sh1.mem p _ hm2
    have ev : vs = xs.map V.int := RepL.of_vals (xs := xs.map V.int) (by rw [List.map_map]; exact r)
    subst ev
    refine ⟨p, xs, RepL.of_vals (xs := [.ref p]) r1, .inl (.inl hv), List.length_pos_of_mem h0, fun m' i1 i2 => ?_⟩
    have := h1 m' i1
    have := i2 m h0
    obtain rfl : m' = m := by omega
    exact k _ G1 H1 g1 sh1 (.val _)⟩
/-- dict(pairs) -/
theorem pairs_rep {K : PySem.W.Frag} {G H : Hp} (le : Same G H) : ∀ {vs : List V} {kds : List (Int × D)}, RepL K G vs (kds.map fun p => .tup [dI p.1, p.2]) → ∃ (ps : List Addr) (kvs : List (Key × V)), vs = ps.map V.ref ∧ Paired (fun p kv => SqT K H p [kV kv.1, kv.2]) ps kvs
  | [], [], _ => ⟨[], [], rfl, .nil⟩
  | [], _ :: _, r => by cases r
  | _ :: _, [], r => by cases r
  | v :: vs, (k, d) :: kds, r => by
    cases r with
    | cons r t =>
      obtain ⟨ps, kvs, rfl, h⟩ := pairs_rep le (vs := vs) (kds := kds) t
      cases r with
      | tup q r =>
        cases r with
        | cons r1 r2 =>
          cases r2 with
          | cons r2 r3 =>
            cases r3
            rw [r1.of_val] at q
            exact ⟨_ :: ps, (.inl k, _) :: kvs, rfl, .cons (sqtUp le q) h⟩
theorem ew_dict {p : Pos} (hc : X.calm = true) (hm : X.mg "dict" = none) (h : EW X e ρ M (fun d M1 => ∃ kds : List (Int × D), d = .lst (kds.map fun p => .tup [dI p.1, p.2]) ∧ Φ .dic M1)) (hg : Gl X "dict" := by rfl) (hst : starEach [e] X.env = [(false, eval e X.env)] := by rfl) : EW X (.Call (.Name "dict" p) [e] [] pos) ρ M Φ :=
  (pe_callTy (call_dictP hc) hg hm PyProof.Rows.boot_dict (aw_one (ΦA := fun ds M1 => ∃ kds : List (Int × D), ds = [.lst (kds.map fun p => .tup [dI p.1, p.2])] ∧ Φ .dic M1) (ew_to h fun d M1 ⟨kds, e, q⟩ => ⟨kds, by rw [e], q⟩) hst) (he := hst)).mono fun σ H Q ⟨G, sa, k⟩ => ⟨G, sa, fun vs' G1 H1 ds M1 ⟨kds, e, p⟩ g1 sh1 r1 => by
    subst e
    cases r1 with
    | cons h t =>
      cases t
      cases h with
      | lst q r =>
        obtain ⟨ps, kvs, rfl, pr⟩ := pairs_rep sh1.le r
        refine ⟨_, ps, kvs, rfl, sqlUp sh1.le q, pr, fun l hl => ?_⟩
        obtain ⟨sh2, g2⟩ := sh1.new (o := .dK (mergeK [] kvs)) hl
        exact k _ _ _ _ _ p (g1.trans g2) sh2 (.dic upd_same)⟩
end
end Vt
namespace Vt
open PySem PySem.Spec PyProof.Rows L2
section
variable {X : Cx} {ρ : Sl} {M M1 : Mem} {e : Expr} {ds : List D} {pos : Pos}
/-- tuple(xs), xs a list of the memory -/
theorem ev_tupM {q : Addr} {p : Pos} (hm : X.mg "tuple" = none) (ha : EV X e ρ M (dP q) M1) (hq : M1 q = some (.lst ds)) (hg : Gl X "tuple" := by rfl) (hst : starEach [e] X.env = [(false, eval e X.env)] := by rfl) : EV X (.Call (.Name "tuple" p) [e] [] pos) ρ M (.tup ds) M1 :=
  (pe_callTy call_tuple_of hg hm boot_tuple (av_cons ha av_nil hst) (he := hst)).mono fun σ H Q ⟨G, sa, k⟩ => ⟨G, sa, fun vs' G1 H1 g1 sh1 r1 => by
    obtain ⟨_, vs, hv, r⟩ := sh1.mem q _ hq
    have e1 := RepL.of_vals (xs := [.ref q]) r1
    exact ⟨q, vs, e1, .inl ⟨.inl (.inl hv), fun l hl => by
      obtain ⟨sh2, g2⟩ := sh1.new (o := .tup vs) hl
      exact k _ _ _ (g1.trans g2) sh2 (.tup (.inl (.inl upd_same)) (r.up g2))⟩⟩⟩
end
section
variable {X : Cx} {ρ : Sl} {M M1 M2 : Mem} {a b e : Expr} {d : D} {ds es : List D} {pos : Pos} {Φ : D → Mem → Prop} {Ψ : Out → Prop}
theorem tv_ninM {x : Int} {xs : List Int} {p : Addr} (ha : EV X a ρ M (dI x) M1) (hb : EV X b ρ M1 (dP p) M2) (hm2 : M2 p = some (.lst (xs.map dI))) (hm : behindInMarks .NotIn b = false) : TV X (.Compare a [.NotIn] [b] pos) ρ M (!decide (x ∈ xs)) M2 :=
  (pt_cmpR op_notIn_seq ha hb hm).mono fun σ H Q ⟨G, sa, k⟩ => ⟨G, sa, fun v1 G1 H1 g1 sh1 r1 => ⟨G1, ⟨sh1, sa.sl.up g1⟩, fun v2 G2 H2 g2 sh2 r2 => by
    obtain ⟨_, vs, hv, r⟩ := sh2.mem p _ hm2
    have ev : vs = xs.map V.int := RepL.of_vals (xs := xs.map V.int) (by rw [List.map_map]; exact r)
    subst ev
    refine ⟨p, xs.map V.int, r2.of_val, .inl (.inl (.inl hv)), by rw [r1.of_val]; rfl, flat_ints xs, ?_⟩
    rw [r1.of_val]
    exact ⟨_, congrArg V.bl (congrArg (!·) (any_eqI x xs)), k G2 H2 (g1.trans g2) sh2⟩⟩⟩
end
end Vt
namespace Vt
open PySem PySem.Spec PyProof.Rows L2
/-! ### dicts of the module, zip, comprehensions with if, int of a bool, lists times a number, in -/
section
variable {X : Cx} {K : PySem.W.Frag} {ρ ρ' : Sl} {M M1 M2 M3 : Mem} {a b c e : Expr} {es : List Expr} {d d1 d2 : D} {ds : List D} {pos : Pos} {Ψ : Out → Prop} {Φ : D → Mem → Prop} {ΦI : List D → Mem → Prop}
/-- a written dict of the module with texts as keys, read -/
theorem ev_ixK {p : Addr} {z : Str} {v : V} (ha : EV X a ρ M (dP p) M1) (hb : EV X b ρ M1 (dS z) M2) (hk : KDct X.K X.w p z v) (hr : ∀ G, Rep X.K G v d) (hs : NoSl b) : EV X (.Subscript a b pos) ρ M d M2 :=
  (pe_ix ix_kdict ha hb hs).mono fun σ H Q ⟨G, sa, k⟩ => ⟨G, sa, fun v1 G1 H1 g1 sh1 r1 => ⟨G1, ⟨sh1, sa.sl.up g1⟩, fun v2 G2 H2 g2 sh2 r2 =>
    ⟨p, z, v, r1.of_val, r2.of_val, hk, k _ G2 H2 (g1.trans g2) sh2 (hr G2)⟩⟩⟩
theorem KDict.ct {w : World} {a : Addr} {z : Str} {u : Value} {v : V} {es : Array DictEntry} {n : Nat} (D : KDict K w a es n) (e : PySem.W.nsIn K a z = some (some u)) (r : L2.RelV v u) : KDct K w a z v := ⟨es, n, u, D.at_, D.lit, e, r⟩
/-- a written tuple of texts -/
theorem rep_kS {G : Hp} {a : Addr} {o : Obj} {its : Array Value} {n : Nat} {zs : List Str} (hk : K.lookup a = some o) (hc : o.cls = .type "tuple") (hd : o.data = .seq its n) (hz : its.size ≤ sizeLine) (hv : Vals (zs.map V.str) its.toList) : Rep K G (.ref a) (.tup (zs.map dS)) := by
  refine .tup (.inr ⟨o, its, n, hk, hc, hd, hz, hv⟩) ?_
  have e := RepL.vals (K := K) (G := G) (zs.map V.str)
  rw [List.map_map] at e
  exact e
/-- zip of two tuples -/
def zipD : List D → List D → List D
  | d :: ds, e :: es => .tup [d, e] :: zipD ds es
  | _, _ => []
theorem zipD_get : ∀ {ds es : List D} {i : Nat} {d : D}, (zipD ds es)[i]? = some d → ∃ x y, ds[i]? = some x ∧ es[i]? = some y ∧ d = .tup [x, y]
  | [], _, _, _, h => by simp [zipD] at h
  | _ :: _, [], _, _, h => by simp [zipD] at h
  | x :: ds, y :: es, 0, d, h => ⟨x, y, rfl, rfl, by simpa [zipD] using h.symm⟩
  | x :: ds, y :: es, i + 1, d, h => by
    obtain ⟨x', y', h1, h2, h3⟩ := zipD_get (ds := ds) (es := es) (i := i) (by simpa [zipD] using h)
    exact ⟨x', y', by simpa using h1, by simpa using h2, h3⟩
theorem zipD_len : ∀ (ds es : List D), (zipD ds es).length = min ds.length es.length
  | [], _ => by simp [zipD]
  | _ :: _, [] => by simp [zipD]
  | _ :: ds, _ :: es => by
    have := zipD_len ds es
    simp only [zipD, List.length_cons, this]
    omega
theorem pairDT {G : Hp} {H : Hp} {M : Mem} {T : Addr} {x y : V} {d e : D} (sh : SH K G H M) (hT : H T = none) (r : Rep K G x d) (r2 : Rep K G y e) : ∃ G3, Same G G3 ∧ SH K G3 (upd H T (.tup [x, y])) M ∧ Rep K G3 (.ref T) (.tup [d, e]) := by
  obtain ⟨sh2, g2⟩ := sh.new (o := .tup [x, y]) hT
  exact ⟨_, g2, sh2, .tup (.inl (.inl upd_same)) (.cons (r.up g2) (.cons (r2.up g2) .nil))⟩
theorem JW2.zipT {p q : Addr} {vs us : List V} {es : List D} {G : Hp} (hp : SqT K G p vs) (hq : SqT K G q us) (r : RepL K G vs ds) (r2 : RepL K G us es) : JW2 K (RZ.ItzT K p q) G (zipD ds es) := fun i H g => ⟨fun d h => by
    obtain ⟨x, y, h1, h2, rfl⟩ := zipD_get h
    obtain ⟨v, hv, rv⟩ := r.get h1
    obtain ⟨u, hu, ru⟩ := r2.get h2
    refine ⟨⟨vs, us, v, u, sqtUp g hp, sqtUp g hq, hv, hu⟩, ?_⟩
    rintro x H' ⟨T, x1, y1, rfl, hT, rfl, e1, e2⟩ G2 M g2 sh
    have f1 := e1 vs (sqtUp g hp)
    have f2 := e2 us (sqtUp g hq)
    rw [hv] at f1
    rw [hu] at f2
    cases f1
    cases f2
    exact pairDT sh hT (rv.up g2) (ru.up g2), fun h => ⟨vs, us, sqtUp g hp, sqtUp g hq, by rw [r.len, r2.len]; rw [zipD_len] at h; omega⟩⟩
theorem iw_zipT {elts : List Expr} {kk : Nat} {tpos p : Pos} {es' : List D} (hm : X.mg "zip" = none) (h : AV X [a, b] ρ M [.tup ds, .tup es'] M1) (q : ΦI (zipD ds es') M1) (hg : Gl X "zip" := by rfl) (hst : starEach [a, b] X.env = (false, eval a X.env) :: starEach [b] X.env := by rfl)
    (hpl : (backTo pos (starEach [b] X.env)).any (·.1) = false := by rfl) : IW X (.Tuple elts kk tpos) (.Call (.Name "zip" p) [a, b] [] pos) ρ M ΦI :=
  (RZ.pi_zipA hg hm h hst hpl).mono fun σ H R ⟨G, sa, k⟩ => ⟨G, sa, fun vs G1 H1 g1 sh1 r1 => by
    cases r1 with
    | cons r t =>
      cases t with
      | cons r2 t =>
        cases t
        cases r with
        | tup q1 r =>
          cases r2 with
          | tup q2 r2 => exact ⟨_, _, _, _, rfl, .inr ⟨sqtUp sh1.le q1, sqtUp sh1.le q2, k _ G1 H1 _ M1 q g1 sh1 (JW2.zipT q1 q2 r r2)⟩⟩⟩
/-- int of a bool -/
theorem ev_intB {z : Bool} {p : Pos} (hm : X.mg "int" = none) (ha : EV X e ρ M (dB z) M1) (hg : Gl X "int" := by rfl) (hst : starEach [e] X.env = [(false, eval e X.env)] := by rfl) : EV X (.Call (.Name "int" p) [e] [] pos) ρ M (dI (if z then 1 else 0)) M1 :=
  (pe_callTy call_int1 hg hm (by decide +kernel) (av_cons ha av_nil hst) (he := hst)).mono fun σ H Q ⟨G, sa, k⟩ => ⟨G, sa, fun vs' G1 H1 g1 sh1 r1 => by
    rw [RepL.of_vals (xs := [.bl z]) r1]
    exact .inr ⟨z, rfl, k _ G1 H1 g1 sh1 (.val _)⟩⟩
/-- a new list times a number -/
theorem ew_mulN (h : EW X a ρ M (fun d1 M1 => ∃ p ds, d1 = dP p ∧ M1 p = some (.lst ds) ∧ EW X b ρ M1 (fun d2 M2 => ∃ k : Int, d2 = dI k ∧ M2 p = some (.lst ds) ∧ -(2 ^ 63) ≤ k ∧ k < 2 ^ 63 ∧ ds.length * k.toNat ≤ sizeLine ∧
    ∀ l, M2 l = none → Φ (dP l) (M2.set l (.lst (List.replicate k.toNat ds).flatten))))) : EW X (.BinOp a .Mult b pos) ρ M Φ :=
  (pe_op op_rep h pk_e).mono fun σ H Q ⟨G, sa, kk⟩ => ⟨G, sa, fun v1 G1 H1 d1 M1 ⟨p, ds, e1, m1, h2⟩ g1 sh1 r1 => ⟨M1, _, h2, G1, ⟨sh1, sa.sl.up g1⟩, fun v2 G2 H2 d2 M2 ⟨k, e2, m1', hk1, hk2, hl, hp⟩ g2 sh2 r2 => by
    subst e1 e2
    obtain ⟨_, vs, hv, r⟩ := sh2.mem p _ m1'
    refine ⟨p, k, vs, r1.of_val, r2.of_val, hv, hk1, hk2, by rw [r.len]; exact hl, fun l hl => ?_⟩
    obtain ⟨sh3, m3, _⟩ := sh2.newM hl (rep_flat r k.toNat)
    exact kk _ _ _ _ _ (hp l m3) (g1.trans g2) sh3 (.val _)⟩⟩
/-- max, min of two -/
theorem ev_max2 {i j : Int} {p : Pos} (hc : X.calm = true) (hm : X.mg "max" = none) (ha : AV X [a, b] ρ M [dI i, dI j] M1) (hg : Gl X "max" := by rfl) (hst : starEach [a, b] X.env = (false, eval a X.env) :: starEach [b] X.env := by rfl) (hpl : (backTo pos (starEach [b] X.env)).any (·.1) = false := by rfl) : EV X (.Call (.Name "max" p) [a, b] [] pos) ρ M (dI (if j > i then j else i)) M1 :=
  (pe_callB (call_max2 hc) hg hm boot_max ha (he := hst) (hpl := hpl)).mono fun σ H Q ⟨G, sa, k⟩ => ⟨G, sa, fun vs' G1 H1 g1 sh1 r1 => by
    rw [RepL.of_vals (xs := [.int i, .int j]) r1]
    exact ⟨i, j, rfl, k _ G1 H1 g1 sh1 (.val _)⟩⟩
theorem ev_min2 {i j : Int} {p : Pos} (hc : X.calm = true) (hm : X.mg "min" = none) (ha : AV X [a, b] ρ M [dI i, dI j] M1) (hg : Gl X "min" := by rfl) (hst : starEach [a, b] X.env = (false, eval a X.env) :: starEach [b] X.env := by rfl) (hpl : (backTo pos (starEach [b] X.env)).any (·.1) = false := by rfl) : EV X (.Call (.Name "min" p) [a, b] [] pos) ρ M (dI (if j < i then j else i)) M1 :=
  (pe_callB (call_min2 hc) hg hm boot_min ha (he := hst) (hpl := hpl)).mono fun σ H Q ⟨G, sa, k⟩ => ⟨G, sa, fun vs' G1 H1 g1 sh1 r1 => by
    rw [RepL.of_vals (xs := [.int i, .int j]) r1]
    exact ⟨i, j, rfl, k _ G1 H1 g1 sh1 (.val _)⟩⟩
theorem ew_min2 {p : Pos} (hc : X.calm = true) (hm : X.mg "min" = none) (h : AW X [a, b] ρ M (fun ds M1 => ∃ i j : Int, ds = [dI i, dI j] ∧ Φ (dI (if j < i then j else i)) M1)) (hg : Gl X "min" := by rfl) (hst : starEach [a, b] X.env = (false, eval a X.env) :: starEach [b] X.env := by rfl) (hpl : (backTo pos (starEach [b] X.env)).any (·.1) = false := by rfl) : EW X (.Call (.Name "min" p) [a, b] [] pos) ρ M Φ :=
  (pe_callB (call_min2 hc) hg hm boot_min h (he := hst) (hpl := hpl)).mono fun σ H Q ⟨G, sa, k⟩ => ⟨G, sa, fun vs' G1 H1 ds M1 ⟨i, j, e, q⟩ g1 sh1 r1 => by
    subst e
    rw [RepL.of_vals (xs := [.int i, .int j]) r1]
    exact ⟨i, j, rfl, k _ G1 H1 _ M1 q g1 sh1 (.val _)⟩⟩
theorem ew_max2 {p : Pos} (hc : X.calm = true) (hm : X.mg "max" = none) (h : AW X [a, b] ρ M (fun ds M1 => ∃ i j : Int, ds = [dI i, dI j] ∧ Φ (dI (if j > i then j else i)) M1)) (hg : Gl X "max" := by rfl) (hst : starEach [a, b] X.env = (false, eval a X.env) :: starEach [b] X.env := by rfl) (hpl : (backTo pos (starEach [b] X.env)).any (·.1) = false := by rfl) : EW X (.Call (.Name "max" p) [a, b] [] pos) ρ M Φ :=
  (pe_callB (call_max2 hc) hg hm boot_max h (he := hst) (hpl := hpl)).mono fun σ H Q ⟨G, sa, k⟩ => ⟨G, sa, fun vs' G1 H1 ds M1 ⟨i, j, e, q⟩ g1 sh1 r1 => by
    subst e
    rw [RepL.of_vals (xs := [.int i, .int j]) r1]
    exact ⟨i, j, rfl, k _ G1 H1 _ M1 q g1 sh1 (.val _)⟩⟩
/-- x in a tree of plain things -/
theorem op_inT {X : Cx} (hu : X.A.units + 65 < cLine) : OpR X (compareOp .In) (fun x y H Q => ∃ d ds, Dp X.K H x d ∧ Dp X.K H y (.tuple ds) ∧ SeqAt.shaped d = true ∧ SeqAt.shaped (.tuple ds) = true ∧ Q (.bl (ds.any fun z => PyData.eqv z d)) H) := fun pins s σ H x y v u Q I rx ry ⟨d, ds, hd, he, sd, se, q⟩ => by
  obtain ⟨as, r1⟩ := Dp.reads I d x v hd rx
  obtain ⟨bs, r2⟩ := Dp.reads I (.tuple ds) y u he ry
  exact SeqAt.in_tuple_reads r2 r1 (SeqAt.canLay_of_shaped se) (SeqAt.canLay_of_shaped sd) (room_in_shaped sd hu) ⟨.bl _, H, I, rfl, q⟩
theorem ev_inD {d : D} (hu : X.A.units + 65 < cLine) (ha : EV X a ρ M d M1) (hb : EV X b ρ M1 (.tup ds) M2) (pd : d.plain = true) (pds : D.plainL ds = true) (s1 : SeqAt.shaped d.py = true) (s2 : SeqAt.shaped (.tuple (D.pyL ds)) = true) (hm : behindInMarks .In b = false) :
    EV X (.Compare a [.In] [b] pos) ρ M (dB ((D.pyL ds).any fun z => PyData.eqv z d.py)) M2 :=
  (pe_cmpR (op_inT hu) ha hb hm).mono fun σ H Q ⟨G, sa, k⟩ => ⟨G, sa, fun v1 G1 H1 g1 sh1 r1 => ⟨G1, ⟨sh1, sa.sl.up g1⟩, fun v2 G2 H2 g2 sh2 r2 =>
    ⟨_, _, dp_of sh2.le _ _ pd (r1.up g2), dp_of sh2.le _ (.tup ds) pds r2, s1, s2, k _ G2 H2 (g1.trans g2) sh2 (.val _)⟩⟩⟩
end
section
variable {X : Cx} {ρ : Sl} {M M1 : Mem} {d : D} {ds : List D} {pos : Pos} {Ψ : Out → Prop} {Φ : D → Mem → Prop} {tg iter : Expr} {g : TG}
/-- [e for x in .. if c], the list is going to be changed -/
def LcF (X : Cx) (g : TG) (own : List (Str × Nat)) (scope : Scope) (elt cnd : Expr) (ρ : Sl) (Φ : D → Mem → Prop) (ds : List D) (M1 : Mem) : Prop :=
  ds.length ≤ sizeLine ∧ ∃ Iv : Nat → List D → Mem → Prop, Iv 0 [] M1 ∧
    (∀ i d acc M, ds[i]? = some d → acc.length ≤ i → Iv i acc M → ∃ ρ', TGb X.K g (own.map (·.2)) (wipeD ρ (own.map (·.2))) d ρ' ∧ ∀ (p : Addr), M p = none → ∀ (s : Shared) (H : Hp) (C : Addr) (cl : List (Str × Addr)) (fp : List Addr),
      TW (X.blk s H scope (compEnvC scope cl C X.env) fp) cnd ρ' (M.set p (.lst acc)) (fun b M' => ∃ M2, M' = M2.set p (.lst acc) ∧ M2 p = none ∧ (b = false → Iv (i + 1) acc M2) ∧ (b = true → ∀ (s : Shared) (H : Hp) (C : Addr) (cl : List (Str × Addr)) (fp : List Addr),
        EW (X.blk s H scope (compEnvC scope cl C X.env) fp) elt ρ' (M2.set p (.lst acc)) (fun d' M' => ∃ M3, M' = M3.set p (.lst acc) ∧ M3 p = none ∧ Iv (i + 1) (acc ++ [d']) M3)))) ∧
    ∀ acc M, acc.length ≤ ds.length → Iv ds.length acc M → ∀ p, M p = none → Φ (dP p) (M.set p (.lst acc))
theorem lcf_read {elt cnd : Expr} {scope : Scope} {own : List (Str × Nat)} (σ : L2.St) (H : Hp) (Q : VK) (hΦ : ∃ G, SA X.K G H σ ρ M ∧ ∀ v G' H' d M', Φ d M' → Same G G' → SH X.K G' H' M' → Rep X.K G' v d → Q v H') :
    tLc (tIW X.K ρ M (LcF X g own scope elt cnd ρ Φ)) g (fun σ H Q => ∃ ρ' M' Φ', (∀ (s : Shared) (H : Hp) (C : Addr) (cl : List (Str × Addr)) (fp : List Addr), TW (X.blk s H scope (compEnvC scope cl C X.env) fp) cnd ρ' M' Φ') ∧ tTW X.K ρ' M' Φ' σ H Q)
      (fun σ H Q => ∃ ρ' M' Φ', (∀ (s : Shared) (H : Hp) (C : Addr) (cl : List (Str × Addr)) (fp : List Addr), EW (X.blk s H scope (compEnvC scope cl C X.env) fp) elt ρ' M' Φ') ∧ tW X.K ρ' M' Φ' σ H Q) (own.map (·.2)) σ H Q := by
  obtain ⟨G, sa, k⟩ := hΦ
  refine ⟨G, sa, fun J G1 H1 ds M1 ⟨hlen, Iv, h0, step, done⟩ g1 sh1 jw => fun p hp => ?_⟩
  obtain ⟨shp, mp, gp⟩ := sh1.newM hp (RepL.nil (K := X.K) (G := G1))
  refine ⟨fun i mm H => mm = ds.length - i ∧ i ≤ ds.length ∧ ∃ G acc M, Same G1 G ∧ acc.length ≤ i ∧ M p = none ∧ Iv i acc M ∧ SH X.K G H (M.set p (.lst acc)), ⟨ds.length, by simp, Nat.zero_le _, G1, [], M1, Same.refl _, Nat.zero_le _, mp, h0, shp⟩, ?_⟩
  rintro i mm H2 ⟨rfl, hi, G2, acc, M2, g2, hacc, hmp, iv, sh2⟩
  obtain ⟨j1, j2⟩ := jw i H2 (g2.trans sh2.le)
  by_cases hlt : i < ds.length
  · have hd : ds[i]? = some ds[i] := List.getElem?_eq_getElem hlt
    obtain ⟨go, yl⟩ := j1 _ hd
    refine .inr ⟨go, fun H3 => ∃ G acc M, Same G1 G ∧ acc.length ≤ i + 1 ∧ M p = none ∧ Iv (i + 1) acc M ∧ SH X.K G H3 (M.set p (.lst acc)), fun H' p' => ⟨ds.length - (i + 1), by omega, rfl, hlt, p'⟩, fun x H' y => ?_⟩
    obtain ⟨G3, g3, sh3, rx⟩ := yl x H' y G2 _ g2 sh2
    have g2 := g2.trans g3
    obtain ⟨ρ3, tg3, ev⟩ := step i _ acc M2 hd hacc iv
    refine tg3 x σ G3 H' _ sh3.le (wipe_rep ((sa.sl.up g1).up g2) _) rx fun σ3 rs3 hw => ⟨hw, ?_⟩
    show ∃ ρ' M' Φ', _ ∧ tTW X.K ρ' M' Φ' σ3 H' _
    refine ⟨ρ3, _, _, ev p hmp, G3, ⟨sh3, rs3⟩, fun bb G4 H4 M4 ⟨M5, e5, n5, hf, ht⟩ g4 sh4 => ?_⟩
    subst e5
    cases bb with
    | false => exact ⟨G4, acc, M5, g2.trans g4, Nat.le_succ_of_le hacc, n5, hf rfl, sh4⟩
    | true =>
      show ∃ ρ' M' Φ', _ ∧ tW X.K ρ' M' Φ' σ3 H4 _
      refine ⟨ρ3, _, _, ht rfl, G4, ⟨sh4, rs3.up g4⟩, fun v G5 H5 d5 M6 ⟨M7, e7, n7, iv7⟩ g5 sh5 r5 => ?_⟩
      subst e7
      obtain ⟨_, vs, hv, rl⟩ := sh5.mem p _ Mem.set_same
      refine ⟨vs, hv, ?_, G5, acc ++ [d5], M7, (g2.trans g4).trans g5, by rw [List.length_append]; exact Nat.succ_le_succ hacc, n7, iv7, ?_⟩
      · rw [rl.len]
        exact Nat.lt_of_le_of_lt hacc (Nat.lt_of_lt_of_le hlt hlen)
      · have q := sh5.put (ds := acc ++ [d5]) Mem.set_same (rl.append (.cons r5 .nil))
        rw [Mem.set_set] at q
        exact q
  · have e : i = ds.length := by omega
    subst e
    exact .inl ⟨j2 (Nat.le_refl _), k _ _ H2 _ _ (done acc M2 hacc iv p hmp) (g1.trans g2) sh2 (.val _)⟩
theorem ew_lcF {elt cnd : Expr} {scope : Scope} {own : List (Str × Nat)} (hc : X.calm = true) (hN : X.N.Nodup) (ok : BlkOk X.N X.env.scope scope own)
    (hg : ∀ (s : Shared) (H : Hp) (C : Addr) (cl : List (Str × Addr)) (fp : List Addr), PG (X.blk s H scope (compEnvC scope cl C X.env) fp) tg g) (hi : IW X tg iter ρ M (LcF X g own scope elt cnd ρ Φ))
    (hs : ∀ x, foldedSetIterable iter X.env x = pure x := by intro _; rfl) : EW X (.ListComp elt [⟨tg, iter, [cnd], 0⟩] scope pos) ρ M Φ :=
  (pe_lc hc hN hi ok hg (fun s H C cl fp => pts_one ⟨fun pins s' σ H' Q I ⟨ρ', M', Φ', hb, q⟩ => (hb s H C cl fp).run pins s' σ H' Q I q⟩) (fun s H C cl fp => ⟨fun pins s' σ H' Q I ⟨ρ', M', Φ', hb, q⟩ => (hb s H C cl fp).run pins s' σ H' Q I q⟩) hs).mono fun σ H Q h => lcf_read σ H Q h
/-- a new list is changed no more -/
theorem ew_frz {e : Expr} (h : EW X e ρ M (fun d M1 => ∃ p ds M2, d = dP p ∧ M1 = M2.set p (.lst ds) ∧ M2 p = none ∧ Φ (.lst ds) M2)) : EW X e ρ M Φ := h.mono fun σ H Q ⟨G, sa, k⟩ => ⟨G, sa, fun v G1 H1 d M1 ⟨p, ds, M2, e1, e2, hm, q⟩ g1 sh1 r1 => by
  subst e1 e2
  obtain ⟨vs, sh3, g3, rl⟩ := sh1.freeze hm
  rw [r1.of_val]
  exact k _ _ _ _ _ q (g1.trans g3) sh3 (.lst (.inl (.inl upd_same)) (rl.up g3))⟩
end
end Vt
namespace Vt
open PySem PySem.Spec PyProof.Rows L2
/-! ### instances of the program's classes -/
def putD (f : Str) (d : D) : List (Str × D) → List (Str × D)
  | [] => [(f, d)]
  | (g, x) :: r => if g = f then (g, d) :: r else (g, x) :: putD f d r
theorem RepF.put {K : PySem.W.Frag} {G : Hp} {f : Str} {v : V} {d : D} (r : Rep K G v d) : ∀ {fv : List (Str × V)} {fs : List (Str × D)}, RepF K G fv fs → RepF K G (putF f v fv) (putD f d fs)
  | [], [], _ => RepF.cons r RepF.nil
  | [], _ :: _, h => by have := h.ks; cases this
  | _ :: _, [], h => by have := h.ks; cases this
  | (k1, v1) :: fv, (k2, d2) :: fs, ⟨ks, vs⟩ => by
    rw [List.map_cons, List.map_cons] at ks vs
    obtain ⟨e1, e2⟩ := List.cons.inj ks
    obtain rfl : k1 = k2 := e1
    cases vs with
    | cons r1 t =>
      unfold putF putD
      split
      · exact RepF.cons r ⟨e2, t⟩
      · exact RepF.cons r1 (RepF.put r ⟨e2, t⟩)
theorem RepF.len {κ : Type} {K : PySem.W.Frag} {G : Hp} {fv : List (κ × V)} {fs : List (κ × D)} (h : RepF K G fv fs) : fv.length = fs.length := by
  have := congrArg List.length h.ks
  rw [List.length_map, List.length_map] at this
  exact this
theorem SH.putI {K : PySem.W.Frag} {G H : Hp} {M : Mem} {p C dx : Addr} {mo : MO} {fv : List (Str × V)} {fs : List (Str × D)} (s : SH K G H M) (hm : M p = some mo) (r : RepF K G fv fs) : SH K G (upd H p (.ins C dx fv)) (M.set p (.ins C fs)) := by
  obtain ⟨gp, _⟩ := s.mem p mo hm
  refine ⟨fun b u e => ?_, fun b mo e => ?_⟩
  · rw [upd_ne (ne_of_none e gp)]; exact s.le b u e
  · by_cases hb : b = p
    · subst hb
      rw [Mem.set_same] at e
      cases e
      exact ⟨gp, dx, fv, upd_same, r⟩
    · rw [Mem.set_ne hb] at e
      obtain ⟨g0, at0⟩ := s.mem b mo e
      exact ⟨g0, at0.up (Same.refl G) (upd_ne hb)⟩
theorem SH.newI {K : PySem.W.Frag} {G H : Hp} {M : Mem} {x dx C : Addr} (s : SH K G H M) (hx : H x = none) (hd : H dx = none) (_ne : dx ≠ x) : SH K G (upd (upd H dx (.own x)) x (.ins C dx [])) (M.set x (.ins C [])) ∧ M x = none := by
  have gn : ∀ {b}, H b = none → G b = none := fun {b} h => by
    cases e : G b with
    | none => rfl
    | some u => rw [s.le b u e] at h; cases h
  refine ⟨⟨fun b u e => ?_, fun b mo e => ?_⟩, ?_⟩
  · rw [upd_ne (ne_of_none e (gn hx)), upd_ne (ne_of_none e (gn hd))]; exact s.le b u e
  · by_cases hb : b = x
    · subst hb
      rw [Mem.set_same] at e
      cases e
      exact ⟨gn hx, dx, [], upd_same, RepF.nil⟩
    · rw [Mem.set_ne hb] at e
      obtain ⟨g0, at0⟩ := s.mem b mo e
      obtain ⟨u, hu⟩ := at0.some
      exact ⟨g0, at0.up (Same.refl G) (by rw [upd_ne hb, upd_ne (ne_of_none hu hd)])⟩
  · cases e : M x with
    | none => rfl
    | some mo =>
      obtain ⟨_, at0⟩ := s.mem x mo e
      obtain ⟨u, hu⟩ := at0.some
      rw [hx] at hu; cases hu
section
variable {X : Cx} {W : WX} {ρ : Sl} {M M1 M2 : Mem} {a b e o value : Expr} {es : List Expr} {d : D} {ds : List D} {pos pos' : Pos} {Ψ : Out → Prop} {Φ : D → Mem → Prop} {f : Str} {C p : Addr} {fs : List (Str × D)}
/-- o.f -/
theorem ev_fld (ha : EV X e ρ M (dP p) M1) (hm : M1 p = some (.ins C fs)) (c : Cls X.K C) (n : NoAttr X.K C f) (hl : fs.lookup f = some d) (hb : attributeBase e f X.env (eval e X.env) = eval e X.env := by rfl) : EV X (.Attribute e f pos) ρ M d M1 :=
  (pe_fld ha hb).mono fun σ H Q ⟨G, sa, k⟩ => ⟨G, sa, fun v1 G1 H1 g1 sh1 r1 => by
    obtain ⟨_, dx, fv, hv, rf⟩ := sh1.mem p _ hm
    obtain ⟨v, hl2, rv⟩ := rf.get hl
    exact ⟨p, C, dx, fv, v, r1.of_val, hv, c, n, hl2, k v G1 H1 g1 sh1 rv⟩⟩
theorem ew_fld (ha : EW X e ρ M (fun d1 M1 => ∃ p fs d, d1 = dP p ∧ M1 p = some (.ins C fs) ∧ fs.lookup f = some d ∧ Φ d M1)) (c : Cls X.K C) (n : NoAttr X.K C f) (hb : attributeBase e f X.env (eval e X.env) = eval e X.env := by rfl) : EW X (.Attribute e f pos) ρ M Φ :=
  (pe_fld ha hb).mono fun σ H Q ⟨G, sa, k⟩ => ⟨G, sa, fun v1 G1 H1 d1 M1 ⟨p, fs, d, e1, hm, hl, q⟩ g1 sh1 r1 => by
    subst e1
    obtain ⟨_, dx, fv, hv, rf⟩ := sh1.mem p _ hm
    obtain ⟨v, hl2, rv⟩ := rf.get hl
    exact ⟨p, C, dx, fv, v, r1.of_val, hv, c, n, hl2, k v G1 H1 d M1 q g1 sh1 rv⟩⟩
/-- o.f = value -/
theorem sw_fld (hv : EW X value ρ M (fun d M1 => EV X o ρ M1 (dP p) M1 ∧ ∃ fs, M1 p = some (.ins C fs) ∧ fs.length < 1000 ∧ Ψ (.nx ρ (M1.set p (.ins C (putD f d fs)))))) (c : Cls X.K C) (n : NoAttr X.K C f)
    (hs : swapsWith value (some (.Attribute o f pos')) pos.line X.env = pure false := by rfl) : SV X (.Assign [.Attribute o f pos'] value pos) ρ M Ψ :=
  (ps_fld (ta := fun σ H Q => ∃ M1, EV X o ρ M1 (dP p) M1 ∧ tE X.K ρ M1 (dP p) M1 σ H Q) ⟨fun pins s σ H Q I ⟨M1, h, q⟩ => h.run pins s σ H Q I q⟩ hv hs).mono fun E σ H ⟨G, sa, k⟩ => ⟨G, sa, fun v1 G1 H1 d M1 ⟨ho, fs, hm, hl, q⟩ g1 sh1 r1 => ⟨M1, ho, G1, ⟨sh1, sa.sl.up g1⟩, fun v2 G2 H2 g2 sh2 r2 => by
    obtain ⟨_, dx, fv, hv, rf⟩ := sh2.mem p _ hm
    refine ⟨p, C, dx, fv, r2.of_val, hv, c, n, by rw [rf.len]; exact hl, ?_⟩
    exact k _ q σ G2 _ (g1.trans g2) ⟨sh2.putI hm (rf.put (r1.up g2)), (sa.sl.up g1).up g2⟩⟩⟩
end
/-! making one -/
structure MkC (P : Program) (w : World) (K : PySem.W.Frag) (mg : Str → Option Value) (base : Heap) (k : Nat) (x : Str) (C : Addr) (sp : Sp) : Prop where
  ex : ∃ f fd ps, mg x = some (.ref C) ∧ Mk K C f ∧ Binds K fd ps [] ∧ FnOk P w K mg base (L2.CX P w) k f fd ps sp
section
variable {X : Cx} {W : WX} {ρ : Sl} {M : Mem} {e : Expr} {es : List Expr} {pos p1 : Pos} {Φ : Res → Mem → Prop} {x : Str} {C : Addr} {k : Nat}
theorem run_makeW {CX : CXT} {pins : List (Addr × Obj)} {σ : L2.St} {H : Hp} {s : Shared} {Q : VK} {us : List Value} {vs : List V} {E : XK} {f : Addr} {fd : FuncData} {ps : List Str} {sp : Sp} (mk : Mk X.K C f) (Fi : FnOk X.prog X.w X.K X.mg X.base CX k f fd ps sp) (rm : Room (k + 1) X.A) (bi : Binds X.K fd ps [])
    (pa : PassesAt CX X σ E) (J : Inv X pins σ H s) (rv : Vals vs us) (hs : ∀ y dy, H y = none → H dy = none → dy ≠ y → sp (.ref y :: vs) (upd (upd H dy (.own y)) y (.ins C dy [])) (fun v H2 => v = .non ∧ Q (.ref y) H2) E) :
    wpAny (model X.prog X.w) X.A (call (.ref C) us) (EP X pins σ Q) X.xe s := by
  have want := hs (s.heap.objs.size + 1) s.heap.objs.size (J.hok.fresh (Nat.le_succ _)) (J.hok.fresh (Nat.le_refl _)) (Nat.ne_of_lt (Nat.lt_succ_self _))
  have J2 := Inv.made (C := C) J
  have vals : Vals (V.ref (s.heap.objs.size + 1) :: vs) (Value.ref (s.heap.objs.size + 1) :: us) := .cons rfl rv
  have many : (Value.ref (s.heap.objs.size + 1) :: us ++ []).length = ps.length := by
    rw [List.append_nil, ← vals.length]
    exact Fi.len _ _ _ _ want
  have bnd := bi _ (Value.ref (s.heap.objs.size + 1) :: us) J2.kIn many
  rw [List.append_nil] at bnd
  have go := Fi.run _ X.stack _ _ ⟨Value.ref (s.heap.objs.size + 1) :: us, []⟩ (Value.ref (s.heap.objs.size + 1) :: us) _ _ E (rm.make C us []) (J2.env0.make C us []) bnd vals want
  refine wpAny_call (make_map (f := f) J.kIn mk.makes mk.init (beq_iff_eq.mp mk.fn) (codeAny_mono go fun out t ht => ?_))
  match out, ht with
  | .error z, ht => exact pa pins _ _ z t J2 ht
  | .ok (.ret z), ht =>
    obtain ⟨v, H', J3, r3, ev, q3⟩ := J2.after ht
    subst ev
    exact ⟨r3, ⟨V.ref (s.heap.objs.size + 1), H', J3, rfl, q3⟩⟩
  | .ok .next, ht => exact False.elim ht
  | .ok .brk, ht => exact False.elim ht
  | .ok .cont, ht => exact False.elim ht
/-- C(..): its __init__ may raise -/
theorem eu_make {R : List D → Mem → (Res → Mem → Prop) → Prop} (B : MkC X.prog X.w X.K X.mg X.base k x C (spU X.K R)) (tk : Takes X W) (hr : Room (k + 1) X.A)
    (h : AW X (e :: es) ρ M (fun ds M1 => ∀ y, M1 y = none → R (dP y :: ds) (M1.set y (.ins C [])) (fun r M2 => match r with | .ok d => d = dN ∧ Φ (.ok (dP y)) M2 | .ex c dd => Φ (.ex c dd) M2)))
    (hg : Gl X x := by rfl) (hdb : (x == ("__debug__" : Str)) = false := by decide) (he : starEach (e :: es) X.env = (false, eval e X.env) :: starEach es X.env := by rfl) (hpl : (backTo pos (starEach es X.env)).any (·.1) = false := by rfl) : EU X W (.Call (.Name x p1) (e :: es) [] pos) ρ M Φ := by
  obtain ⟨f, fd, ps, hm, mk, bi, Fi⟩ := B.ex
  refine ⟨fun pins s σ H Q I ⟨G, sa, k1, k2⟩ => ?_⟩
  refine wpAny_Call_Name_kw (ld_glob I hg hm ?_ hdb)
  refine PySem.W.callWith_K (h₀ := X.base) I.ok.mod.kin mk.kp (thn (h.run pos pins s σ H (fun vs H1 => ∀ y dy, H1 y = none → H1 dy = none → dy ≠ y → spU X.K R (.ref y :: vs) (upd (upd H1 dy (.own y)) y (.ins C dy [])) (fun v H2 => v = .non ∧ Q (.ref y) H2) (WE W σ)) I ⟨G, sa, fun vs G1 H1 ds M1 hR g1 sh1 r1 y dy hy hdy ne => ?_⟩) fun us s1 ⟨vs, H1, I1, r, q⟩ => ⟨I1.kIn, run_makeW mk Fi hr bi (passAt tk σ) I1 r q⟩) he hpl
  obtain ⟨shn, my⟩ := sh1.newI (C := C) hy hdy ne
  exact ⟨G1, dP y :: ds, _, _, shn, .cons (.val _) r1, hR y my, fun v G' H' d M' hq g sh rr => by
      obtain ⟨rfl, hq⟩ := hq
      exact ⟨rr.of_val, k1 _ G' H' _ M' hq (g1.trans g) sh (.val _)⟩, fun cls dd G' H' M' hq g sh => k2 cls dd G' H' M' hq (g1.trans g) sh⟩
/-- a promise of a def that may raise, from its body, wherever its name stands -/
theorem fnU_of {P : Program} {w : World} {K : PySem.W.Frag} {mg : Str → Option Value} {base : Heap} {x qual : Str} {sd : Stmt} {f : Addr} {fd : FuncData} {N ps : List Str} {k : Nat} {R : List D → Mem → (Res → Mem → Prop) → Prop} (F : Fun K x qual sd f fd) (S : FnScope N ps (defScope sd)) (len : ∀ ds M Φ, R ds M Φ → ds.length = ps.length)
    (hb : ∀ (cdv : Value) (A : Around) (outer : List Env) (s : Shared) (H : Hp) (E : XK) (ds : List D) (M : Mem) (Φ : Res → Mem → Prop), Room k (A.deeper (envOfC qual (defScope sd) s.heap.objs.size f cdv)) → R ds M Φ →
      ∀ W, Takes (cxOf (L2.CX P w) P w K mg base N qual (defScope sd) f cdv A outer s H E) W → PassesOwn (model P w) (cxOf (L2.CX P w) P w K mg base N qual (defScope sd) f cdv A outer s H E).A (cxOf (L2.CX P w) P w K mg base N qual (defScope sd) f cdv A outer s H E).env (cxOf (L2.CX P w) P w K mg base N qual (defScope sd) f cdv A outer s H E).xe →
      BU (cxOf (L2.CX P w) P w K mg base N qual (defScope sd) f cdv A outer s H E) W (defBody sd) (startD N ds) M (FinU Φ)) : FnOk P w K mg base (L2.CX P w) (k + 1) f fd ps (spU K R) :=
  F.okX S (fun vs H Q E ⟨G, ds, M, Φ, sh, r, p, q⟩ => by rw [r.len]; exact len _ _ _ p) fun cdv A outer s H vs Q E hr ⟨G, ds, M, Φ, sh, r, p, q1, q2⟩ => by
    refine ⟨_, hb cdv A outer s H E ds M Φ hr p (fun cls d _ H' => E cls d H') (takes_of (E := E) rfl rfl rfl rfl) (passes_of rfl), G, ⟨sh, start_rep r⟩, fun o ho => ?_⟩
    cases o with
    | ex cls dd ρ' M'' =>
      obtain ⟨M', hp, hm⟩ := ho
      exact fun σ' G' H' g sa' => q2 cls dd G' H' M' hp g (sa'.sh.weak hm)
    | o o =>
      cases o with
      | ret d' M'' =>
        obtain ⟨M', hp, hm⟩ := ho
        exact fun v G' H' g sh' r' => q1 v G' H' d' M' hp g (sh'.weak hm) r'
      | nx ρ' M'' =>
        obtain ⟨M', hp, hm⟩ := ho
        exact fun σ' G' H' g sa' => q1 _ G' H' dN M' hp g (sa'.sh.weak hm) (.val _)
      | bk ρ' M'' => exact ho.elim
      | ct ρ' M'' => exact ho.elim
end
end Vt
namespace Vt
open PySem PySem.Spec PyProof.Rows L2
/-! ### what may raise within larger things -/
section
variable {X : Cx} {W : WX} {ρ : Sl} {M M1 : Mem} {a b e o value : Expr} {d d1 : D} {pos pos' : Pos} {Ψ : OutX → Prop} {Φ : Res → Mem → Prop} {f : Str} {C p : Addr}
theorem ev_dict0 : EV X (.Dict [] [] pos) ρ M .dic M := pe_dnewK.mono fun σ H Q ⟨G, sa, k⟩ p hp => by
  obtain ⟨sh2, g2⟩ := sa.sh.new (o := .dK []) hp
  exact k _ _ _ g2 sh2 (.dic upd_same)
theorem eu_fld (ha : EU X W e ρ M (fun r M1 => match r with | .ok d1 => ∃ p fs d, d1 = dP p ∧ M1 p = some (.ins C fs) ∧ fs.lookup f = some d ∧ Φ (.ok d) M1 | .ex c dd => Φ (.ex c dd) M1)) (c : Cls X.K C) (n : NoAttr X.K C f) (hb : attributeBase e f X.env (eval e X.env) = eval e X.env := by rfl) : EU X W (.Attribute e f pos) ρ M Φ :=
  (pe_fld ha hb).mono fun σ H Q ⟨G, sa, k1, k2⟩ => ⟨G, sa, fun v1 G1 H1 d1 M1 ⟨p, fs, d, e1, hm, hl, q⟩ g1 sh1 r1 => by
    subst e1
    obtain ⟨_, dx, fv, hv, rf⟩ := sh1.mem p _ hm
    obtain ⟨v, hl2, rv⟩ := rf.get hl
    exact ⟨p, C, dx, fv, v, r1.of_val, hv, c, n, hl2, k1 v G1 H1 d M1 q g1 sh1 rv⟩, fun cls dd G1 H1 M1 q g1 sh1 => k2 cls dd G1 H1 M1 q g1 sh1⟩
theorem eu_lenT {np : Pos} (hm : X.mg "len" = none) (h : EU X W e ρ M (fun r M1 => match r with | .ok d => ∃ ds, d = .tup ds ∧ Φ (.ok (dI ds.length)) M1 | .ex c dd => Φ (.ex c dd) M1)) (hg : Gl X "len" := by rfl) (hst : starEach [e] X.env = [(false, eval e X.env)] := by rfl) : EU X W (.Call (.Name "len" np) [e] [] pos) ρ M Φ :=
  (pe_callB call_len_seq hg hm PySem.boot_len (pa_cons h pa_nil hst) (he := hst)).mono fun σ H Q ⟨G, sa, k1, k2⟩ => ⟨G, sa, fun v1 G1 H1 d M1 ⟨ds, e1, q⟩ g1 sh1 r1 => by
    subst e1
    cases r1 with
    | tup q1 r => exact ⟨_, _, rfl, .inr (sqtUp sh1.le q1), by rw [r.len]; exact k1 _ G1 H1 _ M1 q g1 sh1 (.val _)⟩, fun cls dd G1 H1 M1 q g1 sh1 => k2 cls dd G1 H1 M1 q g1 sh1⟩
theorem eu_tup2 {kk : Nat} (ha : EV X a ρ M d1 M1) (hb : EU X W b ρ M1 (fun r M2 => match r with | .ok d2 => Φ (.ok (.tup [d1, d2])) M2 | .ex c dd => Φ (.ex c dd) M2))
    (hs : starEach [a, b] X.env = (false, eval a X.env) :: starEach [b] X.env := by rfl) (hs2 : starEach [b] X.env = (false, eval b X.env) :: starEach [] X.env := by rfl) : EU X W (.Tuple [a, b] kk pos) ρ M Φ :=
  (pe_tup (pa_cons ha (pa_cons hb pa_nil hs2) hs)).mono fun σ H Q ⟨G, sa, k1, k2⟩ => ⟨G, sa, fun v1 G1 H1 g1 sh1 r1 => ⟨G1, ⟨sh1, sa.sl.up g1⟩, fun v2 G2 H2 d2 M2 q g2 sh2 r2 => ⟨by (simp only [List.length_cons, List.length_nil]; decide), fun p hp => by
    obtain ⟨sh3, g3⟩ := sh2.new (o := .tup [v1, v2]) hp
    exact k1 _ _ _ _ _ q ((g1.trans g2).trans g3) sh3 (.tup (.inl (.inl upd_same)) (.cons ((r1.up g2).up g3) (.cons (r2.up g3) .nil)))⟩, fun cls dd G2 H2 M2 q g2 sh2 => k2 cls dd G2 H2 M2 q (g1.trans g2) sh2⟩⟩
/-- o.f = value, the value may raise -/
theorem su_fld (hv : EU X W value ρ M (fun r M1 => match r with | .ok d => EV X o ρ M1 (dP p) M1 ∧ ∃ fs, M1 p = some (.ins C fs) ∧ fs.length < 1000 ∧ Ψ (.o (.nx ρ (M1.set p (.ins C (putD f d fs))))) | .ex c dd => Ψ (.ex c dd ρ M1))) (c : Cls X.K C) (n : NoAttr X.K C f)
    (hs : swapsWith value (some (.Attribute o f pos')) pos.line X.env = pure false := by rfl) : SU X W (.Assign [.Attribute o f pos'] value pos) ρ M Ψ :=
  (ps_fld (ta := fun σ H Q => ∃ M1, EV X o ρ M1 (dP p) M1 ∧ tE X.K ρ M1 (dP p) M1 σ H Q) ⟨fun pins s σ H Q I ⟨M1, h, q⟩ => h.run pins s σ H Q I q⟩ hv hs).mono fun E σ H ⟨G, sa, k⟩ => ⟨G, sa, fun v1 G1 H1 d M1 ⟨ho, fs, hm, hl, q⟩ g1 sh1 r1 => ⟨M1, ho, G1, ⟨sh1, sa.sl.up g1⟩, fun v2 G2 H2 g2 sh2 r2 => by
    obtain ⟨_, dx, fv, hv, rf⟩ := sh2.mem p _ hm
    refine ⟨p, C, dx, fv, r2.of_val, hv, c, n, by rw [rf.len]; exact hl, ?_⟩
    exact k _ q σ G2 _ (g1.trans g2) ⟨sh2.putI hm (rf.put (r1.up g2)), (sa.sl.up g1).up g2⟩⟩, fun cls dd G1 H1 M1 q g1 sh1 => k _ q σ G1 H1 g1 ⟨sh1, sa.sl.up g1⟩⟩
end
section
variable {X : Cx} {ρ : Sl} {M : Mem} {pos : Pos} {Ψ : Out → Prop}
def tryR1 (X : Cx) (C : Addr) (i : Nat) (suite : List Stmt) (Ψ : Out → Prop) : OutX → Prop
  | .o o => Ψ o
  | .ex cls dd ρ' M' => cls = .ref C ∧ ∀ (a : Addr) (oe : Obj) (pn : List (Addr × Obj)), Zc (.ref C) dd oe → (∃ vs, oe.data = .fields vs) → BV (X.suite a ((a, oe) :: pn)) suite (ρ'.set i (some (dP a))) M' (suiteR i Ψ)
/-- try: .. except C as e: .. -/
theorem sv_tryU1 {body suite : List Stmt} {b₀ : Stmt} {z n : Str} {p5 p6 : Pos} {i : Nat} {C : Addr} (hs : X.stack = X.env :: X.outer) (hf : X.env.frame = some X.env.locals) (tk : Takes X (fun _ _ _ _ => False))
    (h3 : Names X z (.ref C)) (hyes : PySem.W.exmOne X.K (.ref C) (.ref C) = some true) (hN : X.N.Nodup) (hi : X.N[i]? = some n) (hln : X.env.kindOf n = some .local)
    (hb : ∀ (W : WX) (pn : List (Addr × Obj)) (xe : Value → Shared → Prop), Takes (X.tr pn xe) W → PassesOwn (model X.prog X.w) X.A X.env xe → BU (X.tr pn xe) W body ρ M (tryR1 X C i (b₀ :: suite) Ψ)) :
    SV X (.Try body [.ExceptHandler (some (.Name z p5)) (some n) (b₀ :: suite) p6] [] [] pos) ρ M Ψ := by
  refine (ps_try_g (tb := fun W => tSU X.K W ρ M (tryR1 X C i (b₀ :: suite) Ψ)) (Wout := fun _ _ _ _ => False)
    (l := [.as (.ref C) i (fun a cls d D σ H => ∃ (ρ' : Sl) (M' : Mem), cls = .ref C ∧ (∀ (oe : Obj) (pn : List (Addr × Obj)), Zc (.ref C) d oe → (∃ vs, oe.data = .fields vs) → BV (X.suite a ((a, oe) :: pn)) (b₀ :: suite) (ρ'.set i (some (dP a))) M' (suiteR i Ψ)) ∧ tS X.K (ρ'.set i (some (dP a))) M' (suiteR i Ψ) D σ H)])
    hs hf tk (fun W pn xe tk' po => hb W pn xe tk' po) (.as h3 hN hi hln (fun a oe cls d pn hz hd => ⟨fun pins s σ H D I ⟨ρ', M', e1, run, q⟩ => ?_⟩) .nil)).mono fun E σ H ⟨G, sa, k⟩ => ⟨G, sa, fun o ho => ?_⟩
  · subst e1
    exact (run oe pn hz hd).run pins s σ H D I q
  · cases o with
    | o o => exact k o ho
    | ex cls dd ρ' M' =>
      obtain ⟨rfl, run⟩ := ho
      refine fun σ' G' H' g sa' => ⟨true, hyes, fun _ a na => ⟨ρ', M', rfl, run a, G', ⟨sa'.sh, sa'.sl.set i (.val _)⟩, fun o ho => ?_⟩, fun h => nomatch h⟩
      cases o with
      | ret d M2 => exact (k _ ho).up g
      | nx ρ2 M2 => exact fun σ2 G2 H2 g2 sa2 => (k _ ho).up g _ G2 H2 g2 ⟨sa2.sh, sa2.sl.none i⟩
      | bk ρ2 M2 => exact ho.elim
      | ct ρ2 M2 => exact ho.elim
end
end Vt
namespace Vt
open PySem PySem.Spec PyProof.Rows L2
/-! ### methods of the program's classes -/
structure MetC (P : Program) (w : World) (K : PySem.W.Frag) (mg : Str → Option Value) (base : Heap) (k : Nat) (C : Addr) (m : Str) (sp : Sp) : Prop where
  ex : ∃ f fd ps, Meth K C m f ∧ Binds K fd ps [] ∧ FnOk P w K mg base CX0 k f fd ps sp
structure MetX (P : Program) (w : World) (K : PySem.W.Frag) (mg : Str → Option Value) (base : Heap) (k : Nat) (C : Addr) (m : Str) (sp : Sp) : Prop where
  ex : ∃ f fd ps, Meth K C m f ∧ Binds K fd ps [] ∧ FnOk P w K mg base (L2.CX P w) k f fd ps sp
theorem RepF.no {K : PySem.W.Frag} {G : Hp} {k : Str} : ∀ {fv : List (Str × V)} {fs : List (Str × D)}, RepF K G fv fs → fs.lookup k = none → fv.lookup k = none
  | [], [], _, _ => rfl
  | [], _ :: _, h, _ => by have := h.ks; cases this
  | _ :: _, [], h, _ => by have := h.ks; cases this
  | (k1, v1) :: fv, (k2, d2) :: fs, ⟨ks, vs⟩, e => by
    rw [List.map_cons, List.map_cons] at ks vs
    obtain ⟨e1, e2⟩ := List.cons.inj ks
    obtain rfl : k1 = k2 := e1
    cases vs with
    | cons r1 t =>
      simp only [List.lookup] at e ⊢
      split at e
      · cases e
      · exact RepF.no ⟨e2, t⟩ e
/-- the promise of a method, from its body -/
theorem fnW_of {P : Program} {w : World} {K : PySem.W.Frag} {mg : Str → Option Value} {base : Heap} {x qual : Str} {sd : Stmt} {f : Addr} {fd : FuncData} {N ps : List Str} {k : Nat} {R : List D → Mem → (D → Mem → Prop) → Prop} (F : Fun K x qual sd f fd) (S : FnScope N ps (defScope sd)) (len : ∀ ds M Φ, R ds M Φ → ds.length = ps.length)
    (hb : ∀ (cdv : Value) (A : Around) (outer : List Env) (s : Shared) (H : Hp) (E : XK) (ds : List D) (M : Mem) (Φ : D → Mem → Prop), Room k (A.deeper (envOfC qual (defScope sd) s.heap.objs.size f cdv)) → R ds M Φ →
      BV (cxOf CX0 P w K mg base N qual (defScope sd) f cdv A outer s H E).nox (defBody sd) (startD N ds) M (FinW Φ)) : FnOk P w K mg base CX0 (k + 1) f fd ps (spW K R) := by
  refine F.ok S (fun vs H Q E ⟨G, ds, M, Φ, sh, r, p, q⟩ => by rw [r.len]; exact len _ _ _ p) fun cdv A outer s H vs Q E hr ⟨G, ds, M, Φ, sh, r, p, q⟩ => ?_
  refine ⟨_, hb cdv A outer s H E ds M Φ hr p, G, ⟨sh, start_rep r⟩, fun o ho => ?_⟩
  cases o with
  | ret d' M'' =>
    obtain ⟨M', hp, hm⟩ := ho
    exact fun v G' H' g sh' r' => q v G' H' d' M' hp g (sh'.weak hm) r'
  | nx ρ M'' =>
    obtain ⟨M', hp, hm⟩ := ho
    exact fun σ' G' H' g sa' => q .non G' H' dN M' hp g (sa'.sh.weak hm) (.val _)
  | bk _ _ => exact ho.elim
  | ct _ _ => exact ho.elim
section
variable {X : Cx} {W : WX} {ρ : Sl} {M M1 : Mem} {o e : Expr} {es : List Expr} {pos apos : Pos} {Φ : D → Mem → Prop} {ΦU : Res → Mem → Prop} {m : Str} {C p : Addr} {k : Nat} {fs : List (Str × D)} {pl : Sem Bool}
/-- o.m(e, ..) -/
theorem ew_meth {R : List D → Mem → (D → Mem → Prop) → Prop} (B : MetC X.prog X.w X.K X.mg X.base k C m (spW X.K R)) (c : Cls X.K C) (hr : Room k X.A) (ho : EV X o ρ M (dP p) M1) (hm : M1 p = some (.ins C fs)) (hl : fs.lookup m = none) (ha : AW X (e :: es) ρ M1 (fun ds M2 => R (dP p :: ds) M2 Φ))
    (hst : starEach (e :: es) X.env = (false, eval e X.env) :: starEach es X.env := by rfl) (hpl : (backTo pos (starEach es X.env)).any (·.1) = false := by rfl)
    (ht : eval (.Call (.Attribute o m apos) (e :: es) [] pos) X.env = (do
      let ov ← eval o X.env
      standAt apos.atName
      let (f, first) ← holding [ov] (getMethod ov m pl)
      callWith pos f first (backTo pos (starEach (e :: es) X.env)) (backToKw pos (keywordEach [] X.env))) := by rfl) :
    EW X (.Call (.Attribute o m apos) (e :: es) [] pos) ρ M Φ := by
  obtain ⟨f, fd, ps, mt, bi, F⟩ := B.ex
  refine (pe_meth ho c mt F hr bi .nil pass0 ha (hst := hst) (hpl := hpl) (ht := ht)).mono fun σ H Q ⟨G, sa, kk⟩ => ⟨G, sa, fun v1 G1 H1 g1 sh1 r1 => ?_⟩
  obtain ⟨_, dx, fv, hv, rf⟩ := sh1.mem p _ hm
  refine ⟨p, dx, fv, r1.of_val, hv, rf.no hl, G1, ⟨sh1, sa.sl.up g1⟩, fun vs G2 H2 ds M2 hR g2 sh2 r2 => ?_⟩
  show spW X.K R (v1 :: (vs ++ [])) H2 Q E0
  rw [List.append_nil]
  exact ⟨G2, dP p :: ds, M2, Φ, sh2, .cons (r1.up g2) r2, hR, fun v G' H' d M' q g sh r => kk v G' H' d M' q ((g1.trans g2).trans g) sh r⟩
/-- o.m() -/
theorem ew_meth0 {R : List D → Mem → (D → Mem → Prop) → Prop} (B : MetC X.prog X.w X.K X.mg X.base k C m (spW X.K R)) (c : Cls X.K C) (hr : Room k X.A) (ho : EV X o ρ M (dP p) M1) (hm : M1 p = some (.ins C fs)) (hl : fs.lookup m = none) (hR : R [dP p] M1 Φ)
    (ht : eval (.Call (.Attribute o m apos) [] [] pos) X.env = (do
      let ov ← eval o X.env
      standAt apos.atName
      let (f, first) ← holding [ov] (getMethod ov m pl)
      callWith pos f first (backTo pos (starEach [] X.env)) (backToKw pos (keywordEach [] X.env))) := by rfl) :
    EW X (.Call (.Attribute o m apos) [] [] pos) ρ M Φ := by
  obtain ⟨f, fd, ps, mt, bi, F⟩ := B.ex
  refine (pe_meth0 ho c mt F hr bi .nil pass0 (ht := ht)).mono fun σ H Q ⟨G, sa, kk⟩ => ⟨G, sa, fun v1 G1 H1 g1 sh1 r1 => ?_⟩
  obtain ⟨_, dx, fv, hv, rf⟩ := sh1.mem p _ hm
  refine ⟨p, dx, fv, r1.of_val, hv, rf.no hl, ?_⟩
  show spW X.K R (v1 :: ([] ++ [])) H1 Q E0
  exact ⟨G1, [dP p], M1, Φ, sh1, .cons r1 .nil, hR, fun v G' H' d M' q g sh r => kk v G' H' d M' q (g1.trans g) sh r⟩
end
def tMethS (C : Addr) (m : Str) (sp : Sp) (E : L2.St → XK) (ta : TE) (t : TA) : TE := fun σ H Q => ta σ H fun x H1 => ∃ a dx fs, x = .ref a ∧ H1 a = some (.ins C dx fs) ∧ fs.lookup m = none ∧ t σ H1 fun vs H2 => sp (x :: vs) H2 Q (E σ)
theorem pe_methSX {X : Cx} {CX : CXT} {k : Nat} {C f : Addr} {fd : FuncData} {ps : List Str} {m : Str} {sp : Sp} {E : L2.St → XK} {o e : Expr} {es : List Expr} {ta : TE} {t : TA} {apos pos : Pos} {pl : Sem Bool} (he : PE X o ta) (c : Cls X.K C) (hm : Meth X.K C m f) (F : FnOk X.prog X.w X.K X.mg X.base CX k f fd ps sp) (hr : Room k X.A) (hb : Binds X.K fd ps []) (hx : ∀ σ, PassesAt CX X σ (E σ)) (ha : PA X (e :: es) t)
    (hst : starEach (e :: es) X.env = (false, eval e X.env) :: starEach es X.env := by rfl) (hpl : (backTo pos (starEach es X.env)).any (·.1) = false := by rfl)
    (ht : eval (.Call (.Attribute o m apos) (e :: es) [] pos) X.env = (do
      let ov ← eval o X.env
      standAt apos.atName
      let (f, first) ← holding [ov] (getMethod ov m pl)
      callWith pos f first (backTo pos (starEach (e :: es) X.env)) (backToKw pos (keywordEach [] X.env))) := by rfl) :
    PE X (.Call (.Attribute o m apos) (e :: es) [] pos) (tMethS C m sp E ta t) := by
  refine ⟨fun pins s σ H Q I h => ?_⟩
  refine PySem.W.methodCall_KW (pl := pl) (thn (he.run pins s σ H _ I h) fun u s1 ⟨x, H1, I1, rx, a, dx, fs, ex, ea, l, q⟩ => ?_) ht
  subst ex
  obtain rfl : u = Value.ref a := rx
  refine getmeth_ok I1 ea c hm l ?_
  refine PySem.W.callWith_K (first := [.ref a]) (h₀ := X.base) I.ok.mod.kin hm.kp (thn (ha.run pos pins s1 σ H1 _ I1 q) fun us s2 ⟨vs, H2, I2, r, q2⟩ => ⟨I2.kIn, ?_⟩) hst hpl
  exact run_fnS (us := .ref a :: us) (vs := .ref a :: vs) F hr hb (hx σ) I2 (.cons rfl r) q2
section
variable {X : Cx} {W : WX} {ρ : Sl} {M M1 : Mem} {o e : Expr} {es : List Expr} {pos apos : Pos} {Φ : Res → Mem → Prop} {m : Str} {C p : Addr} {k : Nat} {fs : List (Str × D)} {pl : Sem Bool}
/-- o.m(e, ..) that may raise -/
theorem eu_meth {R : List D → Mem → (Res → Mem → Prop) → Prop} (B : MetX X.prog X.w X.K X.mg X.base k C m (spU X.K R)) (c : Cls X.K C) (tk : Takes X W) (hr : Room k X.A) (ho : EV X o ρ M (dP p) M1) (hm : M1 p = some (.ins C fs)) (hl : fs.lookup m = none) (ha : AW X (e :: es) ρ M1 (fun ds M2 => R (dP p :: ds) M2 Φ))
    (hst : starEach (e :: es) X.env = (false, eval e X.env) :: starEach es X.env := by rfl) (hpl : (backTo pos (starEach es X.env)).any (·.1) = false := by rfl)
    (ht : eval (.Call (.Attribute o m apos) (e :: es) [] pos) X.env = (do
      let ov ← eval o X.env
      standAt apos.atName
      let (f, first) ← holding [ov] (getMethod ov m pl)
      callWith pos f first (backTo pos (starEach (e :: es) X.env)) (backToKw pos (keywordEach [] X.env))) := by rfl) :
    EU X W (.Call (.Attribute o m apos) (e :: es) [] pos) ρ M Φ := by
  obtain ⟨f, fd, ps, mt, bi, F⟩ := B.ex
  refine (pe_methSX (E := WE W) ho c mt F hr bi (passAt tk) ha (hst := hst) (hpl := hpl) (ht := ht)).mono fun σ H Q ⟨G, sa, k1, k2⟩ => ⟨G, sa, fun v1 G1 H1 g1 sh1 r1 => ?_⟩
  obtain ⟨_, dx, fv, hv, rf⟩ := sh1.mem p _ hm
  refine ⟨p, dx, fv, r1.of_val, hv, rf.no hl, G1, ⟨sh1, sa.sl.up g1⟩, fun vs G2 H2 ds M2 hR g2 sh2 r2 => ?_⟩
  exact ⟨G2, dP p :: ds, M2, Φ, sh2, .cons (r1.up g2) r2, hR, fun v G' H' d M' q g sh r => k1 v G' H' d M' q ((g1.trans g2).trans g) sh r, fun cls dd G' H' M' q g sh => k2 cls dd G' H' M' q ((g1.trans g2).trans g) sh⟩
end
end Vt
namespace Vt
open PySem PySem.Spec PyProof.Rows L2
/-! ### while -/
section
variable {X : Cx} {ρ : Sl} {M : Mem} {c : Expr} {pos : Pos} {Ψ : Out → Prop}
/-- where a turn of a while leads -/
def whileR (J : Nat → Sl → Mem → Prop) (Ψ : Out → Prop) (m : Nat) : Out → Prop
  | .nx ρ M => ∃ k, k < m ∧ J k ρ M
  | .ct ρ M => ∃ k, k < m ∧ J k ρ M
  | .bk ρ M => Ψ (.nx ρ M)
  | .ret d M => Ψ (.ret d M)
/-- while c: J m is what holds ahead of a turn, m grows less -/
theorem sv_while {body : List Stmt} (J : Nat → Sl → Mem → Prop) (m0 : Nat) (h0 : J m0 ρ M) (turn : ∀ m ρ' M', J m ρ' M' → ∃ b, TV X c ρ' M' b M' ∧ (b = true → BV X body ρ' M' (whileR J Ψ m)) ∧ (b = false → Ψ (.nx ρ' M')))
    (hp : PassesOwn (model X.prog X.w) X.A X.env X.xe := by exact PassesOwn.never) : SV X (.While c body [] pos) ρ M Ψ := by
  refine (ps_while (tc := fun σ H Q => ∃ ρ M b, TV X c ρ M b M ∧ tT X.K ρ M b M σ H Q) (tb := fun E σ H => ∃ ρ M Ψ', BV X body ρ M Ψ' ∧ tS X.K ρ M Ψ' E σ H) hp ⟨fun pins s σ H Q I ⟨_, _, _, hb, q⟩ => hb.run pins s σ H Q I q⟩ ⟨fun pins s σ H E I ⟨_, _, _, hb, q⟩ => hb.run pins s σ H E I q⟩).mono fun E σ H ⟨G, sa, k⟩ => ?_
  refine ⟨fun m σ H => ∃ G1 ρ M, Same G G1 ∧ SA X.K G1 H σ ρ M ∧ J m ρ M, ⟨m0, G, ρ, M, Same.refl _, sa, h0⟩, ?_⟩
  rintro m σ1 H1 ⟨G1, ρ1, M1, g1, sa1, j⟩
  obtain ⟨b, tv, yes, no⟩ := turn m ρ1 M1 j
  refine ⟨ρ1, M1, b, tv, G1, sa1, fun G2 H2 g2 sh2 => ?_⟩
  cases b with
  | true =>
    rw [if_pos rfl]
    refine ⟨fun σ3 H3 => ∃ G3 ρ3 M3 k, Same G G3 ∧ SA X.K G3 H3 σ3 ρ3 M3 ∧ k < m ∧ J k ρ3 M3, fun σ' H' ⟨G3, ρ3, M3, k, g3, sa3, hk, jk⟩ => ⟨k, hk, G3, ρ3, M3, g3, sa3, jk⟩, ρ1, M1, _, yes rfl, G2, ⟨sh2, sa1.sl.up g2⟩, fun o ho => ?_⟩
    cases o with
    | nx ρ4 M4 => exact fun σ4 G4 H4 g4 sa4 => let ⟨k, hk, jk⟩ := ho; ⟨G4, ρ4, M4, k, (g1.trans g2).trans g4, sa4, hk, jk⟩
    | ct ρ4 M4 => exact fun σ4 G4 H4 g4 sa4 => let ⟨k, hk, jk⟩ := ho; ⟨G4, ρ4, M4, k, (g1.trans g2).trans g4, sa4, hk, jk⟩
    | bk ρ4 M4 => exact fun σ4 G4 H4 g4 sa4 => k _ ho σ4 G4 H4 ((g1.trans g2).trans g4) sa4
    | ret d4 M4 => exact fun v G4 H4 g4 sh4 r4 => k _ ho v G4 H4 ((g1.trans g2).trans g4) sh4 r4
  | false =>
    rw [if_neg (by decide)]
    exact k _ (no rfl) σ1 G2 H2 (g1.trans g2) ⟨sh2, sa1.sl.up g2⟩
end
/-! ### lcm of three ints -/
section
variable {X : Cx}
def rLcm3 : List V → Hp → VK → Prop := fun vs H Q => ∃ a b c : Int, vs = [.int a, .int b, .int c] ∧ (a.natAbs < 2 ^ 100 ∧ b.natAbs < 2 ^ 100 ∧ c.natAbs < 2 ^ 100) ∧ Q (.int ((Nat.lcm (Nat.lcm a.natAbs b.natAbs) c.natAbs : Nat) : Int)) H
theorem lcm3_run (a : Int) (t : Tok) (b : Int) (u : Tok) (c : Int) (v : Tok) (q1 : ¬(max 1 a.natAbs).log2 / 30 + 1 > 450) (q2 : ¬(max ((Nat.lcm 1 a.natAbs)) b.natAbs).log2 / 30 + 1 > 450) (q3 : ¬(max (((Nat.lcm 1 a.natAbs)).lcm b.natAbs) c.natAbs).log2 / 30 + 1 > 450)
    (hsz : (((((Nat.lcm 1 a.natAbs).lcm b.natAbs).lcm c.natAbs : Nat) : Int)).natAbs.log2 < bitsLine) :
    Gives (Builtin.«math.lcm» ⟨[.int a t, .int b u, .int c v], []⟩) (.int (((((Nat.lcm 1 a.natAbs).lcm b.natAbs).lcm c.natAbs : Nat) : Int))) :=
  .of_wp fun M A E s Q h => by
    obtain ⟨hp, g, d, tk, os⟩ := s
    wp_walk
    rw [if_neg q2]
    wp_walk
    rw [if_neg q3]
    wp_walk
    refine wpAny_ite_false (decide_eq_false (Nat.not_le.mpr hsz)) ?_
    wp_walk
    exact ⟨_, rfl, h⟩
theorem lcm3_args (a b c : Value) : argsOk "math.lcm" ⟨[a, b, c], []⟩ := by unfold argsOk; kernel_rfl
theorem cr_lcm3 : CallR X (.builtin "math.lcm") rLcm3 := by
  intro pins s σ H vs us Q I r h
  obtain ⟨a, b, c, rfl, ⟨ha, hb, hc⟩, q⟩ := h
  obtain ⟨t, u, v, rfl⟩ : ∃ t u v, us = [Value.int a t, Value.int b u, Value.int c v] := by
    cases r with
    | cons r1 t1 =>
      obtain ⟨t, u, rfl⟩ := Vals.int2 t1
      obtain ⟨w, rfl⟩ := r1
      exact ⟨w, t, u, rfl⟩
  have e : (Nat.lcm 1 a.natAbs) = a.natAbs := Nat.lcm_one_left _
  have lt : ∀ {n k : Nat}, n < 2 ^ k → 0 < k → n.log2 ≤ k := fun {n k} h hk => by
    by_cases z : n = 0
    · subst z
      rw [Nat.log2_zero]
      exact Nat.zero_le _
    · exact Nat.le_of_lt ((Nat.log2_lt z).mpr h)
  have h1 : Nat.lcm a.natAbs b.natAbs < 2 ^ 200 := Nat.lt_of_le_of_lt (show a.natAbs * b.natAbs / _ ≤ _ from Nat.div_le_self _ _) (Nat.lt_of_lt_of_eq (Nat.mul_lt_mul'' ha hb) (by decide))
  have h2 : Nat.lcm (Nat.lcm a.natAbs b.natAbs) c.natAbs < 2 ^ 300 := Nat.lt_of_le_of_lt (show Nat.lcm a.natAbs b.natAbs * c.natAbs / _ ≤ _ from Nat.div_le_self _ _) (Nat.lt_of_lt_of_eq (Nat.mul_lt_mul'' h1 hc) (by decide))
  have up : ∀ {n k : Nat}, k ≤ 300 → n < 2 ^ k → n < 2 ^ 300 := fun hk h => Nat.lt_of_lt_of_le h (Nat.pow_le_pow_right (by decide) hk)
  have big : ∀ {n : Nat}, n < 2 ^ 300 → ¬(n.log2 / 30 + 1 > 450) := fun {n} h => by
    have := lt h (by decide)
    omega
  have one : (1 : Nat) < 2 ^ 300 := Nat.one_lt_two_pow (by decide)
  have g := lcm3_run a t b u c v (big (Nat.max_lt.mpr ⟨one, up (by decide) ha⟩)) (by rw [e]; exact big (Nat.max_lt.mpr ⟨up (by decide) ha, up (by decide) hb⟩)) (by rw [e]; exact big (Nat.max_lt.mpr ⟨up (by decide) h1, up (by decide) hc⟩)) (by
    rw [e, Int.natAbs_natCast]
    have := lt h2 (by decide)
    exact Nat.lt_of_le_of_lt this (by decide))
  rw [e] at g
  exact call_function_meets PySem.W.MGF.kind_lcm PySem.W.MGF.plain_lcm PySem.W.MGF.entry_lcm (lcm3_args _ _ _) g.meets ⟨.int _, H, I.tok _, ⟨_, rfl⟩, q⟩
end
end Vt
namespace Vt
open PySem PySem.Spec PyProof.Rows L2
/-! ### the order of rows of ints -/
theorem lexLt_asym : ∀ {x y : List Int}, HT.lexLt x y = true → HT.lexLt y x = false
  | [], [], _ => rfl
  | [], _ :: _, _ => rfl
  | _ :: _, [], h => by cases h
  | a :: x, b :: y, h => by
    rw [HT.lexLt_cons] at h ⊢
    by_cases e : a = b
    · rw [if_pos e] at h
      rw [if_pos e.symm]
      exact lexLt_asym h
    · rw [if_neg e] at h
      rw [if_neg (Ne.symm e)]
      have := of_decide_eq_true h
      exact decide_eq_false (by omega)
theorem lexLt_tr : ∀ {x y z : List Int}, HT.lexLt y x = false → HT.lexLt z y = false → HT.lexLt z x = false
  | [], [], [], h, _ => h
  | [], [], _ :: _, _, _ => rfl
  | [], _ :: _, [], _, h => by cases h
  | [], _ :: _, _ :: _, _, _ => rfl
  | _ :: _, [], _, h, _ => by cases h
  | _ :: _, _ :: _, [], _, h => by cases h
  | a :: x, b :: y, c :: z, h, k => by
    rw [HT.lexLt_cons] at h k ⊢
    by_cases e1 : b = a
    · rw [if_pos e1] at h
      subst e1
      by_cases e2 : c = b
      · rw [if_pos e2] at k ⊢
        exact lexLt_tr h k
      · rw [if_neg e2] at k ⊢
        exact k
    · rw [if_neg e1] at h
      have q1 := of_decide_eq_false h
      by_cases e2 : c = b
      · subst e2
        rw [if_neg e1]
        exact h
      · rw [if_neg e2] at k
        have q2 := of_decide_eq_false k
        rw [if_neg (by omega)]
        exact decide_eq_false (by omega)
theorem lexLt_eq : ∀ {x y : List Int}, x.length = y.length → HT.lexLt x y = false → HT.lexLt y x = false → x = y
  | [], [], _, _, _ => rfl
  | [], _ :: _, h, _, _ => by cases h
  | _ :: _, [], h, _, _ => by cases h
  | a :: x, b :: y, hl, h, k => by
    rw [HT.lexLt_cons] at h k
    by_cases e : a = b
    · rw [if_pos e] at h
      rw [if_pos e.symm] at k
      subst e
      rw [lexLt_eq (by simpa using hl) h k]
    · rw [if_neg e] at h
      rw [if_neg (Ne.symm e)] at k
      have := of_decide_eq_false h
      have := of_decide_eq_false k
      omega
theorem lexLt_swo (k : Value → List Int) : SrtO.Swo (fun u v => HT.lexLt (k u) (k v)) := ⟨fun _ _ h => lexLt_asym h, fun _ _ _ h1 h2 => lexLt_tr h1 h2⟩
/-! ### sorted and min of rows of tuples of ints -/
def IsTs (K : PySem.W.Frag) (H : Hp) (x : V) (ns : List Int) : Prop := ∃ t, x = V.ref t ∧ SqT K H t (ns.map V.int)
section
variable {prog : Program} {w : World} {A : Around} {E : Value → Shared → Prop} {s : Shared}
theorem kat_ints {b : Bool} {Q : Bool → Shared → Prop} : ∀ {us vs : List Value} {ns ms : List Int} (i : Nat), IntsAre us ns → IntsAre vs ms → ns.length = ms.length → Q (HT.lexLt ns ms) s → PySem.W.KatLex prog w A b false Q (us.zip vs) i s
  | _, _, _, _, _, .nil, .nil, _, h => PySem.W.kat_nil h
  | _, _, _, _, _, .nil, .cons _ _ _, e, _ => by cases e
  | _, _, _, _, _, .cons _ _ _, .nil, e, _ => by cases e
  | _, _, _, _, i, .cons p t hx, .cons q u hy, e, h => by
    refine PySem.W.kat_cons (SeqAt.EqAt.int_int p t q u prog w _ _ ?_)
    rw [HT.lexLt_cons] at h
    refine PySem.W.kat_go (fun e1 => ?_) (fun e1 => ?_)
    · have pq : p = q := by simpa using e1
      rw [if_pos pq] at h
      exact PySem.W.kat_yes (kat_ints (i + 1) hx hy (by simpa using e) h)
    · have pq : ¬ p = q := by simpa using e1
      rw [if_neg pq] at h
      exact PySem.W.kat_no (TS.oneLt_ints _ h)
theorem fst_tups {h : Heap} : ∀ (vs : List Value), (∀ v ∈ vs, ∃ ns, TS.TupInts h v ns ∧ 0 < ns.length) → ∃ fs, PySem.W.KatTups h vs fs ∧ fs.length = vs.length ∧ ∀ f ∈ fs, ∃ n t, f = Value.int n t
  | [], _ => ⟨[], .nil, rfl, fun _ hf => absurd hf (by simp)⟩
  | v :: vs, x => by
    obtain ⟨fs, k, hl, hi⟩ := fst_tups vs fun u hu => x u (List.mem_cons_of_mem _ hu)
    obtain ⟨ns, ⟨a, us, rfl, ⟨o, ho, hc, n, hd⟩, it⟩, h0⟩ := x v List.mem_cons_self
    have l0 : 0 < us.toList.length := by rw [it.length]; exact h0
    have l1 : 0 < us.size := by simpa using l0
    obtain ⟨m, t, hy⟩ := it.all (us.toList[0]'l0) (List.getElem_mem l0)
    refine ⟨us.toList[0]'l0 :: fs, .cons ho hc hd ?_ k, by rw [List.length_cons, hl, List.length_cons], fun f hf => ?_⟩
    · rw [Array.getElem?_eq_getElem l1]
      simp
    · rcases List.mem_cons.mp hf with rfl | hf
      · exact ⟨m, t, hy⟩
      · exact hi f hf
theorem tups_sortable {a : Addr} {vs : List Value} {d : Nat} {k : Value → List Int} (h0 : 0 < vs.length) (hd : 0 < d) (hp : ∀ v ∈ vs, TS.TupInts s.heap v (k v) ∧ (k v).length = d) (ha : ∀ o, s.heap.get? a = some o → o.cls ≠ .type "tuple") :
    SrtO.SortableO prog w A s a vs (fun u v => HT.lexLt (k u) (k v)) := by
  intro h' keep
  have hp2 : ∀ v ∈ vs, TS.TupInts h' v (k v) := fun v hv => (hp v hv).1.keeps fun b o e c => keep b o (fun z => by subst z; exact ha o e c) e
  obtain ⟨fs, g1, g2, g3⟩ := fst_tups vs fun v hv => ⟨_, hp2 v hv, by rw [(hp v hv).2]; exact hd⟩
  refine ⟨tuples' true, fun Q E q => ?_, fun x y hx hy => ?_⟩
  · refine PySem.W.kat_kind (T := .type "int") g1 (by omega) (fun f hf => ?_) (by rfl) ?_
    · obtain ⟨n, t, rfl⟩ := g3 f hf
      exact PySem.W.Looks.now
    · have e : (Value.type "int" != Value.type "tuple") = true := by first | decide +kernel | rfl | decide
      rw [e]
      exact q
  · obtain ⟨a1, us1, e1, ⟨o1, ho1, hc1, n1, hd1⟩, i1⟩ := hp2 _ hx
    obtain ⟨a2, us2, e2, ⟨o2, ho2, hc2, n2, hd2⟩, i2⟩ := hp2 _ hy
    show wpAny (model prog w) A (keyLt' (tuples' true) x.1 y.1) (fun r s' => s' = _ ∧ r = HT.lexLt (k x.1) (k y.1)) (fun _ _ => False) _
    have l1 := (hp _ hx).2
    have l2 := (hp _ hy).2
    have z1 := i1.length
    have z2 := i2.length
    rw [Array.length_toList] at z1 z2
    generalize k x.1 = ns at *
    generalize k y.1 = ms at *
    rw [e1, e2]
    refine PySem.W.kat_lt ho1 hd1 ho2 hd2 ?_
    have sz : decide (us1.size < us2.size) = false := decide_eq_false (by omega)
    rw [sz]
    exact kat_ints 0 i1 i2 (by omega) ⟨rfl, rfl⟩
/-- what min holds of the heap: the rows themselves, the walk's own cells -/
theorem min_turns {R : Result → Shared → Prop} {I S : Addr} {fp wr : List Addr} {n : Nat} {P : Nat → Value → Prop} {St : Nat → Heap → Prop} (W : Walks prog w A.in1 I fp wr n P St) (bt : Nat → Nat → Bool) (Kp : Heap → Prop)
    (hK : ∀ h h' : Heap, Kp h → (∀ b o, b ∉ wr → b ≠ S → h.get? b = some o → h'.get? b = some o) → Kp h')
    (hcmp : ∀ i j vi vj (s : Shared) (Q : Value → Shared → Prop) (E : Value → Shared → Prop), Kp s.heap → P i vi → P j vj → Q (.bool (bt i j)) s → wpAny (model prog w) A.in1 (richCompare .Lt vi vj) Q E s) (hSf : S ∉ fp) :
    ∀ (left at_ : Nat) (s : Shared) (best : Value) (c : Nat), n - (at_ + 1) = left → at_ + 1 ≤ n → St (at_ + 1) s.heap → Kp s.heap → P (argBest bt at_) best →
    s.heap.get? S = some { cls := .type "list", dict := none, data := .seq #[best, best] c, slots := #[] } →
    (∀ v h' tk, P (argBest bt (n - 1)) v → (∀ b o, b ∉ wr → b ≠ S → s.heap.get? b = some o → h'.get? b = some o) → R (.ok (.ret v)) { s with heap := h', toks := tk }) →
    codeAny (model prog w) A (.builtin "min.loop" ⟨[.ref I, .none, .ref S], []⟩) R s
  | 0, at_, s, best, c, hleft, hin, hst, kp, hP, hS, hR => by
    have last : at_ + 1 = n := by omega
    have sw : S ∉ wr := fun z => hSf (W.sub _ z)
    refine codeAny_builtin F.entry_min_loop ?_; rw [Around.under_plainId F.plain_min_loop _]
    refine wpAny_bind (m := seqItems? (.ref S)) (wpAny_seqItems hS rfl (wpAny_bind (m := tryCatch (pyNext (.ref I)) _) (wpAny_tryCatch (W.done s _ _ (last ▸ hst) fun h' tk keep => ?_))))
    have hS2 := keep S _ sw hS
    refine wpAny_bind (m := updateSeq S (fun _ => #[])) (wpAny_updateSeq hS2 rfl (wpAny_bind (wpAny_letGo (wpAny_pure (hR best _ tk (by rw [← last]; exact hP) fun b o q1 q2 e => ?_)))))
    exact (Heap.get?_update_other _ _ (Ne.symm q2)).trans (keep b o q1 e)
  | left + 1, at_, s, best, c, hleft, hin, hst, kp, hP, hS, hR => by
    have more : at_ + 1 < n := by omega
    have sw : S ∉ wr := fun z => hSf (W.sub _ z)
    have nm : (toString "min" ++ toString ".loop" : String) = "min.loop" := by decide
    refine codeAny_builtin F.entry_min_loop ?_; rw [Around.under_plainId F.plain_min_loop _]
    refine wpAny_bind (m := seqItems? (.ref S)) (wpAny_seqItems hS rfl (wpAny_bind (m := tryCatch (pyNext (.ref I)) _) (wpAny_tryCatch (W.item (at_ + 1) s _ _ more hst fun v h' tk hv hst2 keep => ?_))))
    have hS2 := keep S _ sw hS
    have kp2 : Kp h' := hK _ _ kp fun b o q1 _ e => keep b o q1 e
    refine wpAny_bind (m := tryCatch (holding [v, v] (richCompare .Lt v best >>= _)) _) (wpAny_tryCatch (wpAny_holding (wpAny_bind (hcmp (at_ + 1) (argBest bt at_) v best _ _ _ kp2 hv hP ?_))))
    refine wpAny_bind (wpAny_holding (wpAny_truthy_bool ?_)); refine wpAny_bind (wpAny_letGo (wpAny_pure ?_))
    cases hb : bt (at_ + 1) (argBest bt at_) with
    | true =>
      simp only [if_true]
      refine wpAny_bind (wpAny_updateSeq hS2 rfl (wpAny_bind (wpAny_letGo ?_)))
      rw [nm]
      refine wpAny_pure ⟨plainId_quiet F.plain_min_loop _, min_turns W bt Kp hK hcmp hSf left (at_ + 1) _ v _ (by omega) more (W.frame _ _ _ hst2 fun b q o e => ?_) (hK _ _ kp2 fun b o _ q e => ?_) (by simp only [argBest, hb, if_true]; exact hv) (Heap.get?_update_self _ hS2 rfl) fun v' h2 tk2 hv2 keep2 => ?_⟩
      · exact (Heap.get?_update_other _ _ (fun z : S = b => hSf (by rw [z]; exact q))).trans e
      · exact (Heap.get?_update_other _ _ (Ne.symm q)).trans e
      · exact hR v' h2 tk2 hv2 fun b o q1 q2 e => keep2 b o q1 q2 ((Heap.get?_update_other _ _ (Ne.symm q2)).trans (keep b o q1 e))
    | false =>
      simp only [Bool.false_eq_true, if_false]; refine wpAny_bind (wpAny_letGo ?_); rw [nm]
      exact wpAny_pure ⟨plainId_quiet F.plain_min_loop _, min_turns W bt Kp hK hcmp hSf left (at_ + 1) _ best c (by omega) more hst2 kp2 (by simp only [argBest, hb, Bool.false_eq_true, if_false]; exact hP) hS2 fun v' h2 tk2 hv2 keep2 => hR v' h2 tk2 hv2 fun b o q1 q2 e => keep2 b o q1 q2 (keep b o q1 e)⟩
theorem min_start {x : Value} {Q : Value → Shared → Prop}
    (h : wpAny (model prog w) A.in1 (pyIter x) (fun it s₂ => ∃ (I : Addr) (fp wr : List Addr) (n : Nat) (P : Nat → Value → Prop) (S0 : Nat → Heap → Prop) (bt : Nat → Nat → Bool) (Kp : Heap → Prop), it = .ref I ∧ Walks prog w A.in1 I fp wr n P S0 ∧ S0 0 s₂.heap ∧ (∀ b ∈ fp, b < s₂.heap.objs.size) ∧ 0 < n ∧ Kp s₂.heap ∧
      (∀ (S : Addr) (h h' : Heap), s₂.heap.objs.size ≤ S → Kp h → (∀ b o, b ∉ wr → b ≠ S → h.get? b = some o → h'.get? b = some o) → Kp h') ∧
      (∀ i j vi vj (s : Shared) (Q : Value → Shared → Prop) (E : Value → Shared → Prop), Kp s.heap → P i vi → P j vj → Q (.bool (bt i j)) s → wpAny (model prog w) A.in1 (richCompare .Lt vi vj) Q E s) ∧
      ∀ v h' tk, P (argBest bt (n - 1)) v → (∀ b o, b ∉ wr → s₂.heap.get? b = some o → h'.get? b = some o) → Q v { s₂ with heap := h', toks := tk }) E s) :
    wpAny (model prog w) A (call (.builtin "min") [x]) Q E s := by
  have nm : (toString "min" ++ toString ".loop" : String) = "min.loop" := by decide
  refine call_function_tree F.kind_min F.plain_min F.entry_min (F.args_min1 _) (wpAny_bind (m := Builtin.Builtins.bindParams "min" ["key", "default"] 0 ⟨[], []⟩) (wpAny_of_eq (show Builtin.Builtins.bindParams "min" ["key", "default"] 0 ⟨[], []⟩ = pure [none, none] from rfl) (wpAny_bind (wpAny_pure ?_))))
  refine wpAny_bind (wpAny_mono h (fun it s₂ ⟨I, fp, wr, n, P, S0, bt, Kp, e, W, hst, hfp, hn, kp, hK, hcmp, hQ⟩ => ?_) fun _ _ e => e)
  subst e
  refine wpAny_bind (wpAny_newObj_type ?_); rw [nm]
  have sf : s₂.heap.objs.size ∉ fp := fun z => Nat.lt_irrefl _ (hfp _ z)
  have sw : s₂.heap.objs.size ∉ wr := fun z => sf (W.sub _ z)
  have hK2 := hK s₂.heap.objs.size
  refine wpAny_pure ⟨plainId_quiet F.plain_min_loop _, ?_⟩
  refine codeAny_builtin F.entry_min_loop ?_; rw [Around.under_plainId F.plain_min_loop _]
  have hS0 : (s₂.heap.push { cls := .type "list", dict := none, data := .seq #[] 0, slots := #[] }).get? s₂.heap.objs.size = some { cls := .type "list", dict := none, data := .seq #[] 0, slots := #[] } := Heap.get?_push_size _ rfl
  refine wpAny_bind (m := seqItems? (.ref s₂.heap.objs.size)) (wpAny_seqItems hS0 rfl (wpAny_bind (m := tryCatch (pyNext (.ref I)) _) (wpAny_tryCatch (W.item 0 _ _ _ hn (W.frame _ _ _ hst fun b _ o e => Heap.get?_push_of_some _ e) fun v h' tk hv hst2 keep => ?_))))
  have hS2 := keep _ _ sw hS0
  have old : ∀ b o, b ∉ wr → s₂.heap.get? b = some o → h'.get? b = some o := fun b o q e => keep b o q (Heap.get?_push_of_some _ e)
  refine wpAny_bind (m := updateSeq (s₂.heap.objs.size) (fun _ => #[v, v])) (wpAny_updateSeq hS2 rfl ?_); rw [nm]
  refine wpAny_pure ⟨plainId_quiet F.plain_min_loop _, min_turns W bt Kp (fun h h' => hK2 h h' (Nat.le_refl _)) hcmp sf _ 0 _ v _ rfl hn (W.frame _ _ _ hst2 fun b q o e => ?_) (hK2 _ _ (Nat.le_refl _) (hK2 _ _ (Nat.le_refl _) kp fun b o q _ e => old b o q e) fun b o _ q e => ?_) hv (Heap.get?_update_self _ hS2 rfl) fun v' h2 tk2 hv2 keep2 => ?_⟩
  · exact (Heap.get?_update_other _ _ (fun z : _ = b => sf (by rw [z]; exact q))).trans e
  · exact (Heap.get?_update_other _ _ (Ne.symm q)).trans e
  · refine hQ v' h2 tk2 hv2 fun b o q e => ?_
    have ne : b ≠ s₂.heap.objs.size := Nat.ne_of_lt (Heap.lt_size e)
    exact keep2 b o q ne ((Heap.get?_update_other _ _ (Ne.symm ne)).trans (old b o q e))
/-- min(xs), xs a list of tuples of ints -/
theorem min_tups {l : Addr} {vs : List Value} {nss : List (List Int)} {Q : Value → Shared → Prop} (hh : A.handled = none) (hu : A.units + 1 < cLine) (hl : s.heap.IsList l vs.toArray) (hne : 0 < vs.length) (hlen : vs.length = nss.length) (hp : ∀ i v, vs[i]? = some v → TS.TupInts s.heap v (nss.getD i []))
    (h : ∀ v h' tk, vs[argBest (fun i j => HT.lexLt (nss.getD i []) (nss.getD j [])) (vs.length - 1)]? = some v → (∀ b o, s.heap.get? b = some o → h'.get? b = some o) → Q v { s with heap := h', toks := tk }) :
    wpAny (model prog w) A (call (.builtin "min") [.ref l]) Q E s := by
  refine min_start (wpAny_pyIter_list hl ?_)
  have hlt : l < s.heap.objs.size := by obtain ⟨_, e, _⟩ := hl; exact Heap.lt_size e
  have old : ∀ i v, vs[i]? = some v → ∃ a us, v = .ref a ∧ a < s.heap.objs.size ∧ IsTup s.heap a us ∧ IntsAre us.toList (nss.getD i []) := fun i v hv => by
    obtain ⟨a, us, e, ⟨o, ho, r⟩, it⟩ := hp i v hv
    exact ⟨a, us, e, Heap.lt_size ho, ⟨o, ho, r⟩, it⟩
  refine ⟨_, _, _, _, _, _, fun i j => HT.lexLt (nss.getD i []) (nss.getD j []), fun h => ∀ i v, vs[i]? = some v → ∃ a us, v = .ref a ∧ a < s.heap.objs.size ∧ IsTup h a us ∧ IntsAre us.toList (nss.getD i []), rfl, Walks.list (A := A.in1) hh _ l (Nat.ne_of_lt hlt) vs.toArray, ⟨⟨_, Heap.get?_push_size _ rfl, rfl, rfl⟩, hl.push _⟩, fun b hb => ?_, by simpa using hne, fun i v hv => ?_, fun S h1 h2 hS kp keep i v hv => ?_, fun i j vi vj s Q E kp hi hj q => ?_, fun v h' tk hv keep => ?_⟩
  · show b < (s.heap.push _).objs.size
    rw [Heap.size_push]
    rcases List.mem_cons.mp hb with rfl | hb
    · exact Nat.lt_succ_self _
    · rcases List.mem_cons.mp hb with rfl | hb
      · exact Nat.lt_succ_of_lt hlt
      · cases hb
  · obtain ⟨a, us, e, lt, ⟨o, ho, r⟩, it⟩ := old i v hv
    exact ⟨a, us, e, lt, ⟨o, Heap.get?_push_of_some _ ho, r⟩, it⟩
  · obtain ⟨a, us, e, lt, ⟨o, ho, r⟩, it⟩ := kp i v hv
    have hS2 : s.heap.objs.size + 1 ≤ S := by
      have z : (s.heap.push _).objs.size ≤ S := hS
      rw [Heap.size_push] at z
      exact z
    refine ⟨a, us, e, lt, ⟨o, keep a o (fun z => ?_) (fun z => ?_) ho, r⟩, it⟩
    · exact Nat.ne_of_lt lt (List.mem_singleton.mp z)
    · exact Nat.ne_of_lt (Nat.lt_of_lt_of_le lt (Nat.le_of_succ_le hS2)) z
  · obtain ⟨a, us, e, lt, t1, i1⟩ := kp i vi (by simpa using hi)
    obtain ⟨b, ws, e2, lt2, t2, i2⟩ := kp j vj (by simpa using hj)
    subst e
    subst e2
    exact HT.lt_tupInts t1 t2 i1 i2 (show A.in1.units < cLine by exact hu) q
  · refine h v h' tk (by simpa using hv) fun b o e => keep b o (fun z => ?_) (Heap.get?_push_of_some _ e)
    exact Nat.ne_of_lt (Heap.lt_size e) (List.mem_singleton.mp z)
end
section
variable {X : Cx} {pins : List (Addr × Obj)} {s : Shared} {σ : L2.St} {G H : Hp}
theorem ts_val (I : Inv X pins σ H s) (g : Same G H) {x : V} {ns : List Int} {u : Value} (h : IsTs X.K G x ns) (r : RelV x u) : TS.TupInts s.heap u ns ∧ ∃ t, u = Value.ref t ∧ x = V.ref t := by
  obtain ⟨t, rfl, q⟩ := h
  obtain rfl : u = Value.ref t := r
  obtain ⟨its, rv, hT, _⟩ := I.tuple (sqtUp g q)
  exact ⟨⟨t, its.toArray, rfl, hT, by simpa using rv.ints⟩, t, rfl, rfl⟩
theorem tss_val (I : Inv X pins σ H s) (g : Same G H) : ∀ {xs : List V} {nss : List (List Int)} {us : List Value}, Paired (IsTs X.K G) xs nss → Vals xs us →
    us.map (TS.intsOf s.heap) = nss ∧ ∀ u ∈ us, TS.TupInts s.heap u (TS.intsOf s.heap u) ∧ ∃ t, u = Value.ref t ∧ IsTs X.K G (.ref t) (TS.intsOf s.heap u)
  | _, _, _, .nil, .nil => ⟨rfl, fun u hu => absurd hu (by simp)⟩
  | _, _, _, .cons h t, .cons r rr => by
    obtain ⟨e1, e2⟩ := tss_val I g t rr
    obtain ⟨k1, t', k3, k4⟩ := ts_val I g h r
    refine ⟨by rw [List.map_cons, k1.ints, e1], fun u hu => ?_⟩
    rcases List.mem_cons.mp hu with e | hu
    · subst e
      rw [k1.ints]
      refine ⟨k1, t', k3, ?_⟩
      rw [← k4]
      exact h
    · exact e2 u hu
/-- sorted(xs) -/
def rSortN (K : PySem.W.Frag) : List V → Hp → VK → Prop := fun vs H Q => ∃ (a : Addr) (xs : List V) (nss : List (List Int)) (d : Nat) (G : Hp), vs = [V.ref a] ∧ SqL K H a xs ∧ Same G H ∧ Paired (IsTs K G) xs nss ∧ 0 < d ∧ (∀ ns ∈ nss, ns.length = d) ∧
  ∀ ys qss p, Paired (IsTs K G) ys qss → qss.Perm nss → qss.Pairwise (fun a b => HT.lexLt b a = false) → H p = none → Q (.ref p) (upd H p (.lst ys))
theorem cr_sortN : CallR X (.builtin "sorted") (rSortN X.K) := by
  intro pins s σ H vs us Q I r h
  obtain ⟨a, xs, nss, d, G, rfl, hs, g, hp, hd, hn, q⟩ := h
  obtain ⟨its, rv, hl, hz⟩ := I.list hs
  obtain ⟨u, rfl, ru⟩ := vals1 r
  obtain rfl : u = Value.ref a := ru
  obtain ⟨e1, e2⟩ := tss_val I g hp rv
  have hzz : its.length ≤ sizeLine := by
    have := rv.length
    omega
  have lens : ∀ v ∈ its, (TS.intsOf s.heap v).length = d := fun v hv => hn _ (by rw [← e1]; exact List.mem_map.mpr ⟨v, hv, rfl⟩)
  refine SrtO.sorted_ord (lexLt_swo (TS.intsOf s.heap)) hl.isList hzz (fun h2 h₁ c hc kk => ?_) fun out h1 h2 => ?_
  · refine tups_sortable (s := { s with heap := h₁ }) (by omega) hd (fun v hv => ⟨(e2 v hv).1.keeps fun b o e _ => (kk b o e).2, lens v hv⟩) fun o e => ?_
    have e' : some o = some (seqObj "list" its.toArray 0) := e.symm.trans hc
    cases e'
    intro c
    exact absurd (Value.type.inj c) (by decide)
  · have hmem : ∀ u ∈ out, u ∈ its := fun u hu => h2.perm.mem_iff.mp hu
    have hv : Vals (out.map backV) out := vals_back fun u hu => by
      obtain ⟨t, e, _⟩ := (e2 u (hmem u hu)).2
      exact ⟨t, e⟩
    obtain ⟨n, hat⟩ := sortedAll_at s.heap its out.toArray
    refine ⟨.ref _, upd H (s.heap.objs.size + 1) (.lst (out.map backV)), I.laid (t' := s.toks) (fun _ _ => sortedAll_old) (Nat.le_succ _) (show ObjOk X.prog X.w _ _ _ (.lst (out.map backV)) from ⟨?_, out, n, hv, by simpa using hat⟩), rfl, q _ (out.map (TS.intsOf s.heap)) _ (paired_map out fun u hu => ?_) ?_ ?_ (I.hok.fresh (Nat.le_succ _))⟩
    · rw [List.length_map, h2.perm.length_eq]
      exact hzz
    · obtain ⟨t, e, h3⟩ := (e2 u (hmem u hu)).2
      subst e
      exact h3
    · rw [← e1]
      exact h2.perm.map _
    · exact List.pairwise_map.mpr h1
/-- min(xs) -/
def rMinN (K : PySem.W.Frag) : List V → Hp → VK → Prop := fun vs H Q => ∃ (a : Addr) (xs : List V) (nss : List (List Int)) (G : Hp), vs = [V.ref a] ∧ SqL K H a xs ∧ Same G H ∧ Paired (IsTs K G) xs nss ∧ 0 < nss.length ∧
  ∀ x, xs[argBest (fun i j => HT.lexLt (nss.getD i []) (nss.getD j [])) (nss.length - 1)]? = some x → Q x H
theorem cr_minN (hc : X.calm = true) (hu : X.A.units + 1 < cLine) : CallR X (.builtin "min") (rMinN X.K) := by
  intro pins s σ H vs us Q I r h
  obtain ⟨a, xs, nss, G, rfl, hs, g, hp, hne, q⟩ := h
  obtain ⟨its, rv, hl, hz⟩ := I.list hs
  rw [Vals.ref1 r]
  obtain ⟨e1, e2⟩ := tss_val I g hp rv
  have ln : its.length = nss.length := by rw [← e1, List.length_map]
  refine min_tups (nss := nss) (I.ok.hd hc) hu hl.isList (by omega) ln (fun i v hv => ?_) fun v h' tk hv keep => ?_
  · have e : nss.getD i [] = TS.intsOf s.heap v := by
      rw [List.getD_eq_getElem?_getD, ← e1, List.getElem?_map, hv]
      rfl
    rw [e]
    exact (e2 v (List.mem_of_getElem? hv)).1
  · rw [ln] at hv
    have lx := rv.length
    have hlt := (List.getElem?_eq_some_iff.mp hv).1
    have hx := List.getElem?_eq_getElem (l := xs) (i := argBest (fun i j => HT.lexLt (nss.getD i []) (nss.getD j [])) (nss.length - 1)) (by omega)
    obtain ⟨u, hu2, ru⟩ := rv.get hx
    rw [hv] at hu2
    cases hu2
    exact ⟨_, H, I.kept keep, ru, q _ hx⟩
end
abbrev tZ (ns : List Int) : D := .tup (ns.map dI)
theorem ts_rep {K : PySem.W.Frag} {G : Hp} : ∀ {vs : List V} {nss : List (List Int)}, RepL K G vs (nss.map tZ) → Paired (IsTs K G) vs nss
  | [], [], .nil => .nil
  | _ :: _, ns :: nss, .cons h t => by
    refine .cons ?_ (ts_rep t)
    cases h with
    | tup q r =>
      refine ⟨_, rfl, ?_⟩
      rw [show ns.map dI = (ns.map V.int).map D.val by rw [List.map_map]; rfl] at r
      rw [RepL.of_vals r] at q
      exact q
theorem ts_rep1 {K : PySem.W.Frag} {G : Hp} {v : V} {ns : List Int} (h : IsTs K G v ns) : Rep K G v (tZ ns) := by
  obtain ⟨t, rfl, q⟩ := h
  refine .tup q ?_
  have := RepL.vals (K := K) (G := G) (ns.map V.int)
  rw [List.map_map] at this
  exact this
theorem rep_ts {K : PySem.W.Frag} {G : Hp} : ∀ {vs : List V} {nss : List (List Int)}, Paired (IsTs K G) vs nss → RepL K G vs (nss.map tZ)
  | _, _, .nil => .nil
  | _, _, .cons h t => .cons (ts_rep1 h) (rep_ts t)
theorem lexN_uniq {d : Nat} : ∀ {l m : List (List Int)}, (∀ x ∈ l, x.length = d) → l.Pairwise (fun a b => HT.lexLt b a = false) → m.Pairwise (fun a b => HT.lexLt b a = false) → l.Perm m → l = m
  | [], m, _, _, _, h => (List.Perm.eq_nil h.symm).symm
  | x :: l, [], _, _, _, h => absurd h.length_eq (by simp)
  | x :: l, y :: m, hd, hl, hm, h => by
    have hx : x ∈ y :: m := h.mem_iff.mp List.mem_cons_self
    have hy : y ∈ x :: l := h.mem_iff.mpr List.mem_cons_self
    have e : x = y := by
      rcases List.mem_cons.mp hx with e | hx
      · exact e
      · rcases List.mem_cons.mp hy with e | hy
        · exact e.symm
        · exact lexLt_eq ((hd x List.mem_cons_self).trans (hd y (List.mem_cons_of_mem _ hy)).symm) ((List.pairwise_cons.mp hm).1 x hx) ((List.pairwise_cons.mp hl).1 y hy)
    subst e
    rw [lexN_uniq (fun z hz => hd z (List.mem_cons_of_mem _ hz)) (List.pairwise_cons.mp hl).2 (List.pairwise_cons.mp hm).2 h.cons_inv]
section
variable {X : Cx} {ρ : Sl} {M M1 : Mem} {e : Expr} {pos : Pos}
/-- sorted(xs), xs in the memory: rows of d ints -/
theorem ev_sortedN {q : Addr} {d : Nat} {nss qss : List (List Int)} {p : Pos} (hm : X.mg "sorted" = none) (ha : EV X e ρ M (dP q) M1) (h : M1 q = some (.lst (nss.map tZ))) (hd : 0 < d) (hn : ∀ ns ∈ nss, ns.length = d) (hq : qss.Pairwise (fun a b => HT.lexLt b a = false)) (hp : qss.Perm nss) (hg : Gl X "sorted" := by rfl)
    (hst : starEach [e] X.env = [(false, eval e X.env)] := by rfl) : EV X (.Call (.Name "sorted" p) [e] [] pos) ρ M (.lst (qss.map tZ)) M1 :=
  (pe_callB cr_sortN hg hm boot_sorted (av_cons ha av_nil hst) (he := hst)).mono fun σ H Q ⟨G, sa, k⟩ => ⟨G, sa, fun vs' G1 H1 g1 sh1 r1 => by
    obtain ⟨gq, vs, hv, r⟩ := sh1.mem q _ h
    rw [RepL.of_vals (xs := [.ref q]) r1]
    refine ⟨q, vs, nss, d, G1, rfl, .inl (.inl hv), sh1.le, ts_rep r, hd, hn, fun ys qs' l hys hperm hsort hl => ?_⟩
    have e : qs' = qss := lexN_uniq (d := d) (fun x hx => hn x (hperm.mem_iff.mp hx)) hsort hq (hperm.trans hp.symm)
    subst e
    obtain ⟨sh2, g2⟩ := sh1.new (o := .lst ys) hl
    exact k _ _ _ (g1.trans g2) sh2 (.lst (.inl (.inl upd_same)) ((rep_ts hys).up g2))⟩
/-- min(xs), xs in the memory: rows of ints -/
theorem ev_minN {q : Addr} {nss : List (List Int)} {p : Pos} (hc : X.calm = true) (hu : X.A.units + 64 < cLine) (hm : X.mg "min" = none) (ha : EV X e ρ M (dP q) M1) (h : M1 q = some (.lst (nss.map tZ))) (h0 : 0 < nss.length) (hg : Gl X "min" := by rfl)
    (hst : starEach [e] X.env = [(false, eval e X.env)] := by rfl) : EV X (.Call (.Name "min" p) [e] [] pos) ρ M (tZ (nss.getD (argBest (fun i j => HT.lexLt (nss.getD i []) (nss.getD j [])) (nss.length - 1)) [])) M1 :=
  (pe_callB (cr_minN hc (by omega)) hg hm boot_min (av_cons ha av_nil hst) (he := hst)).mono fun σ H Q ⟨G, sa, k⟩ => ⟨G, sa, fun vs' G1 H1 g1 sh1 r1 => by
    obtain ⟨gq, vs, hv, r⟩ := sh1.mem q _ h
    rw [RepL.of_vals (xs := [.ref q]) r1]
    refine ⟨q, vs, nss, G1, rfl, .inl (.inl hv), sh1.le, ts_rep r, h0, fun x hx => k _ G1 H1 g1 sh1 ?_⟩
    have hl := r.len
    rw [List.length_map] at hl
    have lt := (List.getElem?_eq_some_iff.mp hx).1
    obtain ⟨v, hv2, rv⟩ := RepL.get r (i := argBest (fun i j => HT.lexLt (nss.getD i []) (nss.getD j [])) (nss.length - 1)) (d := tZ (nss.getD (argBest (fun i j => HT.lexLt (nss.getD i []) (nss.getD j [])) (nss.length - 1)) [])) (by
      rw [List.getElem?_map, List.getElem?_eq_getElem (by omega), List.getD_eq_getElem?_getD, List.getElem?_eq_getElem (by omega)]
      rfl)
    rw [hx] at hv2
    cases hv2
    exact rv⟩
end
end Vt
namespace Vt
open PySem PySem.Spec PyProof.Rows L2
/-! ### making an instance whose __init__ raises nothing -/
structure MkD (P : Program) (w : World) (K : PySem.W.Frag) (mg : Str → Option Value) (base : Heap) (k : Nat) (x : Str) (C : Addr) (sp : Sp) : Prop where
  ex : ∃ f fd ps, mg x = some (.ref C) ∧ Mk K C f ∧ Binds K fd ps [] ∧ FnOk P w K mg base CX0 k f fd ps sp
section
variable {X : Cx} {ρ : Sl} {M : Mem} {e : Expr} {es : List Expr} {pos p1 : Pos} {Φ : D → Mem → Prop} {x : Str} {C : Addr} {k : Nat}
theorem ew_make {R : List D → Mem → (D → Mem → Prop) → Prop} (B : MkD X.prog X.w X.K X.mg X.base k x C (spW X.K R)) (hr : Room (k + 1) X.A)
    (h : AW X (e :: es) ρ M (fun ds M1 => ∀ y, M1 y = none → R (dP y :: ds) (M1.set y (.ins C [])) (fun d M2 => d = dN ∧ Φ (dP y) M2)))
    (hg : Gl X x := by rfl) (hdb : (x == ("__debug__" : Str)) = false := by decide) (he : starEach (e :: es) X.env = (false, eval e X.env) :: starEach es X.env := by rfl) (hpl : (backTo pos (starEach es X.env)).any (·.1) = false := by rfl) : EW X (.Call (.Name x p1) (e :: es) [] pos) ρ M Φ := by
  obtain ⟨f, fd, ps, hm, mk, bi, Fi⟩ := B.ex
  refine ⟨fun pins s σ H Q I ⟨G, sa, k1⟩ => ?_⟩
  refine wpAny_Call_Name_kw (ld_glob I hg hm ?_ hdb)
  refine PySem.W.callWith_K (h₀ := X.base) I.ok.mod.kin mk.kp (thn (h.run pos pins s σ H (fun vs H1 => ∀ y dy, H1 y = none → H1 dy = none → dy ≠ y → spW X.K R (.ref y :: vs) (upd (upd H1 dy (.own y)) y (.ins C dy [])) (fun v H2 => v = .non ∧ Q (.ref y) H2) E0) I ⟨G, sa, fun vs G1 H1 ds M1 hR g1 sh1 r1 y dy hy hdy ne => ?_⟩) fun us s1 ⟨vs, H1, I1, r, q⟩ => ⟨I1.kIn, run_makeW mk Fi hr bi (fun pins H s e s' I c => pass0 pins σ H s e s' I c) I1 r q⟩) he hpl
  obtain ⟨shn, my⟩ := sh1.newI (C := C) hy hdy ne
  exact ⟨G1, dP y :: ds, _, _, shn, .cons (.val _) r1, hR y my, fun v G' H' d M' hq g sh rr => by
      obtain ⟨rfl, hq⟩ := hq
      exact ⟨rr.of_val, k1 _ G' H' _ M' hq (g1.trans g) sh (.val _)⟩⟩
end
/-! ### lcm of four ints -/
def rLcm4 : List V → Hp → VK → Prop := fun vs H Q => ∃ a b c d : Int, vs = [.int a, .int b, .int c, .int d] ∧ (a.natAbs < 2 ^ 2000 ∧ b.natAbs < 2 ^ 2000 ∧ c.natAbs < 2 ^ 2000 ∧ d.natAbs < 2 ^ 2000) ∧ Q (.int ((Nat.lcm (Nat.lcm (Nat.lcm a.natAbs b.natAbs) c.natAbs) d.natAbs : Nat) : Int)) H
section
variable {X : Cx}
theorem lcm4_run (a : Int) (t : Tok) (b : Int) (u : Tok) (c : Int) (v : Tok) (d : Int) (w : Tok) (q1 : ¬(max 1 a.natAbs).log2 / 30 + 1 > 450) (q2 : ¬(max ((Nat.lcm 1 a.natAbs)) b.natAbs).log2 / 30 + 1 > 450) (q3 : ¬(max (((Nat.lcm 1 a.natAbs)).lcm b.natAbs) c.natAbs).log2 / 30 + 1 > 450)
    (q4 : ¬(max ((((Nat.lcm 1 a.natAbs)).lcm b.natAbs).lcm c.natAbs) d.natAbs).log2 / 30 + 1 > 450) (hsz : (((((((Nat.lcm 1 a.natAbs).lcm b.natAbs).lcm c.natAbs)).lcm d.natAbs : Nat) : Int)).natAbs.log2 < bitsLine) :
    Gives (Builtin.«math.lcm» ⟨[.int a t, .int b u, .int c v, .int d w], []⟩) (.int (((((((Nat.lcm 1 a.natAbs).lcm b.natAbs).lcm c.natAbs)).lcm d.natAbs : Nat) : Int))) :=
  .of_wp fun M A E s Q h => by
    obtain ⟨hp, g, dr, tk, os⟩ := s
    wp_walk
    rw [if_neg q2]
    wp_walk
    rw [if_neg q3]
    wp_walk
    rw [if_neg q4]
    wp_walk
    refine wpAny_ite_false (decide_eq_false (Nat.not_le.mpr hsz)) ?_
    wp_walk
    exact ⟨_, rfl, h⟩
theorem lcm4_args (a b c d : Value) : argsOk "math.lcm" ⟨[a, b, c, d], []⟩ := by unfold argsOk; kernel_rfl
theorem lcm_lt {a b k l : Nat} (ha : a < 2 ^ k) (hb : b < 2 ^ l) : Nat.lcm a b < 2 ^ (k + l) := Nat.lt_of_le_of_lt (show a * b / _ ≤ _ from Nat.div_le_self _ _) (by rw [Nat.pow_add]; exact Nat.mul_lt_mul'' ha hb)
theorem cr_lcm4 : CallR X (.builtin "math.lcm") rLcm4 := by
  intro pins s σ H vs us Q I r h
  obtain ⟨a, b, c, d, rfl, ⟨ha, hb, hc, hd⟩, q⟩ := h
  obtain ⟨t, u, v, w, rfl⟩ : ∃ t u v w, us = [Value.int a t, Value.int b u, Value.int c v, Value.int d w] := by
    cases r with
    | cons r0 t0 =>
      cases t0 with
      | cons r1 t1 =>
        obtain ⟨t, u, rfl⟩ := Vals.int2 t1
        obtain ⟨w, rfl⟩ := r1
        obtain ⟨z, rfl⟩ := r0
        exact ⟨z, w, t, u, rfl⟩
  have e : (Nat.lcm 1 a.natAbs) = a.natAbs := Nat.lcm_one_left _
  have lt : ∀ {n k : Nat}, n < 2 ^ k → n.log2 ≤ k := fun {n k} h => by
    by_cases z : n = 0
    · subst z
      rw [Nat.log2_zero]
      exact Nat.zero_le _
    · exact Nat.le_of_lt ((Nat.log2_lt z).mpr h)
  have h1 := lcm_lt ha hb
  have h2 := lcm_lt h1 hc
  have h3 := lcm_lt h2 hd
  have big : ∀ {n k : Nat}, k ≤ 9000 → n < 2 ^ k → ¬(n.log2 / 30 + 1 > 450) := fun {n k} hk h => by
    have := lt h
    omega
  have up : ∀ {n k l : Nat}, k ≤ l → n < 2 ^ k → n < 2 ^ l := fun hk h => Nat.lt_of_lt_of_le h (Nat.pow_le_pow_right (by decide) hk)
  have one : (1 : Nat) < 2 ^ 2000 := Nat.one_lt_two_pow (by decide)
  have g := lcm4_run a t b u c v d w (big (k := 2000) (by decide) (Nat.max_lt.mpr ⟨one, ha⟩)) (by rw [e]; exact big (k := 2000) (by decide) (Nat.max_lt.mpr ⟨ha, hb⟩)) (by rw [e]; exact big (k := 2000 + 2000) (by decide) (Nat.max_lt.mpr ⟨h1, up (by decide) hc⟩)) (by rw [e]; exact big (k := 2000 + 2000 + 2000) (by decide) (Nat.max_lt.mpr ⟨h2, up (by decide) hd⟩)) (by
    rw [e, Int.natAbs_natCast]
    have := lt h3
    exact Nat.lt_of_le_of_lt this (by decide))
  rw [e] at g
  exact call_function_meets PySem.W.MGF.kind_lcm PySem.W.MGF.plain_lcm PySem.W.MGF.entry_lcm (lcm4_args _ _ _ _) g.meets ⟨.int _, H, I.tok _, ⟨_, rfl⟩, q⟩
end
section
variable {X : Cx} {ρ : Sl} {M M1 M2 M3 M4 : Mem} {a b c d e : Expr} {pos : Pos}
theorem ev_bf4 {x : Str} {id : String} {p : Pos} {i j k l : Int} {z : V} {r : List V → Hp → VK → Prop} (hc : CallR X (.builtin id) r) (hm : X.mg x = some (.builtin id)) (ha : EV X a ρ M (dI i) M1) (hb : EV X b ρ M1 (dI j) M2) (hc3 : EV X c ρ M2 (dI k) M3) (hd4 : EV X d ρ M3 (dI l) M4) (hr : ∀ H Q, Q z H → r [.int i, .int j, .int k, .int l] H Q) (hg : Gl X x := by rfl)
    (hd : (x == ("__debug__" : Str)) = false := by decide) (hst : starEach [a, b, c, d] X.env = (false, eval a X.env) :: starEach [b, c, d] X.env := by rfl) (hst2 : starEach [b, c, d] X.env = (false, eval b X.env) :: starEach [c, d] X.env := by rfl) (hst3 : starEach [c, d] X.env = (false, eval c X.env) :: starEach [d] X.env := by rfl) (hst4 : starEach [d] X.env = [(false, eval d X.env)] := by rfl) (hpl : (backTo pos (starEach [b, c, d] X.env)).any (·.1) = false := by rfl) : EV X (.Call (.Name x p) [a, b, c, d] [] pos) ρ M (.val z) M4 :=
  (pe_callBfun hc hg hm (av_cons ha (av_cons hb (av_cons hc3 (av_cons hd4 av_nil hst4) hst3) hst2) hst) (hdb := hd) (he := hst) (hpl := hpl)).mono fun σ H Q ⟨G, sa, k'⟩ => ⟨G, sa, fun vs G1 H1 g1 sh1 r1 => by
    rw [RepL.of_vals (xs := [.int i, .int j, .int k, .int l]) r1]
    exact hr _ _ (k' _ G1 H1 g1 sh1 (.val _))⟩
end
end Vt
namespace Vt
open PySem PySem.Spec PyProof.Rows L2
/-! ### comprehensions assigned: lists that are going to be changed, with a test -/
section
variable {X : Cx} {ρ : Sl} {M M1 : Mem} {d : D} {ds : List D} {pos : Pos} {Ψ : Out → Prop} {Φ : D → Mem → Prop} {tg iter : Expr} {g : TG}
theorem sw_setLcN (i : Nat) {y : Str} {py : Pos} {elt : Expr} {scope : Scope} {own : List (Str × Nat)} {spos : Pos} (hc : X.calm = true) (hN : X.N.Nodup) (ok : BlkOk X.N X.env.scope scope own)
    (hg : ∀ (s : Shared) (H : Hp) (C : Addr) (cl : List (Str × Addr)) (fp : List Addr), PG (X.blk s H scope (compEnvC scope cl C X.env) fp) tg g) (hi : IW X tg iter ρ M (LcN X g own scope elt ρ (fun d M1 => Ψ (.nx (ρ.set i (some d)) M1))))
    (hw : swapsWith (.ListComp elt [⟨tg, iter, [], 0⟩] scope pos) (some (.Name y py)) spos.line X.env = pure true := by rfl) (hy : X.N[i]? = some y := by rfl) (hl : X.env.scope.names.lookup y = some .local := by rfl)
    (hs : ∀ x, foldedSetIterable iter X.env x = pure x := by intro _; rfl) : SV X (.Assign [.Name y py] (.ListComp elt [⟨tg, iter, [], 0⟩] scope pos) spos) ρ M Ψ :=
  (ps_setLc hc hN hy hl hw hi ok hg (fun _ _ _ _ _ => pts_nil) (fun s H C cl fp => ⟨fun pins s' σ H' Q I ⟨ρ', M', Φ', hb, q⟩ => (hb s H C cl fp).run pins s' σ H' Q I q⟩) hs).mono fun E σ H ⟨G, sa, k⟩ =>
    lcw_readN (Φ := fun d M1 => Ψ (.nx (ρ.set i (some d)) M1)) σ H _ ⟨G, sa, fun v G1 H1 d M1 q g1 sh1 r1 => k _ q _ G1 H1 g1 ⟨sh1, (sa.sl.up g1).set i r1⟩⟩
theorem sw_setLcF (i : Nat) {y : Str} {py : Pos} {elt cnd : Expr} {scope : Scope} {own : List (Str × Nat)} {spos : Pos} (hc : X.calm = true) (hN : X.N.Nodup) (ok : BlkOk X.N X.env.scope scope own)
    (hg : ∀ (s : Shared) (H : Hp) (C : Addr) (cl : List (Str × Addr)) (fp : List Addr), PG (X.blk s H scope (compEnvC scope cl C X.env) fp) tg g) (hi : IW X tg iter ρ M (LcF X g own scope elt cnd ρ (fun d M1 => Ψ (.nx (ρ.set i (some d)) M1))))
    (hw : swapsWith (.ListComp elt [⟨tg, iter, [cnd], 0⟩] scope pos) (some (.Name y py)) spos.line X.env = pure true := by rfl) (hy : X.N[i]? = some y := by rfl) (hl : X.env.scope.names.lookup y = some .local := by rfl)
    (hs : ∀ x, foldedSetIterable iter X.env x = pure x := by intro _; rfl) : SV X (.Assign [.Name y py] (.ListComp elt [⟨tg, iter, [cnd], 0⟩] scope pos) spos) ρ M Ψ :=
  (ps_setLc hc hN hy hl hw hi ok hg (fun s H C cl fp => pts_one ⟨fun pins s' σ H' Q I ⟨ρ', M', Φ', hb, q⟩ => (hb s H C cl fp).run pins s' σ H' Q I q⟩) (fun s H C cl fp => ⟨fun pins s' σ H' Q I ⟨ρ', M', Φ', hb, q⟩ => (hb s H C cl fp).run pins s' σ H' Q I q⟩) hs).mono fun E σ H ⟨G, sa, k⟩ =>
    lcf_read (Φ := fun d M1 => Ψ (.nx (ρ.set i (some d)) M1)) σ H _ ⟨G, sa, fun v G1 H1 d M1 q g1 sh1 r1 => k _ q _ G1 H1 g1 ⟨sh1, (sa.sl.up g1).set i r1⟩⟩
end
/-! ### min(xs, default=None) of rows of ints -/
theorem args_minD (a : Value) : argsOk "min" ⟨[a], [(Str.ofString "default", .none)]⟩ := by unfold argsOk; kernel_rfl
section
variable {prog : Program} {w : World} {A : Around} {E : Value → Shared → Prop} {s : Shared}
theorem min_turnsD {R : Result → Shared → Prop} {I S : Addr} {fp wr : List Addr} {n : Nat} {P : Nat → Value → Prop} {St : Nat → Heap → Prop} (W : Walks prog w A.in1 I fp wr n P St) (bt : Nat → Nat → Bool) (Kp : Heap → Prop)
    (hK : ∀ h h' : Heap, Kp h → (∀ b o, b ∉ wr → b ≠ S → h.get? b = some o → h'.get? b = some o) → Kp h')
    (hcmp : ∀ i j vi vj (s : Shared) (Q : Value → Shared → Prop) (E : Value → Shared → Prop), Kp s.heap → P i vi → P j vj → Q (.bool (bt i j)) s → wpAny (model prog w) A.in1 (richCompare .Lt vi vj) Q E s) (hSf : S ∉ fp) :
    ∀ (left at_ : Nat) (s : Shared) (best : Value) (c : Nat), n - (at_ + 1) = left → at_ + 1 ≤ n → St (at_ + 1) s.heap → Kp s.heap → P (argBest bt at_) best →
    s.heap.get? S = some { cls := .type "list", dict := none, data := .seq #[best, best] c, slots := #[] } →
    (∀ v h' tk, P (argBest bt (n - 1)) v → (∀ b o, b ∉ wr → b ≠ S → s.heap.get? b = some o → h'.get? b = some o) → R (.ok (.ret v)) { s with heap := h', toks := tk }) →
    codeAny (model prog w) A (.builtin "min.loop" ⟨[.ref I, .none, .ref S], [(Str.ofString "default", .none)]⟩) R s
  | 0, at_, s, best, c, hleft, hin, hst, kp, hP, hS, hR => by
    have last : at_ + 1 = n := by omega
    have sw : S ∉ wr := fun z => hSf (W.sub _ z)
    refine codeAny_builtin F.entry_min_loop ?_; rw [Around.under_plainId F.plain_min_loop _]
    refine wpAny_bind (m := seqItems? (.ref S)) (wpAny_seqItems hS rfl (wpAny_bind (m := tryCatch (pyNext (.ref I)) _) (wpAny_tryCatch (W.done s _ _ (last ▸ hst) fun h' tk keep => ?_))))
    have hS2 := keep S _ sw hS
    refine wpAny_bind (m := updateSeq S (fun _ => #[])) (wpAny_updateSeq hS2 rfl (wpAny_bind (wpAny_letGo (wpAny_pure (hR best _ tk (by rw [← last]; exact hP) fun b o q1 q2 e => ?_)))))
    exact (Heap.get?_update_other _ _ (Ne.symm q2)).trans (keep b o q1 e)
  | left + 1, at_, s, best, c, hleft, hin, hst, kp, hP, hS, hR => by
    have more : at_ + 1 < n := by omega
    have sw : S ∉ wr := fun z => hSf (W.sub _ z)
    have nm : (toString "min" ++ toString ".loop" : String) = "min.loop" := by decide
    refine codeAny_builtin F.entry_min_loop ?_; rw [Around.under_plainId F.plain_min_loop _]
    refine wpAny_bind (m := seqItems? (.ref S)) (wpAny_seqItems hS rfl (wpAny_bind (m := tryCatch (pyNext (.ref I)) _) (wpAny_tryCatch (W.item (at_ + 1) s _ _ more hst fun v h' tk hv hst2 keep => ?_))))
    have hS2 := keep S _ sw hS
    have kp2 : Kp h' := hK _ _ kp fun b o q1 _ e => keep b o q1 e
    refine wpAny_bind (m := tryCatch (holding [v, v] (richCompare .Lt v best >>= _)) _) (wpAny_tryCatch (wpAny_holding (wpAny_bind (hcmp (at_ + 1) (argBest bt at_) v best _ _ _ kp2 hv hP ?_))))
    refine wpAny_bind (wpAny_holding (wpAny_truthy_bool ?_)); refine wpAny_bind (wpAny_letGo (wpAny_pure ?_))
    cases hb : bt (at_ + 1) (argBest bt at_) with
    | true =>
      simp only [if_true]
      refine wpAny_bind (wpAny_updateSeq hS2 rfl (wpAny_bind (wpAny_letGo ?_)))
      rw [nm]
      refine wpAny_pure ⟨plainId_quiet F.plain_min_loop _, min_turnsD W bt Kp hK hcmp hSf left (at_ + 1) _ v _ (by omega) more (W.frame _ _ _ hst2 fun b q o e => ?_) (hK _ _ kp2 fun b o _ q e => ?_) (by simp only [argBest, hb, if_true]; exact hv) (Heap.get?_update_self _ hS2 rfl) fun v' h2 tk2 hv2 keep2 => ?_⟩
      · exact (Heap.get?_update_other _ _ (fun z : S = b => hSf (by rw [z]; exact q))).trans e
      · exact (Heap.get?_update_other _ _ (Ne.symm q)).trans e
      · exact hR v' h2 tk2 hv2 fun b o q1 q2 e => keep2 b o q1 q2 ((Heap.get?_update_other _ _ (Ne.symm q2)).trans (keep b o q1 e))
    | false =>
      simp only [Bool.false_eq_true, if_false]; refine wpAny_bind (wpAny_letGo ?_); rw [nm]
      exact wpAny_pure ⟨plainId_quiet F.plain_min_loop _, min_turnsD W bt Kp hK hcmp hSf left (at_ + 1) _ best c (by omega) more hst2 kp2 (by simp only [argBest, hb, Bool.false_eq_true, if_false]; exact hP) hS2 fun v' h2 tk2 hv2 keep2 => hR v' h2 tk2 hv2 fun b o q1 q2 e => keep2 b o q1 q2 (keep b o q1 e)⟩
theorem min_startD {x : Value} {Q : Value → Shared → Prop}
    (h : wpAny (model prog w) A.in1 (pyIter x) (fun it s₂ => ∃ (I : Addr) (fp wr : List Addr) (n : Nat) (P : Nat → Value → Prop) (S0 : Nat → Heap → Prop) (bt : Nat → Nat → Bool) (Kp : Heap → Prop), it = .ref I ∧ Walks prog w A.in1 I fp wr n P S0 ∧ S0 0 s₂.heap ∧ (∀ b ∈ fp, b < s₂.heap.objs.size) ∧ Kp s₂.heap ∧
      (∀ (S : Addr) (h h' : Heap), s₂.heap.objs.size ≤ S → Kp h → (∀ b o, b ∉ wr → b ≠ S → h.get? b = some o → h'.get? b = some o) → Kp h') ∧
      (∀ i j vi vj (s : Shared) (Q : Value → Shared → Prop) (E : Value → Shared → Prop), Kp s.heap → P i vi → P j vj → Q (.bool (bt i j)) s → wpAny (model prog w) A.in1 (richCompare .Lt vi vj) Q E s) ∧
      (n = 0 → ∀ h' tk, (∀ b o, b ∉ wr → s₂.heap.get? b = some o → h'.get? b = some o) → Q .none { s₂ with heap := h', toks := tk }) ∧
      (0 < n → ∀ v h' tk, P (argBest bt (n - 1)) v → (∀ b o, b ∉ wr → s₂.heap.get? b = some o → h'.get? b = some o) → Q v { s₂ with heap := h', toks := tk })) E s) :
    wpAny (model prog w) A (call (.builtin "min") [x] [(Str.ofString "default", .none)]) Q E s := by
  have nm : (toString "min" ++ toString ".loop" : String) = "min.loop" := by decide
  refine PyProof.Rows.kmk_tree F.kind_min F.plain_min F.entry_min (args_minD _) (wpAny_bind (m := Builtin.Builtins.bindParams "min" ["key", "default"] 0 ⟨[], [(Str.ofString "default", .none)]⟩) (wpAny_of_eq (show Builtin.Builtins.bindParams "min" ["key", "default"] 0 ⟨[], [(Str.ofString "default", .none)]⟩ = pure [none, some .none] from rfl) (wpAny_bind (wpAny_pure ?_))))
  refine wpAny_bind (wpAny_mono h (fun it s₂ ⟨I, fp, wr, n, P, S0, bt, Kp, e, W, hst, hfp, kp, hK, hcmp, hQ0, hQ⟩ => ?_) fun _ _ e => e)
  subst e
  refine wpAny_bind (wpAny_newObj_type ?_); rw [nm]
  have sf : s₂.heap.objs.size ∉ fp := fun z => Nat.lt_irrefl _ (hfp _ z)
  have sw : s₂.heap.objs.size ∉ wr := fun z => sf (W.sub _ z)
  have hK2 := hK s₂.heap.objs.size
  refine wpAny_pure ⟨plainId_quiet F.plain_min_loop _, ?_⟩
  show codeAny (model prog w) A (.builtin "min.loop" ⟨[.ref I, .none, .ref s₂.heap.objs.size], [(Str.ofString "default", .none)]⟩) _ _
  refine codeAny_builtin F.entry_min_loop ?_; rw [Around.under_plainId F.plain_min_loop _]
  have hS0 : (s₂.heap.push { cls := .type "list", dict := none, data := .seq #[] 0, slots := #[] }).get? s₂.heap.objs.size = some { cls := .type "list", dict := none, data := .seq #[] 0, slots := #[] } := Heap.get?_push_size _ rfl
  by_cases hn : 0 < n
  · refine wpAny_bind (m := seqItems? (.ref s₂.heap.objs.size)) (wpAny_seqItems hS0 rfl (wpAny_bind (m := tryCatch (pyNext (.ref I)) _) (wpAny_tryCatch (W.item 0 _ _ _ hn (W.frame _ _ _ hst fun b _ o e => Heap.get?_push_of_some _ e) fun v h' tk hv hst2 keep => ?_))))
    have hS2 := keep _ _ sw hS0
    have old : ∀ b o, b ∉ wr → s₂.heap.get? b = some o → h'.get? b = some o := fun b o q e => keep b o q (Heap.get?_push_of_some _ e)
    refine wpAny_bind (m := updateSeq (s₂.heap.objs.size) (fun _ => #[v, v])) (wpAny_updateSeq hS2 rfl ?_); rw [nm]
    refine wpAny_pure ⟨plainId_quiet F.plain_min_loop _, min_turnsD W bt Kp (fun h h' => hK2 h h' (Nat.le_refl _)) hcmp sf _ 0 _ v _ rfl hn (W.frame _ _ _ hst2 fun b q o e => ?_) (hK2 _ _ (Nat.le_refl _) (hK2 _ _ (Nat.le_refl _) kp fun b o q _ e => old b o q e) fun b o _ q e => ?_) hv (Heap.get?_update_self _ hS2 rfl) fun v' h2 tk2 hv2 keep2 => ?_⟩
    · exact (Heap.get?_update_other _ _ (fun z : _ = b => sf (by rw [z]; exact q))).trans e
    · exact (Heap.get?_update_other _ _ (Ne.symm q)).trans e
    · refine hQ hn v' h2 tk2 hv2 fun b o q e => ?_
      have ne : b ≠ s₂.heap.objs.size := Nat.ne_of_lt (Heap.lt_size e)
      exact keep2 b o q ne ((Heap.get?_update_other _ _ (Ne.symm ne)).trans (old b o q e))
  · have n0 : n = 0 := by omega
    subst n0
    refine wpAny_bind (m := seqItems? (.ref s₂.heap.objs.size)) (wpAny_seqItems hS0 rfl (wpAny_bind (m := tryCatch (pyNext (.ref I)) _) (wpAny_tryCatch (W.done _ _ _ (W.frame _ _ _ hst fun b _ o e => Heap.get?_push_of_some _ e) fun h' tk keep => ?_))))
    exact wpAny_bind (wpAny_rule (wpAny_pure (hQ0 rfl h' tk fun b o q e => keep b o q (Heap.get?_push_of_some _ e))))
/-- min(xs, default=None), xs a list of tuples of ints -/
theorem min_tupsD {l : Addr} {vs : List Value} {nss : List (List Int)} {Q : Value → Shared → Prop} (hh : A.handled = none) (hu : A.units + 1 < cLine) (hl : s.heap.IsList l vs.toArray) (hlen : vs.length = nss.length) (hp : ∀ i v, vs[i]? = some v → TS.TupInts s.heap v (nss.getD i []))
    (h0 : vs.length = 0 → ∀ h' tk, (∀ b o, s.heap.get? b = some o → h'.get? b = some o) → Q .none { s with heap := h', toks := tk })
    (h : ∀ v h' tk, vs[argBest (fun i j => HT.lexLt (nss.getD i []) (nss.getD j [])) (vs.length - 1)]? = some v → (∀ b o, s.heap.get? b = some o → h'.get? b = some o) → Q v { s with heap := h', toks := tk }) :
    wpAny (model prog w) A (call (.builtin "min") [.ref l] [(Str.ofString "default", .none)]) Q E s := by
  refine min_startD (wpAny_pyIter_list hl ?_)
  have hlt : l < s.heap.objs.size := by obtain ⟨_, e, _⟩ := hl; exact Heap.lt_size e
  have old : ∀ i v, vs[i]? = some v → ∃ a us, v = .ref a ∧ a < s.heap.objs.size ∧ IsTup s.heap a us ∧ IntsAre us.toList (nss.getD i []) := fun i v hv => by
    obtain ⟨a, us, e, ⟨o, ho, r⟩, it⟩ := hp i v hv
    exact ⟨a, us, e, Heap.lt_size ho, ⟨o, ho, r⟩, it⟩
  refine ⟨_, _, _, _, _, _, fun i j => HT.lexLt (nss.getD i []) (nss.getD j []), fun h => ∀ i v, vs[i]? = some v → ∃ a us, v = .ref a ∧ a < s.heap.objs.size ∧ IsTup h a us ∧ IntsAre us.toList (nss.getD i []), rfl, Walks.list (A := A.in1) hh _ l (Nat.ne_of_lt hlt) vs.toArray, ⟨⟨_, Heap.get?_push_size _ rfl, rfl, rfl⟩, hl.push _⟩, fun b hb => ?_, fun i v hv => ?_, fun S h1 h2 hS kp keep i v hv => ?_, fun i j vi vj s Q E kp hi hj q => ?_, fun hn h' tk keep => ?_, fun hn v h' tk hv keep => ?_⟩
  · show b < (s.heap.push _).objs.size
    rw [Heap.size_push]
    rcases List.mem_cons.mp hb with rfl | hb
    · exact Nat.lt_succ_self _
    · rcases List.mem_cons.mp hb with rfl | hb
      · exact Nat.lt_succ_of_lt hlt
      · cases hb
  · obtain ⟨a, us, e, lt, ⟨o, ho, r⟩, it⟩ := old i v hv
    exact ⟨a, us, e, lt, ⟨o, Heap.get?_push_of_some _ ho, r⟩, it⟩
  · obtain ⟨a, us, e, lt, ⟨o, ho, r⟩, it⟩ := kp i v hv
    have hS2 : s.heap.objs.size + 1 ≤ S := by
      have z : (s.heap.push _).objs.size ≤ S := hS
      rw [Heap.size_push] at z
      exact z
    refine ⟨a, us, e, lt, ⟨o, keep a o (fun z => ?_) (fun z => ?_) ho, r⟩, it⟩
    · exact Nat.ne_of_lt lt (List.mem_singleton.mp z)
    · exact Nat.ne_of_lt (Nat.lt_of_lt_of_le lt (Nat.le_of_succ_le hS2)) z
  · obtain ⟨a, us, e, lt, t1, i1⟩ := kp i vi (by simpa using hi)
    obtain ⟨b, ws, e2, lt2, t2, i2⟩ := kp j vj (by simpa using hj)
    subst e
    subst e2
    exact HT.lt_tupInts t1 t2 i1 i2 (show A.in1.units < cLine by exact hu) q
  · refine h0 (by simpa using hn) h' tk fun b o e => keep b o (fun z => ?_) (Heap.get?_push_of_some _ e)
    exact Nat.ne_of_lt (Heap.lt_size e) (List.mem_singleton.mp z)
  · refine h v h' tk (by simpa using hv) fun b o e => keep b o (fun z => ?_) (Heap.get?_push_of_some _ e)
    exact Nat.ne_of_lt (Heap.lt_size e) (List.mem_singleton.mp z)
end
def rMinND (K : PySem.W.Frag) : List V → List V → Hp → VK → Prop := fun vs zs H Q => ∃ (a : Addr) (xs : List V) (nss : List (List Int)) (G : Hp), vs = [V.ref a] ∧ zs = [.non] ∧ SqL K H a xs ∧ Same G H ∧ Paired (IsTs K G) xs nss ∧ (nss.length = 0 → Q .non H) ∧
  (0 < nss.length → ∀ x, xs[argBest (fun i j => HT.lexLt (nss.getD i []) (nss.getD j [])) (nss.length - 1)]? = some x → Q x H)
section
variable {X : Cx}
theorem cr_minND (hc : X.calm = true) (hu : X.A.units + 1 < cLine) : CallRK X (.builtin "min") [Str.ofString "default"] (rMinND X.K) := by
  intro pins s σ H vs zs us ws Q I r rz h
  obtain ⟨a, xs, nss, G, rfl, rfl, hs, g, hp, q0, q⟩ := h
  obtain ⟨w1, rfl, ew⟩ := vals1 rz
  obtain rfl : w1 = Value.none := ew
  obtain ⟨its, rv, hl, hz⟩ := I.list hs
  rw [Vals.ref1 r]
  obtain ⟨e1, e2⟩ := tss_val I g hp rv
  have ln : its.length = nss.length := by rw [← e1, List.length_map]
  show wpAny _ _ (call (.builtin "min") [.ref a] [(Str.ofString "default", .none)]) _ _ _
  refine min_tupsD (nss := nss) (I.ok.hd hc) hu hl.isList ln (fun i v hv => ?_) (fun hn h' tk keep => ?_) fun v h' tk hv keep => ?_
  · have e : nss.getD i [] = TS.intsOf s.heap v := by
      rw [List.getD_eq_getElem?_getD, ← e1, List.getElem?_map, hv]
      rfl
    rw [e]
    exact (e2 v (List.mem_of_getElem? hv)).1
  · exact ⟨.non, H, I.kept keep, rfl, q0 (by omega)⟩
  · rw [ln] at hv
    have lx := rv.length
    have hlt := (List.getElem?_eq_some_iff.mp hv).1
    have hx := List.getElem?_eq_getElem (l := xs) (i := argBest (fun i j => HT.lexLt (nss.getD i []) (nss.getD j [])) (nss.length - 1)) (by omega)
    obtain ⟨u, hu2, ru⟩ := rv.get hx
    rw [hv] at hu2
    cases hu2
    exact ⟨_, H, I.kept keep, ru, q (by omega) _ hx⟩
end
/-- the least of rows of ints -/
def mnL (nss : List (List Int)) : List Int := nss.getD (argBest (fun i j => HT.lexLt (nss.getD i []) (nss.getD j [])) (nss.length - 1)) []
section
variable {X : Cx} {ρ : Sl} {M M1 : Mem} {e : Expr} {pos : Pos} {Φ : D → Mem → Prop}
theorem ew_minND {j : Nat} {p p2 p3 : Pos} (hc : X.calm = true) (hu : X.A.units + 64 < cLine) (hm : X.mg "min" = none) (h : EW X e ρ M (fun d M1 => ∃ q nss, d = dP q ∧ M1 q = some (.lst (nss.map tZ)) ∧ (nss.length = 0 → Φ dN M1) ∧ (0 < nss.length → Φ (tZ (mnL nss)) M1))) (hg : Gl X "min" := by rfl)
    (hst : starEach [e] X.env = (false, eval e X.env) :: starEach [] X.env := by rfl) (he : backTo pos (starEach [e] X.env) = (false, eval e X.env) :: backTo pos (starEach [] X.env) := by rfl) (hpl : (backTo pos (starEach [e] X.env)).any (·.1) = false := by rfl) : EW X (.Call (.Name "min" p) [e] [⟨some "default", .Constant .none j p2, p3⟩] pos) ρ M Φ :=
  (pe_callBK (cr_minND hc (by omega)) hg hm boot_min (aw_one (ΦA := fun ds M1 => ∃ q nss, ds = [dP q] ∧ M1 q = some (.lst (nss.map tZ)) ∧ (nss.length = 0 → Φ dN M1) ∧ (0 < nss.length → Φ (tZ (mnL nss)) M1)) (ew_to h fun d M1 ⟨q, nss, e, r⟩ => ⟨q, nss, by rw [e], r⟩) hst) (pk_cons pe_non pk_nil) (he := he) (hpl := hpl)).mono fun σ H Q ⟨G, sa, k⟩ => ⟨G, sa, fun vs' G1 H1 ds M1 ⟨q, nss, e, hq, z0, z1⟩ g1 sh1 r1 => by
    subst e
    obtain ⟨gq, vs, hv, r⟩ := sh1.mem q _ hq
    rw [RepL.of_vals (xs := [.ref q]) r1]
    refine ⟨q, vs, nss, G1, rfl, rfl, .inl (.inl hv), sh1.le, ts_rep r, fun h0 => k _ G1 H1 _ _ (z0 h0) g1 sh1 (.val _), fun h0 x hx => k _ G1 H1 _ _ (z1 h0) g1 sh1 ?_⟩
    have hl := r.len
    rw [List.length_map] at hl
    have lt := (List.getElem?_eq_some_iff.mp hx).1
    obtain ⟨v, hv2, rv⟩ := RepL.get r (i := argBest (fun i j => HT.lexLt (nss.getD i []) (nss.getD j [])) (nss.length - 1)) (d := tZ (mnL nss)) (by
      rw [List.getElem?_map, List.getElem?_eq_getElem (by omega), mnL, List.getD_eq_getElem?_getD, List.getElem?_eq_getElem (by omega)]
      rfl)
    rw [hx] at hv2
    cases hv2
    exact rv⟩
end
end Vt
set_option Elab.async false
set_option linter.all false
set_option maxRecDepth 100000
set_option maxHeartbeats 2000000
namespace Vt
open PySem PySem.Spec PyProof.Rows L2
def top (i : Nat) : Stmt := PySem.Challenge.pw_counterheld_k73_whole_best_lines.main.body.getD i (.Pass ⟨0, 0, 0, 0⟩)
abbrev s_p_is_row : Stmt := top 4
theorem sc_p_is_row : FnScope ["thing"] ["thing"] (defScope s_p_is_row) := ⟨rfl, rfl, rfl, by decide +kernel, rfl, by decide +kernel, by decide +kernel⟩
abbrev s_p_is_pair : Stmt := top 5
theorem sc_p_is_pair : FnScope ["thing"] ["thing"] (defScope s_p_is_pair) := ⟨rfl, rfl, rfl, by decide +kernel, rfl, by decide +kernel, by decide +kernel⟩
abbrev s_p_is_number : Stmt := top 6
theorem sc_p_is_number : FnScope ["thing"] ["thing"] (defScope s_p_is_number) := ⟨rfl, rfl, rfl, by decide +kernel, rfl, by decide +kernel, by decide +kernel⟩
abbrev s_p_is_whole : Stmt := top 7
theorem sc_p_is_whole : FnScope ["thing", "low", "high"] ["thing", "low", "high"] (defScope s_p_is_whole) := ⟨rfl, rfl, rfl, by decide +kernel, rfl, by decide +kernel, by decide +kernel⟩
abbrev s_p_is_fraction : Stmt := top 8
theorem sc_p_is_fraction : FnScope ["thing", "number"] ["thing"] (defScope s_p_is_fraction) := ⟨rfl, rfl, rfl, by decide +kernel, rfl, by decide +kernel, by decide +kernel⟩
abbrev s_p_is_measure : Stmt := top 14
theorem sc_p_is_measure : FnScope ["thing"] ["thing"] (defScope s_p_is_measure) := ⟨rfl, rfl, rfl, by decide +kernel, rfl, by decide +kernel, by decide +kernel⟩
abbrev s_p_is_piece : Stmt := top 15
theorem sc_p_is_piece : FnScope ["thing", "part", "width", "_", "shrink"] ["thing"] (defScope s_p_is_piece) := ⟨rfl, rfl, rfl, by decide +kernel, rfl, by decide +kernel, by decide +kernel⟩
abbrev s_p_sums : Stmt := top 17
theorem sc_p_sums : FnScope ["numbers", "told", "number"] ["numbers"] (defScope s_p_sums) := ⟨rfl, rfl, rfl, by decide +kernel, rfl, by decide +kernel, by decide +kernel⟩
abbrev s_p_line_rows : Stmt := top 21
theorem sc_p_line_rows : FnScope ["pieces", "room"] ["pieces", "room"] (defScope s_p_line_rows) := ⟨rfl, rfl, rfl, by decide +kernel, rfl, by decide +kernel, by decide +kernel⟩
abbrev s_p_check_pieces : Stmt := top 22
theorem sc_p_check_pieces : FnScope ["pieces", "number", "piece"] ["pieces"] (defScope s_p_check_pieces) := ⟨rfl, rfl, rfl, by decide +kernel, rfl, by decide +kernel, by decide +kernel⟩
abbrev s_p_best_lines : Stmt := top 23
theorem sc_p_best_lines : FnScope ["pieces", "room", "rows", "told", "first", "ranked", "stop", "bad", "ends"] ["pieces", "room"] (defScope s_p_best_lines) := ⟨rfl, rfl, rfl, by decide +kernel, rfl, by decide +kernel, by decide +kernel⟩
abbrev s_pool : Stmt := top 25
theorem sc_pool : FnScope ["script", "cell"] ["script"] (defScope s_pool) := ⟨rfl, rfl, rfl, by decide +kernel, rfl, by decide +kernel, by decide +kernel⟩
abbrev s_take : Stmt := top 26
theorem sc_take : FnScope ["pool", "many", "digit", "cell", "mixed"] ["pool", "many"] (defScope s_take) := ⟨rfl, rfl, rfl, by decide +kernel, rfl, by decide +kernel, by decide +kernel⟩
abbrev s_pick : Stmt := top 27
theorem sc_pick : FnScope ["pool", "rows"] ["pool", "rows"] (defScope s_pick) := ⟨rfl, rfl, rfl, by decide +kernel, rfl, by decide +kernel, by decide +kernel⟩
abbrev s_is_integer : Stmt := top 28
theorem sc_is_integer : FnScope ["actual"] ["actual"] (defScope s_is_integer) := ⟨rfl, rfl, rfl, by decide +kernel, rfl, by decide +kernel, by decide +kernel⟩
abbrev s_same : Stmt := top 29
theorem sc_same : FnScope ["actual", "due", "k"] ["actual", "due"] (defScope s_same) := ⟨rfl, rfl, rfl, by decide +kernel, rfl, by decide +kernel, by decide +kernel⟩
abbrev s_lowest : Stmt := top 30
theorem sc_lowest : FnScope ["n", "d", "one", "other", "turn"] ["n", "d"] (defScope s_lowest) := ⟨rfl, rfl, rfl, by decide +kernel, rfl, by decide +kernel, by decide +kernel⟩
abbrev s_sum : Stmt := top 31
theorem sc_sum : FnScope ["one", "other"] ["one", "other"] (defScope s_sum) := ⟨rfl, rfl, rfl, by decide +kernel, rfl, by decide +kernel, by decide +kernel⟩
abbrev s_listed : Stmt := top 32
theorem sc_listed : FnScope ["thing", "part"] ["thing"] (defScope s_listed) := ⟨rfl, rfl, rfl, by decide +kernel, rfl, by decide +kernel, by decide +kernel⟩
abbrev s_given : Stmt := top 33
theorem sc_given : FnScope ["pool", "thing"] ["pool", "thing"] (defScope s_given) := ⟨rfl, rfl, rfl, by decide +kernel, rfl, by decide +kernel, by decide +kernel⟩
abbrev s_divisor : Stmt := top 34
theorem sc_divisor : FnScope ["one", "other"] ["one", "other"] (defScope s_divisor) := ⟨rfl, rfl, rfl, by decide +kernel, rfl, by decide +kernel, by decide +kernel⟩
abbrev s_piece : Stmt := top 35
theorem sc_piece : FnScope ["pool", "kind", "width", "part", "shrink", "stretch"] ["pool", "kind"] (defScope s_piece) := ⟨rfl, rfl, rfl, by decide +kernel, rfl, by decide +kernel, by decide +kernel⟩
abbrev s_pieces : Stmt := top 36
theorem sc_pieces : FnScope ["pool", "many", "kind", "rigid", "found", "k", "piece"] ["pool", "many"] (defScope s_pieces) := ⟨rfl, rfl, rfl, by decide +kernel, rfl, by decide +kernel, by decide +kernel⟩
abbrev s_room : Stmt := top 37
theorem sc_room : FnScope ["pool", "pieces", "most", "first", "room", "piece", "wider", "kind"] ["pool", "pieces", "most"] (defScope s_room) := ⟨rfl, rfl, rfl, by decide +kernel, rfl, by decide +kernel, by decide +kernel⟩
abbrev s_scaled : Stmt := top 38
theorem sc_scaled : FnScope ["pieces", "room", "common", "piece", "part", "sums", "new"] ["pieces", "room"] (defScope s_scaled) := ⟨rfl, rfl, rfl, by decide +kernel, rfl, by decide +kernel, by decide +kernel⟩
abbrev s_bad : Stmt := top 39
theorem sc_bad : FnScope ["scaled", "first", "stop", "sums", "room", "width", "part"] ["scaled", "first", "stop"] (defScope s_bad) := ⟨rfl, rfl, rfl, by decide +kernel, rfl, by decide +kernel, by decide +kernel⟩
abbrev s_fitting : Stmt := top 40
theorem sc_fitting : FnScope ["scaled", "found", "many", "first", "row", "stop", "bad"] ["scaled"] (defScope s_fitting) := ⟨rfl, rfl, rfl, by decide +kernel, rfl, by decide +kernel, by decide +kernel⟩
abbrev s_breakings : Stmt := top 41
theorem sc_breakings : FnScope ["lines", "first", "found", "stop", "bad", "ends", "later"] ["lines", "first"] (defScope s_breakings) := ⟨rfl, rfl, rfl, by decide +kernel, rfl, by decide +kernel, by decide +kernel⟩
abbrev s_best : Stmt := top 42
theorem sc_best : FnScope ["lines", "many", "rest", "first", "best", "stop", "bad", "mine", "ends", "at", "turn"] ["lines"] (defScope s_best) := ⟨rfl, rfl, rfl, by decide +kernel, rfl, by decide +kernel, by decide +kernel⟩
abbrev s_amounts : Stmt := top 43
theorem sc_amounts : FnScope ["pool"] ["pool"] (defScope s_amounts) := ⟨rfl, rfl, rfl, by decide +kernel, rfl, by decide +kernel, by decide +kernel⟩
abbrev s_due : Stmt := top 44
theorem sc_due : FnScope ["lines", "best", "ends", "bad", "mine"] ["lines"] (defScope s_due) := ⟨rfl, rfl, rfl, by decide +kernel, rfl, by decide +kernel, by decide +kernel⟩
abbrev s_law : Stmt := top 45
theorem sc_law : FnScope ["script", "pool", "rows", "turn", "many", "most", "pieces", "room", "k", "due", "handed", "before"] ["script"] (defScope s_law) := ⟨rfl, rfl, rfl, by decide +kernel, rfl, by decide +kernel, by decide +kernel⟩
abbrev s_LineRows_init : Stmt := L2.inClass (top 16) 0
theorem sc_LineRows_init : FnScope ["self", "pieces", "room", "parts", "piece", "width", "_", "stretch", "shrink"] ["self", "pieces", "room"] (defScope s_LineRows_init) := ⟨rfl, rfl, rfl, by decide +kernel, rfl, by decide +kernel, by decide +kernel⟩
abbrev s_LineRows_badness_of : Stmt := L2.inClass (top 16) 1
theorem sc_LineRows_badness_of : FnScope ["self", "first", "stop", "more", "give"] ["self", "first", "stop"] (defScope s_LineRows_badness_of) := ⟨rfl, rfl, rfl, by decide +kernel, rfl, by decide +kernel, by decide +kernel⟩
abbrev s_LineRows_lines_from : Stmt := L2.inClass (top 16) 2
theorem sc_LineRows_lines_from : FnScope ["self", "first", "told", "stop", "badness"] ["self", "first"] (defScope s_LineRows_lines_from) := ⟨rfl, rfl, rfl, by decide +kernel, rfl, by decide +kernel, by decide +kernel⟩
abbrev s_LineRows_is_full : Stmt := L2.inClass (top 16) 3
theorem sc_LineRows_is_full : FnScope ["self", "first", "stop", "width"] ["self", "first", "stop"] (defScope s_LineRows_is_full) := ⟨rfl, rfl, rfl, by decide +kernel, rfl, by decide +kernel, by decide +kernel⟩
abbrev s_LineRows_all_lines : Stmt := L2.inClass (top 16) 4
theorem sc_LineRows_all_lines : FnScope ["self", "first"] ["self"] (defScope s_LineRows_all_lines) := ⟨rfl, rfl, rfl, by decide +kernel, rfl, by decide +kernel, by decide +kernel⟩
abbrev s_BadPieces_init : Stmt := L2.inClass (top 19) 0
theorem sc_BadPieces_init : FnScope ["self", "number"] ["self", "number"] (defScope s_BadPieces_init) := ⟨rfl, rfl, rfl, by decide +kernel, rfl, by decide +kernel, by decide +kernel⟩
/-! ### the draws -/
structure Pool where
  cells : List Int
  at_ : Int
  rest : Int
  seed : Int
def Pool.mo (p : Pool) : MO := .lst [.lst (p.cells.map dI), dI p.at_, dI p.rest, dI p.seed]
structure Pool.Ok (p : Pool) : Prop where
  a0 : 0 ≤ p.at_
  s0 : 0 ≤ p.seed
  s1 : p.seed < 2147483648
def Pool.cell (p : Pool) : Int := if p.at_ < p.cells.length then p.cells.getD p.at_.toNat 0 else 0
def Pool.seed2 (p : Pool) : Int := (p.seed * 48271 + p.cell * 69621 + (p.at_ + 1) * 613) % 2147483647
def Pool.take (p : Pool) (many : Int) : Int × Pool :=
  if 0 < p.rest then (p.rest % many, { p with rest := p.rest / many })
  else if 1000000000000000000 ≤ p.cell then (p.cell / 2 % many, { p with at_ := p.at_ + 1, rest := p.cell / 2 / many })
  else ((p.seed2 * p.seed2 + p.seed2 * 7919 + 104729) % 1000000007 / 3 % many, { p with at_ := p.at_ + 1, seed := p.seed2 })
theorem Pool.take_lo (p : Pool) {many : Int} (h : 0 < many) : 0 ≤ (p.take many).1 := by
  unfold Pool.take
  split
  · exact Int.emod_nonneg _ (by omega)
  · split <;> exact Int.emod_nonneg _ (by omega)
theorem Pool.take_hi (p : Pool) {many : Int} (h : 0 < many) : (p.take many).1 < many := by
  unfold Pool.take
  split
  · exact Int.emod_lt_of_pos _ h
  · split <;> exact Int.emod_lt_of_pos _ h
theorem Pool.Ok.take {p : Pool} (ok : p.Ok) (many : Int) : (p.take many).2.Ok := by
  obtain ⟨a0, s0, s1⟩ := ok
  unfold Pool.take
  split
  · exact ⟨a0, s0, s1⟩
  · split
    · exact ⟨by show 0 ≤ p.at_ + 1; omega, s0, s1⟩
    · refine ⟨by show 0 ≤ p.at_ + 1; omega, ?_, ?_⟩
      · exact Int.emod_nonneg _ (by decide)
      · have := Int.emod_lt_of_pos (p.seed * 48271 + p.cell * 69621 + (p.at_ + 1) * 613) (show (0 : Int) < 2147483647 by decide)
        show p.seed2 < 2147483648
        unfold Pool.seed2
        omega
/-- what stands behind the top of built-ins -/
structure Bt (mg : Str → Option Value) : Prop where
  len : mg "len" = none
  int : mg "int" = none
  isinstance : mg "isinstance" = none
  range : mg "range" = none
  list : mg "list" = none
  tuple : mg "tuple" = none
  all : mg "all" = none
  bool : mg "bool" = none
  str : mg "str" = none
def PrTake (ds : List D) (M : Mem) (d : D) (M' : Mem) : Prop := ∃ a M0 p many, ds = [dP a, dI many] ∧ M = Mem.set M0 a (Pool.mo p) ∧ p.Ok ∧ 0 < many ∧ many < 1073741824 ∧ d = dI (p.take many).1 ∧ M' = M0.set a (p.take many).2.mo
/-- where digits are left -/
def PrTake0 (ds : List D) (M : Mem) (d : D) (M' : Mem) : Prop := ∃ a M0 p many, ds = [dP a, dI many] ∧ M = Mem.set M0 a (Pool.mo p) ∧ 0 < p.rest ∧ 0 < many ∧ many < 1073741824 ∧ d = dI (p.rest % many) ∧ M' = M0.set a ({ p with rest := p.rest / many } : Pool).mo
section
variable {X : Cx} {ρ : Sl} {M M0 M1 M2 M3 : Mem} {a b c e : Expr} {es : List Expr} {d d1 d2 : D} {ds : List D} {pos : Pos} {Ψ : Out → Prop}
/-- xs[i] = e, the list on top of the memory -/
theorem sv_setTop {p : Addr} {i : Nat} {tp : Pos} (he : EV X e ρ M d M1) (ho : EV X a ρ M1 (dP p) M2) (hi : EV X b ρ M2 (dI i) (M0.set p (.lst ds))) (hlt : i < ds.length) (hΨ : Ψ (.nx ρ (M0.set p (.lst (ds.set i d)))))
    (ha : ∀ v, assign (.Subscript a b tp) X.env v = (do
      let ov ← holding [v] (eval a X.env)
      let iv ← holding [v, ov] (eval b X.env)
      standAt tp
      holding [v, ov, iv] (setItem ov iv v)
      release [v, ov, iv] []) := by intro _; rfl)
    (hs : swapsWithSole [.Subscript a b tp] e pos.line X.env = pure false := by rfl) (hw : swappedStores [.Subscript a b tp] e X.env = pure none := by rfl)
    (h1 : (assignEach [.Subscript a b tp] X.env).map (·.2) = [assign (.Subscript a b tp) X.env] := by rfl) : SV X (.Assign [.Subscript a b tp] e pos) ρ M Ψ :=
  sv_setItem he ho hi Mem.set_same hlt (by rw [Mem.set_set]; exact hΨ) ha hs hw h1
end
section
variable {P : Program} {w : World} {K : PySem.W.Frag} {mg : Str → Option Value} {base : Heap} {f : Addr} {fd : FuncData}
theorem c_take0 (F : Fun K "_law_take" "_law_take" s_take f fd) (hm : mg "_law_take" = some (.ref f)) (T : Bt mg) : Cal P w K mg base 1 "_law_take" (spD K PrTake0) := by
  refine cal_of F sc_take hm (fun _ _ _ _ _ _ us hl => match us, hl with | [_, _], _ => rfl) (fun ds M d M' h => ?_) fun cdv A outer s H E ds M d M' hr h => ?_
  · obtain ⟨a, M0, p, many, rfl, _⟩ := h
    rfl
  · obtain ⟨a, M0, p, many, rfl, rfl, h0, h1, h2, rfl, rfl⟩ := h
    show BV _ _ [some (dP a), some (dI many), none, none, none] _ _
    refine bv_cons (sv_if (tv_cmpR op_gt (ev_ixM (ev_var 0 rfl) ev_int Mem.set_same rfl) ev_int rs_I0 (nomark _)) (fun h => ?_) (fun h => ?_))
    · refine bv_cons (sv_set 2 sc_take.nd (ev_op op_mod (ev_intI T.int (ev_ixM (ev_var 0 rfl) ev_int Mem.set_same rfl)) (ev_var 1 rfl) (rs_I h1)) ?_)
      refine bv_cons (sv_setTop (i := 2) (ev_op op_fdiv (ev_ixM (ev_var 0 rfl) ev_int Mem.set_same rfl) (ev_var 1 rfl) (rs_I ⟨h1, h2⟩)) (ev_var 0 rfl) ev_int (by simp) ?_)
      exact bv_one (sv_ret (ev_var 2 rfl) ⟨rfl, Mle.refl _⟩)
    · exact absurd h0 (of_decide_eq_false h)
theorem c_take (F : Fun K "_law_take" "_law_take" s_take f fd) (hm : mg "_law_take" = some (.ref f)) (T : Bt mg) : Cal P w K mg base 2 "_law_take" (spD K PrTake) := by
  have c_take := c_take0 (P := P) (w := w) (base := base) F hm T
  refine cal_of F sc_take hm (fun _ _ _ _ _ _ us hl => match us, hl with | [_, _], _ => rfl) (fun ds M d M' h => ?_) fun cdv A outer s H E ds M d M' hr h => ?_
  · obtain ⟨a, M0, p, many, rfl, _⟩ := h
    rfl
  · obtain ⟨a, M0, p, many, rfl, rfl, ok, h1, h2, rfl, rfl⟩ := h
    show BV _ _ [some (dP a), some (dI many), none, none, none] _ _
    refine bv_cons (sv_if (tv_cmpR op_gt (ev_ixM (ev_var 0 rfl) ev_int Mem.set_same rfl) ev_int rs_I0 (nomark _)) (fun h => ?_) (fun h => ?_))
    · refine bv_cons (sv_set 2 sc_take.nd (ev_op op_mod (ev_intI T.int (ev_ixM (ev_var 0 rfl) ev_int Mem.set_same rfl)) (ev_var 1 rfl) (rs_I h1)) ?_)
      refine bv_cons (sv_setTop (i := 2) (ev_op op_fdiv (ev_ixM (ev_var 0 rfl) ev_int Mem.set_same rfl) (ev_var 1 rfl) (rs_I ⟨h1, h2⟩)) (ev_var 0 rfl) ev_int (by simp) ?_)
      have e : p.take many = (p.rest % many, { p with rest := p.rest / many }) := if_pos (of_decide_eq_true h)
      rw [e]
      exact bv_one (sv_ret (ev_var 2 rfl) ⟨rfl, Mle.refl _⟩)
    · have hr0 : ¬ 0 < p.rest := of_decide_eq_false h
      refine bv_nil ?_
      refine bv_cons (sv_set 3 sc_take.nd ev_int ?_)
      have rest : BV (cxOf CX0 P w K mg base ["pool", "many", "digit", "cell", "mixed"] "_law_take" (defScope s_take) f cdv A outer s H E).nox ((defBody s_take).drop 3) [some (dP a), some (dI many), none, some (dI p.cell), none] (M0.set a p.mo) (Fin (dI (p.take many).1) (M0.set a (p.take many).2.mo)) := by
        refine bv_cons (sv_setTop (i := 1) (ev_op op_add (ev_ixM (ev_var 0 rfl) ev_int Mem.set_same rfl) ev_int rs_I0) (ev_var 0 rfl) ev_int (by simp) ?_)
        refine bv_cons (sv_if (tv_cmpR op_ge (ev_var 3 rfl) (ev_op op_pow ev_int ev_int (rs_I ⟨by decide, by decide, by decide⟩)) rs_I0 (nomark _)) (fun h => ?_) (fun h => ?_))
        · have hc : 1000000000000000000 ≤ p.cell := of_decide_eq_true h
          refine bv_cons (sv_setTop (i := 2) (ev_op op_fdiv (ev_var 3 rfl) ev_int (rs_I ⟨by decide, by decide⟩)) (ev_var 0 rfl) ev_int (by simp) ?_)
          have e : p.take many = (p.cell / 2 % many, { p with at_ := p.at_ + 1, rest := p.cell / 2 / many }) := (if_neg hr0).trans (if_pos hc)
          rw [e]
          refine bv_one (sv_ret (ev_call c_take (hr.mono (by decide)) (av_cons (ev_var 0 rfl) (av_cons (ev_var 1 rfl) av_nil)) ⟨a, M0, { p with at_ := p.at_ + 1, rest := p.cell / 2 }, many, rfl, rfl, ?_, h1, h2, rfl, rfl⟩) ⟨rfl, Mle.refl _⟩)
          show 0 < p.cell / 2
          omega
        · have hc : ¬ 1000000000000000000 ≤ p.cell := of_decide_eq_false h
          refine bv_nil ?_
          refine bv_cons (sv_setTop (i := 3) (ev_op op_mod (ev_intI T.int (ev_op op_add (ev_op op_add (ev_op op_mul (ev_ixM (ev_var 0 rfl) ev_int Mem.set_same rfl) ev_int (rs_I (cm_r (by decide) (by decide)))) (ev_op op_mul (ev_var 3 rfl) ev_int (rs_I (cm_r (by decide) (by decide)))) rs_I0) (ev_op op_mul (ev_ixM (ev_var 0 rfl) ev_int Mem.set_same rfl) ev_int (rs_I (cm_r (by decide) (by decide)))) rs_I0)) ev_int (rs_I (by decide))) (ev_var 0 rfl) ev_int (by simp) ?_)
          have ok2 : 0 ≤ p.seed2 ∧ p.seed2 < 2147483647 := ⟨Int.emod_nonneg _ (by decide), Int.emod_lt_of_pos _ (by decide)⟩
          have e : p.take many = ((p.seed2 * p.seed2 + p.seed2 * 7919 + 104729) % 1000000007 / 3 % many, { p with at_ := p.at_ + 1, seed := p.seed2 }) := (if_neg hr0).trans (if_neg hc)
          rw [e]
          refine bv_cons (sv_set 4 sc_take.nd (ev_op op_mod (ev_intI T.int (ev_op op_add (ev_op op_add (ev_op op_mul (ev_ixM (ev_var 0 rfl) ev_int Mem.set_same rfl) (ev_ixM (ev_var 0 rfl) ev_int Mem.set_same rfl) (rs_I ?_)) (ev_op op_mul (ev_ixM (ev_var 0 rfl) ev_int Mem.set_same rfl) ev_int (rs_I (cm_r (by decide) (by decide)))) rs_I0) ev_int rs_I0)) ev_int (rs_I (by decide))) ?_)
          · refine cm_l (i := p.seed2) ?_ ?_ <;> omega
          exact bv_one (sv_ret (ev_op op_mod (ev_intI T.int (ev_op op_fdiv (ev_var 4 rfl) ev_int (rs_I ⟨by decide, by decide⟩))) (ev_var 1 rfl) (rs_I h1)) ⟨rfl, Mle.refl _⟩)
      refine bv_cons (sv_if (tv_cmpR op_lt (ev_ixM (ev_var 0 rfl) ev_int Mem.set_same rfl) (ev_lenL T.len (ev_ixM (ev_var 0 rfl) ev_int Mem.set_same rfl)) rs_I0 (nomark _)) (fun h => ?_) (fun h => ?_))
      · have hlt : p.at_ < p.cells.length := by
          have q := of_decide_eq_true h
          rw [List.length_map] at q
          exact q
        have hc : atI (p.cells.map dI) p.at_ = some (dI p.cell) := by
          have a0 := ok.a0
          unfold atI ixN Pool.cell
          rw [if_pos a0, List.length_map, if_pos hlt, if_pos hlt]
          show (p.cells.map dI)[p.at_.toNat]? = _
          rw [List.getElem?_map, List.getD_eq_getElem?_getD]
          have hn : p.at_.toNat < p.cells.length := by omega
          rw [List.getElem?_eq_getElem hn]
          rfl
        exact bv_one (sv_set 3 sc_take.nd (ev_ixL (ev_ixM (ev_var 0 rfl) ev_int Mem.set_same rfl) (ev_ixM (ev_var 0 rfl) ev_int Mem.set_same rfl) hc) rest)
      · have hlt : ¬ p.at_ < p.cells.length := by
          have q := of_decide_eq_false h
          rw [List.length_map] at q
          exact q
        have e : p.cell = 0 := if_neg hlt
        rw [e] at rest
        exact bv_nil rest
end
def conv (n : Int) : Int := if 0 ≤ n then 2 * n else -2 * n - 1
def convD : D → D
  | .val (.int n) => dI (conv n)
  | d => d
def Pool.new (ns : List Int) : Pool := ⟨ns.map conv, 0, 0, 17⟩
theorem Pool.new_ok (ns : List Int) : (Pool.new ns).Ok := ⟨by show (0 : Int) ≤ 0; decide, by show (0 : Int) ≤ 17; decide, by show (17 : Int) < 2147483648; decide⟩
def PrPool (ds : List D) (M : Mem) (es : List D) (M' : Mem) : Prop := ∃ ns : List Int, ds = [.lst (ns.map dI)] ∧ ns.length ≤ 1000 ∧ M' = M ∧ Pool.mo (Pool.new ns) = .lst es
section
variable {P : Program} {w : World} {K : PySem.W.Frag} {mg : Str → Option Value} {base : Heap} {f : Addr} {fd : FuncData}
theorem c_pool (F : Fun K "_law_pool" "_law_pool" s_pool f fd) (hm : mg "_law_pool" = some (.ref f)) : Cal P w K mg base 1 "_law_pool" (spN K PrPool) := by
  refine calN_of F sc_pool hm (fun _ _ _ _ _ _ us hl => match us, hl with | [_], _ => rfl) (fun ds M d M' h => ?_) fun cdv A outer s H E ds M es M' hr h => ?_
  · obtain ⟨ns, rfl, _⟩ := h
    rfl
  · obtain ⟨ns, rfl, hl, rfl, he⟩ := h
    show BV _ _ [some (.lst (ns.map dI)), none] _ _
    have e2 : (ns.map dI).map convD = (ns.map conv).map dI := by
      rw [List.map_map, List.map_map]
      rfl
    have e : es = [.lst ((ns.map dI).map convD), dI 0, dI 0, dI 17] := by
      rw [e2]
      injection he with he
      rw [← he]
      rfl
    subst e
    refine bv_one (sv_retNew (en_lst (av_cons (ev_lcM (own := [("cell", 1)]) (g := gName 1) rfl sc_pool.nd (iv_list (ev_var 0 rfl)) (blkOk_by (N := ["script", "cell"]) (sc := defScope s_pool) (by decide +kernel)) (fun _ _ _ _ _ => pg_name (i := 1) sc_pool.nd rfl (Or.inl rfl)) convD ?_ (fun i d h => ?_)) (av_cons ev_int (av_cons ev_int (av_cons ev_int av_nil))))) (fun p hp => ⟨p, rfl, hp, Mle.refl _⟩))
    · rw [List.length_map]
      exact Nat.le_trans hl (by decide)
    · refine ⟨_, tgb_name, fun M2 s H C cl fp => ?_⟩
      rw [List.getElem?_map] at h
      cases q : ns[i]? with
      | none => rw [q] at h; cases h
      | some n =>
        rw [q] at h
        cases h
        refine ev_to (ev_ifB (tv_cmpR op_ge (ev_var 1 rfl) ev_int rs_I0 (nomark _)) (ev_op op_mul ev_int (ev_var 1 rfl) (rs_I (cm_l (by decide) (by decide)))) (ev_op op_sub (ev_op op_mul (ev_un un_neg ev_int ru_neg) (ev_var 1 rfl) (rs_I (cm_l (by decide) (by decide)))) ev_int rs_I0)) ?_
        show (if decide (0 ≤ n) = true then dI (2 * n) else dI (-2 * n - 1)) = dI (if 0 ≤ n then 2 * n else -2 * n - 1)
        by_cases c : 0 ≤ n
        · rw [if_pos (decide_eq_true c), if_pos c]
        · rw [if_neg (by rw [decide_eq_false c]; decide), if_neg c]
end
def PrPick (ds : List D) (M : Mem) (d : D) (M' : Mem) : Prop := ∃ a M0 p b es, ds = [dP a, sq b es] ∧ M = Mem.set M0 a (Pool.mo p) ∧ p.Ok ∧ 0 < es.length ∧ es.length < 1073741824 ∧ es[(p.take es.length).1.toNat]? = some d ∧ M' = M0.set a (p.take es.length).2.mo
def PrIsInt (ds : List D) (M : Mem) (d : D) (M' : Mem) : Prop := ∃ i : Int, ds = [dI i] ∧ d = dB true ∧ M' = M
/-- trees that _law_same goes through -/
def okD : Nat → D → Prop
  | _, .val v => v = .non ∨ (∃ b, v = .bl b) ∨ (∃ i, v = .int i) ∨ ∃ z, v = .str z
  | n + 1, .tup ds => ds.length ≤ 1000000 ∧ ∀ d ∈ ds, okD n d
  | n + 1, .lst ds => ds.length ≤ 1000000 ∧ ∀ d ∈ ds, okD n d
  | 0, _ => False
  | _ + 1, .dic => False
def PrSame (n : Nat) (ds : List D) (M : Mem) (d : D) (M' : Mem) : Prop := ∃ t, ds = [t, t] ∧ okD n t ∧ d = dB true ∧ M' = M
theorem atI_nat {ds : List D} {i : Int} {d : D} {k : Nat} (h : ds[k]? = some d) (e : i = (k : Int)) : atI ds i = some d := by
  subst e
  have hk : k < ds.length := (List.getElem?_eq_some_iff.mp h).1
  unfold atI ixN
  rw [if_pos (by omega), if_pos (by omega)]
  exact h
section
variable {P : Program} {w : World} {K : PySem.W.Frag} {mg : Str → Option Value} {base : Heap} {f : Addr} {fd : FuncData}
theorem c_pick (F : Fun K "_law_pick" "_law_pick" s_pick f fd) (hm : mg "_law_pick" = some (.ref f)) (T : Bt mg) (c_take : Cal P w K mg base 2 "_law_take" (spD K PrTake)) : Cal P w K mg base 3 "_law_pick" (spD K PrPick) := by
  refine cal_of F sc_pick hm (fun _ _ _ _ _ _ us hl => match us, hl with | [_, _], _ => rfl) (fun ds M d M' h => ?_) fun cdv A outer s H E ds M d M' hr h => ?_
  · obtain ⟨a, M0, p, b, es, rfl, _⟩ := h
    rfl
  · obtain ⟨a, M0, p, b, es, rfl, rfl, ok, h1, h2, h3, rfl⟩ := h
    show BV _ _ [some (dP a), some (sq b es)] _ _
    have h1' : (0 : Int) < es.length := by omega
    refine bv_one (sv_ret (ev_ixQ (ev_var 1 rfl) (ev_call c_take (hr.mono (by decide)) (av_cons (ev_var 0 rfl) (av_cons (ev_lenQ T.len (ev_var 1 rfl)) av_nil)) ⟨a, M0, p, es.length, rfl, rfl, ok, h1', by omega, rfl, rfl⟩) (atI_nat h3 ?_)) ⟨rfl, Mle.refl _⟩)
    have := p.take_lo h1'
    omega
theorem c_is_integer (F : Fun K "_law_is_integer" "_law_is_integer" s_is_integer f fd) (hm : mg "_law_is_integer" = some (.ref f)) (T : Bt mg) : Cal P w K mg base 1 "_law_is_integer" (spD K PrIsInt) := by
  refine cal_of F sc_is_integer hm (fun _ _ _ _ _ _ us hl => match us, hl with | [_], _ => rfl) (fun ds M d M' h => ?_) fun cdv A outer s H E ds M d M' hr h => ?_
  · obtain ⟨i, rfl, _⟩ := h
    rfl
  · obtain ⟨i, rfl, rfl, rfl⟩ := h
    show BV _ _ [some (dI i)] _ _
    exact bv_one (sv_ret (ev_andB (ev_isi (r := true) T.isinstance T.int boot_int (ev_var 0 rfl) rfl (by decide +kernel)) (fun h => (ev_one (b := true) (ev_notB (ev_isi (r := false) T.isinstance T.bool boot_bool (ev_var 0 rfl) rfl (by decide +kernel)))))) ⟨rfl, Mle.refl _⟩)
theorem all_true (n : Nat) : ((List.range n).map fun _ => true).all id = true := by
  rw [List.all_map]
  exact List.all_eq_true.mpr fun _ _ => rfl
theorem same_val (T : Bt mg) (c_is_integer : Cal P w K mg base 1 "_law_is_integer" (spD K PrIsInt)) {cdv : Value} {A : Around} {outer : List Env} {s : Shared} {H : Hp} {E : XK} {M' : Mem} {v : V} {n : Nat}
    (hr : Room 1 (A.deeper (envOfC "_law_same" (defScope s_same) s.heap.objs.size f cdv))) (ok : okD n (.val v)) :
    BV (cxOf CX0 P w K mg base ["actual", "due", "k"] "_law_same" (defScope s_same) f cdv A outer s H E).nox (defBody s_same) [some (.val v), some (.val v), none] M' (Fin (dB true) M') := by
  have ok : v = .non ∨ (∃ b, v = .bl b) ∨ (∃ i, v = .int i) ∨ ∃ z, v = .str z := by
    cases n <;> exact ok
  rcases ok with rfl | ⟨b, rfl⟩ | ⟨i, rfl⟩ | ⟨z, rfl⟩
  · refine bv_cons (sv_if (tv_val (ev_isi (r := false) T.isinstance T.tuple boot_tuple (ev_var 1 rfl) rfl (by decide +kernel))) (fun h => nomatch h) (fun _ => bv_nil ?_))
    refine bv_cons (sv_if (tv_val (ev_isi (r := false) T.isinstance T.list boot_list (ev_var 1 rfl) rfl (by decide +kernel))) (fun h => nomatch h) (fun _ => bv_nil ?_))
    refine bv_cons (sv_if (tv_isN (ev_var 1 rfl)) (fun h => ?_) (fun h => nomatch h))
    exact bv_one (sv_ret (ev_isN (ev_var 0 rfl)) ⟨rfl, Mle.refl _⟩)
  · refine bv_cons (sv_if (tv_val (ev_isi (r := false) T.isinstance T.tuple boot_tuple (ev_var 1 rfl) rfl (by decide +kernel))) (fun h => nomatch h) (fun _ => bv_nil ?_))
    refine bv_cons (sv_if (tv_val (ev_isi (r := false) T.isinstance T.list boot_list (ev_var 1 rfl) rfl (by decide +kernel))) (fun h => nomatch h) (fun _ => bv_nil ?_))
    refine bv_cons (sv_if (tv_isN (ev_var 1 rfl)) (fun h => nomatch h) (fun _ => bv_nil ?_))
    refine bv_cons (sv_if (tv_val (ev_isi (r := true) T.isinstance T.bool boot_bool (ev_var 1 rfl) rfl (by decide +kernel))) (fun h => ?_) (fun h => nomatch h))
    refine bv_one (sv_ret (ev_andB (ev_isi (r := true) T.isinstance T.bool boot_bool (ev_var 0 rfl) rfl (by decide +kernel)) (fun h => (ev_one (b := true) (ev_cmpR op_eq (ev_var 0 rfl) (ev_var 1 rfl) rs_eqB (nomark _))))) ⟨?_, Mle.refl _⟩)
    rw [decide_eq_true rfl]
    rfl
  · refine bv_cons (sv_if (tv_val (ev_isi (r := false) T.isinstance T.tuple boot_tuple (ev_var 1 rfl) rfl (by decide +kernel))) (fun h => nomatch h) (fun _ => bv_nil ?_))
    refine bv_cons (sv_if (tv_val (ev_isi (r := false) T.isinstance T.list boot_list (ev_var 1 rfl) rfl (by decide +kernel))) (fun h => nomatch h) (fun _ => bv_nil ?_))
    refine bv_cons (sv_if (tv_isN (ev_var 1 rfl)) (fun h => nomatch h) (fun _ => bv_nil ?_))
    refine bv_cons (sv_if (tv_val (ev_isi (r := false) T.isinstance T.bool boot_bool (ev_var 1 rfl) rfl (by decide +kernel))) (fun h => nomatch h) (fun _ => bv_nil ?_))
    refine bv_cons (sv_if (tv_val (ev_isi (r := false) T.isinstance T.str boot_str (ev_var 1 rfl) rfl (by decide +kernel))) (fun h => nomatch h) (fun _ => bv_nil ?_))
    refine bv_one (sv_ret (ev_andB (p := true) (ev_call c_is_integer (hr.mono (by decide)) (av_cons (ev_var 0 rfl) av_nil) ⟨i, rfl, rfl, rfl⟩) (fun h => (ev_one (b := true) (ev_cmpR op_eq (ev_var 0 rfl) (ev_var 1 rfl) rs_eqI (nomark _))))) ⟨?_, Mle.refl _⟩)
    rw [decide_eq_true rfl]
    rfl
  · refine bv_cons (sv_if (tv_val (ev_isi (r := false) T.isinstance T.tuple boot_tuple (ev_var 1 rfl) rfl (by decide +kernel))) (fun h => nomatch h) (fun _ => bv_nil ?_))
    refine bv_cons (sv_if (tv_val (ev_isi (r := false) T.isinstance T.list boot_list (ev_var 1 rfl) rfl (by decide +kernel))) (fun h => nomatch h) (fun _ => bv_nil ?_))
    refine bv_cons (sv_if (tv_isN (ev_var 1 rfl)) (fun h => nomatch h) (fun _ => bv_nil ?_))
    refine bv_cons (sv_if (tv_val (ev_isi (r := false) T.isinstance T.bool boot_bool (ev_var 1 rfl) rfl (by decide +kernel))) (fun h => nomatch h) (fun _ => bv_nil ?_))
    refine bv_cons (sv_if (tv_val (ev_isi (r := true) T.isinstance T.str boot_str (ev_var 1 rfl) rfl (by decide +kernel))) (fun h => ?_) (fun h => nomatch h))
    refine bv_one (sv_ret (ev_andB (ev_isi (r := true) T.isinstance T.str boot_str (ev_var 0 rfl) rfl (by decide +kernel)) (fun h => (ev_one (b := true) (ev_cmpR op_eq (ev_var 0 rfl) (ev_var 1 rfl) rs_eqS (nomark _))))) ⟨?_, Mle.refl _⟩)
    rw [decide_eq_true rfl]
    rfl
theorem c_same (F : Fun K "_law_same" "_law_same" s_same f fd) (hm : mg "_law_same" = some (.ref f)) (T : Bt mg) (c_is_integer : Cal P w K mg base 1 "_law_is_integer" (spD K PrIsInt)) : ∀ n, Cal P w K mg base (n + 2) "_law_same" (spD K (PrSame n)) := by
  intro n
  induction n with
  | zero =>
    refine cal_of F sc_same hm (fun _ _ _ _ _ _ us hl => match us, hl with | [_, _], _ => rfl) (fun ds M d M' h => ?_) fun cdv A outer s H E ds M d M' hr h => ?_
    · obtain ⟨t, rfl, _⟩ := h
      rfl
    · obtain ⟨t, rfl, ok, rfl, rfl⟩ := h
      show BV _ _ [some t, some t, none] _ _
      cases t with
      | tup ds => exact ok.elim
      | lst ds => exact ok.elim
      | dic => exact ok.elim
      | val v => exact same_val T c_is_integer (hr.mono (by decide)) ok
  | succ n ih =>
    refine cal_of F sc_same hm (fun _ _ _ _ _ _ us hl => match us, hl with | [_, _], _ => rfl) (fun ds M d M' h => ?_) fun cdv A outer s H E ds M d M' hr h => ?_
    · obtain ⟨t, rfl, _⟩ := h
      rfl
    · obtain ⟨t, rfl, ok, rfl, rfl⟩ := h
      show BV _ _ [some t, some t, none] _ _
      have hr0 : Room (n + 2) (A.deeper (envOfC "_law_same" (defScope s_same) s.heap.objs.size f cdv)) := hr
      cases t with
      | tup ds =>
        obtain ⟨hl, hd⟩ := ok
        refine bv_cons (sv_if (tv_val (ev_isi (r := true) T.isinstance T.tuple boot_tuple (ev_var 1 rfl) rfl (by decide +kernel))) (fun _ => ?_) (fun h => nomatch h))
        refine bv_cons (sv_if (PW.pt (wv_or (tv_not (tv_val (ev_isi (r := true) T.isinstance T.tuple boot_tuple (ev_var 0 rfl) rfl (by decide +kernel)))) (fun h => (wv_one_or (tv_cmpR op_ne (ev_lenT T.len (ev_var 0 rfl)) (ev_lenT T.len (ev_var 1 rfl)) rs_neI (nomark _)))))) (fun h => ?_) (fun h => bv_nil ?_))
        · rw [decide_eq_true rfl] at h
          cases h
        · refine bv_one (sv_ret (ev_all (bs := (List.range (rgD 0 ((ds.length : Int)).toNat).length).map fun _ => true) rfl T.all (ev_to (ev_lc (own := [("k", 2)]) (g := gName 2) rfl sc_same.nd (iv_range1 T.range (ev_lenT T.len (ev_var 1 rfl)) (by omega)) (blkOk_by (N := ["actual", "due", "k"]) (sc := defScope s_same) (by decide +kernel)) (fun _ _ _ _ _ => pg_name (i := 2) sc_same.nd rfl (Or.inl rfl)) (fun _ => dB true) (fun _ => M') rfl (fun _ _ h => h) (by rw [rgD_len]; exact Nat.le_trans (by omega : _ ≤ 1000000) (by decide)) (fun i d h => ?_)) (by rw [List.map_map] <;> rfl))) ⟨by rw [all_true], Mle.refl _⟩)
          obtain ⟨hi, rfl⟩ := rgD_get h
          refine ⟨_, tgb_name, fun p acc hp s H C cl fp => ?_⟩
          have hi2 : i < ds.length := by omega
          have hg : ds[i]? = some ds[i] := List.getElem?_eq_getElem hi2
          exact ev_call ih hr0 (av_cons (ev_ixT (ev_var 0 rfl) (ev_var 2 rfl) (atI_nat hg (by omega))) (av_cons (ev_ixT (ev_var 1 rfl) (ev_var 2 rfl) (atI_nat hg (by omega))) av_nil)) ⟨ds[i], rfl, hd _ (List.getElem_mem hi2), rfl, rfl⟩
      | lst ds =>
        obtain ⟨hl, hd⟩ := ok
        refine bv_cons (sv_if (tv_val (ev_isi (r := false) T.isinstance T.tuple boot_tuple (ev_var 1 rfl) rfl (by decide +kernel))) (fun h => nomatch h) (fun _ => bv_nil ?_))
        refine bv_cons (sv_if (tv_val (ev_isi (r := true) T.isinstance T.list boot_list (ev_var 1 rfl) rfl (by decide +kernel))) (fun _ => ?_) (fun h => nomatch h))
        refine bv_cons (sv_if (PW.pt (wv_or (tv_not (tv_val (ev_isi (r := true) T.isinstance T.list boot_list (ev_var 0 rfl) rfl (by decide +kernel)))) (fun h => (wv_one_or (tv_cmpR op_ne (ev_lenL T.len (ev_var 0 rfl)) (ev_lenL T.len (ev_var 1 rfl)) rs_neI (nomark _)))))) (fun h => ?_) (fun h => bv_nil ?_))
        · rw [decide_eq_true rfl] at h
          cases h
        · refine bv_one (sv_ret (ev_all (bs := (List.range (rgD 0 ((ds.length : Int)).toNat).length).map fun _ => true) rfl T.all (ev_to (ev_lc (own := [("k", 2)]) (g := gName 2) rfl sc_same.nd (iv_range1 T.range (ev_lenL T.len (ev_var 1 rfl)) (by omega)) (blkOk_by (N := ["actual", "due", "k"]) (sc := defScope s_same) (by decide +kernel)) (fun _ _ _ _ _ => pg_name (i := 2) sc_same.nd rfl (Or.inl rfl)) (fun _ => dB true) (fun _ => M') rfl (fun _ _ h => h) (by rw [rgD_len]; exact Nat.le_trans (by omega : _ ≤ 1000000) (by decide)) (fun i d h => ?_)) (by rw [List.map_map] <;> rfl))) ⟨by rw [all_true], Mle.refl _⟩)
          obtain ⟨hi, rfl⟩ := rgD_get h
          refine ⟨_, tgb_name, fun p acc hp s H C cl fp => ?_⟩
          have hi2 : i < ds.length := by omega
          have hg : ds[i]? = some ds[i] := List.getElem?_eq_getElem hi2
          exact ev_call ih hr0 (av_cons (ev_ixL (ev_var 0 rfl) (ev_var 2 rfl) (atI_nat hg (by omega))) (av_cons (ev_ixL (ev_var 1 rfl) (ev_var 2 rfl) (atI_nat hg (by omega))) av_nil)) ⟨ds[i], rfl, hd _ (List.getElem_mem hi2), rfl, rfl⟩
      | val v => exact same_val T c_is_integer (hr.mono (by omega)) ok
      | dic => exact ok.elim
end
/-! frames of the memory: but for what stands at a, what stood stands -/
def Fr1 (a : Addr) (M M' : Mem) : Prop := ∀ b, b ≠ a → ∀ o, M b = some o → M' b = some o
theorem Fr1.refl (a : Addr) (M : Mem) : Fr1 a M M := fun _ _ _ h => h
theorem Fr1.trans {a : Addr} {M M1 M2 : Mem} (h : Fr1 a M M1) (k : Fr1 a M1 M2) : Fr1 a M M2 := fun b n o e => k b n o (h b n o e)
theorem Fr1.set {a : Addr} {M M1 : Mem} {o : MO} (h : Fr1 a M M1) : Fr1 a M (M1.set a o) := fun b n u e => by rw [Mem.set_ne n]; exact h b n u e
/-- what is new may change -/
theorem Fr1.new {a l : Addr} {M M1 : Mem} {o : MO} (h : Fr1 a M M1) (hl : M l = none) : Fr1 a M (M1.set l o) := fun b n u e => by
  rw [Mem.set_ne (fun q => by rw [q, hl] at e; cases e)]
  exact h b n u e
theorem Fr1.up {a : Addr} {M M1 M2 : Mem} (h : Fr1 a M M1) (k : Mle M1 M2) : Fr1 a M M2 := fun b n u e => k b u (h b n u e)
theorem mem_eta {M : Mem} {a : Addr} {o : MO} (h : M a = some o) : M.set a o = M := by
  funext b
  unfold Mem.set
  split
  · rename_i e
    rw [e, h]
  · rfl
theorem Fr1.fin {a : Addr} {M M1 : Mem} {o : MO} (h : Fr1 a M M1) (e : M1 a = some o) : Mle (M.set a o) M1 := fun b u q => by
  by_cases n : b = a
  · subst n
    rw [Mem.set_same] at q
    cases q
    exact e
  · rw [Mem.set_ne n] at q
    exact h b n u q
section
variable {X : Cx} {ρ : Sl} {M : Mem} {st : Stmt} {Ψ : Out → Prop}
/-- behind a statement with several ways: J holds on each -/
def joinR (J : Sl → Mem → Prop) (Ψ : Out → Prop) : Out → Prop
  | .nx ρ M => J ρ M
  | .ct ρ M => Ψ (.ct ρ M)
  | .bk ρ M => Ψ (.bk ρ M)
  | .ret d M => Ψ (.ret d M)
theorem sv_join (J : Sl → Mem → Prop) (h : SV X st ρ M (joinR J Ψ)) (k : ∀ ρ M, J ρ M → Ψ (.nx ρ M)) : SV X st ρ M Ψ := sv_to h fun o ho => by
  cases o with
  | nx ρ M => exact k ρ M ho
  | ct ρ M => exact ho
  | bk ρ M => exact ho
  | ret d M => exact ho
end
theorem hu64 {k : Nat} {A : Around} (h : Room k A) : A.units + 64 < cLine := by have := h.un; omega
/-! draws -/
/-- a def that draws from the pool at a: good answers g with their trees -/
def Draw (M : Mem) (a : Addr) (Φ : D → Mem → Prop) (d : D) : Prop := ∀ p' : Pool, p'.Ok → ∀ M', Fr1 a M M' → M' a = some p'.mo → Φ d M'
def R_take (ds : List D) (M : Mem) (Φ : D → Mem → Prop) : Prop := ∃ a p many, ds = [dP a, dI many] ∧ M a = some (Pool.mo p) ∧ p.Ok ∧ 0 < many ∧ many < 1073741824 ∧ ∀ n : Int, 0 ≤ n → n < many → Draw M a Φ (dI n)
def R_pick (ds : List D) (M : Mem) (Φ : D → Mem → Prop) : Prop := ∃ a p b es, ds = [dP a, sq b es] ∧ M a = some (Pool.mo p) ∧ p.Ok ∧ 0 < es.length ∧ es.length < 1073741824 ∧ ∀ d ∈ es, Draw M a Φ d
theorem Cal.spW_of {P : Program} {w : World} {K : PySem.W.Frag} {mg : Str → Option Value} {base : Heap} {k : Nat} {x : Str} {Pr : List D → Mem → D → Mem → Prop} {R : List D → Mem → (D → Mem → Prop) → Prop} (C : Cal P w K mg base k x (spD K Pr)) (h : ∀ ds M Φ, R ds M Φ → ∃ d M', Pr ds M d M' ∧ Φ d M') : Cal P w K mg base k x (spW K R) :=
  C.imp fun vs H Q E ⟨G, ds, M, Φ, sh, r, q, k⟩ =>
    let ⟨d, M', p, f⟩ := h ds M Φ q
    ⟨G, ds, M, d, M', sh, r, p, fun v G' H' g sh' r' => k v G' H' d M' f g sh' r'⟩
section
variable {P : Program} {w : World} {K : PySem.W.Frag} {mg : Str → Option Value} {base : Heap} {f : Addr} {fd : FuncData}
theorem w_take (C : Cal P w K mg base 2 "_law_take" (spD K PrTake)) : Cal P w K mg base 2 "_law_take" (spW K R_take) := C.spW_of fun ds M Φ ⟨a, p, many, e, hA, ok, h0, h1, hΦ⟩ =>
  ⟨_, _, ⟨a, M, p, many, e, (mem_eta hA).symm, ok, h0, h1, rfl, rfl⟩, hΦ _ (p.take_lo h0) (p.take_hi h0) _ (ok.take many) _ (Fr1.refl _ _).set Mem.set_same⟩
theorem w_pick (C : Cal P w K mg base 3 "_law_pick" (spD K PrPick)) : Cal P w K mg base 3 "_law_pick" (spW K R_pick) := C.spW_of fun ds M Φ ⟨a, p, b, es, e, hA, ok, h0, h1, hΦ⟩ => by
  have h0' : (0 : Int) < es.length := by omega
  have t1 := p.take_lo h0'
  have t2 := p.take_hi h0'
  have hlt : (p.take es.length).1.toNat < es.length := by omega
  exact ⟨_, _, ⟨a, M, p, b, es, e, (mem_eta hA).symm, ok, h0, h1, List.getElem?_eq_getElem hlt, rfl⟩, hΦ _ (List.getElem_mem hlt) _ (ok.take _) _ (Fr1.refl _ _).set Mem.set_same⟩
end
/-! the list that a comprehension makes, out of the memory -/
def Mem.del (M : Mem) (p : Addr) : Mem := fun b => if b = p then none else M b
theorem Mem.del_same {M : Mem} {p : Addr} : M.del p p = none := if_pos rfl
theorem Mem.del_ne {M : Mem} {p b : Addr} (h : b ≠ p) : M.del p b = M b := if_neg h
theorem mem_ne {M : Mem} {a p : Addr} {o : MO} (h : M a = some o) (hp : M p = none) : a ≠ p := fun q => by rw [q, hp] at h; cases h
theorem Mem.set_at {M : Mem} {a p : Addr} {o u : MO} (h : M a = some o) (hp : M p = none) : M.set p u a = some o := by rw [Mem.set_ne (mem_ne h hp)]; exact h
/-- behind an element: the list is as it was -/
theorem lc_back {a p : Addr} {M M' : Mem} {o u : MO} (h : M a = some o) (hp : M p = none) (fr : Fr1 a (M.set p u) M') : M' = (M'.del p).set p u ∧ M'.del p p = none ∧ Fr1 a M (M'.del p) ∧ ∀ q, M' a = some q → M'.del p a = some q := by
  have np : p ≠ a := (mem_ne h hp).symm
  have e : M' p = some u := fr p np u Mem.set_same
  refine ⟨?_, Mem.del_same, fun b n v q => ?_, fun q e => ?_⟩
  · funext b
    unfold Mem.set Mem.del
    by_cases hb : b = p
    · rw [if_pos hb, hb]
      exact e
    · rw [if_neg hb, if_neg hb]
  · have nb : b ≠ p := mem_ne q hp
    rw [Mem.del_ne nb]
    exact fr b n v (by rw [Mem.set_ne nb]; exact q)
  · rw [Mem.del_ne (mem_ne h hp)]
    exact e
/-! great ints -/
def CDivS (_ j : Int) : Prop := j ≠ 0 ∧ j.natAbs.log2 < 9000
def Bd (k : Nat) (i : Int) : Prop := i.natAbs < 2 ^ k
theorem Bd.mono {k l : Nat} {i : Int} (h : Bd k i) (e : k ≤ l) : Bd l i := Nat.lt_of_lt_of_le h (Nat.pow_le_pow_right (by decide) e)
theorem Bd.mul {k l : Nat} {i j : Int} (h : Bd k i) (e : Bd l j) : Bd (k + l) (i * j) := wide_lt h e
theorem Bd.add {k : Nat} {i j : Int} (h : Bd k i) (e : Bd k j) : Bd (k + 1) (i + j) := by
  unfold Bd at *
  rw [Nat.pow_succ]
  omega
theorem Bd.sub {k : Nat} {i j : Int} (h : Bd k i) (e : Bd k j) : Bd (k + 1) (i - j) := by
  unfold Bd at *
  rw [Nat.pow_succ]
  omega
theorem Bd.neg {k : Nat} {i : Int} (h : Bd k i) : Bd k (-i) := by
  unfold Bd at *
  omega
theorem Bd.le {k : Nat} {i j : Int} (h : Bd k i) (e : j.natAbs ≤ i.natAbs) : Bd k j := Nat.lt_of_le_of_lt e h
theorem Bd.of {k : Nat} {i m : Int} (h : -m ≤ i ∧ i ≤ m) (e : m.natAbs < 2 ^ k) : Bd k i := by
  unfold Bd
  omega
theorem Bd.cm {k l : Nat} {i j : Int} (h : Bd k i) (e : Bd l j) (hk : 0 < k := by decide) (hl : 0 < l := by decide) (hs : k + l ≤ 1000000 := by decide) : CMulW i j := wide_mul h e hk hl hs
theorem Bd.cd {l : Nat} {i j : Int} (e : Bd l j) (h : 0 < j) (hl : 0 < l := by decide) (hs : l ≤ 9000 := by decide) : CDivW i j := wide_div h e hl hs
section
variable {X : Cx} {ρ : Sl} {M M1 M2 : Mem} {a b e : Expr} {es : List Expr} {pos : Pos}
theorem op_fdivS : OpR X (binaryOp .FloorDiv) (rI CDivS fun i j => .int (i.fdiv j)) := opI fun _ _ _ _ _ _ _ hc q => floordiv_int hc.1 q (.inl (PyProof.noPylong_of_log2 hc.2))
/-- f(x, y), f a module's name of a built-in function of two ints -/
theorem ev_bf2 {x : Str} {id : String} {p : Pos} {i j : Int} {z : V} {r : List V → Hp → VK → Prop} (hc : CallR X (.builtin id) r) (hm : X.mg x = some (.builtin id)) (ha : EV X a ρ M (dI i) M1) (hb : EV X b ρ M1 (dI j) M2) (hr : ∀ H Q, Q z H → r [.int i, .int j] H Q) (hg : Gl X x := by rfl)
    (hd : (x == ("__debug__" : Str)) = false := by decide) (hst : starEach [a, b] X.env = (false, eval a X.env) :: starEach [b] X.env := by rfl) (hst2 : starEach [b] X.env = [(false, eval b X.env)] := by rfl) (hpl : (backTo pos (starEach [b] X.env)).any (·.1) = false := by rfl) : EV X (.Call (.Name x p) [a, b] [] pos) ρ M (.val z) M2 :=
  (pe_callBfun hc hg hm (av_cons ha (av_cons hb av_nil hst2) hst) (hdb := hd) (he := hst) (hpl := hpl)).mono fun σ H Q ⟨G, sa, k⟩ => ⟨G, sa, fun vs G1 H1 g1 sh1 r1 => by
    rw [RepL.of_vals (xs := [.int i, .int j]) r1]
    exact hr _ _ (k _ G1 H1 g1 sh1 (.val _))⟩
def rLcm : List V → Hp → VK → Prop := fun vs H Q => ∃ a b : Int, vs = [.int a, .int b] ∧ (a.natAbs < 2 ^ 64 ∧ b.natAbs < 2 ^ 64) ∧ Q (.int ((Nat.lcm a.natAbs b.natAbs : Nat) : Int)) H
theorem cr_lcm : CallR X (.builtin "math.lcm") rLcm := by
  intro pins s σ H vs us Q I r h
  obtain ⟨a, b, rfl, ⟨ha, hb⟩, q⟩ := h
  obtain ⟨t, u, rfl⟩ := Vals.int2 r
  have e : (Nat.lcm 1 a.natAbs).lcm b.natAbs = Nat.lcm a.natAbs b.natAbs := by rw [Nat.lcm_one_left]
  have hz : Nat.lcm a.natAbs b.natAbs < 2 ^ 128 := Nat.lt_of_le_of_lt (show a.natAbs * b.natAbs / _ ≤ _ from Nat.div_le_self _ _) (Nat.lt_of_lt_of_eq (Nat.mul_lt_mul'' ha hb) (by decide))
  refine PySem.W.mg_lcm ha hb ?_ ⟨.int _, H, I.tok _, ⟨_, rfl⟩, ?_⟩
  · rw [e, Int.natAbs_natCast]
    exact Nat.lt_trans (PySem.Flt.log2_lt_of (by decide) hz) (by decide)
  · rw [e]
    exact q
end
/-! ### fractions in lowest terms -/
def gz (n d : Int) : Int := ((Nat.gcd n.natAbs d.natAbs : Nat) : Int)
def low (n d : Int) : Int × Int := (n / gz n d, d / gz n d)
def frD (p : Int × Int) : D := .tup [dI p.1, dI p.2]
def frac (n d : Int) : Int × Int := (n.fdiv (if d < 0 then -gz n d else gz n d), d.fdiv (if d < 0 then -gz n d else gz n d))
theorem gz_pos {n d : Int} (h : d ≠ 0) : 0 < gz n d := by
  have := Nat.gcd_pos_of_pos_right n.natAbs (Int.natAbs_pos.mpr h)
  unfold gz
  omega
theorem gz_dl (n d : Int) : gz n d ∣ n := by
  unfold gz
  exact Int.ofNat_dvd_left.mpr (Nat.gcd_dvd_left _ _)
theorem gz_dr (n d : Int) : gz n d ∣ d := by
  unfold gz
  exact Int.ofNat_dvd_left.mpr (Nat.gcd_dvd_right _ _)
theorem gz_neg (n d : Int) : gz (-n) (-d) = gz n d := by
  unfold gz
  rw [Int.natAbs_neg, Int.natAbs_neg]
theorem fdiv_neg_ex {n g : Int} (hg : 0 < g) (h : g ∣ n) : n.fdiv (-g) = -n / g := by
  obtain ⟨q, rfl⟩ := h
  have e1 : g * q = -g * -q := by rw [Int.neg_mul_neg]
  have e2 : -(g * q) = g * -q := by rw [Int.mul_neg]
  rw [e2, Int.mul_ediv_cancel_left _ (by omega), e1, Int.mul_fdiv_cancel_left _ (by omega)]
theorem frac_pos {n d : Int} (h : 0 < d) : frac n d = low n d := by
  have g := gz_pos (n := n) (show d ≠ 0 by omega)
  unfold frac low
  rw [if_neg (by omega), Int.fdiv_eq_ediv_of_nonneg _ (by omega), Int.fdiv_eq_ediv_of_nonneg _ (by omega)]
theorem frac_neg {n d : Int} (h : d < 0) : frac n d = low (-n) (-d) := by
  have g := gz_pos (n := n) (show d ≠ 0 by omega)
  unfold frac low
  rw [if_pos h, gz_neg, fdiv_neg_ex g (gz_dl n d), fdiv_neg_ex g (gz_dr n d)]
theorem gz_mul {n d c : Int} (hc : 0 < c) : gz (n * c) (d * c) = gz n d * c := by
  unfold gz
  rw [Int.natAbs_mul, Int.natAbs_mul, Nat.gcd_mul_right, Int.natCast_mul]
  congr 1
  omega
theorem low_mul {n d c : Int} (hd : d ≠ 0) (hc : 0 < c) : low (n * c) (d * c) = low n d := by
  have g := gz_pos (n := n) hd
  unfold low
  rw [gz_mul hc, Int.mul_ediv_mul_of_pos_left _ _ hc, Int.mul_ediv_mul_of_pos_left _ _ hc]
theorem low_cross {n d n' d' : Int} (hd : 0 < d) (hd' : 0 < d') (h : n * d' = n' * d) : low n d = low n' d' := by
  rw [← low_mul (show d ≠ 0 by omega) hd', ← low_mul (n := n') (show d' ≠ 0 by omega) hd, h, Int.mul_comm d d']
theorem low_den {n d : Int} (hd : 0 < d) : 0 < (low n d).2 := by
  have g := gz_pos (n := n) (show d ≠ 0 by omega)
  exact Int.ediv_pos_of_pos_of_dvd hd (by omega) (gz_dr n d)
theorem low_eq {n d : Int} (hd : 0 < d) : (low n d).1 * d = n * (low n d).2 := by
  have g := gz_pos (n := n) (show d ≠ 0 by omega)
  obtain ⟨a, ha⟩ := gz_dl n d
  obtain ⟨b, hb⟩ := gz_dr n d
  show n / gz n d * d = n * (d / gz n d)
  have e1 : n / gz n d = a := by
    rw [Int.ediv_eq_iff_eq_mul_right (by omega) (gz_dl n d)]
    exact ha
  have e2 : d / gz n d = b := by
    rw [Int.ediv_eq_iff_eq_mul_right (by omega) (gz_dr n d)]
    exact hb
  rw [e1, e2]
  calc a * d = a * (gz n d * b) := by rw [← hb]
    _ = gz n d * a * b := by rw [← Int.mul_assoc, Int.mul_comm a]
    _ = n * b := by rw [← ha]
theorem low_bd1 {n d : Int} {k : Nat} (h : Bd k n) : Bd k (low n d).1 := h.le (by
  show (n / gz n d).natAbs ≤ n.natAbs
  exact Int.natAbs_ediv_le_natAbs _ _)
theorem low_bd2 {n d : Int} {k : Nat} (h : Bd k d) : Bd k (low n d).2 := h.le (by
  show (d / gz n d).natAbs ≤ d.natAbs
  exact Int.natAbs_ediv_le_natAbs _ _)
theorem low_num {n d : Int} (hn : 0 < n) (hd : 0 < d) : 0 < (low n d).1 := by
  have g := gz_pos (n := n) (show d ≠ 0 by omega)
  exact Int.ediv_pos_of_pos_of_dvd hn (by omega) (gz_dl n d)
theorem low_dvd (n d : Int) : (low n d).2 ∣ d := by
  obtain ⟨b, hb⟩ := gz_dr n d
  by_cases h : gz n d = 0
  · rw [hb, h, Int.zero_mul]
    exact ⟨0, by rw [Int.mul_zero]⟩
  · refine ⟨gz n d, ?_⟩
    show d = d / gz n d * gz n d
    rw [Int.ediv_mul_cancel (gz_dr n d)]
/-! Euclid's steps -/
structure Euc (P g i x y : Nat) : Prop where
  gc : Nat.gcd x y = g
  pr : x * y * 2 ^ (i - 1) ≤ P
  le : 1 ≤ i → y ≤ x
theorem Euc.step {P g i x y : Nat} (h : Euc P g i x y) (hy : 0 < y) : Euc P g (i + 1) y (x % y) := by
  refine ⟨?_, ?_, fun _ => Nat.le_of_lt (Nat.mod_lt _ hy)⟩
  · rw [← h.gc, Nat.gcd_comm x y, Nat.gcd_rec y x, Nat.gcd_comm]
  · rw [Nat.add_sub_cancel]
    cases i with
    | zero =>
      refine Nat.le_trans ?_ h.pr
      rw [Nat.mul_comm x y]
      exact Nat.mul_le_mul_right _ (Nat.mul_le_mul_left _ (Nat.mod_le _ _))
    | succ i =>
      have hle := h.le (by omega)
      have key : y * (x % y) * 2 ≤ x * y := by
        have r1 := Nat.mod_lt x hy
        have r2 := Nat.div_add_mod x y
        have q1 : 1 ≤ x / y := (Nat.le_div_iff_mul_le hy).mpr (by omega)
        have q2 : y * 1 ≤ y * (x / y) := Nat.mul_le_mul_left _ q1
        have : x % y * 2 ≤ x := by omega
        rw [Nat.mul_assoc, Nat.mul_comm x y]
        exact Nat.mul_le_mul_left _ this
      have p := h.pr
      rw [Nat.add_sub_cancel] at p
      calc y * (x % y) * 2 ^ (i + 1) = y * (x % y) * 2 * 2 ^ i := by rw [Nat.pow_succ, Nat.mul_comm (2 ^ i) 2, Nat.mul_assoc (y * (x % y)) 2]
        _ ≤ x * y * 2 ^ i := Nat.mul_le_mul_right _ key
        _ ≤ P := p
theorem Euc.end_ {P g k x y : Nat} (h : Euc P g (k + 1) x y) (hP : P < 2 ^ k) : y = 0 := by
  have p := h.pr
  rw [Nat.add_sub_cancel] at p
  have l := h.le (by omega)
  rcases Nat.eq_zero_or_pos y with e | e
  · exact e
  · exfalso
    have : 1 ≤ x * y := Nat.mul_pos (by omega) e
    have := Nat.mul_le_mul_right (2 ^ k) this
    omega
theorem mod_int {x y : Nat} : (x : Int) - (y : Int) * ((x : Int) / (y : Int)) = ((x % y : Nat) : Int) := by
  rw [Int.natCast_emod, Int.emod_def]
def PrLow (ds : List D) (M : Mem) (d : D) (M' : Mem) : Prop := ∃ n k : Int, ds = [dI n, dI k] ∧ 0 < k ∧ Bd 300 n ∧ Bd 1650 k ∧ d = frD (low n k) ∧ M' = M
section
variable {P : Program} {w : World} {K : PySem.W.Frag} {mg : Str → Option Value} {base : Heap} {f : Addr} {fd : FuncData}
theorem c_lowest (F : Fun K "_law_lowest" "_law_lowest" s_lowest f fd) (hm : mg "_law_lowest" = some (.ref f)) (T : Bt mg) (ha : mg "abs" = none) : Cal P w K mg base 1 "_law_lowest" (spD K PrLow) := by
  refine cal_of F sc_lowest hm (fun _ _ _ _ _ _ us hl => match us, hl with | [_, _], _ => rfl) (fun ds M d M' h => ?_) fun cdv A outer s H E ds M d M' hr h => ?_
  · obtain ⟨n, k, rfl, _⟩ := h
    rfl
  · obtain ⟨n, k, rfl, h0, hn, hk, rfl, rfl⟩ := h
    show BV _ _ [some (dI n), some (dI k), none, none, none] _ _
    refine bv_cons (sw_par 2 3 rfl sc_lowest.nd (aw_av (av_cons (ev_abs ha (ev_var 0 rfl)) (av_cons (ev_var 1 rfl) av_nil)) ⟨_, _, rfl, ?_⟩))
    have eabs : (if n < 0 then -n else n) = ((n.natAbs : Nat) : Int) := by split <;> omega
    have ek : k = ((k.natAbs : Nat) : Int) := by omega
    rw [eabs]
    refine bv_cons (sv_join (fun ρ M => ∃ x y t, ρ = [some (dI n), some (dI k), some (dI x), some y, t] ∧ M = M' ∧ x = gz n k) ?_ ?_)
    · refine sw_for rfl (pg_name (i := 4) sc_lowest.nd rfl (.inl rfl)) (iw_iv (iv_range1 T.range ev_int (by decide)) ⟨fun i ρ M => ∃ (x y : Nat) (t : Option D), ρ = [some (dI n), some (dI k), some (dI x), some (dI y), t] ∧ M = M' ∧ Bd 1650 x ∧ Bd 1650 y ∧ Euc (n.natAbs * k.natAbs) (Nat.gcd n.natAbs k.natAbs) i x y, ?_, fun i d ρ' M1 hd iv => ?_, fun ρ' M1 iv => ?_⟩)
      · refine ⟨n.natAbs, k.natAbs, none, by rw [← ek]; rfl, rfl, ?_, ?_, rfl, ?_, fun h => by omega⟩
        · exact (show Bd 300 ((n.natAbs : Nat) : Int) from hn.le (by omega)).mono (by decide)
        · exact hk.le (by omega)
        · show n.natAbs * k.natAbs * 2 ^ 0 ≤ _
          omega
      · obtain ⟨x, y, t, rfl, rfl, bx, hy, eu⟩ := iv
        refine ⟨_, tg_name, ?_⟩
        refine bv_cons (sv_if (tv_cmpR op_eq (ev_var 3 rfl) ev_int rs_eqI (nomark _)) (fun h => ?_) (fun h => bv_nil ?_))
        · have y0 : y = 0 := by have := of_decide_eq_true h; omega
          subst y0
          refine bv_one (sv_break ⟨_, _, _, rfl, rfl, ?_⟩)
          have := eu.gc
          rw [Nat.gcd_zero_right] at this
          rw [this]
          rfl
        · have y0 : 0 < y := by have := of_decide_eq_false h; omega
          have q0 : Bd 1650 ((x : Int) / (y : Int)) := bx.le (Int.natAbs_ediv_le_natAbs _ _)
          refine bv_one (sw_par 2 3 rfl sc_lowest.nd (aw_av (av_cons (ev_var 3 rfl) (av_cons (ev_op op_sub (ev_var 2 rfl) (ev_op op_mulW (ev_var 3 rfl) (ev_intI T.int (ev_op op_fdivW (ev_var 2 rfl) (ev_var 3 rfl) (rs_I (hy.cd (by omega))))) (rs_I (hy.cm q0))) rs_I0) av_nil)) ⟨_, _, rfl, ?_⟩))
          rw [mod_int]
          refine ⟨y, x % y, _, rfl, rfl, hy, ?_, eu.step y0⟩
          refine hy.le ?_
          have := Nat.mod_lt x y0
          omega
      · obtain ⟨x, y, t, rfl, rfl, bx, hy, eu⟩ := iv
        rw [rgD_len] at eu
        have y0 := Euc.end_ (k := 1999) eu (by
          refine Nat.lt_of_lt_of_le (Nat.mul_lt_mul'' hn hk) ?_
          rw [← Nat.pow_add]
          exact Nat.pow_le_pow_right (by decide) (by decide))
        subst y0
        refine ⟨_, _, _, rfl, rfl, ?_⟩
        have := eu.gc
        rw [Nat.gcd_zero_right] at this
        rw [this]
        rfl
    · rintro ρ M ⟨x, y, t, rfl, rfl, rfl⟩
      have g0 := gz_pos (n := n) (show k ≠ 0 by omega)
      have gb : Bd 1650 (gz n k) := by
        refine hk.le ?_
        have := Nat.gcd_le_right n.natAbs (show 0 < k.natAbs by omega)
        unfold gz
        omega
      exact bv_one (sv_ret (ev_tup (av_cons (ev_op op_fdivW (ev_var 0 rfl) (ev_var 2 rfl) (rs_I (gb.cd g0))) (av_cons (ev_op op_fdivW (ev_var 1 rfl) (ev_var 2 rfl) (rs_I (gb.cd g0))) av_nil))) ⟨rfl, Mle.refl _⟩)
theorem low_at {n k : Int} (h : 0 < k) (hn : Bd 300 n) (hk : Bd 1650 k) {M : Mem} : PrLow [dI n, dI k] M (frD (low n k)) M := ⟨n, k, rfl, h, hn, hk, rfl, rfl⟩
end
/-! ### kinds of things -/
def kD : Nat → D → Prop
  | _, .val v => v = .non ∨ (∃ b, v = .bl b) ∨ (∃ i, v = .int i) ∨ ∃ z, v = .str z
  | _, .dic => True
  | n + 1, .tup ds => ds.length ≤ 1000000 ∧ ∀ d ∈ ds, kD n d
  | n + 1, .lst ds => ds.length ≤ 1000000 ∧ ∀ d ∈ ds, kD n d
  | 0, .tup _ => False
  | 0, .lst _ => False
def rowD : D → Bool
  | .tup _ => true
  | .lst _ => true
  | _ => false
def partsD : D → List D
  | .tup ds => ds
  | .lst ds => ds
  | _ => []
def partD (d : D) (i : Nat) : D := (partsD d).getD i dN
def numD : D → Bool
  | .val (.int _) => true
  | _ => false
def boolD : D → Bool
  | .val (.bl _) => true
  | _ => false
def wholeD (lo hi : Int) : D → Bool
  | .val (.int i) => decide (lo ≤ i) && decide (i ≤ hi)
  | _ => false
def intD : D → Int
  | .val (.int i) => i
  | _ => 0
def pairD (d : D) : Bool := rowD d && decide ((partsD d).length = 2)
def toneD (d : D) : Bool := pairD d && (partsD d).all (wholeD (-1000) 1000)
def shortD (d : D) : Bool := (pairD d && (partsD d).all (wholeD 1 1000)) && decide (((Nat.gcd (intD (partD d 0)).natAbs (intD (partD d 1)).natAbs : Nat) : Int) = 1)
theorem rowD_sq {d : D} (h : rowD d = true) : ∃ b ds, d = sq b ds ∧ partsD d = ds := by
  cases d with
  | tup ds => exact ⟨false, ds, rfl, rfl⟩
  | lst ds => exact ⟨true, ds, rfl, rfl⟩
  | val v => cases h
  | dic => cases h
theorem rowD_of {b : Bool} {ds : List D} : rowD (sq b ds) = true := by cases b <;> rfl
theorem partsD_of {b : Bool} {ds : List D} : partsD (sq b ds) = ds := by cases b <;> rfl
theorem kD_sq {n : Nat} {b : Bool} {ds : List D} (h : kD (n + 1) (sq b ds)) : ds.length ≤ 1000000 ∧ ∀ d ∈ ds, kD n d := by cases b <;> exact h
theorem kD_sq0 {n : Nat} {b : Bool} {ds : List D} (h : kD n (sq b ds)) : ∃ m, n = m + 1 ∧ ds.length ≤ 1000000 ∧ ∀ d ∈ ds, kD m d := by
  cases n with
  | zero => cases b <;> exact h.elim
  | succ m => exact ⟨m, rfl, kD_sq h⟩
theorem kD_mk {n : Nat} {b : Bool} {ds : List D} (hl : ds.length ≤ 1000000) (h : ∀ d ∈ ds, kD n d) : kD (n + 1) (sq b ds) := by cases b <;> exact ⟨hl, h⟩
theorem kD_int {n : Nat} (i : Int) : kD n (dI i) := by cases n <;> exact .inr (.inr (.inl ⟨i, rfl⟩))
theorem kD_bool {n : Nat} (b : Bool) : kD n (dB b) := by cases n <;> exact .inr (.inl ⟨b, rfl⟩)
theorem kD_str {n : Nat} (z : Str) : kD n (dS z) := by cases n <;> exact .inr (.inr (.inr ⟨z, rfl⟩))
theorem kD_none {n : Nat} : kD n dN := by cases n <;> exact .inl rfl
theorem kD_dic {n : Nat} : kD n .dic := by cases n <;> trivial
theorem kD_val {n : Nat} {v : V} (h : kD n (.val v)) : v = .non ∨ (∃ b, v = .bl b) ∨ (∃ i, v = .int i) ∨ ∃ z, v = .str z := by cases n <;> exact h
theorem kD_up : ∀ {n : Nat} {d : D}, kD n d → kD (n + 1) d
  | n, .val v, h => by cases n <;> exact h
  | n, .dic, _ => kD_dic
  | 0, .tup _, h => h.elim
  | 0, .lst _, h => h.elim
  | n + 1, .tup _, h => ⟨h.1, fun d hd => kD_up (h.2 d hd)⟩
  | n + 1, .lst _, h => ⟨h.1, fun d hd => kD_up (h.2 d hd)⟩
theorem kD_le {n m : Nat} {d : D} (h : kD n d) (hm : n ≤ m) : kD m d := by
  induction hm with
  | refl => exact h
  | step _ ih => exact kD_up ih
theorem kD_ty {n : Nat} {d : D} (h : kD n d) : ∃ t, tyD d = some t ∧ (t = "NoneType" ∨ t = "bool" ∨ t = "int" ∨ t = "str" ∨ t = "tuple" ∨ t = "list" ∨ t = "dict") := by
  cases d with
  | val v =>
    rcases kD_val h with rfl | ⟨b, rfl⟩ | ⟨i, rfl⟩ | ⟨z, rfl⟩
    · exact ⟨_, rfl, .inl rfl⟩
    · exact ⟨_, rfl, .inr (.inl rfl)⟩
    · exact ⟨_, rfl, .inr (.inr (.inl rfl))⟩
    · exact ⟨_, rfl, .inr (.inr (.inr (.inl rfl)))⟩
  | tup ds => exact ⟨_, rfl, .inr (.inr (.inr (.inr (.inl rfl))))⟩
  | lst ds => exact ⟨_, rfl, .inr (.inr (.inr (.inr (.inr (.inl rfl)))))⟩
  | dic => exact ⟨_, rfl, .inr (.inr (.inr (.inr (.inr (.inr rfl)))))⟩
theorem getD_at {ds : List D} {i : Nat} (h : i < ds.length) : ds[i]? = some (ds.getD i dN) := by
  rw [List.getD_eq_getElem?_getD, List.getElem?_eq_getElem h]
  rfl
theorem two_of {ds : List D} (h : ds.length = 2) : ds = [ds.getD 0 dN, ds.getD 1 dN] := by
  match ds, h with
  | [_, _], _ => rfl
theorem three_of {ds : List D} (h : ds.length = 3) : ds = [ds.getD 0 dN, ds.getD 1 dN, ds.getD 2 dN] := by
  match ds, h with
  | [_, _, _], _ => rfl
theorem whole_int {lo hi : Int} {d : D} (h : wholeD lo hi d = true) : ∃ i, d = dI i ∧ lo ≤ i ∧ i ≤ hi := by
  cases d with
  | val v =>
    cases v with
    | int i =>
      have := (Bool.and_eq_true_iff.mp h)
      exact ⟨i, rfl, of_decide_eq_true this.1, of_decide_eq_true this.2⟩
    | _ => cases h
  | _ => cases h
section
variable {P : Program} {w : World} {K : PySem.W.Frag} {mg : Str → Option Value} {base : Heap} {f : Addr} {fd : FuncData}
def PrRow (ds : List D) (M : Mem) (d : D) (M' : Mem) : Prop := ∃ t n, ds = [t] ∧ kD n t ∧ d = dB (rowD t) ∧ M' = M
theorem c_p_is_row (F : Fun K "is_row" "is_row" s_p_is_row f fd) (hm : mg "is_row" = some (.ref f)) (T : Bt mg) : Cal P w K mg base 1 "is_row" (spD K PrRow) := by
  refine cal_of F sc_p_is_row hm (fun _ _ _ _ _ _ us hl => match us, hl with | [_], _ => rfl) (fun ds M d M' h => ?_) fun cdv A outer s H E ds M d M' hr h => ?_
  · obtain ⟨t, n, rfl, _⟩ := h
    rfl
  · obtain ⟨t, n, rfl, hk, rfl, rfl⟩ := h
    show BV _ _ [some t] _ _
    cases t with
    | val v =>
      rcases kD_val hk with rfl | ⟨b, rfl⟩ | ⟨i, rfl⟩ | ⟨z, rfl⟩
      all_goals exact bv_one (sv_ret (ev_isi2 (r1 := false) (r2 := false) T.isinstance T.list boot_list T.tuple boot_tuple (ev_var 0 rfl) rfl (by decide +kernel) (by decide +kernel)) ⟨rfl, Mle.refl _⟩)
    | tup ds => exact bv_one (sv_ret (ev_isi2 (r1 := false) (r2 := true) T.isinstance T.list boot_list T.tuple boot_tuple (ev_var 0 rfl) rfl (by decide +kernel) (by decide +kernel)) ⟨rfl, Mle.refl _⟩)
    | lst ds => exact bv_one (sv_ret (ev_isi2 (r1 := true) (r2 := false) T.isinstance T.list boot_list T.tuple boot_tuple (ev_var 0 rfl) rfl (by decide +kernel) (by decide +kernel)) ⟨rfl, Mle.refl _⟩)
    | dic => exact bv_one (sv_ret (ev_isi2 (r1 := false) (r2 := false) T.isinstance T.list boot_list T.tuple boot_tuple (ev_var 0 rfl) rfl (by decide +kernel) (by decide +kernel)) ⟨rfl, Mle.refl _⟩)
theorem ev_lenS2 {X : Cx} {ρ : Sl} {M M1 : Mem} {e : Expr} {b : Bool} {ds : List D} {p pos : Pos} (hm : X.mg "len" = none) (ha : EV X e ρ M (sq b ds) M1) (hg : Gl X "len" := by rfl) (hst : starEach [e] X.env = [(false, eval e X.env)] := by rfl) : EV X (.Call (.Name "len" p) [e] [] pos) ρ M (dI ds.length) M1 := by
  cases b with
  | true => exact ev_lenL hm ha hg hst
  | false => exact ev_lenT hm ha hg hst
def PrPair (ds : List D) (M : Mem) (d : D) (M' : Mem) : Prop := ∃ t n, ds = [t] ∧ kD n t ∧ d = dB (pairD t) ∧ M' = M
theorem c_p_is_pair (F : Fun K "is_pair" "is_pair" s_p_is_pair f fd) (hm : mg "is_pair" = some (.ref f)) (T : Bt mg) (c_p_is_row : Cal P w K mg base 1 "is_row" (spD K PrRow)) : Cal P w K mg base 2 "is_pair" (spD K PrPair) := by
  refine cal_of F sc_p_is_pair hm (fun _ _ _ _ _ _ us hl => match us, hl with | [_], _ => rfl) (fun ds M d M' h => ?_) fun cdv A outer s H E ds M d M' hr h => ?_
  · obtain ⟨t, n, rfl, _⟩ := h
    rfl
  · obtain ⟨t, n, rfl, hk, rfl, rfl⟩ := h
    show BV _ _ [some t] _ _
    refine bv_one (sv_ret (ev_andB (p := rowD t) (q := decide (((partsD t).length : Int) = 2)) (ev_call c_p_is_row (hr.mono (by decide)) (av_cons (ev_var 0 rfl) av_nil) ⟨t, n, rfl, hk, rfl, rfl⟩) (fun h => ?_)) ⟨?_, Mle.refl _⟩)
    · obtain ⟨b, ds, rfl, e⟩ := rowD_sq h
      rw [e]
      exact ev_one (b := true) (ev_cmpR op_eq (ev_lenS2 T.len (ev_var 0 rfl)) ev_int rs_eqI (nomark _))
    · unfold pairD
      rw [show decide (((partsD t).length : Int) = 2) = decide ((partsD t).length = 2) from decide_eq_decide.mpr ⟨fun h => by omega, fun h => by omega⟩]
def PrNum (ds : List D) (M : Mem) (d : D) (M' : Mem) : Prop := ∃ t n, ds = [t] ∧ kD n t ∧ d = dB (numD t) ∧ M' = M
theorem c_p_is_number (F : Fun K "is_number" "is_number" s_p_is_number f fd) (hm : mg "is_number" = some (.ref f)) (T : Bt mg) : Cal P w K mg base 1 "is_number" (spD K PrNum) := by
  refine cal_of F sc_p_is_number hm (fun _ _ _ _ _ _ us hl => match us, hl with | [_], _ => rfl) (fun ds M d M' h => ?_) fun cdv A outer s H E ds M d M' hr h => ?_
  · obtain ⟨t, n, rfl, _⟩ := h
    rfl
  · obtain ⟨t, n, rfl, hk, rfl, rfl⟩ := h
    show BV _ _ [some t] _ _
    cases t with
    | val v =>
      rcases kD_val hk with rfl | ⟨b, rfl⟩ | ⟨i, rfl⟩ | ⟨z, rfl⟩
      · exact bv_one (sv_ret (ev_andB (p := false) (q := false) (ev_isi T.isinstance T.int boot_int (ev_var 0 rfl) rfl (by decide +kernel)) (fun h => nomatch h)) ⟨rfl, Mle.refl _⟩)
      · exact bv_one (sv_ret (ev_andB (p := true) (q := false) (ev_isi T.isinstance T.int boot_int (ev_var 0 rfl) rfl (by decide +kernel)) (fun h => ev_one (b := true) (ev_notB (p := true) (ev_isi T.isinstance T.bool boot_bool (ev_var 0 rfl) rfl (by decide +kernel))))) ⟨rfl, Mle.refl _⟩)
      · exact bv_one (sv_ret (ev_andB (p := true) (q := true) (ev_isi T.isinstance T.int boot_int (ev_var 0 rfl) rfl (by decide +kernel)) (fun h => ev_one (b := true) (ev_notB (p := false) (ev_isi T.isinstance T.bool boot_bool (ev_var 0 rfl) rfl (by decide +kernel))))) ⟨rfl, Mle.refl _⟩)
      · exact bv_one (sv_ret (ev_andB (p := false) (q := false) (ev_isi T.isinstance T.int boot_int (ev_var 0 rfl) rfl (by decide +kernel)) (fun h => nomatch h)) ⟨rfl, Mle.refl _⟩)
    | tup ds => exact bv_one (sv_ret (ev_andB (p := false) (q := false) (ev_isi T.isinstance T.int boot_int (ev_var 0 rfl) rfl (by decide +kernel)) (fun h => nomatch h)) ⟨rfl, Mle.refl _⟩)
    | lst ds => exact bv_one (sv_ret (ev_andB (p := false) (q := false) (ev_isi T.isinstance T.int boot_int (ev_var 0 rfl) rfl (by decide +kernel)) (fun h => nomatch h)) ⟨rfl, Mle.refl _⟩)
    | dic => exact bv_one (sv_ret (ev_andB (p := false) (q := false) (ev_isi T.isinstance T.int boot_int (ev_var 0 rfl) rfl (by decide +kernel)) (fun h => nomatch h)) ⟨rfl, Mle.refl _⟩)
def PrWhole (ds : List D) (M : Mem) (d : D) (M' : Mem) : Prop := ∃ t n lo hi, ds = [t, dI lo, dI hi] ∧ kD n t ∧ d = dB (wholeD lo hi t) ∧ M' = M
theorem c_p_is_whole (F : Fun K "is_whole" "is_whole" s_p_is_whole f fd) (hm : mg "is_whole" = some (.ref f)) (c_p_is_number : Cal P w K mg base 1 "is_number" (spD K PrNum)) : Cal P w K mg base 2 "is_whole" (spD K PrWhole) := by
  refine cal_of F sc_p_is_whole hm (fun _ _ _ _ _ _ us hl => match us, hl with | [_, _, _], _ => rfl) (fun ds M d M' h => ?_) fun cdv A outer s H E ds M d M' hr h => ?_
  · obtain ⟨t, n, lo, hi, rfl, _⟩ := h
    rfl
  · obtain ⟨t, n, lo, hi, rfl, hk, rfl, rfl⟩ := h
    show BV _ _ [some t, some (dI lo), some (dI hi)] _ _
    refine bv_one (sv_ret (ev_andB (p := numD t) (q := wholeD lo hi t) (ev_call c_p_is_number (hr.mono (by decide)) (av_cons (ev_var 0 rfl) av_nil) ⟨t, n, rfl, hk, rfl, rfl⟩) (fun h => ?_)) ⟨?_, Mle.refl _⟩)
    · cases t with
      | val v =>
        cases v with
        | int i => exact ev_one (b := true) (ev_chain op_le op_le (ev_var 1 rfl) (ev_var 0 rfl) (ev_var 2 rfl))
        | _ => cases h
      | _ => cases h
    · cases t with
      | val v =>
        cases v with
        | int i => rfl
        | _ => rfl
      | _ => rfl
theorem all_of {ds : List D} {g : D → Bool} : (ds.map g).all id = ds.all g := by
  induction ds with
  | nil => rfl
  | cons d ds ih =>
    rw [List.map_cons, List.all_cons, List.all_cons, ih]
    rfl
end
mutual
def lstD : D → D
  | .val v => .val v
  | .lst ds => .lst ds
  | .dic => .dic
  | .tup ds => .lst (lstDL ds)
def lstDL : List D → List D
  | [] => []
  | d :: ds => lstD d :: lstDL ds
end
theorem lstDL_eq : ∀ ds : List D, lstDL ds = ds.map lstD
  | [] => by simp only [lstDL, List.map_nil]
  | d :: ds => by simp only [lstDL, List.map_cons, lstDL_eq ds]
/-- trees of tuples that end in plain values -/
def tupD : Nat → D → Prop
  | _, .val v => v = .non ∨ (∃ b, v = .bl b) ∨ (∃ i, v = .int i) ∨ ∃ z, v = .str z
  | n + 1, .tup ds => ds.length ≤ 1000000 ∧ ∀ d ∈ ds, tupD n d
  | _, _ => False
def PrListed (n : Nat) (ds : List D) (M : Mem) (d : D) (M' : Mem) : Prop := ∃ t, ds = [t] ∧ tupD n t ∧ d = lstD t ∧ M' = M
theorem tup_int {n : Nat} (i : Int) : tupD n (dI i) := by cases n <;> exact .inr (.inr (.inl ⟨i, rfl⟩))
theorem tup_two {n : Nat} {a b : D} (ha : tupD n a) (hb : tupD n b) : tupD (n + 1) (.tup [a, b]) := ⟨by show 2 ≤ 1000000; decide, fun d hd => by
  rcases List.mem_cons.mp hd with rfl | hd
  · exact ha
  · rcases List.mem_cons.mp hd with rfl | hd
    · exact hb
    · cases hd⟩
/-! ### kinds of things -/
section
variable {P : Program} {w : World} {K : PySem.W.Frag} {mg : Str → Option Value} {base : Heap} {f : Addr} {fd : FuncData}
theorem c_listed (F : Fun K "_law_listed" "_law_listed" s_listed f fd) (hm : mg "_law_listed" = some (.ref f)) (T : Bt mg) : ∀ n, Cal P w K mg base (n + 1) "_law_listed" (spD K (PrListed n)) := by
  intro n
  induction n with
  | zero =>
    refine cal_of F sc_listed hm (fun _ _ _ _ _ _ us hl => match us, hl with | [_], _ => rfl) (fun ds M d M' h => ?_) fun cdv A outer s H E ds M d M' hr h => ?_
    · obtain ⟨t, rfl, _⟩ := h
      rfl
    · obtain ⟨t, rfl, ok, rfl, rfl⟩ := h
      show BV _ _ [some t, none] _ _
      cases t with
      | tup ds => exact ok.elim
      | lst ds => exact ok.elim
      | dic => exact ok.elim
      | val v =>
        have e : lstD (.val v) = .val v := by simp only [lstD]
        rw [e]
        rcases ok with rfl | ⟨b, rfl⟩ | ⟨i, rfl⟩ | ⟨z, rfl⟩
        all_goals
          refine bv_cons (sv_if (tv_val (ev_isi (r := false) T.isinstance T.tuple boot_tuple (ev_var 0 rfl) rfl (by decide +kernel))) (fun h => nomatch h) (fun _ => bv_nil ?_))
          exact bv_one (sv_ret (ev_var 0 rfl) ⟨rfl, Mle.refl _⟩)
  | succ n ih =>
    refine cal_of F sc_listed hm (fun _ _ _ _ _ _ us hl => match us, hl with | [_], _ => rfl) (fun ds M d M' h => ?_) fun cdv A outer s H E ds M d M' hr h => ?_
    · obtain ⟨t, rfl, _⟩ := h
      rfl
    · obtain ⟨t, rfl, ok, rfl, rfl⟩ := h
      show BV _ _ [some t, none] _ _
      have hr0 : Room (n + 1) (A.deeper (envOfC "_law_listed" (defScope s_listed) s.heap.objs.size f cdv)) := hr
      cases t with
      | lst ds => exact ok.elim
      | dic => exact ok.elim
      | tup ds =>
        obtain ⟨hl, hd⟩ := ok
        refine bv_cons (sv_if (tv_val (ev_isi (r := true) T.isinstance T.tuple boot_tuple (ev_var 0 rfl) rfl (by decide +kernel))) (fun _ => ?_) (fun h => nomatch h))
        have e : lstD (.tup ds) = .lst (ds.map lstD) := by simp only [lstD, lstDL_eq]
        rw [e]
        refine bv_one (sv_ret (ev_lcM (own := [("part", 1)]) (g := gName 1) rfl sc_listed.nd (iv_tup (ev_var 0 rfl)) (blkOk_by (N := ["thing", "part"]) (sc := defScope s_listed) (by decide +kernel)) (fun _ _ _ _ _ => (pg_name (i := 1) sc_listed.nd rfl (.inl rfl))) lstD (Nat.le_trans hl (by decide)) (fun i d h => ?_)) ⟨rfl, Mle.refl _⟩)
        refine ⟨_, tgb_name, fun M2 s H C cl fp => ?_⟩
        exact ev_call ih hr0 (av_cons (ev_var 1 rfl) av_nil) ⟨_, rfl, hd _ (List.mem_of_getElem? h), rfl, rfl⟩
      | val v =>
        have e : lstD (.val v) = .val v := by simp only [lstD]
        rw [e]
        rcases ok with rfl | ⟨b, rfl⟩ | ⟨i, rfl⟩ | ⟨z, rfl⟩
        all_goals
          refine bv_cons (sv_if (tv_val (ev_isi (r := false) T.isinstance T.tuple boot_tuple (ev_var 0 rfl) rfl (by decide +kernel))) (fun h => nomatch h) (fun _ => bv_nil ?_))
          exact bv_one (sv_ret (ev_var 0 rfl) ⟨rfl, Mle.refl _⟩)
end
theorem okD_int {n : Nat} (i : Int) : okD n (dI i) := by cases n <;> exact .inr (.inr (.inl ⟨i, rfl⟩))
theorem okD_bool {n : Nat} (b : Bool) : okD n (dB b) := by cases n <;> exact .inr (.inl ⟨b, rfl⟩)
theorem okD_fr (p : Int × Int) : okD 1 (frD p) := ⟨by show 2 ≤ 1000000; decide, fun d hd => by
  rcases List.mem_cons.mp hd with rfl | hd
  · exact okD_int _
  · rcases List.mem_cons.mp hd with rfl | hd
    · exact okD_int _
    · cases hd⟩
section
variable {X : Cx} {ρ : Sl} {M : Mem} {rest : List Stmt} {Ψ : Out → Prop} {ds : List D}
theorem mem_del_set {M : Mem} {l : Addr} {o : MO} (h : M l = some o) : (M.del l).set l o = M := by
  funext b
  unfold Mem.set Mem.del
  by_cases hb : b = l
  · rw [if_pos hb, hb, h]
  · rw [if_neg hb, if_neg hb]
/-- the list at p is changed no more -/
theorem bv_still (i : Nat) {p : Addr} (hρ : ρ[i]? = some (some (dP p))) (hm : M p = some (.lst ds)) (h : BV X rest (ρ.set i (some (.lst ds))) (M.del p) Ψ) : BV X rest ρ M Ψ := by
  have q := bv_freeze (M := M.del p) i hρ Mem.del_same h
  rwa [mem_del_set hm] at q
end
section
variable {X : Cx} {ρ : Sl} {M M1 M2 M3 : Mem} {pos : Pos} {x : Str}
theorem ev_gI {i : Int} (h : ∃ t, X.mg x = some (.int i t)) (hg : Gl X x := by rfl) (hd : (x == ("__debug__" : Str)) = false := by decide) : EV X (.Name x pos) ρ M (dI i) M := by
  obtain ⟨t, h⟩ := h
  exact ev_glob hg h ⟨t, rfl⟩ hd
theorem ev_gS {z : Str} (h : ∃ t, X.mg x = some (.str z t)) (hg : Gl X x := by rfl) (hd : (x == ("__debug__" : Str)) = false := by decide) : EV X (.Name x pos) ρ M (dS z) M := by
  obtain ⟨t, h⟩ := h
  exact ev_glob hg h ⟨t, rfl⟩ hd
end
theorem dropAt {α : Type} {cs : List α} {k : Nat} {c : α} (h : cs[k]? = some c) : cs.drop k = c :: cs.drop (k + 1) := by
  obtain ⟨hk, e⟩ := List.getElem?_eq_some_iff.mp h
  rw [← e]
  exact List.drop_eq_getElem_cons hk
theorem ev_bty {X : Cx} {ρ : Sl} {M : Mem} {x : Str} {T : String} {p : Pos} (hm : X.mg x = none) (hv : bootBuiltins x = some (.type T)) (hg : Gl X x := by rfl) (hn : x ≠ "__name__" := by decide) (hd : (x == ("__debug__" : Str)) = false := by decide) : EV X (.Name x p) ρ M (.val (.ty T)) M :=
  ⟨fun pins s σ H Q I ⟨G, sa, k⟩ => ld_blt I hg hm hv ⟨.ty T, H, I, rfl, k _ G H (Same.refl G) sa.sh (.val _)⟩ hn hd⟩
def frq (b : Bool) (x : Int × Int) : D := sq b [dI x.1, dI x.2]
def PrIsFr (ds : List D) (M : Mem) (d : D) (M' : Mem) : Prop := ∃ b n k, ds = [frq b (n, k)] ∧ 0 < k ∧ gz n k = 1 ∧ d = dB true ∧ M' = M
theorem kD_frq {n : Nat} {b : Bool} {x : Int × Int} : kD (n + 1) (frq b x) := kD_mk (by show 2 ≤ 1000000; decide) fun d hd => by
  simp only [List.mem_cons, List.not_mem_nil, or_false] at hd
  rcases hd with rfl | rfl <;> exact kD_int _
section
variable {P : Program} {w : World} {K : PySem.W.Frag} {mg : Str → Option Value} {base : Heap} {f : Addr} {fd : FuncData}
theorem c_p_is_fraction (F : Fun K "is_fraction" "is_fraction" s_p_is_fraction f fd) (hm : mg "is_fraction" = some (.ref f)) (T : Bt mg) (hg : mg "gcd" = some (.builtin "math.gcd")) (c_p_is_pair : Cal P w K mg base 2 "is_pair" (spD K PrPair)) (c_p_is_number : Cal P w K mg base 1 "is_number" (spD K PrNum)) : Cal P w K mg base 3 "is_fraction" (spD K PrIsFr) := by
  refine cal_of F sc_p_is_fraction hm (fun _ _ _ _ _ _ us hl => match us, hl with | [_], _ => rfl) (fun ds M d M' h => ?_) fun cdv A outer s H E ds M d M' hr h => ?_
  · obtain ⟨b, n, k, rfl, _⟩ := h
    rfl
  · obtain ⟨b, n, k, rfl, k0, g1, rfl, rfl⟩ := h
    show BV _ _ [some (frq b (n, k)), none] _ _
    have pr : pairD (frq b (n, k)) = true := by cases b <;> rfl
    refine bv_cons (sv_if (p := false) (M1 := M') (PW.pt (wv_or (p := false) (tv_not (tv_val (b := true) (ev_to (ev_call c_p_is_pair (hr.mono (by decide)) (av_cons (ev_var 0 rfl) av_nil) ⟨_, 1, rfl, kD_frq, rfl, rfl⟩) (by rw [pr])))) (fun h => wv_one_or (tv_not (tv_val (b := true) ?_))))) (fun h => nomatch h) (fun h => bv_nil ?_))
    · refine ev_all (bs := [true, true]) rfl T.all (ev_to (ev_lcM (own := [("number", 1)]) (g := gName 1) rfl sc_p_is_fraction.nd (iv_sq (b := b) (ds := [dI n, dI k]) (ev_var 0 rfl)) (blkOk_by (N := ["thing", "number"]) (sc := defScope s_p_is_fraction) (by decide +kernel)) (fun _ _ _ _ _ => (pg_name (i := 1) sc_p_is_fraction.nd rfl (.inl rfl))) (fun _ => dB true) (by show 2 ≤ sizeLine; decide) (fun i d h => ?_)) rfl)
      obtain ⟨x, rfl⟩ : ∃ x : Int, d = dI x := by
        have := List.mem_of_getElem? h
        simp only [List.mem_cons, List.not_mem_nil, or_false] at this
        rcases this with rfl | rfl <;> exact ⟨_, rfl⟩
      exact ⟨_, tgb_name, fun M2 s H C cl fp => ev_call c_p_is_number (hr.mono (by decide)) (av_cons (ev_var 1 rfl) av_nil) ⟨dI x, 0, rfl, kD_int _, rfl, rfl⟩⟩
    · refine bv_one (sv_ret (ev_andB (p := true) (q := true) (ev_to (ev_cmpR op_ge (ev_ixQ (b' := b) (ds := [dI n, dI k]) (ev_var 0 rfl) ev_int rfl) ev_int rs_I0 (nomark _)) (show dB (decide (1 ≤ k)) = dB true by rw [decide_eq_true (by omega)])) (fun _ => ev_one (b := true) (ev_to (ev_cmpR op_eq (ev_bf2 cr_gcd hg (ev_ixQ (b' := b) (ds := [dI n, dI k]) (ev_var 0 rfl) ev_int rfl) (ev_ixQ (b' := b) (ds := [dI n, dI k]) (ev_var 0 rfl) ev_int rfl) (z := .int (gz n k)) (fun H Q q => ⟨_, _, rfl, q⟩)) ev_int rs_eqI (nomark _)) (by rw [g1]; rfl)))) ⟨rfl, Mle.refl _⟩)
end
/-! pieces in lines -/
theorem Bd.dv {k : Nat} {i j : Int} (h : Bd k i) : Bd k (i / j) := h.le (Int.natAbs_ediv_le_natAbs _ _)
abbrev Pc := (Int × Int) × (Int × Int) × (Int × Int)
structure MeaOk (x : Int × Int) : Prop where
  n0 : 0 ≤ x.1
  n1 : x.1 ≤ 1000000
  d0 : 1 ≤ x.2
  d1 : x.2 ≤ 1000
  g : gz x.1 x.2 = 1
structure PcOk (p : Pc) : Prop where
  w : MeaOk p.1
  s : MeaOk p.2.1
  k : MeaOk p.2.2
  le : p.2.2.1 * p.1.2 ≤ p.1.1 * p.2.2.2
/-- all parts -/
def lcmP (W : Nat) (p : Pc) : Nat := Nat.lcm (Nat.lcm (Nat.lcm W p.1.2.natAbs) p.2.1.2.natAbs) p.2.2.2.natAbs
def partsN (rd : Int) (ps : List Pc) : Nat := ps.foldl lcmP rd.natAbs
def allN : Nat := (List.range 1000).foldl (fun a i => Nat.lcm a (i + 1)) 1
theorem allN_lt : allN < 2 ^ 1600 := by decide +kernel
theorem fold_dvd (f : Nat → Nat) : ∀ (l : List Nat) (a : Nat), a ∣ l.foldl (fun a i => Nat.lcm a (f i)) a ∧ ∀ i ∈ l, f i ∣ l.foldl (fun a i => Nat.lcm a (f i)) a
  | [], a => ⟨Nat.dvd_refl _, fun i h => absurd h List.not_mem_nil⟩
  | x :: l, a => by
    obtain ⟨h1, h2⟩ := fold_dvd f l (Nat.lcm a (f x))
    refine ⟨Nat.dvd_trans (Nat.dvd_lcm_left _ _) h1, fun i hi => ?_⟩
    rcases List.mem_cons.mp hi with rfl | hi
    · exact Nat.dvd_trans (Nat.dvd_lcm_right _ _) h1
    · exact h2 i hi
theorem all_dvd {d : Int} (h0 : 1 ≤ d) (h1 : d ≤ 1000) : d.natAbs ∣ allN := by
  have := (fold_dvd (fun i => i + 1) (List.range 1000) 1).2 (d.natAbs - 1) (List.mem_range.mpr (by omega))
  rwa [show d.natAbs - 1 + 1 = d.natAbs by omega] at this
structure PtsOk (W : Nat) : Prop where
  p : 0 < W
  d : W ∣ allN
theorem allN_pos : 0 < allN := by decide +kernel
theorem PtsOk.bd {W : Nat} (h : PtsOk W) : W < 2 ^ 1600 := Nat.lt_of_le_of_lt (Nat.le_of_dvd allN_pos h.d) allN_lt
theorem PtsOk.lcm {W : Nat} (h : PtsOk W) {d : Int} (h0 : 1 ≤ d) (h1 : d ≤ 1000) : PtsOk (Nat.lcm W d.natAbs) := ⟨Nat.lcm_pos h.p (by omega), Nat.lcm_dvd h.d (all_dvd h0 h1)⟩
theorem PtsOk.pc {W : Nat} (h : PtsOk W) {p : Pc} (hp : PcOk p) : PtsOk (lcmP W p) := ((h.lcm hp.w.d0 hp.w.d1).lcm hp.s.d0 hp.s.d1).lcm hp.k.d0 hp.k.d1
theorem lcmP_dvd (W : Nat) (p : Pc) : W ∣ lcmP W p ∧ p.1.2.natAbs ∣ lcmP W p ∧ p.2.1.2.natAbs ∣ lcmP W p ∧ p.2.2.2.natAbs ∣ lcmP W p := by
  unfold lcmP
  have a := Nat.dvd_lcm_left W p.1.2.natAbs
  have b := Nat.dvd_lcm_right W p.1.2.natAbs
  have c := Nat.dvd_lcm_left (Nat.lcm W p.1.2.natAbs) p.2.1.2.natAbs
  have d := Nat.dvd_lcm_left (Nat.lcm (Nat.lcm W p.1.2.natAbs) p.2.1.2.natAbs) p.2.2.2.natAbs
  exact ⟨Nat.dvd_trans a (Nat.dvd_trans c d), Nat.dvd_trans b (Nat.dvd_trans c d), Nat.dvd_trans (Nat.dvd_lcm_right _ _) d, Nat.dvd_lcm_right _ _⟩
theorem parts_ok {ps : List Pc} : ∀ {W : Nat}, PtsOk W → (∀ p ∈ ps, PcOk p) → PtsOk (ps.foldl lcmP W) ∧ W ∣ ps.foldl lcmP W ∧ ∀ p ∈ ps, p.1.2.natAbs ∣ ps.foldl lcmP W ∧ p.2.1.2.natAbs ∣ ps.foldl lcmP W ∧ p.2.2.2.natAbs ∣ ps.foldl lcmP W := by
  induction ps with
  | nil => exact fun h _ => ⟨h, Nat.dvd_refl _, fun p hp => absurd hp List.not_mem_nil⟩
  | cons p ps ih =>
    intro W h hp
    obtain ⟨a, b, c⟩ := ih (h.pc (hp p List.mem_cons_self)) fun q hq => hp q (List.mem_cons_of_mem _ hq)
    obtain ⟨d0, d1, d2, d3⟩ := lcmP_dvd W p
    refine ⟨a, Nat.dvd_trans d0 b, fun q hq => ?_⟩
    rcases List.mem_cons.mp hq with rfl | hq
    · exact ⟨Nat.dvd_trans d1 b, Nat.dvd_trans d2 b, Nat.dvd_trans d3 b⟩
    · exact c q hq
/-- a measure in parts -/
def inP (W : Nat) (x : Int × Int) : Int := x.1 * W / x.2
theorem inP_alt {W : Nat} {x : Int × Int} (h : MeaOk x) (hd : x.2.natAbs ∣ W) : x.1 * (W / x.2) = inP W x := by
  have h0 := h.d0
  obtain ⟨q, hq⟩ : x.2 ∣ (W : Int) := Int.natAbs_dvd.mp (Int.natCast_dvd_natCast.mpr hd)
  unfold inP
  rw [hq, Int.mul_ediv_cancel_left _ (by omega), Int.mul_left_comm, Int.mul_ediv_cancel_left _ (by omega)]
theorem inP_bd {W : Nat} {x : Int × Int} (h : MeaOk x) (hW : PtsOk W) : Bd 1620 (inP W x) := by
  have b1 : Bd 20 x.1 := Bd.of (m := 1000000) (by have := h.n0; have := h.n1; omega) (by decide)
  have b2 : Bd 1600 (W : Int) := by
    unfold Bd
    rw [Int.natAbs_natCast]
    exact hW.bd
  exact ((b1.mul b2).dv).mono (by decide)
/-- the sums ahead of each place -/
def pfx (xs : List Int) : List Int := (List.range (xs.length + 1)).map fun i => (xs.take i).sum
theorem pfx_at {xs : List Int} {i : Nat} (h : i ≤ xs.length) : (pfx xs)[i]? = some (xs.take i).sum := by
  unfold pfx
  rw [List.getElem?_map, List.getElem?_range (by omega)]
  rfl
theorem sum_snoc (xs : List Int) (x : Int) : (xs ++ [x]).sum = xs.sum + x := by
  rw [List.sum_append, List.sum_cons, List.sum_nil, Int.add_zero]
theorem sum_take {xs : List Int} {i : Nat} {x : Int} (h : xs[i]? = some x) : (xs.take (i + 1)).sum = (xs.take i).sum + x := by
  rw [List.take_succ, h, Option.toList_some, sum_snoc]
theorem sum_bd {k : Nat} {xs : List Int} (h : ∀ x ∈ xs, Bd k x) : ∀ i, i ≤ xs.length → (xs.take i).sum.natAbs ≤ i * 2 ^ k
  | 0, _ => by
    rw [List.take_zero]
    show (0 : Int).natAbs ≤ _
    omega
  | i + 1, hi => by
    have ih := sum_bd h i (by omega)
    have hg := List.getElem?_eq_getElem (l := xs) (i := i) (by omega)
    rw [sum_take hg, Nat.succ_mul]
    have := h _ (List.getElem_mem (l := xs) (n := i) (by omega))
    unfold Bd at this
    omega
/-- the program's rows, and the law's -/
structure Ln where
  wd : List Int
  st : List Int
  sh : List Int
  room : Int
  n : Nat
def Ln.dw (L : Ln) (f s : Nat) : Int := (L.wd.take s).sum - (L.wd.take f).sum
def Ln.ds (L : Ln) (f s : Nat) : Int := (L.st.take s).sum - (L.st.take f).sum
def Ln.dk (L : Ln) (f s : Nat) : Int := (L.sh.take s).sum - (L.sh.take f).sum
structure LnOk (L : Ln) : Prop where
  w : L.wd.length = L.n
  s : L.st.length = L.n
  k : L.sh.length = L.n
  n0 : 0 < L.n
  n1 : L.n ≤ 400
  kk : ∀ x ∈ L.sh, 0 ≤ x
  ss : ∀ x ∈ L.st, 0 ≤ x
  bw : ∀ x ∈ L.wd, Bd 1620 x
  bs : ∀ x ∈ L.st, Bd 1620 x
  bk : ∀ x ∈ L.sh, Bd 1620 x
  br : Bd 1620 L.room
def Ln.bad (L : Ln) (f s : Nat) : Option Int :=
  if L.dw f s - L.room = 0 ∨ (L.dw f s - L.room < 0 ∧ s = L.n) then some 0
  else if (if L.dw f s - L.room > 0 then L.dk f s else L.ds f s) = 0 ∨ L.dw f s - L.room > (if L.dw f s - L.room > 0 then L.dk f s else L.ds f s) then none
  else some (1000 * (L.dw f s - L.room) * (L.dw f s - L.room) / ((if L.dw f s - L.room > 0 then L.dk f s else L.ds f s) * (if L.dw f s - L.room > 0 then L.dk f s else L.ds f s)))
def Ln.full (L : Ln) (f s : Nat) : Bool := decide (L.dw f s - L.dk f s > L.room)
/-- the stops from s on, k of them left -/
def Ln.from (L : Ln) (f : Nat) : Nat → Nat → List (Nat × Int)
  | _, 0 => []
  | s, k + 1 => if L.full f s = true then [] else match L.bad f s with
    | some b => (s, b) :: L.from f (s + 1) k
    | none => L.from f (s + 1) k
def Ln.row (L : Ln) (f : Nat) : List (Nat × Int) := L.from f (f + 1) (L.n - f)
def Ln.rows (L : Ln) : List (List (Nat × Int)) := (List.range L.n).map L.row
theorem sum_mono {xs : List Int} (h : ∀ x ∈ xs, 0 ≤ x) : ∀ {f s : Nat}, f ≤ s → (xs.take f).sum ≤ (xs.take s).sum := fun {f s} hfs => by
  induction s with
  | zero =>
    obtain rfl : f = 0 := by omega
    exact Int.le_refl _
  | succ s ih =>
    by_cases e : f = s + 1
    · rw [e]
      exact Int.le_refl _
    · have ih2 := ih (by omega)
      cases q : xs[s]? with
      | none =>
        have := List.getElem?_eq_none_iff.mp q
        rw [List.take_of_length_le (i := s + 1) (by omega)]
        rwa [List.take_of_length_le (i := s) (by omega)] at ih2
      | some x =>
        rw [sum_take q]
        have := h x (List.mem_of_getElem? q)
        omega
/-- what is full has no badness -/
theorem Ln.full_bad {L : Ln} (ok : LnOk L) {f s : Nat} (hfs : f ≤ s) (h : L.full f s = true) : L.bad f s = none := by
  have hf := of_decide_eq_true h
  have k0 : 0 ≤ L.dk f s := by
    have := sum_mono ok.kk hfs
    unfold Ln.dk
    omega
  unfold Ln.bad
  rw [if_neg (by omega), if_pos (show L.dw f s - L.room > 0 by omega), if_pos (.inr (by omega))]
theorem Ln.dbd {L : Ln} (ok : LnOk L) {f s : Nat} (hs : s ≤ L.n) (hf : f ≤ L.n) : Bd 1631 (L.dw f s) ∧ Bd 1631 (L.ds f s) ∧ Bd 1631 (L.dk f s) := by
  have key : ∀ xs : List Int, (∀ x ∈ xs, Bd 1620 x) → xs.length = L.n → Bd 1631 ((xs.take s).sum - (xs.take f).sum) := fun xs h hl => by
    have a := sum_bd h s (by omega)
    have b := sum_bd h f (by omega)
    have n1 := ok.n1
    have a2 : s * 2 ^ 1620 ≤ 400 * 2 ^ 1620 := Nat.mul_le_mul_right _ (by omega)
    have b2 : f * 2 ^ 1620 ≤ 400 * 2 ^ 1620 := Nat.mul_le_mul_right _ (by omega)
    unfold Bd
    have e : (2 : Nat) ^ 1631 = 2048 * 2 ^ 1620 := by rw [show 1631 = 11 + 1620 by rfl, Nat.pow_add]
    rw [e]
    have p : 0 < (2 : Nat) ^ 1620 := Nat.two_pow_pos _
    generalize (2 : Nat) ^ 1620 = t at *
    omega
  exact ⟨key _ ok.bw ok.w, key _ ok.bs ok.s, key _ ok.bk ok.k⟩
/-! repr of trees of bounded size -/
def rp : Nat → Nat → D → Prop
  | _, w, .val v => (v = .non ∧ 4 ≤ w) ∨ ((∃ b, v = .bl b) ∧ 5 ≤ w) ∨ (∃ i, v = .int i ∧ i.natAbs.log2 < 1900 ∧ i.natAbs.log2 + 2 ≤ w) ∨ ∃ z, v = .str z ∧ (reprText z).length ≤ w
  | n + 1, w, .tup ds => ∃ w', ds.length * (w' + 2) + 3 ≤ w ∧ ∀ d ∈ ds, rp n w' d
  | n + 1, w, .lst ds => ∃ w', ds.length * (w' + 2) + 3 ≤ w ∧ ∀ d ∈ ds, rp n w' d
  | 0, _, _ => False
  | _ + 1, _, .dic => False
structure RpOk (n w : Nat) (d : D) : Prop where
  pl : D.plain d = true
  nd : d.py.hasDict = false
  ss : d.py.showable = true
  dd : d.py.depth ≤ n
  sz : d.py.shown.length ≤ w
theorem piled_le {w : Nat} : ∀ {ts : List Str}, (∀ t ∈ ts, t.length ≤ w) → piled ts ≤ ts.length * (w + 2)
  | [], _ => Nat.zero_le _
  | t :: ts, h => by
    have a := h t List.mem_cons_self
    have b := piled_le (ts := ts) fun u hu => h u (List.mem_cons_of_mem _ hu)
    rw [piled_cons, List.length_cons, Nat.succ_mul]
    omega
theorem listText_le : ∀ ts : List Str, (listText ts).length ≤ piled ts + 3
  | [] => by decide
  | t :: r => by
    have h := textFrom_length_pos r 1 (("[" : Str) ++ (if (0 : Nat) > 0 then ", " else "" : String) ++ t) (Nat.succ_pos 0)
    have e : (listText (t :: r)).length = (textFrom 1 (("[" : Str) ++ (if (0 : Nat) > 0 then ", " else "" : String) ++ t) r).length + 1 := by
      show (textFrom 1 _ r ++ ("]" : Str)).length = _
      rw [strLen_append]
      rfl
    rw [e, h, piled_cons, strLen_append, strLen_append]
    show 1 + 0 + t.length + _ + 1 ≤ _
    omega
theorem tupleText_le (ts : List Str) : (tupleText ts).length ≤ piled ts + 3 := by
  unfold tupleText
  rw [strLen_append, strLen_append]
  have e1 : ((("(" : String) : Str)).length = 1 := rfl
  have e3 : (((if ts.length == 1 then ",)" else ")" : String) : Str)).length ≤ 2 := by split <;> decide
  have e2 : (Str.join ", " ts).length ≤ piled ts := by
    cases ts with
    | nil => exact Nat.zero_le _
    | cons t r =>
      have := join_length_add (t :: r) (by simp)
      omega
  rw [e1]
  omega
theorem shownAll_eq : ∀ ds : List PyData, PyData.shownAll ds = ds.map PyData.shown
  | [] => by simp only [PyData.shownAll, List.map_nil]
  | d :: ds => by simp only [PyData.shownAll, List.map_cons, shownAll_eq ds]
theorem pyL_eq : ∀ ds : List D, D.pyL ds = ds.map D.py
  | [] => by simp only [D.pyL, List.map_nil]
  | d :: ds => by simp only [D.pyL, List.map_cons, pyL_eq ds]
theorem rp_all {n w : Nat} : ∀ {ds : List D}, (∀ d ∈ ds, RpOk n w d) → D.plainL ds = true ∧ PyData.hasDictAll (D.pyL ds) = false ∧ PyData.showableAll (D.pyL ds) = true ∧ PyData.depthAll (D.pyL ds) ≤ n ∧ (∀ t ∈ PyData.shownAll (D.pyL ds), t.length ≤ w)
  | [], _ => ⟨rfl, by simp [D.pyL, PyData.hasDictAll], by simp [D.pyL, PyData.showableAll], by simp [D.pyL, PyData.depthAll], fun t ht => by simp [D.pyL, PyData.shownAll] at ht⟩
  | d :: ds, h => by
    obtain ⟨a1, a2, a3, a4, a5⟩ := h d List.mem_cons_self
    obtain ⟨b1, b2, b3, b4, b5⟩ := rp_all (ds := ds) fun u hu => h u (List.mem_cons_of_mem _ hu)
    refine ⟨?_, ?_, ?_, ?_, fun t ht => ?_⟩
    · simp only [D.plainL, a1, b1, Bool.and_self]
    · simp only [D.pyL, PyData.hasDictAll, a2, b2, Bool.or_self]
    · simp only [D.pyL, PyData.showableAll, a3, b3, Bool.and_self]
    · simp only [D.pyL, PyData.depthAll]
      omega
    · simp only [D.pyL, PyData.shownAll] at ht
      rcases List.mem_cons.mp ht with rfl | ht
      · exact a5
      · exact b5 t ht
theorem rp_seq {n w : Nat} {ds : List D} {w' : Nat} (hl : ds.length * (w' + 2) + 3 ≤ w) (h : ∀ d ∈ ds, RpOk n w' d) : RpOk (n + 1) w (.tup ds) ∧ RpOk (n + 1) w (.lst ds) := by
  obtain ⟨b1, b2, b3, b4, b5⟩ := rp_all h
  have e : (PyData.shownAll (D.pyL ds)).length = ds.length := by rw [shownAll_eq, pyL_eq, List.length_map, List.length_map]
  have k := piled_le b5
  rw [e] at k
  have k1 := tupleText_le (PyData.shownAll (D.pyL ds))
  have k2 := listText_le (PyData.shownAll (D.pyL ds))
  refine ⟨⟨?_, ?_, ?_, ?_, ?_⟩, ⟨?_, ?_, ?_, ?_, ?_⟩⟩
  · simpa only [D.plain] using b1
  · simpa only [D.py, PyData.hasDict] using b2
  · simpa only [D.py, PyData.showable] using b3
  · simp only [D.py, PyData.depth]; omega
  · simp only [D.py, PyData.shown]; omega
  · simpa only [D.plain] using b1
  · simpa only [D.py, PyData.hasDict] using b2
  · simpa only [D.py, PyData.showable] using b3
  · simp only [D.py, PyData.depth]; omega
  · simp only [D.py, PyData.shown]; omega
theorem rp_ok : ∀ (n w : Nat) (d : D), rp n w d → RpOk n w d
  | n, w, .val v, h => by
    have h : (v = .non ∧ 4 ≤ w) ∨ ((∃ b, v = .bl b) ∧ 5 ≤ w) ∨ (∃ i, v = .int i ∧ i.natAbs.log2 < 1900 ∧ i.natAbs.log2 + 2 ≤ w) ∨ ∃ z, v = .str z ∧ (reprText z).length ≤ w := by
      cases n <;> exact h
    rcases h with ⟨rfl, hw⟩ | ⟨⟨b, rfl⟩, hw⟩ | ⟨i, rfl, hi, hw⟩ | ⟨z, rfl, hw⟩
    · exact ⟨rfl, by simp only [D.py, PyData.hasDict], by simp only [D.py, PyData.showable], by simp only [D.py, PyData.depth, Nat.zero_le], by simp only [D.py, PyData.shown]; exact hw⟩
    · refine ⟨rfl, by simp only [D.py, PyData.hasDict], by simp only [D.py, PyData.showable], by simp only [D.py, PyData.depth, Nat.zero_le], ?_⟩
      simp only [D.py, PyData.shown]
      cases b
      · exact hw
      · exact Nat.le_trans (show 4 ≤ 5 by decide) hw
    · refine ⟨rfl, by simp only [D.py, PyData.hasDict], ?_, by simp only [D.py, PyData.depth, Nat.zero_le], ?_⟩
      · simp only [D.py, PyData.showable, decide_eq_true_eq]
        omega
      · simp only [D.py, PyData.shown]
        have := int_text_length_le (a := i) (k := i.natAbs.log2 + 1) (by omega) (by omega)
        have e : (Str.ofString (toString i)).length = (toString i).length := by
          rw [Str.ofString_eq_toList]
          simp [Str.length, String.length_toList]
        rw [e]
        omega
    · exact ⟨rfl, by simp only [D.py, PyData.hasDict], by simp only [D.py, PyData.showable], by simp only [D.py, PyData.depth, Nat.zero_le], by simp only [D.py, PyData.shown]; exact hw⟩
  | 0, _, .tup _, h => h.elim
  | 0, _, .lst _, h => h.elim
  | 0, _, .dic, h => h.elim
  | _ + 1, _, .dic, h => h.elim
  | n + 1, w, .tup ds, ⟨w', hl, h⟩ => (rp_seq hl fun d hd => rp_ok n w' d (h d hd)).1
  | n + 1, w, .lst ds, ⟨w', hl, h⟩ => (rp_seq hl fun d hd => rp_ok n w' d (h d hd)).2
theorem rp_mono {n w w2 : Nat} : ∀ {d : D}, rp n w d → w ≤ w2 → rp n w2 d
  | .val v, h, hw => by
    have h : (v = .non ∧ 4 ≤ w) ∨ ((∃ b, v = .bl b) ∧ 5 ≤ w) ∨ (∃ i, v = .int i ∧ i.natAbs.log2 < 1900 ∧ i.natAbs.log2 + 2 ≤ w) ∨ ∃ z, v = .str z ∧ (reprText z).length ≤ w := by
      cases n <;> exact h
    have k : (v = .non ∧ 4 ≤ w2) ∨ ((∃ b, v = .bl b) ∧ 5 ≤ w2) ∨ (∃ i, v = .int i ∧ i.natAbs.log2 < 1900 ∧ i.natAbs.log2 + 2 ≤ w2) ∨ ∃ z, v = .str z ∧ (reprText z).length ≤ w2 := by
      rcases h with ⟨rfl, h⟩ | ⟨b, h⟩ | ⟨i, e, h, h2⟩ | ⟨z, e, h⟩
      · exact .inl ⟨rfl, by omega⟩
      · exact .inr (.inl ⟨b, by omega⟩)
      · exact .inr (.inr (.inl ⟨i, e, h, by omega⟩))
      · exact .inr (.inr (.inr ⟨z, e, by omega⟩))
    cases n <;> exact k
  | .tup ds, h, hw => by
    cases n with
    | zero => exact h.elim
    | succ n => obtain ⟨w', hl, h⟩ := h; exact ⟨w', by omega, h⟩
  | .lst ds, h, hw => by
    cases n with
    | zero => exact h.elim
    | succ n => obtain ⟨w', hl, h⟩ := h; exact ⟨w', by omega, h⟩
  | .dic, h, hw => by cases n <;> exact h.elim
theorem rp_int {n w : Nat} {i : Int} (h : i.natAbs < 2 ^ 1000) (hw : 1002 ≤ w) : rp n w (dI i) := by
  have l : i.natAbs.log2 < 1000 := PySem.Flt.log2_lt_of (by decide) h
  cases n <;> exact .inr (.inr (.inl ⟨i, rfl, by omega, by omega⟩))
section
variable {X : Cx} {ρ : Sl} {M M1 : Mem} {e : Expr} {d : D} {pos : Pos}
theorem ev_reprB {p : Pos} {n w k : Nat} (g : X.A.guards = some []) (hr : Room k X.A) (hm : X.mg "repr" = none) (ha : EV X e ρ M d M1) (h : rp n w d) (nv : ∀ v, d ≠ .val v) (hn : n < 60) (hw : w ≤ sizeLine) (hg : Gl X "repr" := by rfl) (hst : starEach [e] X.env = [(false, eval e X.env)] := by rfl) :
    EV X (.Call (.Name "repr" p) [e] [] pos) ρ M (dS d.py.shown) M1 := by
  obtain ⟨h1, h2, h3, h4, h5⟩ := rp_ok n w d h
  exact ev_repr g (hu64 hr) hm ha h1 nv h2 h3 (by omega) (by omega) hg hst
end
def pcq (b : Bool) (p : Pc) : D := sq b [frq b p.1, frq b p.2.1, frq b p.2.2]
theorem kD_pcq {n : Nat} {b : Bool} {p : Pc} : kD (n + 2) (pcq b p) := kD_mk (by show 3 ≤ 1000000; decide) fun d hd => by
  simp only [List.mem_cons, List.not_mem_nil, or_false] at hd
  rcases hd with rfl | rfl | rfl <;> exact kD_frq
def PrMea (ds : List D) (M : Mem) (d : D) (M' : Mem) : Prop := ∃ b x, ds = [frq b x] ∧ MeaOk x ∧ d = dB true ∧ M' = M
def PrPc (ds : List D) (M : Mem) (d : D) (M' : Mem) : Prop := ∃ b p, ds = [pcq b p] ∧ PcOk p ∧ d = dB true ∧ M' = M
structure PcsOk (ps : List Pc) : Prop where
  l0 : 0 < ps.length
  l1 : ps.length ≤ 400
  pc : ∀ p ∈ ps, PcOk p
def PrChkP (ds : List D) (M : Mem) (d : D) (M' : Mem) : Prop := ∃ c b ps, ds = [sq c (ps.map (pcq b))] ∧ PcsOk ps ∧ d = dN ∧ M' = M
theorem three_mem {α : Type} {P : α → Prop} {x y z : α} (h1 : P x) (h2 : P y) (h3 : P z) : ∀ d ∈ [x, y, z], P d := fun d hd => by
  simp only [List.mem_cons, List.not_mem_nil, or_false] at hd
  rcases hd with rfl | rfl | rfl
  · exact h1
  · exact h2
  · exact h3
section
variable {P : Program} {w : World} {K : PySem.W.Frag} {mg : Str → Option Value} {base : Heap} {f : Addr} {fd : FuncData}
theorem c_p_is_measure (F : Fun K "is_measure" "is_measure" s_p_is_measure f fd) (hm : mg "is_measure" = some (.ref f)) (hA : ∃ t, mg "MOST_NUMERATOR" = some (.int 1000000 t)) (hB : ∃ t, mg "MOST_DENOMINATOR" = some (.int 1000 t)) (c_p_is_fraction : Cal P w K mg base 3 "is_fraction" (spD K PrIsFr)) (c_p_is_whole : Cal P w K mg base 2 "is_whole" (spD K PrWhole)) : Cal P w K mg base 4 "is_measure" (spD K PrMea) := by
  refine cal_of F sc_p_is_measure hm (fun _ _ _ _ _ _ us hl => match us, hl with | [_], _ => rfl) (fun ds M d M' h => ?_) fun cdv A outer s H E ds M d M' hr h => ?_
  · obtain ⟨b, x, rfl, _⟩ := h
    rfl
  · obtain ⟨b, x, rfl, ok, rfl, rfl⟩ := h
    show BV _ _ [some (frq b x)] _ _
    have e : wholeD 0 1000000 (dI x.1) = true := by
      show (decide (0 ≤ x.1) && decide (x.1 ≤ 1000000)) = true
      rw [decide_eq_true ok.n0, decide_eq_true ok.n1]
      rfl
    refine bv_one (sv_ret (ev_andB (p := true) (q := true) (ev_call c_p_is_fraction (hr.mono (by decide)) (av_cons (ev_var 0 rfl) av_nil) ⟨b, x.1, x.2, rfl, by have := ok.d0; omega, ok.g, rfl, rfl⟩) (fun _ => ev_andB (p := true) (q := true) (ev_to (ev_call c_p_is_whole (hr.mono (by decide)) (av_cons (ev_ixQ (b' := b) (ds := [dI x.1, dI x.2]) (ev_var 0 rfl) ev_int rfl) (av_cons ev_int (av_cons (ev_gI hA) av_nil))) ⟨_, 0, 0, 1000000, rfl, kD_int _, rfl, rfl⟩) (by rw [e])) (fun _ => ev_one (b := true) (ev_to (ev_cmpR op_le (ev_ixQ (b' := b) (ds := [dI x.1, dI x.2]) (ev_var 0 rfl) ev_int rfl) (ev_gI hB) rs_I0 (nomark _)) (by rw [decide_eq_true ok.d1]))))) ⟨rfl, Mle.refl _⟩)
theorem c_p_is_piece (F : Fun K "is_piece" "is_piece" s_p_is_piece f fd) (hm : mg "is_piece" = some (.ref f)) (T : Bt mg) (c_p_is_row : Cal P w K mg base 1 "is_row" (spD K PrRow)) (c_p_is_measure : Cal P w K mg base 4 "is_measure" (spD K PrMea)) : Cal P w K mg base 5 "is_piece" (spD K PrPc) := by
  refine cal_of F sc_p_is_piece hm (fun _ _ _ _ _ _ us hl => match us, hl with | [_], _ => rfl) (fun ds M d M' h => ?_) fun cdv A outer s H E ds M d M' hr h => ?_
  · obtain ⟨b, p, rfl, _⟩ := h
    rfl
  · obtain ⟨b, ⟨w, s, k⟩, rfl, ok, rfl, rfl⟩ := h
    show BV _ _ [some (sq b [frq b w, frq b s, frq b k]), none, none, none, none] _ _
    have rw_ : rowD (pcq b (w, s, k)) = true := by cases b <;> rfl
    have sm : ∀ {i : Int}, 0 ≤ i → i ≤ 1000000 → Bd 20 i := fun h0 h1 => Bd.of (m := 1000000) (by omega) (by decide)
    have k0 : 0 ≤ k.1 := ok.k.n0
    have k1 : k.1 ≤ 1000000 := ok.k.n1
    have w0 : 0 ≤ w.1 := ok.w.n0
    have w1 : w.1 ≤ 1000000 := ok.w.n1
    have d0 : 1 ≤ w.2 := ok.w.d0
    have d1 : w.2 ≤ 1000 := ok.w.d1
    have e0 : 1 ≤ k.2 := ok.k.d0
    have e1 : k.2 ≤ 1000 := ok.k.d1
    refine bv_cons (sv_if (p := false) (M1 := M') (PW.pt (wv_or (p := false) (tv_not (b := true) (tv_val (ev_to (ev_call c_p_is_row (hr.mono (by decide)) (av_cons (ev_var 0 rfl) av_nil) ⟨_, 2, rfl, kD_pcq (b := b) (p := (w, s, k)), rfl, rfl⟩) (by rw [show rowD (sq b [frq b w, frq b s, frq b k]) = true from rw_])))) (fun _ => wv_or (p := false) (tv_to (tv_cmpR op_ne (ev_lenS2 (ds := [frq b w, frq b s, frq b k]) T.len (ev_var 0 rfl)) ev_int rs_neI (nomark _)) rfl) (fun _ => wv_one_or (tv_not (b := true) (tv_val ?_)))))) (fun h => nomatch h) (fun _ => bv_nil ?_))
    · refine ev_all (bs := [true, true, true]) rfl T.all (ev_to (ev_lcM (own := [("part", 1)]) (g := gName 1) rfl sc_p_is_piece.nd (iv_sq (b := b) (ds := [frq b w, frq b s, frq b k]) (ev_var 0 rfl)) (blkOk_by (N := ["thing", "part", "width", "_", "shrink"]) (sc := defScope s_p_is_piece) (by decide +kernel)) (fun _ _ _ _ _ => (pg_name (i := 1) sc_p_is_piece.nd rfl (.inl rfl))) (fun _ => dB true) (by show 3 ≤ sizeLine; decide) (fun i d h => ?_)) rfl)
      obtain ⟨x, rfl, hx⟩ : ∃ x, d = frq b x ∧ MeaOk x := three_mem (P := fun d => ∃ x, d = frq b x ∧ MeaOk x) ⟨w, rfl, ok.w⟩ ⟨s, rfl, ok.s⟩ ⟨k, rfl, ok.k⟩ d (List.mem_of_getElem? h)
      exact ⟨_, tgb_name, fun M2 s H C cl fp => ev_call c_p_is_measure (hr.mono (by decide)) (av_cons (ev_var 1 rfl) av_nil) ⟨b, x, rfl, hx, rfl, rfl⟩⟩
    · refine bv_cons (sw_asg (pg_sq b rfl (pgs_cons (pg_name (i := 2) sc_p_is_piece.nd rfl (.inl rfl)) (pgs_cons (pg_name (i := 3) sc_p_is_piece.nd rfl (.inl rfl)) (pgs_cons (pg_name (i := 4) sc_p_is_piece.nd rfl (.inl rfl)) pgs_nil)))) (ew_ev (ev_var 0 rfl) ⟨_, tg_sq (b := b) (tg_cons tg_name (tg_cons tg_name (tg_cons tg_name tg_nil))), ?_⟩))
      exact bv_one (sv_ret (ev_to (ev_cmpR op_le (ev_op op_mulW (ev_ixQ (b' := b) (ds := [dI k.1, dI k.2]) (ev_var 4 rfl) ev_int rfl) (ev_ixQ (b' := b) (ds := [dI w.1, dI w.2]) (ev_var 2 rfl) ev_int rfl) (rs_I ((sm k0 k1).cm (sm (by omega) (by omega))))) (ev_op op_mulW (ev_ixQ (b' := b) (ds := [dI w.1, dI w.2]) (ev_var 2 rfl) ev_int rfl) (ev_ixQ (b' := b) (ds := [dI k.1, dI k.2]) (ev_var 4 rfl) ev_int rfl) (rs_I ((sm w0 w1).cm (sm (by omega) (by omega))))) rs_I0 (nomark _)) (show dB (decide (k.1 * w.2 ≤ w.1 * k.2)) = dB true by rw [decide_eq_true (show k.1 * w.2 ≤ w.1 * k.2 from ok.le)])) ⟨rfl, Mle.refl _⟩)
theorem c_p_check_pieces (F : Fun K "check_pieces" "check_pieces" s_p_check_pieces f fd) (hm : mg "check_pieces" = some (.ref f)) (T : Bt mg) (hen : mg "enumerate" = none) (hP : ∃ t, mg "MOST_PIECES" = some (.int 400 t)) (c_p_is_row : Cal P w K mg base 1 "is_row" (spD K PrRow)) (c_p_is_piece : Cal P w K mg base 5 "is_piece" (spD K PrPc)) : Cal P w K mg base 6 "check_pieces" (spD K PrChkP) := by
  refine cal_of F sc_p_check_pieces hm (fun _ _ _ _ _ _ us hl => match us, hl with | [_], _ => rfl) (fun ds M d M' h => ?_) fun cdv A outer s H E ds M d M' hr h => ?_
  · obtain ⟨c, b, ps, rfl, _⟩ := h
    rfl
  · obtain ⟨c, b, ps, rfl, ok, rfl, rfl⟩ := h
    show BV _ _ [some (sq c (ps.map (pcq b))), none, none] _ _
    have l0 := ok.l0
    have l1 := ok.l1
    have kr : kD 3 (sq c (ps.map (pcq b))) := kD_mk (by rw [List.length_map]; omega) fun d hd => by
      obtain ⟨q, _, rfl⟩ := List.mem_map.mp hd
      exact kD_pcq
    have len : ((ps.map (pcq b)).length : Int) = (ps.length : Int) := by rw [List.length_map]
    refine bv_cons (sv_if (p := false) (M1 := M') (PW.pt (wv_or (p := false) (tv_not (b := true) (tv_val (ev_to (ev_call c_p_is_row (hr.mono (by decide)) (av_cons (ev_var 0 rfl) av_nil) ⟨_, 3, rfl, kr, rfl, rfl⟩) (by rw [rowD_of])))) (fun _ => wv_one_or (tv_not (b := true) (tv_to (tv_chain op_le op_le ev_int (ev_lenS2 T.len (ev_var 0 rfl)) (ev_gI hP)) ?_))))) (fun h => nomatch h) (fun _ => bv_nil ?_))
    · rw [len, decide_eq_true (show (1 : Int) ≤ (ps.length : Int) by omega), decide_eq_true (show (ps.length : Int) ≤ 400 by omega)]
      rfl
    refine bv_one (sw_for rfl (pg_tup rfl (pgs_cons (pg_name (i := 1) sc_p_check_pieces.nd rfl (.inl rfl)) (pgs_cons (pg_name (i := 2) sc_p_check_pieces.nd rfl (.inl rfl)) pgs_nil))) ?_)
    refine iw_enum c hen (ev_var 0 rfl) ⟨fun i ρ M1 => ∃ (x1 x2 : Option D), ρ = [some (sq c (ps.map (pcq b))), x1, x2] ∧ M1 = M', ⟨none, none, rfl, rfl⟩, fun i d ρ' M1 hd iv => ?_, fun ρ' M1 iv => ?_⟩
    · obtain ⟨x1, x2, rfl, rfl⟩ := iv
      obtain ⟨d2, hd2, rfl⟩ := enD_get hd
      rw [List.getElem?_map, Option.map_eq_some_iff] at hd2
      obtain ⟨q, hq2, rfl⟩ := hd2
      refine ⟨_, tg_tup (tg_cons tg_name (tg_cons tg_name tg_nil)), ?_⟩
      exact bv_one (sv_if (tv_not (b := true) (tv_val (ev_call c_p_is_piece (hr.mono (by decide)) (av_cons (ev_var 2 rfl) av_nil) ⟨b, q, rfl, ok.pc q (List.mem_of_getElem? hq2), rfl, rfl⟩))) (fun h => nomatch h) (fun _ => bv_nil ⟨_, _, rfl, rfl⟩))
    · obtain ⟨x1, x2, rfl, rfl⟩ := iv
      exact ⟨rfl, Mle.refl _⟩
end
/-- the numbers that a line's rows hold -/
def lnOf (rd : Int × Int) (ps : List Pc) : Ln :=
  { wd := ps.map fun p => inP (partsN rd.2 ps) p.1
    st := ps.map fun p => inP (partsN rd.2 ps) p.2.1
    sh := ps.map fun p => inP (partsN rd.2 ps) p.2.2
    room := inP (partsN rd.2 ps) rd
    n := ps.length }
theorem pts_of {rd : Int × Int} {ps : List Pc} (h : PcsOk ps) (hr : MeaOk rd) : PtsOk (partsN rd.2 ps) ∧ rd.2.natAbs ∣ partsN rd.2 ps ∧ ∀ p ∈ ps, p.1.2.natAbs ∣ partsN rd.2 ps ∧ p.2.1.2.natAbs ∣ partsN rd.2 ps ∧ p.2.2.2.natAbs ∣ partsN rd.2 ps := by
  have d0 := hr.d0
  have r0 : PtsOk rd.2.natAbs := ⟨by omega, all_dvd hr.d0 hr.d1⟩
  exact parts_ok r0 h.pc
theorem inP_pos {W : Nat} {x : Int × Int} (h : MeaOk x) : 0 ≤ inP W x := Int.ediv_nonneg (Int.mul_nonneg h.n0 (by omega)) (by have := h.d0; omega)
theorem lnOf_ok {rd : Int × Int} {ps : List Pc} (h : PcsOk ps) (hr : MeaOk rd) : LnOk (lnOf rd ps) := by
  obtain ⟨h1, h2, h3⟩ := pts_of h hr
  refine ⟨List.length_map _, List.length_map _, List.length_map _, h.l0, h.l1, fun x hx => ?_, fun x hx => ?_, fun x hx => ?_, fun x hx => ?_, fun x hx => ?_, inP_bd hr h1⟩ <;>
    (obtain ⟨p, hp, rfl⟩ := List.mem_map.mp hx)
  · exact inP_pos (h.pc p hp).k
  · exact inP_pos (h.pc p hp).s
  · exact inP_bd (h.pc p hp).w h1
  · exact inP_bd (h.pc p hp).s h1
  · exact inP_bd (h.pc p hp).k h1
/-- the fields of a LineRows -/
def fsOf (L : Ln) : List (Str × D) := [("room", dI L.room), ("size", dI ((L.n : Nat) : Int)), ("widths", .lst ((pfx L.wd).map dI)), ("stretches", .lst ((pfx L.st).map dI)), ("shrinks", .lst ((pfx L.sh).map dI))]
theorem mem_set_del {M : Mem} {z : Addr} {o : MO} (h : M z = none) : (M.set z o).del z = M := by
  funext b
  unfold Mem.set Mem.del
  by_cases q : b = z
  · rw [if_pos q, q, h]
  · rw [if_neg q]
    exact if_neg q
def PrSums (ds : List D) (M : Mem) (d : D) (M' : Mem) : Prop := ∃ xs : List Int, ds = [.lst (xs.map dI)] ∧ xs.length ≤ 1000 ∧ d = .lst ((pfx xs).map dI) ∧ M' = M
def R_linit (C : Addr) (ds : List D) (M : Mem) (Φ : D → Mem → Prop) : Prop := ∃ (y : Addr) (c b e : Bool) (ps : List Pc) (rd : Int × Int), ds = [dP y, sq c (ps.map (pcq b)), frq e rd] ∧ M y = some (.ins C []) ∧ PcsOk ps ∧ MeaOk rd ∧ Φ dN (M.set y (.ins C (fsOf (lnOf rd ps))))
theorem pfx_succ (xs : List Int) (i : Nat) (x : Int) (h : xs[i]? = some x) : pfx (xs.take (i + 1)) = pfx (xs.take i) ++ [(xs.take (i + 1)).sum] := by
  have hi := (List.getElem?_eq_some_iff.mp h).1
  unfold pfx
  rw [List.length_take, List.length_take, show min (i + 1) xs.length = i + 1 by omega, show min i xs.length = i by omega, List.range_succ (n := i + 1), List.map_append]
  congr 1
  · refine List.map_congr_left fun j hj => ?_
    have := List.mem_range.mp hj
    rw [List.take_take, List.take_take, show min j (i + 1) = j by omega, show min j i = j by omega]
  · show [((xs.take (i + 1)).take (i + 1)).sum] = _
    rw [List.take_take, Nat.min_self]
theorem pfx_len (xs : List Int) : (pfx xs).length = xs.length + 1 := by
  unfold pfx
  rw [List.length_map, List.length_range]
theorem map_enum {α : Type} (g : α → Int) (b : Bool) (q : α → D) (xs : List α) : (xs.map q).map (fun d => d) = xs.map q := List.map_id' _
section
variable {P : Program} {w : World} {K : PySem.W.Frag} {mg : Str → Option Value} {base : Heap} {f : Addr} {fd : FuncData}
theorem c_p_sums (F : Fun K "_sums" "_sums" s_p_sums f fd) (hm : mg "_sums" = some (.ref f)) : Cal P w K mg base 1 "_sums" (spD K PrSums) := by
  refine cal_of F sc_p_sums hm (fun _ _ _ _ _ _ us hl => match us, hl with | [_], _ => rfl) (fun ds M d M' h => ?_) fun cdv A outer s H E ds M d M' hr h => ?_
  · obtain ⟨xs, rfl, _⟩ := h
    rfl
  · obtain ⟨xs, rfl, hl, rfl, rfl⟩ := h
    show BV _ _ [some (.lst (xs.map dI)), none, none] _ _
    refine bv_cons (sv_setNew 1 sc_p_sums.nd (av_cons ev_int av_nil) (fun z hz => ?_))
    refine bv_cons (sw_for rfl (pg_name (i := 2) sc_p_sums.nd rfl (.inl rfl)) ?_)
    refine iw_iv (iv_list (ev_var 0 rfl)) ⟨fun i ρ M => ∃ (x2 : Option D), ρ = [some (.lst (xs.map dI)), some (dP z), x2] ∧ M = M'.set z (.lst ((pfx (xs.take i)).map dI)) ∧ i ≤ xs.length, ⟨none, rfl, rfl, Nat.zero_le _⟩, fun i d ρ' M hd iv => ?_, fun ρ' M iv => ?_⟩
    · obtain ⟨x2, rfl, rfl, hi⟩ := iv
      rw [List.getElem?_map, Option.map_eq_some_iff] at hd
      obtain ⟨x, hx, rfl⟩ := hd
      have hi2 := (List.getElem?_eq_some_iff.mp hx).1
      have ln : (pfx (xs.take i)).length = i + 1 := by rw [pfx_len, List.length_take]; omega
      have la : atI ((pfx (xs.take i)).map dI) (-1) = some (dI (xs.take i).sum) := by
        unfold atI ixN
        rw [if_neg (by decide), List.length_map, ln, if_pos (by omega)]
        show ((pfx (xs.take i)).map dI)[(-1 + ((i + 1 : Nat) : Int)).toNat]? = _
        rw [show (-1 + ((i + 1 : Nat) : Int)).toNat = i by omega, List.getElem?_map, pfx_at (by rw [List.length_take]; omega), List.take_take, Nat.min_self]
        rfl
      refine ⟨_, tg_name, ?_⟩
      refine bv_one (sv_append (ev_var 1 rfl) (ev_op op_add (ev_ixM (ev_var 1 rfl) (ev_un un_neg ev_int ru_neg) Mem.set_same la) (ev_var 2 rfl) rs_I0) ⟨_, Mem.set_same⟩ Mem.set_same (by rw [List.length_map, ln]; exact Nat.lt_of_le_of_lt (show i + 1 ≤ 1001 by omega) (by decide)) ?_)
      refine ⟨_, rfl, ?_, by omega⟩
      rw [Mem.set_set, pfx_succ xs i x hx, sum_take hx, List.map_append]
      rfl
    · obtain ⟨x2, rfl, rfl, hi⟩ := iv
      rw [List.length_map, List.take_length]
      refine bv_still 1 rfl Mem.set_same ?_
      rw [mem_set_del hz]
      exact bv_one (sv_ret (ev_var 1 rfl) ⟨rfl, Mle.refl _⟩)
theorem m_init {C : Addr} (F : Fun K "__init__" "LineRows.__init__" s_LineRows_init f fd) (T : Bt mg) (hl : mg "lcm" = some (.builtin "math.lcm")) (cC : Cls K C) (nC : ∀ z ∈ (["room", "size", "widths", "stretches", "shrinks"] : List Str), NoAttr K C z) (c_p_sums : Cal P w K mg base 1 "_sums" (spD K PrSums)) : FnOk P w K mg base CX0 2 f fd ["self", "pieces", "room"] (spW K (R_linit C)) := by
  refine fnW_of F sc_LineRows_init (fun ds M Φ h => ?_) fun cdv A outer s H E ds M Φ hr h => ?_
  · obtain ⟨y, c, b, e, ps, rd, rfl, _⟩ := h
    rfl
  · obtain ⟨y, c, b, e, ps, rd, rfl, hm, ok, okr, hΦ⟩ := h
    show BV _ _ [some (dP y), some (sq c (ps.map (pcq b))), some (frq e rd), none, none, none, none, none, none] _ _
    obtain ⟨pt, rdv, pdv⟩ := pts_of ok okr
    have rd0 := okr.d0
    have ex : ((rd.2.natAbs : Nat) : Int) = rd.2 := by omega
    have sm : ∀ {i : Int}, 1 ≤ i → i ≤ 1000 → i.natAbs < 2 ^ 2000 := fun h0 h1 => Nat.lt_of_lt_of_le (show _ < 2 ^ 10 by omega) (Nat.pow_le_pow_right (by decide) (by decide))
    refine bv_cons (sv_set 3 sc_LineRows_init.nd (ev_to (ev_ixQ (b' := e) (ds := [dI rd.1, dI rd.2]) (ev_var 2 rfl) ev_int rfl) (show dI rd.2 = dI ((rd.2.natAbs : Nat) : Int) by rw [ex])) ?_)
    refine bv_cons (sw_for rfl (pg_name (i := 4) sc_LineRows_init.nd rfl (.inl rfl)) ?_)
    refine iw_iv (iv_sq (b := c) (ev_var 1 rfl)) ⟨fun i ρ M1 => ∃ (W : Nat) (x4 : Option D), ρ = [some (dP y), some (sq c (ps.map (pcq b))), some (frq e rd), some (dI ((W : Nat) : Int)), x4, none, none, none, none] ∧ M1 = M ∧ W = (ps.take i).foldl lcmP rd.2.natAbs, ⟨_, none, rfl, rfl, rfl⟩, fun i d ρ' M1 hd iv => ?_, fun ρ' M1 iv => ?_⟩
    · obtain ⟨W, x4, rfl, rfl, eW⟩ := iv
      rw [List.getElem?_map, Option.map_eq_some_iff] at hd
      obtain ⟨p, hp, rfl⟩ := hd
      have pok := ok.pc p (List.mem_of_getElem? hp)
      have hW : PtsOk W := by
        rw [eW]
        exact (parts_ok (ps := ps.take i) ⟨by omega, all_dvd okr.d0 okr.d1⟩ fun q hq => ok.pc q (List.mem_of_mem_take hq)).1
      have wb : W < 2 ^ 2000 := Nat.lt_of_lt_of_le hW.bd (Nat.pow_le_pow_right (by decide) (by decide))
      refine ⟨_, tg_name, ?_⟩
      have ixp : ∀ {X : Cx} {ρ : Sl} {M : Mem} {a e1 e2 : Expr} {p1 p2 : Pos} {x : Int × Int} {k : Nat}, EV X a ρ M (pcq b p) M → EV X e1 ρ M (dI ((k : Nat) : Int)) M → EV X e2 ρ M (dI 1) M → PlainIx e1 → PlainIx e2 → [frq b p.1, frq b p.2.1, frq b p.2.2][k]? = some (frq b x) → EV X (.Subscript (.Subscript a e1 p1) e2 p2) ρ M (dI x.2) M := fun {X ρ M a e1 e2 p1 p2 x k} h1 h2 h3 h4 h5 h6 => ev_ixQ (b' := b) (ds := [dI x.1, dI x.2]) (ev_ixQ (b' := b) (ds := [frq b p.1, frq b p.2.1, frq b p.2.2]) h1 h2 (atI_nat h6 rfl) h4) h3 rfl h5
      refine bv_one (sv_set 3 sc_LineRows_init.nd (ev_bf4 cr_lcm4 hl (ev_var 3 rfl) (ixp (x := p.1) (k := 0) (ev_var 4 rfl) ev_int ev_int (by intro _ _; rfl) (by intro _ _; rfl) rfl) (ixp (x := p.2.1) (k := 1) (ev_var 4 rfl) ev_int ev_int (by intro _ _; rfl) (by intro _ _; rfl) rfl) (ixp (x := p.2.2) (k := 2) (ev_var 4 rfl) ev_int ev_int (by intro _ _; rfl) (by intro _ _; rfl) rfl) (z := .int ((lcmP W p : Nat) : Int)) (fun H Q q => ⟨_, _, _, _, rfl, ⟨by rw [Int.natAbs_natCast]; exact wb, sm pok.w.d0 pok.w.d1, sm pok.s.d0 pok.s.d1, sm pok.k.d0 pok.k.d1⟩, by rw [Int.natAbs_natCast]; exact q⟩)) ?_)
      refine ⟨_, _, rfl, rfl, ?_⟩
      rw [List.take_succ, hp, Option.toList_some, List.foldl_append, ← eW]
      rfl
    · obtain ⟨W, x4, rfl, rfl, eW⟩ := iv
      rw [List.length_map, List.take_length] at eW
      have eW : W = partsN rd.2 ps := eW
      subst eW
      have wb : Bd 1600 ((partsN rd.2 ps : Nat) : Int) := by
        unfold Bd
        rw [Int.natAbs_natCast]
        exact pt.bd
      have mb : ∀ {x : Int × Int}, MeaOk x → Bd 20 x.1 := fun h => Bd.of (m := 1000000) (by have := h.n0; have := h.n1; omega) (by decide)
      have db : ∀ {x : Int × Int}, MeaOk x → Bd 20 x.2 := fun h => Bd.of (m := 1000) (by have := h.d0; have := h.d1; omega) (by decide)
      have d0 : ∀ {x : Int × Int}, MeaOk x → 0 < x.2 := fun h => by have := h.d0; omega
      have l1 := ok.l1
      refine bv_cons (sw_fld (C := C) (p := y) (ew_ev (ev_op op_fdivW (ev_op op_mulW (ev_ixQ (b' := e) (ds := [dI rd.1, dI rd.2]) (ev_var 2 rfl) ev_int rfl) (ev_var 3 rfl) (rs_I ((mb okr).cm wb))) (ev_ixQ (b' := e) (ds := [dI rd.1, dI rd.2]) (ev_var 2 rfl) ev_int rfl) (rs_I ((db okr).cd (d0 okr)))) ⟨ev_var 0 rfl, _, hm, by decide, ?_⟩) cC (nC _ (by simp)))
      refine bv_cons (sw_fld (C := C) (p := y) (ew_ev (ev_to (ev_lenS2 T.len (ev_var 1 rfl)) (show _ = dI ((ps.length : Nat) : Int) by rw [List.length_map])) ⟨ev_var 0 rfl, _, Mem.set_same, by show 1 < 1000; decide, ?_⟩) cC (nC _ (by simp)))
      rw [Mem.set_set]
      refine bv_cons (sw_fld (C := C) (p := y) (ew_callD c_p_sums (hr.mono (by decide)) (aw_cons ?_)) cC (nC _ (by simp)))
      refine ew_lc (own := [("width", 5), ("_", 6)]) (g := gAny _ 3 (gCons (gName 5) (gCons (gName 6) (gCons (gName 6) gNil)))) rfl sc_LineRows_init.nd (blkOk_by (N := ["self", "pieces", "room", "parts", "piece", "width", "_", "stretch", "shrink"]) (sc := defScope s_LineRows_init) (by decide +kernel)) (fun _ _ _ _ _ => (pg_any rfl (pgs_cons (pg_name (i := 5) sc_LineRows_init.nd rfl (.inl rfl)) (pgs_cons (pg_name (i := 6) sc_LineRows_init.nd rfl (.inl rfl)) (pgs_cons (pg_name (i := 6) sc_LineRows_init.nd rfl (.inl rfl)) pgs_nil))))) ?_
      refine iw_iv (iv_sq (b := c) (ev_var 1 rfl)) ⟨by rw [List.length_map]; exact Nat.le_trans l1 (by decide), fun i acc M1 => M1 = _ ∧ acc = ((ps.take i).map fun p => inP (partsN rd.2 ps) p.1).map dI, ⟨rfl, rfl⟩, fun i d acc M1 hd hacc iv => ?_, fun acc M1 hacc iv => ?_⟩
      · obtain ⟨rfl, rfl⟩ := iv
        rw [List.getElem?_map, Option.map_eq_some_iff] at hd
        obtain ⟨p, hp, rfl⟩ := hd
        have pok := (ok.pc p (List.mem_of_getElem? hp)).w
        refine ⟨_, tgb_of (tb_any (b := b) (ds := [frq b p.1, frq b p.2.1, frq b p.2.2]) (tbs_cons tb_name (tbs_cons tb_name (tbs_cons tb_name tbs_nil)))), fun z hz s H C' cl fp => ?_⟩
        refine ew_ev (ev_op op_fdivW (ev_op op_mulW (ev_ixQ (b' := b) (ds := [dI p.1.1, dI p.1.2]) (ev_var 5 rfl) ev_int rfl) (ev_var 3 rfl) (rs_I ((mb pok).cm wb))) (ev_ixQ (b' := b) (ds := [dI p.1.1, dI p.1.2]) (ev_var 5 rfl) ev_int rfl) (rs_I ((db pok).cd (d0 pok)))) ⟨_, rfl, hz, rfl, ?_⟩
        rw [List.take_succ, hp, Option.toList_some, List.map_append, List.map_append, List.map_cons, List.map_nil]
        rfl
      · obtain ⟨rfl, rfl⟩ := iv
        rw [List.length_map, List.take_length]
        refine aw_nil ⟨_, _, ⟨_, rfl, by rw [List.length_map]; omega, rfl, rfl⟩, ev_var 0 rfl, _, Mem.set_same, by show 2 < 1000; decide, ?_⟩
        rw [Mem.set_set]
        refine bv_cons (sw_fld (C := C) (p := y) (ew_callD c_p_sums (hr.mono (by decide)) (aw_cons ?_)) cC (nC _ (by simp)))
        refine ew_lc (own := [("_", 6), ("stretch", 7)]) (g := gAny _ 3 (gCons (gName 6) (gCons (gName 7) (gCons (gName 6) gNil)))) rfl sc_LineRows_init.nd (blkOk_by (N := ["self", "pieces", "room", "parts", "piece", "width", "_", "stretch", "shrink"]) (sc := defScope s_LineRows_init) (by decide +kernel)) (fun _ _ _ _ _ => (pg_any rfl (pgs_cons (pg_name (i := 6) sc_LineRows_init.nd rfl (.inl rfl)) (pgs_cons (pg_name (i := 7) sc_LineRows_init.nd rfl (.inl rfl)) (pgs_cons (pg_name (i := 6) sc_LineRows_init.nd rfl (.inl rfl)) pgs_nil))))) ?_
        refine iw_iv (iv_sq (b := c) (ev_var 1 rfl)) ⟨by rw [List.length_map]; exact Nat.le_trans l1 (by decide), fun i acc M1 => M1 = _ ∧ acc = ((ps.take i).map fun p => inP (partsN rd.2 ps) p.2.1).map dI, ⟨rfl, rfl⟩, fun i d acc M1 hd hacc iv => ?_, fun acc M1 hacc iv => ?_⟩
        · obtain ⟨rfl, rfl⟩ := iv
          rw [List.getElem?_map, Option.map_eq_some_iff] at hd
          obtain ⟨p, hp, rfl⟩ := hd
          have pok := (ok.pc p (List.mem_of_getElem? hp)).s
          refine ⟨_, tgb_of (tb_any (b := b) (ds := [frq b p.1, frq b p.2.1, frq b p.2.2]) (tbs_cons tb_name (tbs_cons tb_name (tbs_cons tb_name tbs_nil)))), fun z hz s H C' cl fp => ?_⟩
          refine ew_ev (ev_op op_fdivW (ev_op op_mulW (ev_ixQ (b' := b) (ds := [dI p.2.1.1, dI p.2.1.2]) (ev_var 7 rfl) ev_int rfl) (ev_var 3 rfl) (rs_I ((mb pok).cm wb))) (ev_ixQ (b' := b) (ds := [dI p.2.1.1, dI p.2.1.2]) (ev_var 7 rfl) ev_int rfl) (rs_I ((db pok).cd (d0 pok)))) ⟨_, rfl, hz, rfl, ?_⟩
          rw [List.take_succ, hp, Option.toList_some, List.map_append, List.map_append, List.map_cons, List.map_nil]
          rfl
        · obtain ⟨rfl, rfl⟩ := iv
          rw [List.length_map, List.take_length]
          refine aw_nil ⟨_, _, ⟨_, rfl, by rw [List.length_map]; omega, rfl, rfl⟩, ev_var 0 rfl, _, Mem.set_same, by show 3 < 1000; decide, ?_⟩
          rw [Mem.set_set]
          refine bv_one (sw_fld (C := C) (p := y) (ew_callD c_p_sums (hr.mono (by decide)) (aw_cons ?_)) cC (nC _ (by simp)))
          refine ew_lc (own := [("_", 6), ("shrink", 8)]) (g := gAny _ 3 (gCons (gName 6) (gCons (gName 6) (gCons (gName 8) gNil)))) rfl sc_LineRows_init.nd (blkOk_by (N := ["self", "pieces", "room", "parts", "piece", "width", "_", "stretch", "shrink"]) (sc := defScope s_LineRows_init) (by decide +kernel)) (fun _ _ _ _ _ => (pg_any rfl (pgs_cons (pg_name (i := 6) sc_LineRows_init.nd rfl (.inl rfl)) (pgs_cons (pg_name (i := 6) sc_LineRows_init.nd rfl (.inl rfl)) (pgs_cons (pg_name (i := 8) sc_LineRows_init.nd rfl (.inl rfl)) pgs_nil))))) ?_
          refine iw_iv (iv_sq (b := c) (ev_var 1 rfl)) ⟨by rw [List.length_map]; exact Nat.le_trans l1 (by decide), fun i acc M1 => M1 = _ ∧ acc = ((ps.take i).map fun p => inP (partsN rd.2 ps) p.2.2).map dI, ⟨rfl, rfl⟩, fun i d acc M1 hd hacc iv => ?_, fun acc M1 hacc iv => ?_⟩
          · obtain ⟨rfl, rfl⟩ := iv
            rw [List.getElem?_map, Option.map_eq_some_iff] at hd
            obtain ⟨p, hp, rfl⟩ := hd
            have pok := (ok.pc p (List.mem_of_getElem? hp)).k
            refine ⟨_, tgb_of (tb_any (b := b) (ds := [frq b p.1, frq b p.2.1, frq b p.2.2]) (tbs_cons tb_name (tbs_cons tb_name (tbs_cons tb_name tbs_nil)))), fun z hz s H C' cl fp => ?_⟩
            refine ew_ev (ev_op op_fdivW (ev_op op_mulW (ev_ixQ (b' := b) (ds := [dI p.2.2.1, dI p.2.2.2]) (ev_var 8 rfl) ev_int rfl) (ev_var 3 rfl) (rs_I ((mb pok).cm wb))) (ev_ixQ (b' := b) (ds := [dI p.2.2.1, dI p.2.2.2]) (ev_var 8 rfl) ev_int rfl) (rs_I ((db pok).cd (d0 pok)))) ⟨_, rfl, hz, rfl, ?_⟩
            rw [List.take_succ, hp, Option.toList_some, List.map_append, List.map_append, List.map_cons, List.map_nil]
            rfl
          · obtain ⟨rfl, rfl⟩ := iv
            rw [List.length_map, List.take_length]
            refine aw_nil ⟨_, _, ⟨_, rfl, by rw [List.length_map]; omega, rfl, rfl⟩, ev_var 0 rfl, _, Mem.set_same, by show 4 < 1000; decide, ?_⟩
            rw [Mem.set_set]
            exact ⟨_, hΦ, Mle.refl _⟩
end
def optB : Option Int → D
  | none => dN
  | some b => dI b
def rT (x : Nat × Int) : D := .tup [dI ((x.1 : Nat) : Int), dI x.2]
def rowT (r : List (Nat × Int)) : D := .lst (r.map rT)
def R_lbad (C : Addr) (ds : List D) (M : Mem) (Φ : D → Mem → Prop) : Prop := ∃ (y : Addr) (L : Ln) (f s : Nat), ds = [dP y, dI ((f : Nat) : Int), dI ((s : Nat) : Int)] ∧ M y = some (.ins C (fsOf L)) ∧ LnOk L ∧ f < s ∧ s ≤ L.n ∧ Φ (optB (L.bad f s)) M
def R_lfull (C : Addr) (ds : List D) (M : Mem) (Φ : D → Mem → Prop) : Prop := ∃ (y : Addr) (L : Ln) (f s : Nat), ds = [dP y, dI ((f : Nat) : Int), dI ((s : Nat) : Int)] ∧ M y = some (.ins C (fsOf L)) ∧ LnOk L ∧ f < s ∧ s ≤ L.n ∧ Φ (dB (L.full f s)) M
def R_lfrom (C : Addr) (ds : List D) (M : Mem) (Φ : D → Mem → Prop) : Prop := ∃ (y : Addr) (L : Ln) (f : Nat), ds = [dP y, dI ((f : Nat) : Int)] ∧ M y = some (.ins C (fsOf L)) ∧ LnOk L ∧ f < L.n ∧ Φ (rowT (L.row f)) M
def R_lall (C : Addr) (ds : List D) (M : Mem) (Φ : D → Mem → Prop) : Prop := ∃ (y : Addr) (L : Ln), ds = [dP y] ∧ M y = some (.ins C (fsOf L)) ∧ LnOk L ∧ Φ (.lst (L.rows.map rowT)) M
theorem pfx_atI {xs : List Int} {n i : Nat} (h : xs.length = n) (hi : i ≤ n) : atI ((pfx xs).map dI) ((i : Nat) : Int) = some (dI (xs.take i).sum) := atI_nat (k := i) (by rw [List.getElem?_map, pfx_at (by omega)]; rfl) rfl
theorem sq_pos {a : Int} (h : a ≠ 0) : 0 < a * a := by
  rcases Int.lt_or_gt_of_ne h with c | c
  · exact Int.mul_pos_of_neg_of_neg c c
  · exact Int.mul_pos c c
theorem from_len (L : Ln) (f : Nat) : ∀ k s, (L.from f s k).length ≤ k
  | 0, _ => Nat.le_refl _
  | k + 1, s => by
    unfold Ln.from
    have ih := from_len L f k (s + 1)
    split
    · exact Nat.zero_le _
    · split
      · rw [List.length_cons]
        omega
      · omega
section
variable {P : Program} {w : World} {K : PySem.W.Frag} {mg : Str → Option Value} {base : Heap} {f : Addr} {fd : FuncData}
theorem m_bad {C : Addr} (F : Fun K "badness_of" "LineRows.badness_of" s_LineRows_badness_of f fd) (cC : Cls K C) (nC : ∀ z ∈ (["room", "size", "widths", "stretches", "shrinks"] : List Str), NoAttr K C z) (hF : ∃ t, mg "FULL" = some (.int 1000 t)) : FnOk P w K mg base CX0 1 f fd ["self", "first", "stop"] (spW K (R_lbad C)) := by
  refine fnW_of F sc_LineRows_badness_of (fun ds M Φ h => ?_) fun cdv A outer s H E ds M Φ hr h => ?_
  · obtain ⟨y, L, f, s, rfl, _⟩ := h
    rfl
  · obtain ⟨y, L, i, j, rfl, hm, ok, hij, hj, hΦ⟩ := h
    show BV _ _ [some (dP y), some (dI ((i : Nat) : Int)), some (dI ((j : Nat) : Int)), none, none] _ _
    obtain ⟨bw, bs, bk⟩ := L.dbd ok hj (show i ≤ L.n by omega)
    have br : Bd 1631 L.room := ok.br.mono (by decide)
    refine bv_cons (sv_set 3 sc_LineRows_badness_of.nd (ev_op op_sub (ev_op op_sub (ev_ixL (ev_fld (ev_var 0 rfl) hm cC (nC _ (by simp)) rfl) (ev_var 2 rfl) (pfx_atI ok.w hj)) (ev_ixL (ev_fld (ev_var 0 rfl) hm cC (nC _ (by simp)) rfl) (ev_var 1 rfl) (pfx_atI ok.w (show i ≤ L.n by omega))) rs_I0) (ev_fld (ev_var 0 rfl) hm cC (nC _ (by simp)) rfl) rs_I0) ?_)
    show BV _ _ [some (dP y), some (dI ((i : Nat) : Int)), some (dI ((j : Nat) : Int)), some (dI (L.dw i j - L.room)), none] _ _
    have mb : Bd 1632 (L.dw i j - L.room) := bw.sub br
    refine bv_cons (sv_if (PW.pt (wv_or (tv_cmpR op_eq (ev_var 3 rfl) ev_int rs_eqI (nomark _)) (fun _ => wv_one_or (PW.pt (wv_and (tv_cmpR op_lt (ev_var 3 rfl) ev_int rs_I0 (nomark _)) (fun _ => wv_one_and (tv_cmpR op_eq (ev_var 2 rfl) (ev_fld (ev_var 0 rfl) hm cC (nC _ (by simp)) rfl) rs_eqI (nomark _)))))))) (fun h => ?_) (fun h => bv_nil ?_))
    · have c : L.dw i j - L.room = 0 ∨ (L.dw i j - L.room < 0 ∧ j = L.n) := by
        rcases Bool.or_eq_true_iff.mp h with h | h
        · exact .inl (of_decide_eq_true h)
        · obtain ⟨h1, h2⟩ := Bool.and_eq_true_iff.mp h
          exact .inr ⟨of_decide_eq_true h1, by have := of_decide_eq_true h2; omega⟩
      refine bv_one (sv_ret ev_int ⟨_, ?_, Mle.refl _⟩)
      unfold Ln.bad at hΦ
      rw [if_pos c] at hΦ
      exact hΦ
    · have c : ¬ (L.dw i j - L.room = 0 ∨ (L.dw i j - L.room < 0 ∧ j = L.n)) := fun q => by
        rcases q with q | ⟨q1, q2⟩
        · rw [decide_eq_true q] at h
          cases h
        · rw [decide_eq_true q1, decide_eq_true (show ((j : Nat) : Int) = ((L.n : Nat) : Int) by omega), Bool.and_self, Bool.or_true] at h
          cases h
      unfold Ln.bad at hΦ
      rw [if_neg c] at hΦ
      refine bv_cons (sv_set 4 sc_LineRows_badness_of.nd (ev_op op_sub (ev_ixL (ev_fld (ev_var 0 rfl) hm cC (nC _ (by simp)) rfl) (ev_var 2 rfl) (pfx_atI ok.s hj)) (ev_ixL (ev_fld (ev_var 0 rfl) hm cC (nC _ (by simp)) rfl) (ev_var 1 rfl) (pfx_atI ok.s (show i ≤ L.n by omega))) rs_I0) ?_)
      refine bv_cons (sv_join (fun ρ M1 => ρ = [some (dP y), some (dI ((i : Nat) : Int)), some (dI ((j : Nat) : Int)), some (dI (L.dw i j - L.room)), some (dI (if L.dw i j - L.room > 0 then L.dk i j else L.ds i j))] ∧ M1 = M) ?_ ?_)
      · refine sv_if (tv_cmpR op_gt (ev_var 3 rfl) ev_int rs_I0 (nomark _)) (fun h => ?_) (fun h => bv_nil ?_)
        · refine bv_one (sv_set 4 sc_LineRows_badness_of.nd (ev_op op_sub (ev_ixL (ev_fld (ev_var 0 rfl) hm cC (nC _ (by simp)) rfl) (ev_var 2 rfl) (pfx_atI ok.k hj)) (ev_ixL (ev_fld (ev_var 0 rfl) hm cC (nC _ (by simp)) rfl) (ev_var 1 rfl) (pfx_atI ok.k (show i ≤ L.n by omega))) rs_I0) ?_)
          rw [if_pos (show L.dw i j - L.room > 0 from of_decide_eq_true h)]
          exact ⟨rfl, rfl⟩
        · rw [if_neg (show ¬ L.dw i j - L.room > 0 from of_decide_eq_false h)]
          exact ⟨rfl, rfl⟩
      have gb : Bd 1631 (if L.dw i j - L.room > 0 then L.dk i j else L.ds i j) := by
        split
        · exact bk
        · exact bs
      generalize (if L.dw i j - L.room > 0 then L.dk i j else L.ds i j) = gv at gb hΦ
      generalize L.dw i j - L.room = mo at mb hΦ
      rintro ρ M1 ⟨rfl, rfl⟩
      refine bv_cons (sv_if (PW.pt (wv_or (tv_cmpR op_eq (ev_var 4 rfl) ev_int rs_eqI (nomark _)) (fun _ => wv_one_or (tv_cmpR op_gt (ev_var 3 rfl) (ev_var 4 rfl) rs_I0 (nomark _))))) (fun h => ?_) (fun h => bv_nil ?_))
      · have c : gv = 0 ∨ mo > gv := by
          rcases Bool.or_eq_true_iff.mp h with h | h
          · exact .inl (of_decide_eq_true h)
          · exact .inr (of_decide_eq_true h)
        rw [if_pos c] at hΦ
        exact bv_one (sv_ret ev_non ⟨_, hΦ, Mle.refl _⟩)
      · have c : ¬ (gv = 0 ∨ mo > gv) := fun q => by
          rcases q with q | q
          · rw [decide_eq_true q] at h
            cases h
          · rw [decide_eq_true (show gv < mo from q), Bool.or_true] at h
            cases h
        rw [if_neg c] at hΦ
        have g0 : gv ≠ 0 := fun q => c (.inl q)
        have b10 : Bd 10 1000 := Bd.of (m := 1000) (by omega) (by decide)
        exact bv_one (sv_ret (ev_op op_fdivW (ev_op op_mulW (ev_op op_mulW (ev_gI hF) (ev_var 3 rfl) (rs_I (b10.cm mb))) (ev_var 3 rfl) (rs_I ((b10.mul mb).cm mb))) (ev_op op_mulW (ev_var 4 rfl) (ev_var 4 rfl) (rs_I (gb.cm gb))) (rs_I ((gb.mul gb).cd (sq_pos g0)))) ⟨_, hΦ, Mle.refl _⟩)
theorem m_full {C : Addr} (F : Fun K "_is_full" "LineRows._is_full" s_LineRows_is_full f fd) (cC : Cls K C) (nC : ∀ z ∈ (["room", "size", "widths", "stretches", "shrinks"] : List Str), NoAttr K C z) : FnOk P w K mg base CX0 1 f fd ["self", "first", "stop"] (spW K (R_lfull C)) := by
  refine fnW_of F sc_LineRows_is_full (fun ds M Φ h => ?_) fun cdv A outer s H E ds M Φ hr h => ?_
  · obtain ⟨y, L, f, s, rfl, _⟩ := h
    rfl
  · obtain ⟨y, L, i, j, rfl, hm, ok, hij, hj, hΦ⟩ := h
    show BV _ _ [some (dP y), some (dI ((i : Nat) : Int)), some (dI ((j : Nat) : Int)), none] _ _
    refine bv_cons (sv_set 3 sc_LineRows_is_full.nd (ev_op op_sub (ev_ixL (ev_fld (ev_var 0 rfl) hm cC (nC _ (by simp)) rfl) (ev_var 2 rfl) (pfx_atI ok.w hj)) (ev_ixL (ev_fld (ev_var 0 rfl) hm cC (nC _ (by simp)) rfl) (ev_var 1 rfl) (pfx_atI ok.w (show i ≤ L.n by omega))) rs_I0) ?_)
    exact bv_one (sv_ret (ev_cmpR op_gt (ev_op op_sub (ev_var 3 rfl) (ev_op op_sub (ev_ixL (ev_fld (ev_var 0 rfl) hm cC (nC _ (by simp)) rfl) (ev_var 2 rfl) (pfx_atI ok.k hj)) (ev_ixL (ev_fld (ev_var 0 rfl) hm cC (nC _ (by simp)) rfl) (ev_var 1 rfl) (pfx_atI ok.k (show i ≤ L.n by omega))) rs_I0) rs_I0) (ev_fld (ev_var 0 rfl) hm cC (nC _ (by simp)) rfl) rs_I0 (nomark _)) ⟨_, hΦ, Mle.refl _⟩)
theorem m_from {C : Addr} (F : Fun K "lines_from" "LineRows.lines_from" s_LineRows_lines_from f fd) (T : Bt mg) (cC : Cls K C) (nC : ∀ z ∈ (["room", "size", "widths", "stretches", "shrinks"] : List Str), NoAttr K C z) (mB : MetC P w K mg base 1 C "badness_of" (spW K (R_lbad C))) (mF : MetC P w K mg base 1 C "_is_full" (spW K (R_lfull C))) : FnOk P w K mg base CX0 2 f fd ["self", "first"] (spW K (R_lfrom C)) := by
  refine fnW_of F sc_LineRows_lines_from (fun ds M Φ h => ?_) fun cdv A outer s H E ds M Φ hr h => ?_
  · obtain ⟨y, L, f, rfl, _⟩ := h
    rfl
  · obtain ⟨y, L, i, rfl, hm, ok, hi, hΦ⟩ := h
    show BV _ _ [some (dP y), some (dI ((i : Nat) : Int)), none, none, none] _ _
    have n1 := ok.n1
    refine bv_cons (sv_setNew 2 sc_LineRows_lines_from.nd av_nil (fun z hz => ?_))
    have yz : y ≠ z := mem_ne hm hz
    have hmz : ∀ o, (M.set z o) y = some (.ins C (fsOf L)) := fun o => by rw [Mem.set_ne yz]; exact hm
    refine bv_cons (sv_join (fun ρ M1 => ∃ (x3 x4 : Option D), ρ = [some (dP y), some (dI ((i : Nat) : Int)), some (dP z), x3, x4] ∧ M1 = M.set z (.lst ((L.row i).map rT))) ?_ ?_)
    · refine sw_for rfl (pg_name (i := 3) sc_LineRows_lines_from.nd rfl (.inl rfl)) ?_
      refine iw_iv (iv_range2 T.range (ev_op op_add (ev_var 1 rfl) ev_int rs_I0) (ev_op op_add (ev_fld (ev_var 0 rfl) (hmz _) cC (nC _ (by simp)) rfl) ev_int rs_I0) (by omega)) ⟨fun k ρ M1 => ∃ (x3 x4 : Option D) (acc : List (Nat × Int)), ρ = [some (dP y), some (dI ((i : Nat) : Int)), some (dP z), x3, x4] ∧ M1 = M.set z (.lst (acc.map rT)) ∧ acc.length ≤ k ∧ acc ++ L.from i (i + 1 + k) (L.n - i - k) = L.row i, ?_, fun k d ρ' M1 hd iv => ?_, fun ρ' M1 iv => ?_⟩
      · exact ⟨none, none, [], rfl, rfl, Nat.le_refl _, rfl⟩
      · obtain ⟨x3, x4, acc, rfl, rfl, la, hrow⟩ := iv
        obtain ⟨hk, rfl⟩ := rgD_get hd
        have hk : k < L.n - i := by omega
        obtain ⟨r, er⟩ : ∃ r, L.n - i - k = r + 1 := ⟨L.n - i - k - 1, by omega⟩
        have ej : ((i : Nat) : Int) + 1 + ((k : Nat) : Int) = ((i + 1 + k : Nat) : Int) := by omega
        rw [ej]
        rw [er] at hrow
        unfold Ln.from at hrow
        refine ⟨_, tg_name, ?_⟩
        refine bv_cons (sw_set 4 sc_LineRows_lines_from.nd ?_)
        refine ew_meth mB cC (hr.mono (by decide)) (ev_var 0 rfl) (hmz _) rfl (aw_av (av_cons (ev_var 1 rfl) (av_cons (ev_var 3 rfl) av_nil)) ⟨y, L, i, i + 1 + k, rfl, hmz _, ok, by omega, by omega, ?_⟩)
        have nx : L.n - i - (k + 1) = r := by omega
        cases hb : L.bad i (i + 1 + k) with
        | some b =>
          have hf : L.full i (i + 1 + k) = false := by
            cases q : L.full i (i + 1 + k) with
            | false => rfl
            | true =>
              rw [L.full_bad ok (by omega) q] at hb
              cases hb
          rw [hf, if_neg Bool.false_ne_true, hb] at hrow
          refine bv_one (sv_if (tv_notNn (ev_var 4 rfl)) (fun _ => ?_) (fun h => nomatch h))
          refine bv_one (sv_append (ev_var 2 rfl) (ev_tup (av_cons (ev_var 3 rfl) (av_cons (ev_var 4 rfl) av_nil))) ⟨_, Mem.set_same⟩ Mem.set_same (by rw [List.length_map]; exact Nat.lt_of_le_of_lt (show acc.length ≤ 400 by omega) (by decide)) ?_)
          refine ⟨_, _, acc ++ [(i + 1 + k, b)], rfl, ?_, by rw [List.length_append]; show acc.length + 1 ≤ k + 1; omega, ?_⟩
          · rw [Mem.set_set, List.map_append]
            rfl
          · rw [nx, List.append_assoc]
            exact hrow
        | none =>
          rw [hb] at hrow
          refine bv_one (sv_if (tv_notNn (ev_var 4 rfl)) (fun h => nomatch h) (fun _ => ?_))
          refine bv_one (sw_if (tw_val ?_))
          refine ew_meth mF cC (hr.mono (by decide)) (ev_var 0 rfl) (hmz _) rfl (aw_av (av_cons (ev_var 1 rfl) (av_cons (ev_var 3 rfl) av_nil)) ⟨y, L, i, i + 1 + k, rfl, hmz _, ok, by omega, by omega, ⟨_, rfl, fun h => ?_, fun h => bv_nil ?_⟩⟩)
          · rw [h, if_pos rfl, List.append_nil] at hrow
            subst hrow
            exact bv_one (sv_break ⟨_, _, rfl, rfl⟩)
          · rw [h, if_neg Bool.false_ne_true] at hrow
            refine ⟨_, _, acc, rfl, rfl, by omega, ?_⟩
            rw [nx]
            exact hrow
      · obtain ⟨x3, x4, acc, rfl, rfl, la, hrow⟩ := iv
        rw [rgD_len] at hrow
        rw [show L.n - i - (((L.n : Nat) : Int) + 1 - (((i : Nat) : Int) + 1)).toNat = 0 by omega] at hrow
        unfold Ln.from at hrow
        rw [List.append_nil] at hrow
        subst hrow
        exact ⟨_, _, rfl, rfl⟩
    rintro ρ M1 ⟨x3, x4, rfl, rfl⟩
    refine bv_still 2 rfl Mem.set_same ?_
    rw [mem_set_del hz]
    exact bv_one (sv_ret (ev_var 2 rfl) ⟨_, hΦ, Mle.refl _⟩)
theorem m_all {C : Addr} (F : Fun K "all_lines" "LineRows.all_lines" s_LineRows_all_lines f fd) (T : Bt mg) (cC : Cls K C) (nC : ∀ z ∈ (["room", "size", "widths", "stretches", "shrinks"] : List Str), NoAttr K C z) (mL : MetC P w K mg base 2 C "lines_from" (spW K (R_lfrom C))) : FnOk P w K mg base CX0 3 f fd ["self"] (spW K (R_lall C)) := by
  refine fnW_of F sc_LineRows_all_lines (fun ds M Φ h => ?_) fun cdv A outer s H E ds M Φ hr h => ?_
  · obtain ⟨y, L, rfl, _⟩ := h
    rfl
  · obtain ⟨y, L, rfl, hm, ok, hΦ⟩ := h
    show BV _ _ [some (dP y), none] _ _
    have n1 := ok.n1
    refine bv_one (sw_ret ?_)
    refine ew_lc (own := [("first", 1)]) (g := gName 1) rfl sc_LineRows_all_lines.nd (blkOk_by (N := ["self", "first"]) (sc := defScope s_LineRows_all_lines) (by decide +kernel)) (fun _ _ _ _ _ => (pg_name (i := 1) sc_LineRows_all_lines.nd rfl (.inl rfl))) ?_
    refine iw_iv (iv_range1 T.range (ev_fld (ev_var 0 rfl) hm cC (nC _ (by simp)) rfl) (by omega)) ⟨by rw [rgD_len]; exact Nat.le_trans (show _ ≤ 400 by omega) (by decide), fun i acc M1 => M1 = M ∧ acc = (L.rows.take i).map rowT, ⟨rfl, rfl⟩, fun i d acc M1 hd hacc iv => ?_, fun acc M1 hacc iv => ?_⟩
    · obtain ⟨rfl, rfl⟩ := iv
      obtain ⟨hi, rfl⟩ := rgD_get hd
      have hi : i < L.n := by omega
      refine ⟨_, tgb_name, fun z hz s H C' cl fp => ?_⟩
      refine ew_meth mL cC (hr.mono (by decide)) (ev_var 0 rfl) (Mem.set_at hm hz) rfl (aw_av (av_cons (ev_var 1 rfl) av_nil) ⟨y, L, i, by rw [Int.zero_add], Mem.set_at hm hz, ok, hi, ⟨_, rfl, hz, rfl, ?_⟩⟩)
      have e : L.rows[i]? = some (L.row i) := by
        unfold Ln.rows
        rw [List.getElem?_map, List.getElem?_range hi]
        rfl
      rw [List.take_succ, e, Option.toList_some, List.map_append]
      rfl
    · obtain ⟨rfl, rfl⟩ := iv
      rw [rgD_len, List.take_of_length_le (by unfold Ln.rows; rw [List.length_map, List.length_range]; omega)]
      exact ⟨_, hΦ, Mle.refl _⟩
end
theorem mle_at {M : Mem} {l : Addr} {o : MO} (h : M l = none) : Mle M (M.set l o) := fun b u e => by
  rw [Mem.set_ne (fun q => by rw [q, h] at e; cases e)]
  exact e
section
variable {X : Cx} {ρ : Sl} {M M1 : Mem} {o e : Expr} {pos apos : Pos} {Φ : D → Mem → Prop} {m : Str} {C : Addr} {k : Nat} {pl : Sem Bool}
/-- o.m(), o drawn -/
theorem ew_meth0W {R : List D → Mem → (D → Mem → Prop) → Prop} (B : MetC X.prog X.w X.K X.mg X.base k C m (spW X.K R)) (c : Cls X.K C) (hr : Room k X.A) (ho : EW X o ρ M (fun d1 M1 => ∃ p fs, d1 = dP p ∧ M1 p = some (.ins C fs) ∧ fs.lookup m = none ∧ R [dP p] M1 Φ))
    (ht : eval (.Call (.Attribute o m apos) [] [] pos) X.env = (do
      let ov ← eval o X.env
      standAt apos.atName
      let (f, first) ← holding [ov] (getMethod ov m pl)
      callWith pos f first (backTo pos (starEach [] X.env)) (backToKw pos (keywordEach [] X.env))) := by rfl) :
    EW X (.Call (.Attribute o m apos) [] [] pos) ρ M Φ := by
  obtain ⟨f, fd, ps, mt, bi, F⟩ := B.ex
  refine (pe_meth0 ho c mt F hr bi .nil pass0 (ht := ht)).mono fun σ H Q ⟨G, sa, kk⟩ => ⟨G, sa, fun v1 G1 H1 d1 M1 ⟨p, fs, ed, hm, hl, hR⟩ g1 sh1 r1 => ?_⟩
  subst ed
  obtain ⟨_, dx, fv, hv, rf⟩ := sh1.mem p _ hm
  refine ⟨p, dx, fv, r1.of_val, hv, rf.no hl, ?_⟩
  show spW X.K R (v1 :: ([] ++ [])) H1 Q E0
  exact ⟨G1, [dP p], M1, Φ, sh1, .cons r1 .nil, hR, fun v G' H' d M' q g sh r => kk v G' H' d M' q (g1.trans g) sh r⟩
end
structure RmOk (rd : Int × Int) : Prop extends MeaOk rd where
  pos : 0 < rd.1
def R_lrows (C : Addr) (ds : List D) (M : Mem) (Φ : D → Mem → Prop) : Prop := ∃ (c b e : Bool) (ps : List Pc) (rd : Int × Int), ds = [sq c (ps.map (pcq b)), frq e rd] ∧ PcsOk ps ∧ RmOk rd ∧ ∀ y, M y = none → Φ (dP y) (M.set y (.ins C (fsOf (lnOf rd ps))))
def tripD (L : Ln) (i : Nat) : D := .tup [dI (L.wd.take i).sum, dI (L.st.take i).sum, dI (L.sh.take i).sum]
def scD (L : Ln) : D := .tup [.lst ((List.range (L.n + 1)).map (tripD L)), dI L.room]
def PrDiv (ds : List D) (M : Mem) (d : D) (M' : Mem) : Prop := ∃ a : Int, ∃ W : Nat, ds = [dI a, dI ((W : Nat) : Int)] ∧ 1 ≤ a ∧ a ≤ 1000 ∧ PtsOk W ∧ d = dI (gz a W) ∧ M' = M
def PrScaled (ds : List D) (M : Mem) (d : D) (M' : Mem) : Prop := ∃ (ps : List Pc) (rd : Int × Int), ds = [.tup (ps.map (pcq false)), frD rd] ∧ PcsOk ps ∧ RmOk rd ∧ d = scD (lnOf rd ps) ∧ M' = M
def PrLBad (ds : List D) (M : Mem) (d : D) (M' : Mem) : Prop := ∃ (L : Ln) (f s : Nat), ds = [scD L, dI ((f : Nat) : Int), dI ((s : Nat) : Int)] ∧ LnOk L ∧ f < s ∧ s ≤ L.n ∧ d = optB (L.bad f s) ∧ M' = M
def PrFit (ds : List D) (M : Mem) (d : D) (M' : Mem) : Prop := ∃ L : Ln, ds = [scD L] ∧ LnOk L ∧ d = .lst (L.rows.map rowT) ∧ M' = M
theorem trip_at {L : Ln} {i : Nat} (h : i ≤ L.n) : atI ((List.range (L.n + 1)).map (tripD L)) ((i : Nat) : Int) = some (tripD L i) := atI_nat (k := i) (by rw [List.getElem?_map, List.getElem?_range (by omega)]; rfl) rfl
theorem lcm_step {W : Nat} {a : Int} (h0 : 1 ≤ a) : (W : Int) * (a / gz a W) = ((Nat.lcm W a.natAbs : Nat) : Int) := by
  have ea : ((a.natAbs : Nat) : Int) = a := by omega
  unfold gz
  rw [Int.natAbs_natCast, Nat.lcm, Nat.gcd_comm W, Nat.mul_div_assoc _ (Nat.gcd_dvd_left _ _), Int.natCast_mul, Int.natCast_ediv, ea]
section
variable {P : Program} {w : World} {K : PySem.W.Frag} {mg : Str → Option Value} {base : Heap} {f : Addr} {fd : FuncData}
theorem c_p_line_rows {C : Addr} (F : Fun K "line_rows" "line_rows" s_p_line_rows f fd) (hm : mg "line_rows" = some (.ref f)) (mL : MkD P w K mg base 2 "LineRows" C (spW K (R_linit C))) (c_p_check_pieces : Cal P w K mg base 6 "check_pieces" (spD K PrChkP)) (c_p_is_measure : Cal P w K mg base 4 "is_measure" (spD K PrMea)) : Cal P w K mg base 7 "line_rows" (spW K (R_lrows C)) := by
  refine calW_of F sc_p_line_rows hm (fun _ _ _ _ _ _ us hl => match us, hl with | [_, _], _ => rfl) (fun ds M Φ h => ?_) fun cdv A outer s H E ds M Φ hr h => ?_
  · obtain ⟨c, b, e, ps, rd, rfl, _⟩ := h
    rfl
  · obtain ⟨c, b, e, ps, rd, rfl, ok, okr, hΦ⟩ := h
    show BV _ _ [some (sq c (ps.map (pcq b))), some (frq e rd)] _ _
    refine bv_cons (sv_expr (ev_call c_p_check_pieces (hr.mono (by decide)) (av_cons (ev_var 0 rfl) av_nil) ⟨c, b, ps, rfl, ok, rfl, rfl⟩) ?_)
    have p0 := okr.pos
    refine bv_cons (sv_if (p := false) (M1 := M) (PW.pt (wv_or (p := false) (tv_not (b := true) (tv_val (ev_call c_p_is_measure (hr.mono (by decide)) (av_cons (ev_var 1 rfl) av_nil) ⟨e, rd, rfl, okr.toMeaOk, rfl, rfl⟩))) (fun _ => wv_one_or (tv_to (tv_cmpR op_eq (ev_ixQ (b' := e) (ds := [dI rd.1, dI rd.2]) (ev_var 1 rfl) ev_int rfl) ev_int rs_eqI (nomark _)) (decide_eq_false (by omega)))))) (fun h => nomatch h) (fun _ => bv_nil ?_))
    refine bv_one (sw_ret (ew_make mL (hr.mono (by decide)) (aw_av (av_cons (ev_var 0 rfl) (av_cons (ev_var 1 rfl) av_nil)) (fun y hy => ⟨y, c, b, e, ps, rd, rfl, Mem.set_same, ok, okr.toMeaOk, rfl, ?_⟩))))
    rw [Mem.set_set]
    exact ⟨_, hΦ y hy, Mle.refl _⟩
theorem c_divisor (F : Fun K "_law_divisor" "_law_divisor" s_divisor f fd) (hm : mg "_law_divisor" = some (.ref f)) (c_lowest : Cal P w K mg base 1 "_law_lowest" (spD K PrLow)) : Cal P w K mg base 2 "_law_divisor" (spD K PrDiv) := by
  refine cal_of F sc_divisor hm (fun _ _ _ _ _ _ us hl => match us, hl with | [_, _], _ => rfl) (fun ds M d M' h => ?_) fun cdv A outer s H E ds M d M' hr h => ?_
  · obtain ⟨a, W, rfl, _⟩ := h
    rfl
  · obtain ⟨a, W, rfl, a0, a1, pt, rfl, rfl⟩ := h
    show BV _ _ [some (dI a), some (dI ((W : Nat) : Int))] _ _
    have W0 : (0 : Int) < (W : Int) := by have := pt.p; omega
    have wb : Bd 1650 (W : Int) := by
      refine Bd.mono (k := 1600) ?_ (by decide)
      unfold Bd
      rw [Int.natAbs_natCast]
      exact pt.bd
    have ab : Bd 300 a := (Bd.of (m := 1000) (k := 10) (by omega) (by decide)).mono (by decide)
    have q0 : 0 < (low a W).1 := low_num (by omega) W0
    have qb : Bd 300 (low a W).1 := low_bd1 ab
    have g0 := gz_pos (n := a) (show (W : Int) ≠ 0 by omega)
    have e : a / (low a W).1 = gz a W := by
      obtain ⟨q, hq⟩ := gz_dl a W
      have e1 : (low a W).1 = q := by
        show a / gz a W = q
        rw [Int.ediv_eq_iff_eq_mul_right (by omega) ⟨q, hq⟩]
        exact hq
      rw [e1] at q0 ⊢
      rw [Int.ediv_eq_iff_eq_mul_left (by omega) ⟨gz a W, by rw [Int.mul_comm]; exact hq⟩]
      exact hq
    exact bv_one (sv_ret (ev_if (p := true) (tv_to (tv_cmpR op_gt (ev_var 0 rfl) ev_int rs_I0 (nomark _)) (decide_eq_true (by omega))) (fun _ => ev_to (ev_op op_fdivW (ev_var 0 rfl) (ev_ixT (ds := [dI (low a W).1, dI (low a W).2]) (ev_call c_lowest (hr.mono (by decide)) (av_cons (ev_var 0 rfl) (av_cons (ev_var 1 rfl) av_nil)) (low_at W0 ab wb)) ev_int rfl) (rs_I (qb.cd q0))) (show dI (a / (low a W).1) = dI (gz a W) by rw [e])) (fun h => nomatch h)) ⟨rfl, Mle.refl _⟩)
theorem c_bad (F : Fun K "_law_bad" "_law_bad" s_bad f fd) (hm : mg "_law_bad" = some (.ref f)) (T : Bt mg) : Cal P w K mg base 1 "_law_bad" (spD K PrLBad) := by
  refine cal_of F sc_bad hm (fun _ _ _ _ _ _ us hl => match us, hl with | [_, _, _], _ => rfl) (fun ds M d M' h => ?_) fun cdv A outer s H E ds M d M' hr h => ?_
  · obtain ⟨L, f, s, rfl, _⟩ := h
    rfl
  · obtain ⟨L, i, j, rfl, ok, hij, hj, rfl, rfl⟩ := h
    show BV _ _ [some (scD L), some (dI ((i : Nat) : Int)), some (dI ((j : Nat) : Int)), none, none, none, none] _ _
    obtain ⟨bw, bs, bk⟩ := L.dbd ok hj (show i ≤ L.n by omega)
    have br : Bd 1631 L.room := ok.br.mono (by decide)
    have hi : i ≤ L.n := by omega
    have ln : (((List.range (L.n + 1)).map (tripD L)).length : Int) - 1 = ((L.n : Nat) : Int) := by rw [List.length_map, List.length_range]; omega
    have s0 : 0 ≤ L.ds i j := by
      have := sum_mono ok.ss (show i ≤ j by omega)
      unfold Ln.ds
      omega
    refine bv_cons (sw_asg (pg_sq false rfl (pgs_cons (pg_name (i := 3) sc_bad.nd rfl (.inl rfl)) (pgs_cons (pg_name (i := 4) sc_bad.nd rfl (.inl rfl)) pgs_nil))) (ew_ev (ev_var 0 rfl) ⟨_, tg_sq (b := false) (tg_cons tg_name (tg_cons tg_name tg_nil)), ?_⟩))
    have ix : ∀ {X : Cx} {ρ : Sl} {M : Mem} {a e1 e2 : Expr} {p1 p2 : Pos} {k n : Nat} {x : Int}, EV X a ρ M (.lst ((List.range (L.n + 1)).map (tripD L))) M → EV X e1 ρ M (dI ((k : Nat) : Int)) M → EV X e2 ρ M (dI ((n : Nat) : Int)) M → PlainIx e1 → PlainIx e2 → k ≤ L.n → [dI (L.wd.take k).sum, dI (L.st.take k).sum, dI (L.sh.take k).sum][n]? = some (dI x) → EV X (.Subscript (.Subscript a e1 p1) e2 p2) ρ M (dI x) M := fun {X ρ M a e1 e2 p1 p2 k n x} h1 h2 h3 h4 h5 hk h6 => ev_ixT (ds := [dI (L.wd.take k).sum, dI (L.st.take k).sum, dI (L.sh.take k).sum]) (ev_ixL h1 h2 (trip_at hk) h4) h3 (atI_nat h6 rfl) h5
    refine bv_cons (sv_set 5 sc_bad.nd (ev_op op_sub (ix (n := 0) (ev_var 3 rfl) (ev_var 2 rfl) ev_int (by intro _ _; rfl) (by intro _ _; rfl) hj rfl) (ix (n := 0) (ev_var 3 rfl) (ev_var 1 rfl) ev_int (by intro _ _; rfl) (by intro _ _; rfl) hi rfl) rs_I0) ?_)
    show BV _ _ [some (scD L), some (dI ((i : Nat) : Int)), some (dI ((j : Nat) : Int)), some (.lst ((List.range (L.n + 1)).map (tripD L))), some (dI L.room), some (dI (L.dw i j)), none] _ _
    refine bv_cons (sv_if (PW.pt (wv_or (tv_cmpR op_eq (ev_var 5 rfl) (ev_var 4 rfl) rs_eqI (nomark _)) (fun _ => wv_one_or (PW.pt (wv_and (tv_cmpR op_lt (ev_var 5 rfl) (ev_var 4 rfl) rs_I0 (nomark _)) (fun _ => wv_one_and (tv_cmpR op_eq (ev_var 2 rfl) (ev_to (ev_op op_sub (ev_lenL T.len (ev_var 3 rfl)) ev_int rs_I0) (show _ = dI ((L.n : Nat) : Int) by rw [ln])) rs_eqI (nomark _)))))))) (fun h => ?_) (fun h => bv_nil ?_))
    · have c : L.dw i j - L.room = 0 ∨ (L.dw i j - L.room < 0 ∧ j = L.n) := by
        rcases Bool.or_eq_true_iff.mp h with h | h
        · exact .inl (by have := of_decide_eq_true h; omega)
        · obtain ⟨h1, h2⟩ := Bool.and_eq_true_iff.mp h
          exact .inr ⟨by have := of_decide_eq_true h1; omega, by have := of_decide_eq_true h2; omega⟩
      refine bv_one (sv_ret ev_int ⟨?_, Mle.refl _⟩)
      unfold Ln.bad
      rw [if_pos c]
      rfl
    · have c : ¬ (L.dw i j - L.room = 0 ∨ (L.dw i j - L.room < 0 ∧ j = L.n)) := fun q => by
        rcases q with q | ⟨q1, q2⟩
        · rw [decide_eq_true (show L.dw i j = L.room by omega)] at h
          cases h
        · rw [decide_eq_true (show L.dw i j < L.room by omega), decide_eq_true (show ((j : Nat) : Int) = ((L.n : Nat) : Int) by omega), Bool.and_self, Bool.or_true] at h
          cases h
      unfold Ln.bad
      rw [if_neg c]
      have b10 : Bd 11 1000 := Bd.of (m := 1000) (by omega) (by decide)
      have mb : Bd 1632 (L.dw i j - L.room) := bw.sub br
      refine bv_cons (sv_set 6 sc_bad.nd (ev_op op_sub (ix (n := 1) (ev_var 3 rfl) (ev_var 2 rfl) ev_int (by intro _ _; rfl) (by intro _ _; rfl) hj rfl) (ix (n := 1) (ev_var 3 rfl) (ev_var 1 rfl) ev_int (by intro _ _; rfl) (by intro _ _; rfl) hi rfl) rs_I0) ?_)
      show BV _ _ [some (scD L), some (dI ((i : Nat) : Int)), some (dI ((j : Nat) : Int)), some (.lst ((List.range (L.n + 1)).map (tripD L))), some (dI L.room), some (dI (L.dw i j)), some (dI (L.ds i j))] _ _
      refine bv_cons (sv_join (fun ρ M1 => ∃ pv, ρ = [some (scD L), some (dI ((i : Nat) : Int)), some (dI ((j : Nat) : Int)), some (.lst ((List.range (L.n + 1)).map (tripD L))), some (dI L.room), some (dI (L.dw i j)), some (dI pv)] ∧ M1 = M' ∧ pv = (if L.dw i j - L.room > 0 then L.dk i j else L.ds i j) ∧ ¬ L.dw i j - L.room > pv) ?_ ?_)
      · refine sv_if (tv_cmpR op_gt (ev_var 5 rfl) (ev_var 4 rfl) rs_I0 (nomark _)) (fun h => ?_) (fun h => bv_nil ?_)
        · have hp : L.dw i j - L.room > 0 := by have h : L.room < L.dw i j := of_decide_eq_true h; omega
          refine bv_cons (sv_set 6 sc_bad.nd (ev_op op_sub (ix (n := 2) (ev_var 3 rfl) (ev_var 2 rfl) ev_int (by intro _ _; rfl) (by intro _ _; rfl) hj rfl) (ix (n := 2) (ev_var 3 rfl) (ev_var 1 rfl) ev_int (by intro _ _; rfl) (by intro _ _; rfl) hi rfl) rs_I0) ?_)
          show BV _ _ [some (scD L), some (dI ((i : Nat) : Int)), some (dI ((j : Nat) : Int)), some (.lst ((List.range (L.n + 1)).map (tripD L))), some (dI L.room), some (dI (L.dw i j)), some (dI (L.dk i j))] _ _
          refine bv_one (sv_if (tv_cmpR op_gt (ev_op op_sub (ev_var 5 rfl) (ev_var 6 rfl) rs_I0) (ev_var 4 rfl) rs_I0 (nomark _)) (fun h => ?_) (fun h => bv_nil ?_))
          · have hk : L.room < L.dw i j - L.dk i j := of_decide_eq_true h
            refine bv_one (sv_ret ev_non ⟨?_, Mle.refl _⟩)
            rw [if_pos hp, if_pos (.inr (by omega))]
            rfl
          · have hk : ¬ L.room < L.dw i j - L.dk i j := of_decide_eq_false h
            exact ⟨_, rfl, rfl, by rw [if_pos hp], by omega⟩
        · have hp : ¬ L.dw i j - L.room > 0 := by have h : ¬ L.room < L.dw i j := of_decide_eq_false h; omega
          exact ⟨_, rfl, rfl, by rw [if_neg hp], by omega⟩
      rintro ρ M1 ⟨pv, rfl, rfl, epv, hno⟩
      have pb : Bd 1631 pv := by
        rw [epv]
        split
        · exact bk
        · exact bs
      rw [← epv]
      refine bv_cons (sv_if (tv_cmpR op_eq (ev_var 6 rfl) ev_int rs_eqI (nomark _)) (fun h => ?_) (fun h => bv_nil ?_))
      · have h0 : pv = 0 := of_decide_eq_true h
        refine bv_one (sv_ret ev_non ⟨?_, Mle.refl _⟩)
        rw [if_pos (.inl h0)]
        rfl
      · have h0 : pv ≠ 0 := of_decide_eq_false h
        rw [if_neg (fun q => q.elim h0 hno)]
        exact bv_one (sv_ret (ev_op op_fdivW (ev_op op_mulW (ev_op op_mulW ev_int (ev_op op_sub (ev_var 5 rfl) (ev_var 4 rfl) rs_I0) (rs_I (b10.cm mb))) (ev_op op_sub (ev_var 5 rfl) (ev_var 4 rfl) rs_I0) (rs_I ((b10.mul mb).cm mb))) (ev_op op_mulW (ev_var 6 rfl) (ev_var 6 rfl) (rs_I (pb.cm pb))) (rs_I ((pb.mul pb).cd (sq_pos h0)))) ⟨rfl, Mle.refl _⟩)
end
section
variable {P : Program} {w : World} {K : PySem.W.Frag} {mg : Str → Option Value} {base : Heap} {f : Addr} {fd : FuncData}
theorem c_scaled (F : Fun K "_law_scaled" "_law_scaled" s_scaled f fd) (hm : mg "_law_scaled" = some (.ref f)) (c_divisor : Cal P w K mg base 2 "_law_divisor" (spD K PrDiv)) : Cal P w K mg base 3 "_law_scaled" (spD K PrScaled) := by
  refine cal_of F sc_scaled hm (fun _ _ _ _ _ _ us hl => match us, hl with | [_, _], _ => rfl) (fun ds M d M' h => ?_) fun cdv A outer s H E ds M d M' hr h => ?_
  · obtain ⟨ps, rd, rfl, _⟩ := h
    rfl
  · obtain ⟨ps, rd, rfl, ok, okr, rfl, rfl⟩ := h
    show BV _ _ [some (.tup (ps.map (pcq false))), some (.tup [dI rd.1, dI rd.2]), none, none, none, none, none] _ _
    obtain ⟨pt, rdv, pdv⟩ := pts_of ok okr.toMeaOk
    have rd0 := okr.d0
    have l1 := ok.l1
    have ex : ((rd.2.natAbs : Nat) : Int) = rd.2 := by omega
    refine bv_cons (sv_set 2 sc_scaled.nd (ev_to (ev_ixT (ds := [dI rd.1, dI rd.2]) (ev_var 1 rfl) ev_int rfl) (show dI rd.2 = dI ((rd.2.natAbs : Nat) : Int) by rw [ex])) ?_)
    refine bv_cons (sw_for rfl (pg_name (i := 3) sc_scaled.nd rfl (.inl rfl)) ?_)
    refine iw_iv (iv_tup (ev_var 0 rfl)) ⟨fun i ρ M1 => ∃ (W : Nat) (x3 x4 : Option D), ρ = [some (.tup (ps.map (pcq false))), some (.tup [dI rd.1, dI rd.2]), some (dI ((W : Nat) : Int)), x3, x4, none, none] ∧ M1 = M' ∧ W = (ps.take i).foldl lcmP rd.2.natAbs, ⟨_, none, none, rfl, rfl, rfl⟩, fun i d ρ' M1 hd iv => ?_, fun ρ' M1 iv => ?_⟩
    · obtain ⟨W, x3, x4, rfl, rfl, eW⟩ := iv
      rw [List.getElem?_map, Option.map_eq_some_iff] at hd
      obtain ⟨p, hp, rfl⟩ := hd
      have pok := ok.pc p (List.mem_of_getElem? hp)
      have hW : PtsOk W := by
        rw [eW]
        exact (parts_ok (ps := ps.take i) ⟨by omega, all_dvd okr.d0 okr.d1⟩ fun q hq => ok.pc q (List.mem_of_mem_take hq)).1
      have e1 : (ps.take (i + 1)).foldl lcmP rd.2.natAbs = lcmP W p := by
        rw [List.take_succ, hp, Option.toList_some, List.foldl_append, ← eW]
        rfl
      refine ⟨_, tg_name, ?_⟩
      refine bv_one (sw_for rfl (pg_name (i := 4) sc_scaled.nd rfl (.inl rfl)) ?_)
      refine iw_iv (iv_tup (ds := [frD p.1, frD p.2.1, frD p.2.2]) (ev_var 3 rfl)) ⟨fun k ρ M => ∃ (V : Nat) (x4 : Option D), ρ = [some (.tup (ps.map (pcq false))), some (.tup [dI rd.1, dI rd.2]), some (dI ((V : Nat) : Int)), some (pcq false p), x4, none, none] ∧ M = M1 ∧ PtsOk V ∧ V = ([p.1, p.2.1, p.2.2].take k).foldl (fun a x => Nat.lcm a x.2.natAbs) W, ⟨W, _, rfl, rfl, hW, rfl⟩, fun k d ρ' M hd2 iv => ?_, fun ρ' M iv => ?_⟩
      · obtain ⟨V, x4, rfl, rfl, hV, eV⟩ := iv
        obtain ⟨x, rfl, hx, hg⟩ : ∃ x, d = frD x ∧ MeaOk x ∧ [p.1, p.2.1, p.2.2][k]? = some x := by
          match k, hd2 with
          | 0, h => exact ⟨p.1, by cases h; rfl, pok.w, rfl⟩
          | 1, h => exact ⟨p.2.1, by cases h; rfl, pok.s, rfl⟩
          | 2, h => exact ⟨p.2.2, by cases h; rfl, pok.k, rfl⟩
          | k + 3, h => cases h
        have x0 := hx.d0
        have x1 := hx.d1
        have vb : Bd 1600 ((V : Nat) : Int) := by
          unfold Bd
          rw [Int.natAbs_natCast]
          exact hV.bd
        have xb : Bd 10 x.2 := Bd.of (m := 1000) (by omega) (by decide)
        have V0 : (0 : Int) < (V : Int) := by have := hV.p; omega
        have g0 := gz_pos (n := x.2) (show (V : Int) ≠ 0 by omega)
        have gb : Bd 10 (gz x.2 V) := xb.le (by
          have := Nat.gcd_le_left (V : Int).natAbs (show 0 < x.2.natAbs by omega)
          unfold gz
          omega)
        refine ⟨_, tg_name, ?_⟩
        refine bv_one (sv_set 2 sc_scaled.nd (ev_to (ev_op op_mulW (ev_var 2 rfl) (ev_op op_fdivW (ev_ixT (ds := [dI x.1, dI x.2]) (ev_var 4 rfl) ev_int rfl) (ev_call c_divisor (hr.mono (by decide)) (av_cons (ev_ixT (ds := [dI x.1, dI x.2]) (ev_var 4 rfl) ev_int rfl) (av_cons (ev_var 2 rfl) av_nil)) ⟨x.2, V, rfl, x0, x1, hV, rfl, rfl⟩) (rs_I (gb.cd g0))) (rs_I (vb.cm xb.dv))) (show dI ((V : Int) * (x.2 / gz x.2 V)) = dI ((Nat.lcm V x.2.natAbs : Nat) : Int) by rw [lcm_step x0])) ?_)
        refine ⟨_, _, rfl, rfl, hV.lcm x0 x1, ?_⟩
        rw [List.take_succ, hg, Option.toList_some, List.foldl_append, ← eV]
        rfl
      · obtain ⟨V, x4, rfl, rfl, hV, eV⟩ := iv
        refine ⟨_, _, _, rfl, rfl, ?_⟩
        rw [e1, eV]
        rfl
    · obtain ⟨W, x3, x4, rfl, rfl, eW⟩ := iv
      rw [List.length_map, List.take_length] at eW
      have eW : W = partsN rd.2 ps := eW
      subst eW
      have wb : Bd 1600 ((partsN rd.2 ps : Nat) : Int) := by
        unfold Bd
        rw [Int.natAbs_natCast]
        exact pt.bd
      have mb : ∀ {x : Int × Int}, MeaOk x → Bd 20 x.1 := fun h => Bd.of (m := 1000000) (by have := h.n0; have := h.n1; omega) (by decide)
      have db : ∀ {x : Int × Int}, MeaOk x → Bd 20 x.2 := fun h => Bd.of (m := 1000) (by have := h.d0; have := h.d1; omega) (by decide)
      have d0 : ∀ {x : Int × Int}, MeaOk x → 0 < x.2 := fun h => by have := h.d0; omega
      have lk := lnOf_ok ok okr.toMeaOk
      refine bv_cons (sv_setNew 5 sc_scaled.nd (av_cons (ev_tup (av_cons ev_int (av_cons ev_int (av_cons ev_int av_nil)))) av_nil) (fun z hz => ?_))
      refine bv_cons (sw_for rfl (pg_name (i := 3) sc_scaled.nd rfl (.inl rfl)) ?_)
      refine iw_iv (iv_tup (ev_var 0 rfl)) ⟨fun i ρ M => ∃ (x3 x6 : Option D), ρ = [some (.tup (ps.map (pcq false))), some (.tup [dI rd.1, dI rd.2]), some (dI ((partsN rd.2 ps : Nat) : Int)), x3, x4, some (dP z), x6] ∧ M = M1.set z (.lst ((List.range (i + 1)).map (tripD (lnOf rd ps)))), ⟨_, none, rfl, rfl⟩, fun i d ρ' M hd iv => ?_, fun ρ' M iv => ?_⟩
      · obtain ⟨x3, x6, rfl, rfl⟩ := iv
        rw [List.getElem?_map, Option.map_eq_some_iff] at hd
        obtain ⟨p, hp, rfl⟩ := hd
        have pok := ok.pc p (List.mem_of_getElem? hp)
        obtain ⟨v1, v2, v3⟩ := pdv p (List.mem_of_getElem? hp)
        have hi := (List.getElem?_eq_some_iff.mp hp).1
        refine ⟨_, tg_name, ?_⟩
        have xall : ∀ x ∈ [p.1, p.2.1, p.2.2], MeaOk x ∧ x.2.natAbs ∣ partsN rd.2 ps := three_mem ⟨pok.w, v1⟩ ⟨pok.s, v2⟩ ⟨pok.k, v3⟩
        refine bv_cons (sw_setLc 6 (own := [("part", 4)]) (g := gName 4) rfl sc_scaled.nd (blkOk_by (N := ["pieces", "room", "common", "piece", "part", "sums", "new"]) (sc := defScope s_scaled) (by decide +kernel)) (fun _ _ _ _ _ => (pg_name (i := 4) sc_scaled.nd rfl (.inl rfl))) ?_)
        refine iw_iv (iv_tup (ds := [p.1, p.2.1, p.2.2].map frD) (ev_var 3 rfl)) ⟨by show 3 ≤ sizeLine; decide, fun k acc M => M = M1.set z (.lst ((List.range (i + 1)).map (tripD (lnOf rd ps)))) ∧ acc = ([p.1, p.2.1, p.2.2].take k).map (fun x => dI (inP (partsN rd.2 ps) x)), ⟨rfl, rfl⟩, fun k d acc M hd2 hacc iv => ?_, fun acc M hacc iv => ?_⟩
        · obtain ⟨rfl, rfl⟩ := iv
          rw [List.getElem?_map, Option.map_eq_some_iff] at hd2
          obtain ⟨x, hxg, rfl⟩ := hd2
          obtain ⟨hx, hv⟩ := xall x (List.mem_of_getElem? hxg)
          refine ⟨_, tgb_name, fun y hy s H C cl fp => ?_⟩
          refine ew_ev (ev_to (ev_op op_mulW (ev_ixT (ds := [dI x.1, dI x.2]) (ev_var 4 rfl) ev_int rfl) (ev_op op_fdivW (ev_var 2 rfl) (ev_ixT (ds := [dI x.1, dI x.2]) (ev_var 4 rfl) ev_int rfl) (rs_I ((db hx).cd (d0 hx)))) (rs_I ((mb hx).cm wb.dv))) (show dI (x.1 * ((partsN rd.2 ps : Int) / x.2)) = dI (inP (partsN rd.2 ps) x) by rw [inP_alt hx hv])) ⟨_, rfl, hy, rfl, ?_⟩
          rw [List.take_succ, hxg, Option.toList_some, List.map_append]
          rfl
        obtain ⟨rfl, rfl⟩ := iv
        show BV _ _ [some (.tup (ps.map (pcq false))), some (.tup [dI rd.1, dI rd.2]), some (dI ((partsN rd.2 ps : Nat) : Int)), some (pcq false p), x4, some (dP z), some (.lst [dI (inP (partsN rd.2 ps) p.1), dI (inP (partsN rd.2 ps) p.2.1), dI (inP (partsN rd.2 ps) p.2.2)])] _ _
        have lt : atI ((List.range (i + 1)).map (tripD (lnOf rd ps))) (-1) = some (tripD (lnOf rd ps) i) := by
          unfold atI ixN
          rw [if_neg (by decide), List.length_map, List.length_range, if_pos (by omega)]
          show ((List.range (i + 1)).map (tripD (lnOf rd ps)))[(-1 + ((i + 1 : Nat) : Int)).toNat]? = _
          rw [show (-1 + ((i + 1 : Nat) : Int)).toNat = i by omega, List.getElem?_map, List.getElem?_range (by omega)]
          rfl
        have ixs : ∀ {X : Cx} {ρ : Sl} {a e1 e2 : Expr} {p1 p2 : Pos} {n : Nat} {x : Int}, EV X a ρ (M1.set z (.lst ((List.range (i + 1)).map (tripD (lnOf rd ps))))) (dP z) (M1.set z (.lst ((List.range (i + 1)).map (tripD (lnOf rd ps))))) → EV X e1 ρ (M1.set z (.lst ((List.range (i + 1)).map (tripD (lnOf rd ps))))) (dI (-1)) (M1.set z (.lst ((List.range (i + 1)).map (tripD (lnOf rd ps))))) → EV X e2 ρ (M1.set z (.lst ((List.range (i + 1)).map (tripD (lnOf rd ps))))) (dI ((n : Nat) : Int)) (M1.set z (.lst ((List.range (i + 1)).map (tripD (lnOf rd ps))))) → PlainIx e1 → PlainIx e2 → [dI ((lnOf rd ps).wd.take i).sum, dI ((lnOf rd ps).st.take i).sum, dI ((lnOf rd ps).sh.take i).sum][n]? = some (dI x) → EV X (.Subscript (.Subscript a e1 p1) e2 p2) ρ (M1.set z (.lst ((List.range (i + 1)).map (tripD (lnOf rd ps))))) (dI x) (M1.set z (.lst ((List.range (i + 1)).map (tripD (lnOf rd ps))))) := fun {X ρ a e1 e2 p1 p2 n x} h1 h2 h3 h4 h5 h6 => ev_ixT (ds := [dI ((lnOf rd ps).wd.take i).sum, dI ((lnOf rd ps).st.take i).sum, dI ((lnOf rd ps).sh.take i).sum]) (ev_ixM h1 h2 Mem.set_same lt h4) h3 (atI_nat h6 rfl) h5
        have sw : ((lnOf rd ps).wd.take (i + 1)).sum = ((lnOf rd ps).wd.take i).sum + inP (partsN rd.2 ps) p.1 := sum_take (by show (ps.map _)[i]? = _; rw [List.getElem?_map, hp]; rfl)
        have ss : ((lnOf rd ps).st.take (i + 1)).sum = ((lnOf rd ps).st.take i).sum + inP (partsN rd.2 ps) p.2.1 := sum_take (by show (ps.map _)[i]? = _; rw [List.getElem?_map, hp]; rfl)
        have sk : ((lnOf rd ps).sh.take (i + 1)).sum = ((lnOf rd ps).sh.take i).sum + inP (partsN rd.2 ps) p.2.2 := sum_take (by show (ps.map _)[i]? = _; rw [List.getElem?_map, hp]; rfl)
        refine bv_one (sv_append (ev_var 5 rfl) (ev_tup (av_cons (ev_op op_add (ixs (n := 0) (ev_var 5 rfl) (ev_un un_neg ev_int ru_neg) ev_int (by intro _ _; rfl) (by intro _ _; rfl) rfl) (ev_ixL (ds := [dI (inP (partsN rd.2 ps) p.1), dI (inP (partsN rd.2 ps) p.2.1), dI (inP (partsN rd.2 ps) p.2.2)]) (ev_var 6 rfl) ev_int rfl) rs_I0) (av_cons (ev_op op_add (ixs (n := 1) (ev_var 5 rfl) (ev_un un_neg ev_int ru_neg) ev_int (by intro _ _; rfl) (by intro _ _; rfl) rfl) (ev_ixL (ds := [dI (inP (partsN rd.2 ps) p.1), dI (inP (partsN rd.2 ps) p.2.1), dI (inP (partsN rd.2 ps) p.2.2)]) (ev_var 6 rfl) ev_int rfl) rs_I0) (av_cons (ev_op op_add (ixs (n := 2) (ev_var 5 rfl) (ev_un un_neg ev_int ru_neg) ev_int (by intro _ _; rfl) (by intro _ _; rfl) rfl) (ev_ixL (ds := [dI (inP (partsN rd.2 ps) p.1), dI (inP (partsN rd.2 ps) p.2.1), dI (inP (partsN rd.2 ps) p.2.2)]) (ev_var 6 rfl) ev_int rfl) rs_I0) av_nil)))) ⟨_, Mem.set_same⟩ Mem.set_same (by rw [List.length_map, List.length_range]; exact Nat.lt_of_le_of_lt (show i + 1 ≤ 400 by omega) (by decide)) ?_)
        refine ⟨_, _, rfl, ?_⟩
        rw [Mem.set_set, List.range_succ (n := i + 1), List.map_append, ← sw, ← ss, ← sk]
        rfl
      · obtain ⟨x3, x6, rfl, rfl⟩ := iv
        rw [List.length_map]
        refine bv_still 5 rfl Mem.set_same ?_
        rw [mem_set_del hz]
        refine bv_one (sv_ret (ev_tup (av_cons (ev_var 5 rfl) (av_cons (ev_to (ev_op op_mulW (ev_ixT (ds := [dI rd.1, dI rd.2]) (ev_var 1 rfl) ev_int rfl) (ev_op op_fdivW (ev_var 2 rfl) (ev_ixT (ds := [dI rd.1, dI rd.2]) (ev_var 1 rfl) ev_int rfl) (rs_I ((db okr.toMeaOk).cd (d0 okr.toMeaOk)))) (rs_I ((mb okr.toMeaOk).cm wb.dv))) (show dI (rd.1 * ((partsN rd.2 ps : Int) / rd.2)) = dI (lnOf rd ps).room by rw [inP_alt okr.toMeaOk rdv]; rfl)) av_nil))) ⟨rfl, Mle.refl _⟩)
theorem c_fitting (F : Fun K "_law_fitting" "_law_fitting" s_fitting f fd) (hm : mg "_law_fitting" = some (.ref f)) (T : Bt mg) (c_bad : Cal P w K mg base 1 "_law_bad" (spD K PrLBad)) : Cal P w K mg base 2 "_law_fitting" (spD K PrFit) := by
  refine cal_of F sc_fitting hm (fun _ _ _ _ _ _ us hl => match us, hl with | [_], _ => rfl) (fun ds M d M' h => ?_) fun cdv A outer s H E ds M d M' hr h => ?_
  · obtain ⟨L, rfl, _⟩ := h
    rfl
  · obtain ⟨L, rfl, ok, rfl, rfl⟩ := h
    show BV _ _ [some (scD L), none, none, none, none, none, none] _ _
    have n1 := ok.n1
    have ln : (((List.range (L.n + 1)).map (tripD L)).length : Int) - 1 = ((L.n : Nat) : Int) := by rw [List.length_map, List.length_range]; omega
    have sc0 : ∀ {X : Cx} {ρ : Sl} {M : Mem} {a e1 : Expr} {p1 : Pos}, EV X a ρ M (scD L) M → EV X e1 ρ M (dI 0) M → PlainIx e1 → EV X (.Subscript a e1 p1) ρ M (.lst ((List.range (L.n + 1)).map (tripD L))) M := fun h1 h2 h3 => ev_ixT (ds := [.lst ((List.range (L.n + 1)).map (tripD L)), dI L.room]) h1 h2 rfl h3
    have ix : ∀ {X : Cx} {ρ : Sl} {M : Mem} {a e1 e2 : Expr} {p1 p2 : Pos} {k n : Nat} {x : Int}, EV X a ρ M (.lst ((List.range (L.n + 1)).map (tripD L))) M → EV X e1 ρ M (dI ((k : Nat) : Int)) M → EV X e2 ρ M (dI ((n : Nat) : Int)) M → PlainIx e1 → PlainIx e2 → k ≤ L.n → [dI (L.wd.take k).sum, dI (L.st.take k).sum, dI (L.sh.take k).sum][n]? = some (dI x) → EV X (.Subscript (.Subscript a e1 p1) e2 p2) ρ M (dI x) M := fun {X ρ M a e1 e2 p1 p2 k n x} h1 h2 h3 h4 h5 hk h6 => ev_ixT (ds := [dI (L.wd.take k).sum, dI (L.st.take k).sum, dI (L.sh.take k).sum]) (ev_ixL h1 h2 (trip_at hk) h4) h3 (atI_nat h6 rfl) h5
    refine bv_cons (sv_setNew 1 sc_fitting.nd av_nil (fun z hz => ?_))
    refine bv_cons (sv_set 2 sc_fitting.nd (ev_to (ev_op op_sub (ev_lenL T.len (sc0 (ev_var 0 rfl) ev_int (by intro _ _; rfl))) ev_int rs_I0) (show _ = dI ((L.n : Nat) : Int) by rw [ln])) ?_)
    refine bv_cons (sw_for rfl (pg_name (i := 3) sc_fitting.nd rfl (.inl rfl)) ?_)
    refine iw_iv (iv_range1 T.range (ev_var 2 rfl) (by omega)) ⟨fun i ρ M => ∃ (x3 x4 x5 x6 : Option D), ρ = [some (scD L), some (dP z), some (dI ((L.n : Nat) : Int)), x3, x4, x5, x6] ∧ M = M'.set z (.lst ((L.rows.take i).map rowT)), ⟨none, none, none, none, rfl, rfl⟩, fun i d ρ' M hd iv => ?_, fun ρ' M iv => ?_⟩
    · obtain ⟨x3, x4, x5, x6, rfl, rfl⟩ := iv
      obtain ⟨hi, rfl⟩ := rgD_get hd
      have hi : i < L.n := by omega
      rw [Int.zero_add]
      refine ⟨_, tg_name, ?_⟩
      refine bv_cons (sv_setNew 4 sc_fitting.nd av_nil (fun y hy => ?_))
      have zy : z ≠ y := fun q => by rw [← q, Mem.set_same] at hy; cases hy
      refine bv_cons (sv_join (fun ρ M1 => ∃ (x5 x6 : Option D), ρ = [some (scD L), some (dP z), some (dI ((L.n : Nat) : Int)), some (dI ((i : Nat) : Int)), some (dP y), x5, x6] ∧ M1 = (M'.set z (.lst ((L.rows.take i).map rowT))).set y (.lst ((L.row i).map rT))) ?_ ?_)
      · refine sw_for rfl (pg_name (i := 5) sc_fitting.nd rfl (.inl rfl)) ?_
        refine iw_iv (iv_range2 T.range (ev_op op_add (ev_var 3 rfl) ev_int rs_I0) (ev_op op_add (ev_var 2 rfl) ev_int rs_I0) (by omega)) ⟨fun k ρ M1 => ∃ (x5 x6 : Option D) (acc : List (Nat × Int)), ρ = [some (scD L), some (dP z), some (dI ((L.n : Nat) : Int)), some (dI ((i : Nat) : Int)), some (dP y), x5, x6] ∧ M1 = (M'.set z (.lst ((L.rows.take i).map rowT))).set y (.lst (acc.map rT)) ∧ acc.length ≤ k ∧ acc ++ L.from i (i + 1 + k) (L.n - i - k) = L.row i, ?_, fun k d ρ' M1 hd iv => ?_, fun ρ' M1 iv => ?_⟩
        · exact ⟨_, _, [], rfl, rfl, Nat.le_refl _, rfl⟩
        · obtain ⟨x5, x6, acc, rfl, rfl, la, hrow⟩ := iv
          obtain ⟨hk, rfl⟩ := rgD_get hd
          have hk : k < L.n - i := by omega
          obtain ⟨r, er⟩ : ∃ r, L.n - i - k = r + 1 := ⟨L.n - i - k - 1, by omega⟩
          have ej : ((i : Nat) : Int) + 1 + ((k : Nat) : Int) = ((i + 1 + k : Nat) : Int) := by omega
          have hj : i + 1 + k ≤ L.n := by omega
          rw [ej]
          rw [er] at hrow
          unfold Ln.from at hrow
          have nx : L.n - i - (k + 1) = r := by omega
          refine ⟨_, tg_name, ?_⟩
          have ef : decide (L.room < (L.wd.take (i + 1 + k)).sum - (L.wd.take i).sum - (L.sh.take (i + 1 + k)).sum + (L.sh.take i).sum) = L.full i (i + 1 + k) := decide_eq_decide.mpr (by
            unfold Ln.dw Ln.dk
            omega)
          refine bv_cons (sv_if (tv_to (tv_cmpR op_gt (ev_op op_add (ev_op op_sub (ev_op op_sub (ix (n := 0) (sc0 (ev_var 0 rfl) ev_int (by intro _ _; rfl)) (ev_var 5 rfl) ev_int (by intro _ _; rfl) (by intro _ _; rfl) hj rfl) (ix (n := 0) (sc0 (ev_var 0 rfl) ev_int (by intro _ _; rfl)) (ev_var 3 rfl) ev_int (by intro _ _; rfl) (by intro _ _; rfl) (show i ≤ L.n by omega) rfl) rs_I0) (ix (n := 2) (sc0 (ev_var 0 rfl) ev_int (by intro _ _; rfl)) (ev_var 5 rfl) ev_int (by intro _ _; rfl) (by intro _ _; rfl) hj rfl) rs_I0) (ix (n := 2) (sc0 (ev_var 0 rfl) ev_int (by intro _ _; rfl)) (ev_var 3 rfl) ev_int (by intro _ _; rfl) (by intro _ _; rfl) (show i ≤ L.n by omega) rfl) rs_I0) (ev_ixT (ds := [.lst ((List.range (L.n + 1)).map (tripD L)), dI L.room]) (ev_var 0 rfl) ev_int rfl) rs_I0 (nomark _)) ef) (fun h => ?_) (fun h => bv_nil ?_))
          · rw [h, if_pos rfl, List.append_nil] at hrow
            subst hrow
            exact bv_one (sv_break ⟨_, _, rfl, rfl⟩)
          · rw [h, if_neg Bool.false_ne_true] at hrow
            refine bv_cons (sv_set 6 sc_fitting.nd (ev_call c_bad (hr.mono (by decide)) (av_cons (ev_var 0 rfl) (av_cons (ev_var 3 rfl) (av_cons (ev_var 5 rfl) av_nil))) ⟨L, i, i + 1 + k, rfl, ok, by omega, hj, rfl, rfl⟩) ?_)
            cases hb : L.bad i (i + 1 + k) with
            | some b =>
              rw [hb] at hrow
              refine bv_one (sv_if (tv_notNn (ev_var 6 rfl)) (fun _ => ?_) (fun h => nomatch h))
              refine bv_one (sv_append (ev_var 4 rfl) (ev_tup (av_cons (ev_var 5 rfl) (av_cons (ev_var 6 rfl) av_nil))) ⟨_, Mem.set_same⟩ Mem.set_same (by rw [List.length_map]; exact Nat.lt_of_le_of_lt (show acc.length ≤ 400 by omega) (by decide)) ?_)
              refine ⟨_, _, acc ++ [(i + 1 + k, b)], rfl, ?_, by rw [List.length_append]; show acc.length + 1 ≤ k + 1; omega, ?_⟩
              · rw [Mem.set_set, List.map_append]
                rfl
              · rw [nx, List.append_assoc]
                exact hrow
            | none =>
              rw [hb] at hrow
              refine bv_one (sv_if (tv_notNn (ev_var 6 rfl)) (fun h => nomatch h) (fun _ => bv_nil ?_))
              refine ⟨_, _, acc, rfl, rfl, by omega, ?_⟩
              rw [nx]
              exact hrow
        · obtain ⟨x5, x6, acc, rfl, rfl, la, hrow⟩ := iv
          rw [rgD_len] at hrow
          rw [show L.n - i - (((L.n : Nat) : Int) + 1 - (((i : Nat) : Int) + 1)).toNat = 0 by omega] at hrow
          unfold Ln.from at hrow
          rw [List.append_nil] at hrow
          subst hrow
          exact ⟨_, _, rfl, rfl⟩
      rintro ρ M1 ⟨x5, x6, rfl, rfl⟩
      refine bv_still 4 rfl Mem.set_same ?_
      rw [mem_set_del hy]
      refine bv_one (sv_append (ev_var 1 rfl) (ev_var 4 rfl) ⟨_, Mem.set_same⟩ Mem.set_same (by rw [List.length_map, List.length_take]; exact Nat.lt_of_le_of_lt (show min i _ ≤ 400 by omega) (by decide)) ?_)
      refine ⟨_, _, _, _, rfl, ?_⟩
      have e : L.rows[i]? = some (L.row i) := by
        unfold Ln.rows
        rw [List.getElem?_map, List.getElem?_range hi]
        rfl
      rw [Mem.set_set, List.take_succ, e, Option.toList_some, List.map_append]
      rfl
    · obtain ⟨x3, x4, x5, x6, rfl, rfl⟩ := iv
      rw [rgD_len, List.take_of_length_le (by unfold Ln.rows; rw [List.length_map, List.length_range]; omega)]
      refine bv_still 1 rfl Mem.set_same ?_
      rw [mem_set_del hz]
      exact bv_one (sv_ret (ev_var 1 rfl) ⟨rfl, Mle.refl _⟩)
end
section
variable {X : Cx} {ρ : Sl} {M M1 M2 : Mem} {a b e : Expr} {d : D} {ds es : List D} {pos : Pos} {Φ : D → Mem → Prop} {Ψ : Out → Prop}
/-- what is held no more is forgotten -/
theorem ew_drop (h : EW X e ρ M (fun d M1 => ∃ M2, Mle M2 M1 ∧ Φ d M2)) : EW X e ρ M Φ := h.mono fun σ H Q ⟨G, sa, k⟩ => ⟨G, sa, fun v G1 H1 d M1 ⟨M2, le, q⟩ g1 sh1 r1 => k v G1 H1 d M2 q g1 (sh1.weak le) r1⟩
theorem ew_catNN (h : EW X a ρ M (fun d1 M1 => ∃ p ds, d1 = dP p ∧ M1 p = some (.lst ds) ∧ EW X b ρ M1 (fun d2 M2 => ∃ q es, d2 = dP q ∧ M2 p = some (.lst ds) ∧ M2 q = some (.lst es) ∧ ds.length + es.length ≤ sizeLine ∧ ∀ l, M2 l = none → Φ (dP l) (M2.set l (.lst (ds ++ es)))))) : EW X (.BinOp a .Add b pos) ρ M Φ :=
  (pe_op op_cat h pk_e).mono fun σ H Q ⟨G, sa, k⟩ => ⟨G, sa, fun v1 G1 H1 d1 M1 ⟨p, ds, e1, m1, h2⟩ g1 sh1 r1 => ⟨M1, _, h2, G1, ⟨sh1, sa.sl.up g1⟩, fun v2 G2 H2 d2 M2 ⟨q, es, e2, m1', m2, hl, hp⟩ g2 sh2 r2 => by
    subst e1 e2
    obtain ⟨_, vs, hv, r⟩ := sh2.mem p _ m1'
    obtain ⟨_, ws, hw, s⟩ := sh2.mem q _ m2
    refine ⟨p, q, vs, ws, r1.of_val, r2.of_val, hv, hw, by rw [r.len, s.len]; exact hl, fun l hl => ?_⟩
    obtain ⟨sh3, m3, _⟩ := sh2.newM hl (r.append s)
    exact k _ _ _ _ _ (hp l m3) (g1.trans g2) sh3 (.val _)⟩⟩
theorem mle_set {M M1 : Mem} {l : Addr} {o : MO} (h : Mle M M1) : Mle (M.set l o) (M1.set l o) := fun b u e => by
  by_cases hb : b = l
  · subst hb
    rw [Mem.set_same] at e ⊢
    exact e
  · rw [Mem.set_ne hb] at e ⊢
    exact h b u e
theorem rep_flat1 {α : Type} (x : α) : ∀ n, (List.replicate n [x]).flatten = List.replicate n x
  | 0 => rfl
  | n + 1 => by
    rw [List.replicate_succ, List.flatten_cons, rep_flat1 x n]
    rfl
/-- [0] * n + [1] -/
theorem ew_zero1 {en : Expr} {p1 p2 p3 q1 q2 : Pos} {k1 k2 : Nat} {n : Nat} (hn : ∀ M, EV X en ρ M (dI ((n : Nat) : Int)) M) (h1 : n ≤ 100000) (hΦ : ∀ l, M l = none → Φ (dP l) (M.set l (.lst (List.replicate n (dI 0) ++ [dI 1])))) : EW X (.BinOp (.BinOp (.List [.Constant (.int 0) k1 q1] p1) .Mult en p2) .Add (.List [.Constant (.int 1) k2 q2] p3) pos) ρ M Φ := by
  refine ew_drop (ew_catNN (ew_mulN (ew_lstN (aw_av (av_cons ev_int av_nil) ⟨by show 1 ≤ sizeLine; decide, fun p hp => ⟨p, _, rfl, Mem.set_same, ew_ev (hn _) ⟨(n : Int), rfl, Mem.set_same, by omega, by omega, ?_, fun l hl => ⟨l, _, rfl, Mem.set_same, ew_lstN (aw_av (av_cons ev_int av_nil) ⟨by show 1 ≤ sizeLine; decide, fun q hq => ⟨q, [dI 1], rfl, ?_, Mem.set_same, ?_, fun r hr => ?_⟩⟩)⟩⟩⟩⟩))))
  · show 1 * ((n : Int)).toNat ≤ sizeLine
    exact Nat.le_trans (show _ ≤ 100000 by omega) (by decide)
  · rw [Mem.set_ne (fun h => by rw [← h, Mem.set_same] at hq; cases hq)]
    exact Mem.set_same
  · rw [List.length_flatten, List.map_replicate, List.sum_replicate_nat]
    show ((n : Int)).toNat * 1 + 1 ≤ sizeLine
    exact Nat.le_trans (show _ ≤ 100001 by omega) (by decide)
  · have rq : r ≠ q := fun h => by rw [h, Mem.set_same] at hr; cases hr
    rw [Mem.set_ne rq] at hr
    have rl : r ≠ l := fun h => by rw [h, Mem.set_same] at hr; cases hr
    rw [Mem.set_ne rl] at hr
    have rp : r ≠ p := fun h => by rw [h, Mem.set_same] at hr; cases hr
    rw [Mem.set_ne rp] at hr
    refine ⟨M.set r (.lst (List.replicate n (dI 0) ++ [dI 1])), ?_, hΦ r hr⟩
    have e : (List.replicate ((n : Int)).toNat [dI 0]).flatten = List.replicate n (dI 0) := by
      rw [Int.toNat_natCast]
      exact rep_flat1 _ n
    rw [← e]
    exact mle_set (((mle_at hp).trans (mle_at hl)).trans (mle_at hq))
/-- sum of a list of ints -/
theorem ew_sumL {p : Pos} (hc : X.calm = true) (hm : X.mg "sum" = none) (h : EW X e ρ M (fun d M1 => ∃ xs : List Int, d = .lst (xs.map dI) ∧ Φ (dI xs.sum) M1)) (hg : Gl X "sum" := by rfl) (hst : starEach [e] X.env = [(false, eval e X.env)] := by rfl) : EW X (.Call (.Name "sum" p) [e] [] pos) ρ M Φ :=
  (pe_callB (cr_sum hc) hg hm boot_sum (aw_one (ΦA := fun ds M1 => ∃ xs : List Int, ds = [.lst (xs.map dI)] ∧ Φ (dI xs.sum) M1) (ew_to h fun d M1 ⟨bs, e, q⟩ => ⟨bs, by rw [e], q⟩) hst) (he := hst)).mono fun σ H Q ⟨G, sa, k⟩ => ⟨G, sa, fun vs' G1 H1 ds M1 ⟨bs, e, p⟩ g1 sh1 r1 => by
    subst e
    cases r1 with
    | cons h t =>
      cases t
      cases h with
      | lst q r =>
        have e : bs.map dI = (bs.map V.int).map D.val := by rw [List.map_map] <;> rfl
        rw [e] at r
        rw [RepL.of_vals r] at q
        exact ⟨_, bs, rfl, sqlUp sh1.le q, k _ G1 H1 _ M1 p g1 sh1 (.val _)⟩⟩
/-- x not in xs, xs drawn -/
theorem tw_ninL {ΦT : Bool → Mem → Prop} (h : EW X a ρ M (fun d1 M1 => ∃ x : Int, d1 = dI x ∧ EW X b ρ M1 (fun d2 M2 => ∃ xs : List Int, d2 = .lst (xs.map dI) ∧ ΦT (!decide (x ∈ xs)) M2))) (hm : behindInMarks .NotIn b = false) : TW X (.Compare a [.NotIn] [b] pos) ρ M ΦT :=
  (pt_cmpR op_notIn_seq h pk_e hm).mono fun σ H Q ⟨G, sa, k⟩ => ⟨G, sa, fun v1 G1 H1 d1 M1 ⟨x, e1, h2⟩ g1 sh1 r1 => ⟨M1, _, h2, G1, ⟨sh1, sa.sl.up g1⟩, fun v2 G2 H2 d2 M2 ⟨xs, e2, q2⟩ g2 sh2 r2 => by
    subst e1 e2
    cases r2 with
    | lst q r =>
      have e : xs.map dI = (xs.map V.int).map D.val := by rw [List.map_map] <;> rfl
      rw [e] at r
      rw [RepL.of_vals r] at q
      refine ⟨_, xs.map V.int, rfl, .inl (sqlUp sh2.le q), by rw [r1.of_val]; rfl, flat_ints xs, ?_⟩
      rw [r1.of_val]
      exact ⟨_, congrArg V.bl (congrArg (!·) (any_eqI x xs)), k _ G2 H2 M2 q2 (g1.trans g2) sh2⟩⟩⟩
end
/-! how many breakings there are from each place on -/
structure RowsOk (rs : List (List (Nat × Int))) : Prop where
  n0 : 0 < rs.length
  n1 : rs.length ≤ 400
  lt : ∀ (i : Nat) (r : List (Nat × Int)), rs[i]? = some r → ∀ x ∈ r, i < x.1 ∧ x.1 ≤ rs.length
  len : ∀ (i : Nat) (r : List (Nat × Int)), rs[i]? = some r → r.length ≤ 400
  srt : ∀ (i : Nat) (r : List (Nat × Int)), rs[i]? = some r → r.Pairwise fun x y => x.1 < y.1
theorem from_ge (L : Ln) (f : Nat) : ∀ k s, ∀ x ∈ L.from f s k, s ≤ x.1 ∧ x.1 < s + k
  | 0, _, _, h => absurd h List.not_mem_nil
  | k + 1, s, x, h => by
    unfold Ln.from at h
    split at h
    · exact absurd h List.not_mem_nil
    · split at h
      · rcases List.mem_cons.mp h with rfl | h
        · exact ⟨Nat.le_refl _, by show s < _; omega⟩
        · have := from_ge L f k (s + 1) x h
          omega
      · have := from_ge L f k (s + 1) x h
        omega
theorem from_srt (L : Ln) (f : Nat) : ∀ k s, (L.from f s k).Pairwise fun x y => x.1 < y.1
  | 0, _ => .nil
  | k + 1, s => by
    unfold Ln.from
    split
    · exact .nil
    · split
      · exact .cons (fun y hy => (from_ge L f k (s + 1) y hy).1) (from_srt L f k (s + 1))
      · exact from_srt L f k (s + 1)
theorem rows_len (L : Ln) : L.rows.length = L.n := by
  unfold Ln.rows
  rw [List.length_map, List.length_range]
theorem rows_ok {L : Ln} (ok : LnOk L) : RowsOk L.rows := by
  have n1 := ok.n1
  have at_ : ∀ i r, L.rows[i]? = some r → i < L.n ∧ r = L.row i := fun i r h => by
    have hi := (List.getElem?_eq_some_iff.mp h).1
    rw [rows_len] at hi
    unfold Ln.rows at h
    rw [List.getElem?_map, List.getElem?_range hi] at h
    cases h
    exact ⟨hi, rfl⟩
  refine ⟨by rw [rows_len]; exact ok.n0, by rw [rows_len]; exact n1, fun i r h => ?_, fun i r h => ?_, fun i r h => ?_⟩
  · obtain ⟨hi, rfl⟩ := at_ i r h
    intro x hx
    have := from_ge L i (L.n - i) (i + 1) x hx
    rw [rows_len]
    omega
  · obtain ⟨hi, rfl⟩ := at_ i r h
    exact Nat.le_trans (from_len L i _ _) (by omega)
  · obtain ⟨hi, rfl⟩ := at_ i r h
    exact from_srt L i _ _
def stAt (c : List Int) (x : Nat × Int) : Int := c.getD x.1 0
def sumR (c : List Int) (r : List (Nat × Int)) : Int := (r.map (stAt c)).sum
def cst (rs : List (List (Nat × Int))) : Nat → List Int
  | 0 => List.replicate rs.length 0 ++ [1]
  | k + 1 => (cst rs k).set (rs.length - 1 - k) (sumR (cst rs k) (rs.getD (rs.length - 1 - k) []))
def cnt (rs : List (List (Nat × Int))) : List Int := cst rs rs.length
theorem cst_len (rs : List (List (Nat × Int))) : ∀ k, (cst rs k).length = rs.length + 1
  | 0 => by
    unfold cst
    rw [List.length_append, List.length_replicate]
    rfl
  | k + 1 => by
    unfold cst
    rw [List.length_set, cst_len rs k]
theorem cst_keep (rs : List (List (Nat × Int))) {k m j : Nat} (hj : rs.length ≤ j + k) : k ≤ m → m ≤ rs.length → (cst rs m).getD j 0 = (cst rs k).getD j 0 := fun h1 h2 => by
  induction m with
  | zero =>
    obtain rfl : k = 0 := by omega
    rfl
  | succ m ih =>
    by_cases e : k = m + 1
    · rw [e]
    · rw [← ih (by omega) (by omega)]
      show ((cst rs m).set _ _).getD j 0 = _
      rw [List.getD_eq_getElem?_getD, List.getElem?_set_ne (by omega), List.getD_eq_getElem?_getD]
theorem cnt_at {rs : List (List (Nat × Int))} (ok : RowsOk rs) {i : Nat} {r : List (Nat × Int)} (h : rs[i]? = some r) : (cnt rs).getD i 0 = sumR (cnt rs) r := by
  have hi := (List.getElem?_eq_some_iff.mp h).1
  unfold cnt
  rw [cst_keep rs (k := rs.length - i) (by omega) (by omega) (Nat.le_refl _), show rs.length - i = (rs.length - 1 - i) + 1 by omega]
  show ((cst rs (rs.length - 1 - i)).set _ _).getD i 0 = _
  rw [show rs.length - 1 - (rs.length - 1 - i) = i by omega, getD_of h, List.getD_eq_getElem?_getD, List.getElem?_set_self (by rw [cst_len]; omega)]
  show ((r.map _).sum) = (r.map _).sum
  congr 1
  refine List.map_congr_left fun x hx => ?_
  have := ok.lt i r h x hx
  unfold stAt
  exact (cst_keep rs (by omega) (by omega) (Nat.le_refl _)).symm
theorem cnt_len (rs : List (List (Nat × Int))) : (cnt rs).length = rs.length + 1 := cst_len rs _
theorem cnt_end (rs : List (List (Nat × Int))) : (cnt rs).getD rs.length 0 = 1 := by
  unfold cnt
  rw [cst_keep rs (k := 0) (by omega) (by omega) (Nat.le_refl _)]
  unfold cst
  rw [List.getD_eq_getElem?_getD, List.getElem?_append_right (by rw [List.length_replicate]; omega), List.length_replicate, Nat.sub_self]
  rfl
theorem sumR_bd {c : List Int} {B : Int} (h : ∀ j, 0 ≤ c.getD j 0 ∧ c.getD j 0 ≤ B) : ∀ r : List (Nat × Int), 0 ≤ sumR c r ∧ sumR c r ≤ r.length * B
  | [] => by
    show (0 : Int) ≤ 0 ∧ (0 : Int) ≤ ((0 : Nat) : Int) * B
    rw [Int.natCast_zero, Int.zero_mul]
    omega
  | x :: r => by
    have ih := sumR_bd h r
    have hx := h x.1
    have e : sumR c (x :: r) = c.getD x.1 0 + sumR c r := List.sum_cons
    rw [e, List.length_cons, Int.natCast_succ, Int.add_mul, Int.one_mul]
    omega
theorem cst_bd {rs : List (List (Nat × Int))} (ok : RowsOk rs) : ∀ k, k ≤ rs.length → ∀ j, 0 ≤ (cst rs k).getD j 0 ∧ (cst rs k).getD j 0 ≤ ((512 ^ k : Nat) : Int)
  | 0, _, j => by
    have e : (cst rs 0).getD j 0 = 0 ∨ (cst rs 0).getD j 0 = 1 := by
      unfold cst
      rw [List.getD_eq_getElem?_getD, List.getElem?_append, List.length_replicate]
      split
      · rename_i q
        rw [List.getElem?_replicate, if_pos q]
        exact .inl rfl
      · match j - rs.length with
        | 0 => exact .inr rfl
        | n + 1 => exact .inl rfl
    have : ((512 ^ 0 : Nat) : Int) = 1 := rfl
    omega
  | k + 1, hk, j => by
    have ih := cst_bd ok k (by omega)
    have p : 0 ≤ ((512 ^ k : Nat) : Int) := Int.natCast_nonneg _
    have e : ((512 ^ (k + 1) : Nat) : Int) = 512 * ((512 ^ k : Nat) : Int) := by rw [Nat.pow_succ, Nat.mul_comm, Int.natCast_mul]; rfl
    by_cases hj : j = rs.length - 1 - k
    · subst hj
      have hg := List.getElem?_eq_getElem (l := rs) (i := rs.length - 1 - k) (by omega)
      have ev : (cst rs (k + 1)).getD (rs.length - 1 - k) 0 = sumR (cst rs k) rs[rs.length - 1 - k] := by
        show ((cst rs k).set _ _).getD _ 0 = _
        rw [getD_of hg, List.getD_eq_getElem?_getD, List.getElem?_set_self (by rw [cst_len]; omega)]
        rfl
      have q := sumR_bd ih rs[rs.length - 1 - k]
      have l := ok.len _ _ hg
      have m : ((rs[rs.length - 1 - k].length : Nat) : Int) * ((512 ^ k : Nat) : Int) ≤ 400 * ((512 ^ k : Nat) : Int) := Int.mul_le_mul_of_nonneg_right (by omega) p
      rw [ev, e]
      omega
    · have ev : (cst rs (k + 1)).getD j 0 = (cst rs k).getD j 0 := by
        show ((cst rs k).set _ _).getD j 0 = _
        rw [List.getD_eq_getElem?_getD, List.getElem?_set_ne (by omega), List.getD_eq_getElem?_getD]
      have := ih j
      rw [ev, e]
      omega
theorem pow_512 {n k : Nat} (h : 9 * n < k) : 512 ^ n < 2 ^ k := by
  rw [show (512 : Nat) = 2 ^ 9 by decide, ← Nat.pow_mul]
  exact Nat.pow_lt_pow_right (by decide) h
theorem cnt_bdk {k : Nat} (hk : 3600 < k) {rs : List (List (Nat × Int))} (ok : RowsOk rs) (j : Nat) : Bd k ((cnt rs).getD j 0) := by
  have h := cst_bd ok rs.length (Nat.le_refl _) j
  have n1 := ok.n1
  have l : ((cst rs rs.length).getD j 0).natAbs ≤ 512 ^ rs.length := by omega
  exact Nat.lt_of_le_of_lt l (pow_512 (by omega))
theorem cnt_bd {rs : List (List (Nat × Int))} (ok : RowsOk rs) (j : Nat) : 0 ≤ (cnt rs).getD j 0 ∧ Bd 3601 ((cnt rs).getD j 0) :=
  ⟨(cst_bd ok rs.length (Nat.le_refl _) j).1, cnt_bdk (by decide) ok j⟩
/-! the breaking with an index, the index of a breaking -/
section
variable {X : Cx} {ρ : Sl} {M M1 : Mem} {e : Expr} {pos : Pos} {Ψ : Out → Prop}
theorem sw_augI (i : Nat) {x : Str} {n : Int} {pos' : Pos} (hN : X.N.Nodup) (h0 : ρ[i]? = some (some (dI n))) (he : EW X e ρ M (fun d M1 => ∃ m : Int, d = dI m ∧ Ψ (.nx (ρ.set i (some (dI (n + m)))) M1))) (hi : X.N[i]? = some x := by rfl) (hx : L2.Loc X.env.scope x := by first | exact Or.inl rfl | exact Or.inr rfl)
    (hf : X.fn x = true ∨ X.env.scope.names.lookup x = some .local := by first | exact .inl rfl | exact .inr rfl) : SV X (.AugAssign (.Name x pos') .Add e pos) ρ M Ψ :=
  (ps_aug hN hi hx he ip_add hf).mono fun E σ H ⟨G, sa, k⟩ => by
    obtain ⟨v, e1, r⟩ := sa.sl.2 i _ h0
    refine ⟨v, e1, G, sa, fun y G1 H1 d M1 ⟨m, ed, q⟩ g1 sh1 r1 => ?_⟩
    subst ed
    rw [r.of_val, r1.of_val]
    exact ⟨n, m, rfl, rfl, k _ q _ G1 H1 g1 ⟨sh1, (sa.sl.up g1).set i (.val _)⟩⟩
theorem sv_subI (i : Nat) {x : Str} {n m : Int} {pos' : Pos} (hN : X.N.Nodup) (h0 : ρ[i]? = some (some (dI n))) (he : EV X e ρ M (dI m) M1) (hΨ : Ψ (.nx (ρ.set i (some (dI (n - m)))) M1)) (hi : X.N[i]? = some x := by rfl) (hx : L2.Loc X.env.scope x := by first | exact Or.inl rfl | exact Or.inr rfl)
    (hf : X.fn x = true ∨ X.env.scope.names.lookup x = some .local := by first | exact .inl rfl | exact .inr rfl) : SV X (.AugAssign (.Name x pos') .Sub e pos) ρ M Ψ :=
  (ps_aug hN hi hx he ip_sub hf).mono fun E σ H ⟨G, sa, k⟩ => by
    obtain ⟨v, e1, r⟩ := sa.sl.2 i _ h0
    refine ⟨v, e1, G, sa, fun y G1 H1 g1 sh1 r1 => ?_⟩
    rw [r.of_val, r1.of_val]
    exact ⟨n, m, rfl, rfl, k _ hΨ _ G1 H1 g1 ⟨sh1, (sa.sl.up g1).set i (.val _)⟩⟩
end
abbrev Rows := List (List (Nat × Int))
def scan (c : List Int) : List (Nat × Int) → Int → Option (Nat × Int)
  | [], _ => none
  | x :: r, i => if i < stAt c x then some (x.1, i) else scan c r (i - stAt c x)
def below (r : List (Nat × Int)) (s : Int) : List (Nat × Int) := r.filter fun x => decide ((x.1 : Int) < s)
theorem sumR_cons (c : List Int) (x : Nat × Int) (r : List (Nat × Int)) : sumR c (x :: r) = stAt c x + sumR c r := List.sum_cons
theorem scan_ok {c : List Int} : ∀ {r : List (Nat × Int)} {i : Int}, r.Pairwise (fun x y => x.1 < y.1) → 0 ≤ i → i < sumR c r → ∃ s j, scan c r i = some (s, j) ∧ 0 ≤ j ∧ j < c.getD s 0 ∧ (∃ x ∈ r, x.1 = s) ∧ i = sumR c (below r s) + j
  | [], i, _, h0, h1 => absurd h1 (by show ¬ i < 0; omega)
  | x :: r, i, hp, h0, h1 => by
    rw [sumR_cons] at h1
    have hx : ∀ {y}, y ∈ r → x.1 < y.1 := fun h => List.rel_of_pairwise_cons hp h
    unfold scan
    by_cases h : i < stAt c x
    · refine ⟨x.1, i, if_pos h, h0, h, ⟨x, List.mem_cons_self, rfl⟩, ?_⟩
      have e : below (x :: r) x.1 = [] := by
        unfold below
        rw [List.filter_eq_nil_iff]
        intro y hy
        rcases List.mem_cons.mp hy with rfl | hy
        · simp
        · have := hx hy
          simp
          omega
      rw [e]
      show i = 0 + i
      omega
    · obtain ⟨s, j, e, j0, j1, ⟨y, hy, ey⟩, es⟩ := scan_ok (c := c) (r := r) (i := i - stAt c x) hp.of_cons (by omega) (by omega)
      refine ⟨s, j, by rw [if_neg h]; exact e, j0, j1, ⟨y, List.mem_cons_of_mem _ hy, ey⟩, ?_⟩
      have eb : below (x :: r) s = x :: below r s := by
        unfold below
        have := hx hy
        rw [List.filter_cons, if_pos (by simp; omega)]
      rw [eb, sumR_cons]
      omega
def wlk (rs : Rows) (c : List Int) : Nat → Nat → Int → List Nat
  | 0, _, _ => []
  | k + 1, at_, i => if at_ = rs.length then [] else match scan c (rs.getD at_ []) i with
    | some (s, j) => s :: wlk rs c k s j
    | none => []
theorem wlk_end (rs : Rows) (c : List Int) (k : Nat) (i : Int) : wlk rs c k rs.length i = [] := by
  cases k with
  | zero => rfl
  | succ k =>
    unfold wlk
    exact if_pos rfl
theorem wlk_step {rs : Rows} {c : List Int} {k at_ s : Nat} {i j : Int} {r : List (Nat × Int)} (hr : rs[at_]? = some r) (h : scan c r i = some (s, j)) : wlk rs c (k + 1) at_ i = s :: wlk rs c k s j := by
  have := (List.getElem?_eq_some_iff.mp hr).1
  show (if at_ = rs.length then [] else _) = _
  rw [if_neg (by omega), getD_of hr, h]
def stops (r : List (Nat × Int)) : List Int := r.map fun x => (x.1 : Int)
def numW (rs : Rows) (c : List Int) : List Int → Nat → Int → Option Int
  | [], at_, t => if at_ = rs.length then some t else none
  | e :: es, at_, t => if at_ = rs.length ∨ e ∉ stops (rs.getD at_ []) then none else numW rs c es e.toNat (t + sumR c (below (rs.getD at_ []) e))
def zs (l : List Nat) : List Int := l.map fun s : Nat => (s : Int)
theorem wlk_num {rs : Rows} (ok : RowsOk rs) : ∀ (k at_ : Nat) (i t : Int), at_ ≤ rs.length → rs.length - at_ ≤ k → 0 ≤ i → i < (cnt rs).getD at_ 0 → numW rs (cnt rs) (zs (wlk rs (cnt rs) k at_ i)) at_ t = some (t + i)
  | k, at_, i, t, ha, hk, h0, h1 => by
    by_cases e : at_ = rs.length
    · subst e
      rw [cnt_end] at h1
      rw [wlk_end]
      show (if rs.length = rs.length then some t else none) = _
      rw [if_pos rfl]
      exact congrArg some (by omega)
    · obtain ⟨m, rfl⟩ : ∃ m, k = m + 1 := ⟨k - 1, by omega⟩
      have hg := List.getElem?_eq_getElem (l := rs) (i := at_) (by omega)
      rw [cnt_at ok hg] at h1
      obtain ⟨s, j, es, j0, j1, ⟨x, hx, ex⟩, ei⟩ := scan_ok (ok.srt _ _ hg) h0 h1
      have hl := ok.lt _ _ hg x hx
      rw [wlk_step hg es]
      show numW rs (cnt rs) ((s : Int) :: zs (wlk rs (cnt rs) m s j)) at_ t = _
      unfold numW
      rw [getD_of hg, if_neg (by
        rintro (h | h)
        · exact e h
        · exact h (by rw [← ex]; exact List.mem_map.mpr ⟨x, hx, rfl⟩)), Int.toNat_natCast, wlk_num ok m s j _ (by omega) (by omega) j0 j1]
      exact congrArg some (by omega)
theorem wlk_len (rs : Rows) (c : List Int) : ∀ k a i, (wlk rs c k a i).length ≤ k
  | 0, _, _ => Nat.le_refl _
  | k + 1, a, i => by
    unfold wlk
    split
    · exact Nat.zero_le _
    · split
      · have := wlk_len rs c k
        rw [List.length_cons]
        exact Nat.succ_le_succ (this _ _)
      · exact Nat.zero_le _
theorem stAt_ix {c : List Int} {x : Nat × Int} (h : x.1 < c.length) : (c.map dI)[x.1]? = some (dI (stAt c x)) := by
  unfold stAt
  rw [List.getElem?_map, getD_of (List.getElem?_eq_getElem h), List.getElem?_eq_getElem h]
  rfl
theorem ixN_nat {n k : Nat} (h : k < n) : ixN n ((k : Nat) : Int) = some k := by
  unfold ixN
  rw [if_pos (by omega)]
  first | rfl | rw [if_pos (by omega)]; rfl
theorem row_ix {rs : Rows} {s : Nat} {r : List (Nat × Int)} (h : rs[s]? = some r) : atI (rs.map rowT) ((s : Nat) : Int) = some (rowT r) := atI_nat (by rw [List.getElem?_map, h]; rfl) rfl
theorem last_ix {l : List Nat} {x a : Nat} (h : (x :: l)[l.length]? = some a) : atI ((zs (x :: l)).map dI) (-1) = some (dI ((a : Nat) : Int)) := by
  unfold atI
  have e : ((zs (x :: l)).map dI).length = l.length + 1 := by
    unfold zs
    rw [List.length_map, List.length_map, List.length_cons]
  rw [e, ixN_last (by omega)]
  show ((zs (x :: l)).map dI)[l.length]? = _
  unfold zs
  rw [List.getElem?_map, List.getElem?_map, h]
  rfl
theorem cut_one (x : D) (l : List D) (hl : l.length ≤ 1000) : cutD (x :: l) (some 1) none = l := by
  unfold cutD
  have e1 : HT.sIx (x :: l).length 0 (some 1) = 1 := by
    unfold HT.sIx
    simp
  rw [e1, List.drop_one, List.tail_cons, List.take_of_length_le]
  unfold HT.sIx
  simp
theorem get_getD {α : Type} {l : List (List α)} {i : Nat} (h : i < l.length) : l[i]? = some (l.getD i []) := by
  rw [List.getD_eq_getElem?_getD, List.getElem?_eq_getElem h]
  rfl
theorem cut_ints (es : List Int) (lo hi : Option Int) : ∃ es' : List Int, cutD (es.map dI) lo hi = es'.map dI ∧ es'.length ≤ es.length := by
  unfold cutD
  refine ⟨(es.drop (HT.sIx (es.map dI).length 0 lo)).take (HT.sIx (es.map dI).length (es.map dI).length hi - HT.sIx (es.map dI).length 0 lo), ?_, ?_⟩
  · rw [List.map_take, List.map_drop]
  · rw [List.length_take, List.length_drop]
    omega
theorem Fr1.put {a z : Addr} {M M1 : Mem} {o : MO} (h : Fr1 a M M1) (hz : M z = none) : Fr1 a M (M1.set z o) := fun b n u e => by
  rw [Mem.set_ne (fun q => by rw [q, hz] at e; cases e)]
  exact h b n u e
theorem Fr1.none {a l : Addr} {M M1 : Mem} {o o' : MO} (h : Fr1 a M M1) (hA : M a = some o) (hA1 : M1 a = some o') (hl : M1 l = none) : M l = none := by
  cases q : M l with
  | none => rfl
  | some u =>
    by_cases la : l = a
    · rw [la, hA1] at hl
      cases hl
    · rw [h l la u q] at hl
      cases hl
theorem ne_at {a l : Addr} {M : Mem} {o : MO} (hA : M a = some o) (hl : M l = none) : l ≠ a := fun h => by
  rw [h, hA] at hl
  cases hl
theorem map_erase {α β : Type} (f : α → β) : ∀ (l : List α) (k : Nat), (l.eraseIdx k).map f = (l.map f).eraseIdx k
  | [], _ => rfl
  | _ :: _, 0 => rfl
  | x :: l, k + 1 => by
    show f x :: (l.eraseIdx k).map f = f x :: (l.map f).eraseIdx k
    rw [map_erase f l k]
theorem ints_at {es : List Int} {k : Nat} {x : Int} (h : es[k]? = some x) : atI (es.map dI) ((k : Nat) : Int) = some (dI x) := atI_nat (by rw [List.getElem?_map, h]; rfl) rfl
theorem lst_frq (x : Int × Int) : lstD (frq false x) = frq true x := by
  simp only [frq, sq, lstD, lstDL, Bool.false_eq_true, if_false, if_true]
theorem lst_pcq (p : Pc) : lstD (pcq false p) = pcq true p := by
  show lstD (.tup [frq false p.1, frq false p.2.1, frq false p.2.2]) = sq true [frq true p.1, frq true p.2.1, frq true p.2.2]
  simp only [lstD, lstDL, lst_frq, sq, if_true]
theorem lst_pcs (ps : List Pc) : lstD (.tup (ps.map (pcq false))) = sq true (ps.map (pcq true)) := by
  show D.lst (lstDL (ps.map (pcq false))) = D.lst (ps.map (pcq true))
  rw [lstDL_eq, List.map_map]
  exact congrArg D.lst (List.map_congr_left fun p _ => lst_pcq p)
theorem lst_ints (es : List Int) : lstD (.tup (es.map dI)) = sq true (es.map dI) := by
  show D.lst (lstDL (es.map dI)) = D.lst (es.map dI)
  rw [lstDL_eq, List.map_map]
  exact congrArg D.lst (List.map_congr_left fun p _ => rfl)
theorem tup_ints {n : Nat} {es : List Int} (h : es.length ≤ 1000) : tupD (n + 1) (.tup (es.map dI)) := ⟨by rw [List.length_map]; omega, fun d hd => by
  obtain ⟨i, _, rfl⟩ := List.mem_map.mp hd
  exact tup_int i⟩
theorem tup_pcs {ps : List Pc} (h : ps.length ≤ 400) : tupD 3 (.tup (ps.map (pcq false))) := ⟨by rw [List.length_map]; omega, fun d hd => by
  obtain ⟨p, _, rfl⟩ := List.mem_map.mp hd
  exact ⟨by show 3 ≤ 1000000; decide, three_mem (tup_two (tup_int _) (tup_int _)) (tup_two (tup_int _) (tup_int _)) (tup_two (tup_int _) (tup_int _))⟩⟩
theorem zs_len (l : List Nat) : (zs l).length = l.length := by
  unfold zs
  rw [List.length_map]
theorem okD_opt (o : Option Int) : okD 1 (optB o) := by
  cases o with
  | none => exact .inl rfl
  | some b => exact okD_int b
theorem rg_ints (n : Int) : (rgV 0 n).map D.val = ((List.range (n - 0).toNat).map fun i : Nat => (0 : Int) + (i : Int)).map dI := by
  unfold rgV
  rw [List.map_map, List.map_map]
  rfl
theorem low_gz {n d : Int} (hd : 0 < d) : gz (low n d).1 (low n d).2 = 1 := by
  have g0 := gz_pos (n := n) (show d ≠ 0 by omega)
  have e1 : (low n d).1 * gz n d = n := Int.ediv_mul_cancel (gz_dl n d)
  have e2 : (low n d).2 * gz n d = d := Int.ediv_mul_cancel (gz_dr n d)
  have h := gz_mul (n := (low n d).1) (d := (low n d).2) g0
  rw [e1, e2] at h
  have h2 : gz (low n d).1 (low n d).2 * gz n d = 1 * gz n d := by omega
  exact Int.eq_of_mul_eq_mul_right (by omega) h2
theorem mea_low {n d : Int} (h0 : 0 ≤ n) (h1 : n ≤ 1000000) (d0 : 1 ≤ d) (d1 : d ≤ 1000) : MeaOk (low n d) := by
  have g0 := gz_pos (n := n) (show d ≠ 0 by omega)
  have ld := low_den (n := n) (show 0 < d by omega)
  refine ⟨Int.ediv_nonneg h0 (by omega), Int.le_trans (Int.ediv_le_self _ h0) h1, by omega, Int.le_trans (Int.ediv_le_self _ (by omega)) d1, low_gz (by omega)⟩
theorem gz_one (n : Int) : gz n 1 = 1 := by
  unfold gz
  rw [show (1 : Int).natAbs = 1 from rfl, Nat.gcd_one_right]
  rfl
theorem mea_one {n : Int} (h0 : 0 ≤ n) (h1 : n ≤ 1000000) : MeaOk (n, 1) := ⟨h0, h1, by show (1 : Int) ≤ 1; omega, by show (1 : Int) ≤ 1000; omega, gz_one n⟩
theorem pc_one {w s k : Int} (w1 : w ≤ 1000000) (s0 : 0 ≤ s) (s1 : s ≤ 1000000) (k0 : 0 ≤ k) (kw : k ≤ w) : PcOk ((w, 1), (s, 1), (k, 1)) :=
  ⟨mea_one (by omega) w1, mea_one s0 s1, mea_one k0 (by omega), by show k * 1 ≤ w * 1; omega⟩
theorem pc_low {w s k part sd : Int} (w1 : w ≤ 1000000) (s0 : 0 ≤ s) (s1 : s ≤ 1000000) (k0 : 0 ≤ k) (kw : k ≤ w) (p0 : 1 ≤ part) (p1 : part ≤ 1000) (d0 : 1 ≤ sd) (d1 : sd ≤ 1000) : PcOk (low w part, low s sd, low k part) := by
  refine ⟨mea_low (by omega) w1 p0 p1, mea_low s0 s1 d0 d1, mea_low k0 (by omega) p0 p1, ?_⟩
  show (low k part).1 * (low w part).2 ≤ (low w part).1 * (low k part).2
  have e1 := low_eq (n := k) (show 0 < part by omega)
  have e2 := low_eq (n := w) (show 0 < part by omega)
  have q1 := low_den (n := k) (show 0 < part by omega)
  have q2 := low_den (n := w) (show 0 < part by omega)
  have l1 : (low k part).1 * (low w part).2 * part = k * ((low k part).2 * (low w part).2) := by
    rw [Int.mul_right_comm, e1, Int.mul_assoc]
  have l2 : (low w part).1 * (low k part).2 * part = w * ((low k part).2 * (low w part).2) := by
    rw [Int.mul_right_comm, e2, Int.mul_assoc, Int.mul_comm (low w part).2]
  refine Int.le_of_mul_le_mul_right (a := part) ?_ (by omega)
  rw [l1, l2]
  exact Int.mul_le_mul_of_nonneg_right kw (Int.le_of_lt (Int.mul_pos q1 q2))
theorem PcOk.rigid {p : Pc} (h : PcOk p) : PcOk (p.1, (0, 1), p.2.2) := ⟨h.w, mea_one (by omega) (by omega), h.k, h.le⟩
def R_given (n : Nat) (ds : List D) (M : Mem) (Φ : D → Mem → Prop) : Prop := ∃ a p t, ds = [dP a, t] ∧ M a = some (Pool.mo p) ∧ p.Ok ∧ tupD n t ∧ Draw M a Φ (lstD t) ∧ Draw M a Φ t
def R_within (ds : List D) (M : Mem) (Φ : D → Mem → Prop) : Prop := ∃ a p many, ds = [dP a, dI many] ∧ M a = some (Pool.mo p) ∧ p.Ok ∧ 0 < many ∧ ∀ n : Int, 0 ≤ n → n < many → Draw M a Φ (dI n)
def R_piece (ds : List D) (M : Mem) (Φ : D → Mem → Prop) : Prop := ∃ a p kind, ds = [dP a, dI kind] ∧ M a = some (Pool.mo p) ∧ p.Ok ∧ ∀ pc, PcOk pc → Draw M a Φ (pcq false pc)
def R_pieces (ds : List D) (M : Mem) (Φ : D → Mem → Prop) : Prop := ∃ a p many, ds = [dP a, dI many] ∧ M a = some (Pool.mo p) ∧ p.Ok ∧ 0 < many ∧ many ≤ 400 ∧ ∀ ps : List Pc, PcsOk ps → Draw M a Φ (.tup (ps.map (pcq false)))
def R_am (ds : List D) (M : Mem) (Φ : D → Mem → Prop) : Prop := ∃ a p, ds = [dP a] ∧ M a = some (Pool.mo p) ∧ p.Ok ∧ ∀ many most : Int, 0 < many → many ≤ 400 → 0 < most → most ≤ 9 → Draw M a Φ (.tup [dI many, dI most])
section
variable {P : Program} {w : World} {K : PySem.W.Frag} {mg : Str → Option Value} {base : Heap} {f : Addr} {fd : FuncData}
theorem c_given (F : Fun K "_law_given" "_law_given" s_given f fd) (hm : mg "_law_given" = some (.ref f)) (c_take : Cal P w K mg base 2 "_law_take" (spW K R_take)) (c_listed : Cal P w K mg base 4 "_law_listed" (spD K (PrListed 3))) : Cal P w K mg base 5 "_law_given" (spW K (R_given 3)) := by
  refine calW_of F sc_given hm (fun _ _ _ _ _ _ us hl => match us, hl with | [_, _], _ => rfl) (fun ds M Φ h => ?_) fun cdv A outer s H E ds M Φ hr h => ?_
  · obtain ⟨a, p, t, rfl, _⟩ := h
    rfl
  · obtain ⟨a, p, t, rfl, hA, ok, ht, h1, h2⟩ := h
    show BV _ _ [some (dP a), some t] _ _
    refine bv_one (sw_ret (ew_if (tw_cmp op_eq ?_ (nomark _))))
    refine ew_callW c_take (hr.mono (by decide)) (aw_av (av_cons (ev_var 0 rfl) (av_cons ev_int av_nil)) ⟨a, p, _, rfl, hA, ok, by decide, by decide, fun n lo hi p1 ok1 M1 fr1 hA1 => ⟨_, rfl, ?_⟩⟩)
    exact ew_ev ev_int ⟨_, _, rfl, rs_eqI, fun _ => ew_ev (ev_call c_listed (hr.mono (by decide)) (av_cons (ev_var 1 rfl) av_nil) ⟨t, rfl, ht, rfl, rfl⟩) ⟨_, h1 p1 ok1 _ fr1 hA1, Mle.refl _⟩, fun _ => ew_ev (ev_var 1 rfl) ⟨_, h2 p1 ok1 _ fr1 hA1, Mle.refl _⟩⟩
theorem c_piece (F : Fun K "_law_piece" "_law_piece" s_piece f fd) (hm : mg "_law_piece" = some (.ref f)) (c_take : Cal P w K mg base 2 "_law_take" (spW K R_take)) (c_lowest : Cal P w K mg base 1 "_law_lowest" (spD K PrLow)) : Cal P w K mg base 3 "_law_piece" (spW K R_piece) := by
  refine calW_of F sc_piece hm (fun _ _ _ _ _ _ us hl => match us, hl with | [_, _], _ => rfl) (fun ds M Φ h => ?_) fun cdv A outer s H E ds M Φ hr h => ?_
  · obtain ⟨a, p, kind, rfl, _⟩ := h
    rfl
  · obtain ⟨a, p, kind, rfl, hA, ok, hΦ⟩ := h
    show BV _ _ [some (dP a), some (dI kind), none, none, none, none] _ _
    have lw : ∀ {n d : Int} {M : Mem}, 0 ≤ n → n ≤ 1000000 → 1 ≤ d → d ≤ 1000 → PrLow [dI n, dI d] M (frD (low n d)) M := fun h0 h1 d0 d1 => low_at (by omega) ((Bd.of (m := 1000000) (k := 20) (by omega) (by decide)).mono (by decide)) ((Bd.of (m := 1000) (k := 10) (by omega) (by decide)).mono (by decide))
    refine bv_cons (sv_if (tv_cmpR op_eq (ev_var 1 rfl) ev_int rs_eqI (nomark _)) (fun _ => ?_) (fun _ => bv_nil ?_))
    · refine bv_cons (sw_set 2 sc_piece.nd (ew_op op_add (ew_ev ev_int ⟨_, rfl, ?_⟩)))
      refine ew_callW c_take (hr.mono (by decide)) (aw_av (av_cons (ev_var 0 rfl) (av_cons ev_int av_nil)) ⟨a, p, _, rfl, hA, ok, by decide, by decide, fun n1 lo1 hi1 p1 ok1 M1 fr1 hA1 => ⟨_, _, rfl, rs_I0, ?_⟩⟩)
      refine bv_one (sw_ret (ew_tup (aw_cons (ew_ev (ev_tup (av_cons (ev_var 2 rfl) (av_cons ev_int av_nil))) (aw_cons (ew_tup (aw_cons ?_)))))))
      refine ew_callW c_take (hr.mono (by decide)) (aw_av (av_cons (ev_var 0 rfl) (av_cons ev_int av_nil)) ⟨a, p1, _, rfl, hA1, ok1, by decide, by decide, fun n2 lo2 hi2 p2 ok2 M2 fr2 hA2 => ?_⟩)
      refine aw_av (av_cons ev_int av_nil) ⟨by show 2 ≤ sizeLine; decide, aw_cons (ew_tup (aw_cons (ew_if (tw_cmp op_eq ?_ (nomark _)))))⟩
      refine ew_callW c_take (hr.mono (by decide)) (aw_av (av_cons (ev_var 0 rfl) (av_cons ev_int av_nil)) ⟨a, p2, _, rfl, hA2, ok2, by decide, by decide, fun n3 lo3 hi3 p3 ok3 M3 fr3 hA3 => ⟨_, rfl, ew_ev ev_int ⟨_, _, rfl, rs_eqI, fun _ => ?_, fun _ => ?_⟩⟩⟩)
      · refine ew_callW c_take (hr.mono (by decide)) (aw_av (av_cons (ev_var 0 rfl) (av_cons (ev_op op_add (ev_var 2 rfl) ev_int rs_I0) av_nil)) ⟨a, p3, _, rfl, hA3, ok3, by omega, by omega, fun n4 lo4 hi4 p4 ok4 M4 fr4 hA4 => ?_⟩)
        exact aw_av (av_cons ev_int av_nil) ⟨by show 2 ≤ sizeLine; decide, aw_nil ⟨by show 3 ≤ sizeLine; decide, _, hΦ ((1 + n1, 1), (n2, 1), (n4, 1)) (pc_one (by omega) lo2 (by omega) lo4 (by omega)) p4 ok4 _ (((fr1.trans fr2).trans fr3).trans fr4) hA4, Mle.refl _⟩⟩
      · exact ew_ev ev_int (aw_av (av_cons ev_int av_nil) ⟨by show 2 ≤ sizeLine; decide, aw_nil ⟨by show 3 ≤ sizeLine; decide, _, hΦ ((1 + n1, 1), (n2, 1), (0, 1)) (pc_one (by omega) lo2 (by omega) (by omega) (by omega)) p3 ok3 _ ((fr1.trans fr2).trans fr3) hA3, Mle.refl _⟩⟩)
    refine bv_cons (sv_if (tv_cmpR op_eq (ev_var 1 rfl) ev_int rs_eqI (nomark _)) (fun _ => ?_) (fun _ => bv_nil ?_))
    · refine bv_cons (sw_set 3 sc_piece.nd (ew_op op_add (ew_ev ev_int ⟨_, rfl, ?_⟩)))
      refine ew_callW c_take (hr.mono (by decide)) (aw_av (av_cons (ev_var 0 rfl) (av_cons ev_int av_nil)) ⟨a, p, _, rfl, hA, ok, by decide, by decide, fun n1 lo1 hi1 p1 ok1 M1 fr1 hA1 => ⟨_, _, rfl, rs_I0, ?_⟩⟩)
      refine bv_cons (sw_set 2 sc_piece.nd ?_)
      refine ew_callW c_take (hr.mono (by decide)) (aw_av (av_cons (ev_var 0 rfl) (av_cons ev_int av_nil)) ⟨a, p1, _, rfl, hA1, ok1, by decide, by decide, fun n2 lo2 hi2 p2 ok2 M2 fr2 hA2 => ?_⟩)
      refine bv_cons (sw_set 4 sc_piece.nd ?_)
      refine ew_callW c_take (hr.mono (by decide)) (aw_av (av_cons (ev_var 0 rfl) (av_cons (ev_op op_add (ev_var 2 rfl) ev_int rs_I0) av_nil)) ⟨a, p2, _, rfl, hA2, ok2, by omega, by omega, fun n3 lo3 hi3 p3 ok3 M3 fr3 hA3 => ?_⟩)
      refine bv_cons (sw_set 5 sc_piece.nd (ew_callD c_lowest (hr.mono (by decide)) (aw_cons ?_)))
      refine ew_callW c_take (hr.mono (by decide)) (aw_av (av_cons (ev_var 0 rfl) (av_cons ev_int av_nil)) ⟨a, p3, _, rfl, hA3, ok3, by decide, by decide, fun n4 lo4 hi4 p4 ok4 M4 fr4 hA4 => aw_cons (ew_op op_add (ew_ev ev_int ⟨_, rfl, ?_⟩))⟩)
      refine ew_callW c_take (hr.mono (by decide)) (aw_av (av_cons (ev_var 0 rfl) (av_cons ev_int av_nil)) ⟨a, p4, _, rfl, hA4, ok4, by decide, by decide, fun n5 lo5 hi5 p5 ok5 M5 fr5 hA5 => ⟨_, _, rfl, rs_I0, aw_nil ⟨_, _, lw (n := n4) (d := 1 + n5) lo4 (by omega) (by omega) (by omega), ?_⟩⟩⟩)
      exact bv_one (sv_ret (ev_tup (av_cons (ev_call c_lowest (hr.mono (by decide)) (av_cons (ev_var 2 rfl) (av_cons (ev_var 3 rfl) av_nil)) (lw (n := n2) (d := 1 + n1) lo2 (by omega) (by omega) (by omega))) (av_cons (ev_var 5 rfl) (av_cons (ev_call c_lowest (hr.mono (by decide)) (av_cons (ev_var 4 rfl) (av_cons (ev_var 3 rfl) av_nil)) (lw (n := n3) (d := 1 + n1) lo3 (by omega) (by omega) (by omega))) av_nil)))) ⟨_, hΦ (low n2 (1 + n1), low n4 (1 + n5), low n3 (1 + n1)) (pc_low (by omega) lo4 (by omega) lo3 (by omega) (by omega) (by omega) (by omega) (by omega)) p5 ok5 _ ((((fr1.trans fr2).trans fr3).trans fr4).trans fr5) hA5, Mle.refl _⟩)
    refine bv_cons (sw_set 3 sc_piece.nd (ew_op op_add (ew_ev ev_int ⟨_, rfl, ?_⟩)))
    refine ew_callW c_take (hr.mono (by decide)) (aw_av (av_cons (ev_var 0 rfl) (av_cons ev_int av_nil)) ⟨a, p, _, rfl, hA, ok, by decide, by decide, fun n1 lo1 hi1 p1 ok1 M1 fr1 hA1 => ⟨_, _, rfl, rs_I0, ?_⟩⟩)
    refine bv_cons (sw_set 2 sc_piece.nd ?_)
    have e6 : (10 : Int) ^ (6 : Int).toNat = 1000000 := by decide
    have ev6 : ∀ {X : Cx} {ρ : Sl} {M : Mem} {k1 k2 k3 : Nat} {q1 q2 q3 q4 q5 : Pos}, EV X (.BinOp (.BinOp (.Constant (.int 10) k1 q1) .Pow (.Constant (.int 6) k2 q2) q3) .Add (.Constant (.int 1) k3 q4) q5) ρ M (dI 1000001) M := ev_op op_add (ev_op op_pow ev_int ev_int (rs_I ⟨by decide, by decide, by decide⟩)) ev_int rs_I0
    refine ew_callW c_take (hr.mono (by decide)) (aw_av (av_cons (ev_var 0 rfl) (av_cons ev6 av_nil)) ⟨a, p1, _, rfl, hA1, ok1, by decide, by decide, fun n2 lo2 hi2 p2 ok2 M2 fr2 hA2 => ?_⟩)
    refine bv_cons (sw_set 4 sc_piece.nd ?_)
    refine ew_callW c_take (hr.mono (by decide)) (aw_av (av_cons (ev_var 0 rfl) (av_cons (ev_op op_add (ev_var 2 rfl) ev_int rs_I0) av_nil)) ⟨a, p2, _, rfl, hA2, ok2, by omega, by omega, fun n3 lo3 hi3 p3 ok3 M3 fr3 hA3 => ?_⟩)
    refine bv_one (sw_ret (ew_tup (aw_cons (ew_ev (ev_call c_lowest (hr.mono (by decide)) (av_cons (ev_var 2 rfl) (av_cons (ev_var 3 rfl) av_nil)) (lw (n := n2) (d := 1 + n1) lo2 (by omega) (by omega) (by omega))) (aw_cons (ew_callD c_lowest (hr.mono (by decide)) (aw_cons ?_)))))))
    refine ew_callW c_take (hr.mono (by decide)) (aw_av (av_cons (ev_var 0 rfl) (av_cons ev6 av_nil)) ⟨a, p3, _, rfl, hA3, ok3, by decide, by decide, fun n4 lo4 hi4 p4 ok4 M4 fr4 hA4 => aw_cons (ew_op op_add (ew_ev ev_int ⟨_, rfl, ?_⟩))⟩)
    refine ew_callW c_take (hr.mono (by decide)) (aw_av (av_cons (ev_var 0 rfl) (av_cons ev_int av_nil)) ⟨a, p4, _, rfl, hA4, ok4, by decide, by decide, fun n5 lo5 hi5 p5 ok5 M5 fr5 hA5 => ⟨_, _, rfl, rs_I0, aw_nil ⟨_, _, lw (n := n4) (d := 1 + n5) lo4 (by omega) (by omega) (by omega), ?_⟩⟩⟩)
    exact aw_av (av_cons (ev_call c_lowest (hr.mono (by decide)) (av_cons (ev_var 4 rfl) (av_cons (ev_var 3 rfl) av_nil)) (lw (n := n3) (d := 1 + n1) lo3 (by omega) (by omega) (by omega))) av_nil) ⟨by show 3 ≤ sizeLine; decide, _, hΦ (low n2 (1 + n1), low n4 (1 + n5), low n3 (1 + n1)) (pc_low (by omega) lo4 (by omega) lo3 (by omega) (by omega) (by omega) (by omega) (by omega)) p5 ok5 _ ((((fr1.trans fr2).trans fr3).trans fr4).trans fr5) hA5, Mle.refl _⟩
end
def PrSum (ds : List D) (M : Mem) (d : D) (M' : Mem) : Prop := ∃ x y : Int × Int, ds = [frD x, frD y] ∧ MeaOk x ∧ MeaOk y ∧ d = frD (low (x.1 * y.2 + y.1 * x.2) (x.2 * y.2)) ∧ M' = M
def R_room (ds : List D) (M : Mem) (Φ : D → Mem → Prop) : Prop := ∃ a p ps most, ds = [dP a, .tup (ps.map (pcq false)), dI most] ∧ M a = some (Pool.mo p) ∧ p.Ok ∧ PcsOk ps ∧ 0 < most ∧ most ≤ 9 ∧ ∀ rd, RmOk rd → Draw M a Φ (frD rd)
section
variable {X : Cx} {ρ : Sl} {M : Mem} {a b c : Expr} {ds : List D} {pos : Pos} {Φ : D → Mem → Prop}
/-- x[i:j] of a tuple, j drawn -/
theorem ew_sliceT {i : Int} {p2 : Pos} (ha : EV X a ρ M (.tup ds) M) (h1 : EV X b ρ M (dI i) M) (h2 : EW X c ρ M (fun d M1 => ∃ j : Int, d = dI j ∧ Φ (.tup (cutD ds (some i) (some j))) M1)) : EW X (.Subscript a (.Slice (some b) (some c) none p2) pos) ρ M Φ :=
  (pe_slice sl_tupA ha (po_some h1) (po_some h2)).mono fun σ H Q ⟨G, sa, k⟩ => ⟨G, sa, fun v G1 H1 g1 sh1 r1 => ⟨G1, ⟨sh1, sa.sl.up g1⟩, fun v2 G2 H2 g2 sh2 r2 => ⟨i, r2.of_val, G2, ⟨sh2, (sa.sl.up g1).up g2⟩, fun v3 G3 H3 d3 M3 ⟨j, e3, hΦ⟩ g3 sh3 r3 => ⟨j, by rw [e3] at r3; exact r3.of_val, by
      cases (show Rep X.K G1 v (.tup ds) from r1) with
      | tup q r =>
        refine ⟨_, _, rfl, sqtUp sh3.le (sqtUp g3 (sqtUp g2 q)), fun hw => ?_, fun hw p hp => ?_⟩
        · have e : cutD ds (some i) (some j) = ds := by
            rw [r.len] at hw
            unfold cutD
            rw [hw.1, hw.2, List.drop_zero, Nat.sub_zero, List.take_length]
          rw [e] at hΦ
          exact k _ _ _ _ _ hΦ ((g1.trans g2).trans g3) sh3 (.tup (sqtUp g3 (sqtUp g2 q)) ((r.up g2).up g3))
        · obtain ⟨sh4, g4⟩ := sh3.new (o := .tup _) hp
          exact k _ _ _ _ _ hΦ (((g1.trans g2).trans g3).trans g4) sh4 (.tup (.inl (.inl upd_same)) (cut_rep (((r.up g2).up g3).up g4)))⟩⟩⟩⟩
end
structure RoomW (x : Int × Int) (m : Int) : Prop where
  n0 : 0 ≤ x.1
  n1 : x.1 ≤ m
  d0 : 1 ≤ x.2
  d1 : x.2 ≤ 1000
  g : gz x.1 x.2 = 1
theorem RoomW.le {x : Int × Int} {m m' : Int} (h : RoomW x m) (l : m ≤ m') : RoomW x m' := ⟨h.n0, Int.le_trans h.n1 l, h.d0, h.d1, h.g⟩
section
variable {P : Program} {w : World} {K : PySem.W.Frag} {mg : Str → Option Value} {base : Heap} {f : Addr} {fd : FuncData}
theorem c_sum (F : Fun K "_law_sum" "_law_sum" s_sum f fd) (hm : mg "_law_sum" = some (.ref f)) (c_lowest : Cal P w K mg base 1 "_law_lowest" (spD K PrLow)) : Cal P w K mg base 2 "_law_sum" (spD K PrSum) := by
  refine cal_of F sc_sum hm (fun _ _ _ _ _ _ us hl => match us, hl with | [_, _], _ => rfl) (fun ds M d M' h => ?_) fun cdv A outer s H E ds M d M' hr h => ?_
  · obtain ⟨x, y, rfl, _⟩ := h
    rfl
  · obtain ⟨⟨a, b⟩, ⟨c, e⟩, rfl, hx, hy, rfl, rfl⟩ := h
    show BV _ _ [some (.tup [dI a, dI b]), some (.tup [dI c, dI e])] _ _
    have a0 : 0 ≤ a := hx.n0
    have a1 : a ≤ 1000000 := hx.n1
    have b0 : 1 ≤ b := hx.d0
    have b1 : b ≤ 1000 := hx.d1
    have c0 : 0 ≤ c := hy.n0
    have c1 : c ≤ 1000000 := hy.n1
    have e0 : 1 ≤ e := hy.d0
    have e1 : e ≤ 1000 := hy.d1
    have ba : Bd 20 a := Bd.of (m := 1000000) (by omega) (by decide)
    have bb : Bd 10 b := Bd.of (m := 1000) (by omega) (by decide)
    have bc : Bd 20 c := Bd.of (m := 1000000) (by omega) (by decide)
    have be : Bd 10 e := Bd.of (m := 1000) (by omega) (by decide)
    exact bv_one (sv_ret (ev_call c_lowest (hr.mono (by decide)) (av_cons (ev_op op_add (ev_op op_mulW (ev_ixT (ds := [dI a, dI b]) (ev_var 0 rfl) ev_int rfl) (ev_ixT (ds := [dI c, dI e]) (ev_var 1 rfl) ev_int rfl) (rs_I (ba.cm be))) (ev_op op_mulW (ev_ixT (ds := [dI c, dI e]) (ev_var 1 rfl) ev_int rfl) (ev_ixT (ds := [dI a, dI b]) (ev_var 0 rfl) ev_int rfl) (rs_I (bc.cm bb))) rs_I0) (av_cons (ev_op op_mulW (ev_ixT (ds := [dI a, dI b]) (ev_var 0 rfl) ev_int rfl) (ev_ixT (ds := [dI c, dI e]) (ev_var 1 rfl) ev_int rfl) (rs_I (bb.cm be))) av_nil)) (low_at (Int.mul_pos (by omega) (by omega)) (((ba.mul be).add (bc.mul bb)).mono (by decide)) ((bb.mul be).mono (by decide)))) ⟨rfl, Mle.refl _⟩)
theorem c_pieces (F : Fun K "_law_pieces" "_law_pieces" s_pieces f fd) (hm : mg "_law_pieces" = some (.ref f)) (T : Bt mg) (c_take : Cal P w K mg base 2 "_law_take" (spW K R_take)) (c_piece : Cal P w K mg base 3 "_law_piece" (spW K R_piece)) : Cal P w K mg base 4 "_law_pieces" (spW K R_pieces) := by
  refine calW_of F sc_pieces hm (fun _ _ _ _ _ _ us hl => match us, hl with | [_, _], _ => rfl) (fun ds M Φ h => ?_) fun cdv A outer s H E ds M Φ hr h => ?_
  · obtain ⟨a, p, many, rfl, _⟩ := h
    rfl
  · obtain ⟨a, p, many, rfl, hA, ok, h0, h1, hΦ⟩ := h
    show BV _ _ [some (dP a), some (dI many), none, none, none, none, none] _ _
    refine bv_cons (sw_set 2 sc_pieces.nd ?_)
    refine ew_callW c_take (hr.mono (by decide)) (aw_av (av_cons (ev_var 0 rfl) (av_cons ev_int av_nil)) ⟨a, p, _, rfl, hA, ok, by decide, by decide, fun n1 lo1 hi1 p1 ok1 M1 fr1 hA1 => ?_⟩)
    refine bv_cons (sw_set 3 sc_pieces.nd ?_)
    refine ew_callW c_take (hr.mono (by decide)) (aw_av (av_cons (ev_var 0 rfl) (av_cons ev_int av_nil)) ⟨a, p1, _, rfl, hA1, ok1, by decide, by decide, fun n2 lo2 hi2 p2 ok2 M2 fr2 hA2 => ?_⟩)
    refine bv_cons (sv_set 4 sc_pieces.nd (ev_tup av_nil) ?_)
    refine bv_cons (sw_for rfl (pg_name (i := 5) sc_pieces.nd rfl (.inl rfl)) ?_)
    refine iw_iv (iv_range1 T.range (ev_var 1 rfl) (by omega)) ⟨fun i ρ M3 => ∃ (ps : List Pc) (x5 x6 : Option D) (q : Pool), ρ = [some (dP a), some (dI many), some (dI n1), some (dI n2), some (.tup (ps.map (pcq false))), x5, x6] ∧ Fr1 a M M3 ∧ M3 a = some (Pool.mo q) ∧ q.Ok ∧ ps.length = i ∧ ∀ p ∈ ps, PcOk p, ⟨[], none, none, p2, rfl, fr1.trans fr2, hA2, ok2, rfl, fun p hp => absurd hp List.not_mem_nil⟩, fun i d ρ' M3 hd iv => ?_, fun ρ' M3 iv => ?_⟩
    · obtain ⟨ps, x5, x6, q, rfl, fr3, hA3, ok3, hl, hp⟩ := iv
      have hi := rgD_get hd
      refine ⟨_, tg_name, ?_⟩
      refine bv_cons (sw_set 6 sc_pieces.nd ?_)
      refine ew_callW c_piece (hr.mono (by decide)) (aw_av (av_cons (ev_var 0 rfl) (av_cons (ev_var 2 rfl) av_nil)) ⟨a, q, _, rfl, hA3, ok3, fun pc hpc p4 ok4 M4 fr4 hA4 => ?_⟩)
      refine bv_cons (sv_join (fun ρ M5 => ∃ (pc : Pc) (q : Pool), ρ = [some (dP a), some (dI many), some (dI n1), some (dI n2), some (.tup (ps.map (pcq false))), some d, some (pcq false pc)] ∧ Fr1 a M M5 ∧ M5 a = some (Pool.mo q) ∧ q.Ok ∧ PcOk pc) (sw_if (PW.pt (ww_and (tw_tv (tv_cmpR op_eq (ev_var 3 rfl) ev_int rs_eqI (nomark _)) ⟨fun _ => ww_one_and (tw_cmp op_eq ?_ (nomark _)), fun _ => ?_⟩)))) ?_)
      · refine ew_callW c_take (hr.mono (by decide)) (aw_av (av_cons (ev_var 0 rfl) (av_cons ev_int av_nil)) ⟨a, p4, _, rfl, hA4, ok4, by decide, by decide, fun n5 lo5 hi5 p5 ok5 M5 fr5 hA5 => ⟨_, rfl, ew_ev ev_int ⟨_, _, rfl, rs_eqI, fun _ => ?_, fun _ => ?_⟩⟩⟩)
        · exact bv_one (sv_set 6 sc_pieces.nd (ev_tup (av_cons (ev_ixT (ds := [frq false pc.1, frq false pc.2.1, frq false pc.2.2]) (ev_var 6 rfl) ev_int rfl) (av_cons (ev_tup (av_cons ev_int (av_cons ev_int av_nil))) (av_cons (ev_ixT (ds := [frq false pc.1, frq false pc.2.1, frq false pc.2.2]) (ev_var 6 rfl) ev_int rfl) av_nil)))) ⟨(pc.1, (0, 1), pc.2.2), p5, rfl, (fr3.trans fr4).trans fr5, hA5, ok5, hpc.rigid⟩)
        · exact bv_nil ⟨pc, p5, rfl, (fr3.trans fr4).trans fr5, hA5, ok5, hpc⟩
      · exact ⟨(fun h => nomatch h), fun _ => bv_nil ⟨pc, p4, rfl, fr3.trans fr4, hA4, ok4, hpc⟩⟩
      · rintro ρ M5 ⟨pc, q, rfl, fr5, hA5, ok5, hpc⟩
        refine bv_one (sw_set 4 sc_pieces.nd (ew_catT (ew_ev (ev_var 4 rfl) ⟨_, rfl, ew_ev (ev_tup (av_cons (ev_var 6 rfl) av_nil)) ⟨_, rfl, ?_, ?_⟩⟩)))
        · rw [List.length_map]
          show ps.length + 1 ≤ sizeLine
          exact Nat.le_trans (show _ ≤ 401 by omega) (by decide)
        · refine ⟨ps ++ [pc], some d, some (pcq false pc), q, ?_, fr5, hA5, ok5, by rw [List.length_append, hl]; rfl, fun p h => ?_⟩
          · rw [List.map_append]
            rfl
          · rcases List.mem_append.mp h with h | h
            · exact hp p h
            · rw [List.mem_singleton.mp h]
              exact hpc
    · obtain ⟨ps, x5, x6, q, rfl, fr3, hA3, ok3, hl, hp⟩ := iv
      rw [rgD_len] at hl
      exact bv_one (sv_ret (ev_var 4 rfl) ⟨_, hΦ ps ⟨by omega, by omega, hp⟩ q ok3 _ fr3 hA3, Mle.refl _⟩)
theorem c_amounts (F : Fun K "_law_amounts" "_law_amounts" s_amounts f fd) (hm : mg "_law_amounts" = some (.ref f)) (c_take : Cal P w K mg base 2 "_law_take" (spW K R_take)) (c_pick : Cal P w K mg base 3 "_law_pick" (spW K R_pick)) : Cal P w K mg base 4 "_law_amounts" (spW K R_am) := by
  refine calW_of F sc_amounts hm (fun _ _ _ _ _ _ us hl => match us, hl with | [_], _ => rfl) (fun ds M Φ h => ?_) fun cdv A outer s H E ds M Φ hr h => ?_
  · obtain ⟨a, p, rfl, _⟩ := h
    rfl
  · obtain ⟨a, p, rfl, hA, ok, hΦ⟩ := h
    show BV _ _ [some (dP a)] _ _
    have con : ∀ {X : Cx} {ρ : Sl} {M : Mem} {x : Int} {j} {p : Pos}, EV X (.Constant (.int x) j p) ρ M (dI x) M := ev_int
    refine bv_one (sw_ret (ew_callW c_pick (hr.mono (by decide)) (aw_cons (ew_ev (ev_var 0 rfl) (aw_cons (ew_lst (aw_cons (ew_tup (aw_cons (ew_op op_add (ew_ev ev_int ⟨_, rfl, ?_⟩)))))))))))
    refine ew_callW c_take (hr.mono (by decide)) (aw_av (av_cons (ev_var 0 rfl) (av_cons ev_int av_nil)) ⟨a, p, _, rfl, hA, ok, by decide, by decide, fun n1 lo1 hi1 p1 ok1 M1 fr1 hA1 => ⟨_, _, rfl, rs_I0, aw_av (av_cons con av_nil) ⟨by show 2 ≤ sizeLine; decide, aw_cons (ew_tup (aw_cons (ew_op op_add (ew_ev ev_int ⟨_, rfl, ?_⟩))))⟩⟩⟩)
    refine ew_callW c_take (hr.mono (by decide)) (aw_av (av_cons (ev_var 0 rfl) (av_cons ev_int av_nil)) ⟨a, p1, _, rfl, hA1, ok1, by decide, by decide, fun n2 lo2 hi2 p2 ok2 M2 fr2 hA2 => ⟨_, _, rfl, rs_I0, aw_av (av_cons con av_nil) ⟨by show 2 ≤ sizeLine; decide, aw_cons (ew_tup (aw_cons (ew_op op_add (ew_ev ev_int ⟨_, rfl, ?_⟩))))⟩⟩⟩)
    refine ew_callW c_take (hr.mono (by decide)) (aw_av (av_cons (ev_var 0 rfl) (av_cons ev_int av_nil)) ⟨a, p2, _, rfl, hA2, ok2, by decide, by decide, fun n3 lo3 hi3 p3 ok3 M3 fr3 hA3 => ⟨_, _, rfl, rs_I0, aw_av (av_cons con av_nil) ⟨by show 2 ≤ sizeLine; decide, aw_av (av_cons (ev_tup (av_cons con (av_cons con av_nil))) av_nil) ⟨by show 4 ≤ sizeLine; decide, aw_nil ⟨a, p3, true, _, rfl, hA3, ok3, by simp, by simp, fun d4 g4 p4 ok4 M4 fr4 hA4 => ?_⟩⟩⟩⟩⟩)
    have h4 : ∃ x y : Int, d4 = .tup [dI x, dI y] ∧ 0 < x ∧ x ≤ 400 ∧ 0 < y ∧ y ≤ 9 := by
      simp only [List.mem_cons, List.not_mem_nil, or_false] at g4
      rcases g4 with rfl | rfl | rfl | rfl <;> exact ⟨_, _, rfl, by omega, by omega, by omega, by omega⟩
    obtain ⟨x, y, rfl, x0, x1, y0, y1⟩ := h4
    exact ⟨_, hΦ x y x0 x1 y0 y1 p4 ok4 _ (((fr1.trans fr2).trans fr3).trans fr4) hA4, Mle.refl _⟩
end
theorem cut_mem {ds : List D} {lo hi : Option Int} {d : D} (h : d ∈ cutD ds lo hi) : d ∈ ds := List.mem_of_mem_drop (List.mem_of_mem_take h)
section
variable {P : Program} {w : World} {K : PySem.W.Frag} {mg : Str → Option Value} {base : Heap} {f : Addr} {fd : FuncData}
theorem c_room (F : Fun K "_law_room" "_law_room" s_room f fd) (hm : mg "_law_room" = some (.ref f)) (T : Bt mg) (c_take : Cal P w K mg base 2 "_law_take" (spW K R_take)) (c_sum : Cal P w K mg base 2 "_law_sum" (spD K PrSum)) (c_lowest : Cal P w K mg base 1 "_law_lowest" (spD K PrLow)) : Cal P w K mg base 3 "_law_room" (spW K R_room) := by
  refine calW_of F sc_room hm (fun _ _ _ _ _ _ us hl => match us, hl with | [_, _, _], _ => rfl) (fun ds M Φ h => ?_) fun cdv A outer s H E ds M Φ hr h => ?_
  · obtain ⟨a, p, ps, most, rfl, _⟩ := h
    rfl
  · obtain ⟨a, p, ps, most, rfl, hA, ok, pok, m0, m1, hΦ⟩ := h
    show BV _ _ [some (dP a), some (.tup (ps.map (pcq false))), some (dI most), none, none, none, none, none] _ _
    have l0 := pok.l0
    have l1 := pok.l1
    have e6 : ∀ {X : Cx} {ρ : Sl} {M : Mem} {k1 k2 : Nat} {q1 q2 q3 : Pos}, EV X (.BinOp (.Constant (.int 10) k1 q1) .Pow (.Constant (.int 6) k2 q2) q3) ρ M (dI 1000000) M := ev_op op_pow ev_int ev_int (rs_I ⟨by decide, by decide, by decide⟩)
    refine bv_cons (sw_set 3 sc_room.nd ?_)
    refine ew_callW c_take (hr.mono (by decide)) (aw_av (av_cons (ev_var 0 rfl) (av_cons (ev_to (ev_lenT T.len (ev_var 1 rfl)) (show _ = dI ((ps.length : Nat) : Int) by rw [List.length_map])) av_nil)) ⟨a, p, _, rfl, hA, ok, by omega, by omega, fun n1 lo1 hi1 p1 ok1 M1 fr1 hA1 => ?_⟩)
    refine bv_cons (sv_set 4 sc_room.nd (ev_tup (av_cons ev_int (av_cons ev_int av_nil))) ?_)
    refine bv_cons (sw_for rfl (pg_name (i := 5) sc_room.nd rfl (.inl rfl)) (iw_tup (ew_sliceT (ev_var 1 rfl) (ev_var 3 rfl) (ew_op op_add (ew_ev (ev_op op_add (ev_var 3 rfl) ev_int rs_I0) ⟨_, rfl, ?_⟩)))))
    refine ew_callW c_take (hr.mono (by decide)) (aw_av (av_cons (ev_var 0 rfl) (av_cons (ev_var 2 rfl) av_nil)) ⟨a, p1, _, rfl, hA1, ok1, by omega, by omega, fun n2 lo2 hi2 p2 ok2 M2 fr2 hA2 => ⟨_, _, rfl, rs_I0, _, rfl, _, rfl, ?_⟩⟩)
    refine ⟨fun i ρ M3 => ∃ (x : Int × Int) (x5 x6 : Option D), ρ = [some (dP a), some (.tup (ps.map (pcq false))), some (dI most), some (dI n1), some (frD x), x5, x6, none] ∧ M3 = M2 ∧ MeaOk x, ⟨(0, 1), none, none, rfl, rfl, mea_one (by omega) (by omega)⟩, fun i d ρ' M3 hd iv => ?_, fun ρ' M3 iv => ?_⟩
    · obtain ⟨x, x5, x6, rfl, rfl, hx⟩ := iv
      obtain ⟨pc, hpc, rfl⟩ := List.mem_map.mp (cut_mem (List.mem_of_getElem? hd))
      have hp := pok.pc pc hpc
      refine ⟨_, tg_name, ?_⟩
      have x0 := hx.n0
      have xd := hx.d0
      have y0 := hp.w.n0
      have yd := hp.w.d0
      have d0 : 0 < x.2 * pc.1.2 := Int.mul_pos (by omega) (by omega)
      have n0 : 0 ≤ x.1 * pc.1.2 + pc.1.1 * x.2 := Int.add_nonneg (Int.mul_nonneg x0 (by omega)) (Int.mul_nonneg y0 (by omega))
      refine bv_cons (sv_set 6 sc_room.nd (ev_call c_sum (hr.mono (by decide)) (av_cons (ev_var 4 rfl) (av_cons (ev_ixT (ds := [frq false pc.1, frq false pc.2.1, frq false pc.2.2]) (ev_var 5 rfl) ev_int rfl) av_nil)) ⟨x, pc.1, rfl, hx, hp.w, rfl, rfl⟩) ?_)
      have ld := low_den (n := x.1 * pc.1.2 + pc.1.1 * x.2) d0
      have lg := low_gz (n := x.1 * pc.1.2 + pc.1.1 * x.2) d0
      have ln : 0 ≤ (low (x.1 * pc.1.2 + pc.1.1 * x.2) (x.2 * pc.1.2)).1 := Int.ediv_nonneg n0 (Int.le_of_lt (gz_pos (by omega)))
      generalize low (x.1 * pc.1.2 + pc.1.1 * x.2) (x.2 * pc.1.2) = y at ld lg ln
      refine bv_one (sv_if (PW.pt (wv_and (p := decide (y.1 ≤ 1000000)) (q := decide (y.2 ≤ 1000)) (tv_cmpR op_le (ev_ixT (ds := [dI y.1, dI y.2]) (ev_var 6 rfl) ev_int rfl) e6 rs_I0 (nomark _)) (fun _ => wv_one_and (tv_cmpR op_le (ev_ixT (ds := [dI y.1, dI y.2]) (ev_var 6 rfl) ev_int rfl) ev_int rs_I0 (nomark _))))) (fun h => ?_) (fun _ => bv_nil ⟨x, _, _, rfl, rfl, hx⟩))
      rw [Bool.and_eq_true, decide_eq_true_iff, decide_eq_true_iff] at h
      exact bv_one (sv_set 4 sc_room.nd (ev_var 6 rfl) ⟨y, some (pcq false pc), some (frD y), rfl, rfl, ln, h.1, by omega, h.2, lg⟩)
    · obtain ⟨x, x5, x6, rfl, rfl, hx⟩ := iv
      have hr0 : RoomW x 1000000 := ⟨hx.n0, hx.n1, hx.d0, hx.d1, hx.g⟩
      have fr2' := fr1.trans fr2
      refine bv_cons (sw_set 7 sc_room.nd ?_)
      refine ew_callW c_take (hr.mono (by decide)) (aw_av (av_cons (ev_var 0 rfl) (av_cons ev_int av_nil)) ⟨a, p2, _, rfl, hA2, ok2, by decide, by decide, fun n3 lo3 hi3 p3 ok3 M3 fr3 hA3 => ?_⟩)
      refine bv_cons (sv_join (fun ρ M4 => ∃ (x : Int × Int) (q : Pool), ρ = [some (dP a), some (.tup (ps.map (pcq false))), some (dI most), some (dI n1), some (frD x), x5, x6, some (dI n3)] ∧ Fr1 a M M4 ∧ M4 a = some (Pool.mo q) ∧ q.Ok ∧ RoomW x 1000002) (sv_if (tv_cmpR op_eq (ev_var 7 rfl) ev_int rs_eqI (nomark _)) (fun _ => ?_) (fun _ => bv_nil ⟨x, p3, rfl, fr2'.trans fr3, hA3, ok3, hr0.le (by decide)⟩)) ?_)
      · have xb : Bd 20 x.1 := Bd.of (m := 1000000) (by have := hr0.n0; have := hr0.n1; omega) (by decide)
        have xd : Bd 10 x.2 := Bd.of (m := 1000) (by have := hr0.d0; have := hr0.d1; omega) (by decide)
        refine bv_one (sw_set 4 sc_room.nd (ew_tup (aw_cons (ew_op op_add (ew_ev (ev_op op_fdivW (ev_ixT (ds := [dI x.1, dI x.2]) (ev_var 4 rfl) ev_int rfl) (ev_ixT (ds := [dI x.1, dI x.2]) (ev_var 4 rfl) ev_int rfl) (rs_I (xd.cd (by have := hr0.d0; omega)))) ⟨_, rfl, ?_⟩)))))
        refine ew_callW c_take (hr.mono (by decide)) (aw_av (av_cons (ev_var 0 rfl) (av_cons ev_int av_nil)) ⟨a, p3, _, rfl, hA3, ok3, by decide, by decide, fun n4 lo4 hi4 p4 ok4 M4 fr4 hA4 => ⟨_, _, rfl, rs_I0, aw_av (av_cons ev_int av_nil) ⟨by show 2 ≤ sizeLine; decide, ?_⟩⟩⟩)
        have q0 : 0 ≤ x.1 / x.2 := Int.ediv_nonneg hr0.n0 (by have := hr0.d0; omega)
        have q1 : x.1 / x.2 ≤ x.1 := Int.ediv_le_self _ hr0.n0
        have q2 := hr0.n1
        exact ⟨(x.1 / x.2 + n4, 1), p4, rfl, (fr2'.trans fr3).trans fr4, hA4, ok4, by show 0 ≤ x.1 / x.2 + n4; omega, by show x.1 / x.2 + n4 ≤ _; omega, by show (1 : Int) ≤ 1; omega, by show (1 : Int) ≤ 1000; omega, gz_one _⟩
      · rintro ρ M4 ⟨x, q, rfl, fr4, hA4, ok4, hx4⟩
        refine bv_cons (sv_join (fun ρ M5 => ∃ (x : Int × Int), ρ = [some (dP a), some (.tup (ps.map (pcq false))), some (dI most), some (dI n1), some (frD x), x5, x6, some (dI n3)] ∧ M5 = M4 ∧ RoomW x 3000000) (sv_if (PW.pt (wv_and (p := decide (n3 = 1)) (q := decide (x.2 = 1)) (tv_cmpR op_eq (ev_var 7 rfl) ev_int rs_eqI (nomark _)) (fun _ => wv_one_and (tv_cmpR op_eq (ev_ixT (ds := [dI x.1, dI x.2]) (ev_var 4 rfl) ev_int rfl) ev_int rs_eqI (nomark _))))) (fun _ => ?_) (fun _ => bv_nil ⟨x, rfl, rfl, hx4.le (by decide)⟩)) ?_)
        · have a0 := hx4.n0
          have a1 := hx4.n1
          have nb : Bd 22 (2 * x.1 + 1) := Bd.of (m := 3000000) (by omega) (by decide)
          have g0 := gz_pos (n := 2 * x.1 + 1) (show (2 : Int) ≠ 0 by decide)
          have ld := low_den (n := 2 * x.1 + 1) (show (0 : Int) < 2 by decide)
          refine bv_one (sv_set 4 sc_room.nd (ev_call c_lowest (hr.mono (by decide)) (av_cons (ev_op op_add (ev_op op_mul ev_int (ev_ixT (ds := [dI x.1, dI x.2]) (ev_var 4 rfl) ev_int rfl) (rs_I (cm_l (by decide) (by decide)))) ev_int rs_I0) (av_cons ev_int av_nil)) (low_at (by decide) (nb.mono (by decide)) ((Bd.of (m := 2) (k := 10) (by omega) (by decide)).mono (by decide)))) ⟨low (2 * x.1 + 1) 2, rfl, rfl, Int.ediv_nonneg (by omega) (by omega), ?_, by omega, ?_, low_gz (by decide)⟩)
          · exact Int.le_trans (Int.ediv_le_self _ (by omega)) (by omega)
          · exact Int.le_trans (Int.ediv_le_self _ (by decide)) (by decide)
        · rintro ρ M5 ⟨x, rfl, rfl, hx5⟩
          have z0 := hx5.n0
          refine bv_cons (sv_if (PW.pt (wv_or (p := decide (x.1 = 0)) (q := decide (x.1 > 1000000)) (tv_cmpR op_eq (ev_ixT (ds := [dI x.1, dI x.2]) (ev_var 4 rfl) ev_int rfl) ev_int rs_eqI (nomark _)) (fun _ => wv_one_or (tv_cmpR op_gt (ev_ixT (ds := [dI x.1, dI x.2]) (ev_var 4 rfl) ev_int rfl) e6 rs_I0 (nomark _))))) (fun _ => ?_) (fun h => bv_nil ?_))
          · exact bv_one (sv_ret (ev_tup (av_cons ev_int (av_cons ev_int av_nil))) ⟨_, hΦ (1, 1) ⟨mea_one (by decide) (by decide), by show (0 : Int) < 1; decide⟩ q ok4 _ fr4 hA4, Mle.refl _⟩)
          · rw [Bool.or_eq_false_iff, decide_eq_false_iff_not, decide_eq_false_iff_not] at h
            exact bv_one (sv_ret (ev_var 4 rfl) ⟨_, hΦ x ⟨⟨hx5.n0, by omega, hx5.d0, hx5.d1, hx5.g⟩, by omega⟩ q ok4 _ fr4 hA4, Mle.refl _⟩)
end
/-! ways through the lines, least sums -/
inductive Pth (rs : Rows) : Nat → Nat → Int → Prop where
  | nil (i : Nat) : Pth rs i i 0
  | cons {i j : Nat} {r : List (Nat × Int)} {x : Nat × Int} {c : Int} (h : rs[i]? = some r) (m : x ∈ r) (t : Pth rs x.1 j c) : Pth rs i j (x.2 + c)
theorem Pth.to {rs : Rows} {i j : Nat} {c c' : Int} (h : Pth rs i j c) (e : c = c') : Pth rs i j c' := e ▸ h
theorem Pth.snoc {rs : Rows} {i j : Nat} {c : Int} {r : List (Nat × Int)} {x : Nat × Int} (h : Pth rs i j c) (hr : rs[j]? = some r) (m : x ∈ r) : Pth rs i x.1 (c + x.2) := by
  induction h with
  | nil i => exact (Pth.cons hr m (.nil _)).to (by omega)
  | cons h' m' t ih => exact (Pth.cons h' m' (ih hr)).to (by omega)
abbrev OL := List (Option Int)
def relax (c : Int) (xs : OL) (x : Nat × Int) : OL :=
  match xs.getD x.1 none with
  | none => xs.set x.1 (some (c + x.2))
  | some d => if c + x.2 < d then xs.set x.1 (some (c + x.2)) else xs
def fwd (rs : Rows) : Nat → OL
  | 0 => some 0 :: List.replicate rs.length none
  | k + 1 => match (fwd rs k).getD k none with
    | none => fwd rs k
    | some c => (rs.getD k []).foldl (relax c) (fwd rs k)
def least (rs : Rows) : OL := fwd rs rs.length
theorem set_getD_self {α : Type} {l : List α} {i : Nat} {x y : α} (h : i < l.length) : (l.set i x).getD i y = x := by
  rw [List.getD_eq_getElem?_getD, List.getElem?_set_self h]
  rfl
theorem set_getD_ne {α : Type} {l : List α} {i j : Nat} {x y : α} (h : i ≠ j) : (l.set i x).getD j y = l.getD j y := by
  rw [List.getD_eq_getElem?_getD, List.getElem?_set_ne h, List.getD_eq_getElem?_getD]
theorem relax_len (c : Int) (xs : OL) (x : Nat × Int) : (relax c xs x).length = xs.length := by
  unfold relax
  split
  · exact List.length_set
  · split
    · exact List.length_set
    · rfl
theorem folds_len (c : Int) : ∀ (r : List (Nat × Int)) (xs : OL), (r.foldl (relax c) xs).length = xs.length
  | [], _ => rfl
  | x :: r, xs => by rw [List.foldl_cons, folds_len c r, relax_len]
theorem fwd_len (rs : Rows) : ∀ k, (fwd rs k).length = rs.length + 1
  | 0 => by
    unfold fwd
    rw [List.length_cons, List.length_replicate]
  | k + 1 => by
    unfold fwd
    split
    · exact fwd_len rs k
    · rw [folds_len, fwd_len rs k]
theorem least_len (rs : Rows) : (least rs).length = rs.length + 1 := fwd_len rs _
/-- nothing greater -/
def OLe (xs ys : OL) : Prop := ∀ j d, xs.getD j none = some d → ∃ d', ys.getD j none = some d' ∧ d' ≤ d
theorem OLe.refl (xs : OL) : OLe xs xs := fun _ d h => ⟨d, h, Int.le_refl _⟩
theorem OLe.trans {xs ys zs : OL} (h : OLe xs ys) (k : OLe ys zs) : OLe xs zs := fun j d e => by
  obtain ⟨d1, e1, l1⟩ := h j d e
  obtain ⟨d2, e2, l2⟩ := k j d1 e1
  exact ⟨d2, e2, Int.le_trans l2 l1⟩
theorem relax_ne {c : Int} {xs : OL} {x : Nat × Int} {j : Nat} (h : x.1 ≠ j) : (relax c xs x).getD j none = xs.getD j none := by
  unfold relax
  split
  · exact set_getD_ne h
  · split
    · exact set_getD_ne h
    · rfl
/-- what stands at the stop then -/
theorem relax_at {c : Int} {xs : OL} {x : Nat × Int} (h : x.1 < xs.length) : ∃ d, (relax c xs x).getD x.1 none = some d ∧ d ≤ c + x.2 ∧ (d = c + x.2 ∨ xs.getD x.1 none = some d) := by
  unfold relax
  split
  · exact ⟨_, set_getD_self h, Int.le_refl _, .inl rfl⟩
  · rename_i d e
    split
    · exact ⟨_, set_getD_self h, Int.le_refl _, .inl rfl⟩
    · exact ⟨d, e, by omega, .inr e⟩
theorem relax_le {c : Int} {xs : OL} {x : Nat × Int} : OLe xs (relax c xs x) := fun j d e => by
  by_cases hj : x.1 = j
  · subst hj
    unfold relax
    rw [e]
    show ∃ d', (if c + x.2 < d then xs.set x.1 (some (c + x.2)) else xs).getD x.1 none = some d' ∧ d' ≤ d
    have hl : x.1 < xs.length := by
      rw [List.getD_eq_getElem?_getD] at e
      cases q : xs[x.1]? with
      | none =>
        rw [q] at e
        cases e
      | some y => exact (List.getElem?_eq_some_iff.mp q).1
    split
    · exact ⟨_, set_getD_self hl, by omega⟩
    · exact ⟨d, e, Int.le_refl _⟩
  · exact ⟨d, by rw [relax_ne hj]; exact e, Int.le_refl _⟩
theorem folds_le (c : Int) : ∀ (r : List (Nat × Int)) (xs : OL), OLe xs (r.foldl (relax c) xs)
  | [], _ => OLe.refl _
  | x :: r, xs => by
    rw [List.foldl_cons]
    exact relax_le.trans (folds_le c r _)
theorem folds_ne {c : Int} {j : Nat} : ∀ (r : List (Nat × Int)) (xs : OL), (∀ x ∈ r, x.1 ≠ j) → (r.foldl (relax c) xs).getD j none = xs.getD j none
  | [], _, _ => rfl
  | x :: r, xs, h => by
    rw [List.foldl_cons, folds_ne r _ fun y hy => h y (List.mem_cons_of_mem _ hy), relax_ne (h x List.mem_cons_self)]
theorem folds_at {c : Int} : ∀ (r : List (Nat × Int)) (xs : OL), (∀ x ∈ r, x.1 < xs.length) → ∀ x ∈ r, ∃ d, (r.foldl (relax c) xs).getD x.1 none = some d ∧ d ≤ c + x.2
  | [], _, _, x, hx => absurd hx List.not_mem_nil
  | y :: r, xs, h, x, hx => by
    rw [List.foldl_cons]
    rcases List.mem_cons.mp hx with rfl | hx
    · obtain ⟨d, e, l, _⟩ := relax_at (c := c) (h x List.mem_cons_self)
      obtain ⟨d2, e2, l2⟩ := folds_le c r _ _ _ e
      exact ⟨d2, e2, Int.le_trans l2 l⟩
    · exact folds_at r _ (fun z hz => by rw [relax_len]; exact h z (List.mem_cons_of_mem _ hz)) x hx
/-- all that stands there is the sum of a way -/
def Snd (rs : Rows) (xs : OL) : Prop := ∀ j d, xs.getD j none = some d → Pth rs 0 j d
theorem folds_snd {rs : Rows} {c : Int} {k : Nat} {r0 : List (Nat × Int)} (hr : rs[k]? = some r0) (hp : Pth rs 0 k c) : ∀ (r : List (Nat × Int)) (xs : OL), (∀ x ∈ r, x ∈ r0 ∧ x.1 < xs.length) → Snd rs xs → Snd rs (r.foldl (relax c) xs)
  | [], _, _, s => s
  | x :: r, xs, h, s => by
    rw [List.foldl_cons]
    refine folds_snd hr hp r _ (fun z hz => by rw [relax_len]; exact h z (List.mem_cons_of_mem _ hz)) fun j d e => ?_
    obtain ⟨m0, l0⟩ := h x List.mem_cons_self
    by_cases hj : x.1 = j
    · subst hj
      obtain ⟨d2, e2, _, q⟩ := relax_at (c := c) l0
      rw [e2] at e
      cases e
      rcases q with rfl | q
      · exact hp.snoc hr m0
      · exact s _ _ q
    · rw [relax_ne hj] at e
      exact s _ _ e
theorem fwd_snd {rs : Rows} (ok : RowsOk rs) : ∀ k, k ≤ rs.length → Snd rs (fwd rs k)
  | 0, _ => fun j d e => by
    cases j with
    | zero =>
      have e : some (0 : Int) = some d := e
      cases e
      exact .nil 0
    | succ j =>
      have e : (List.replicate rs.length (none : Option Int)).getD j none = some d := e
      rw [List.getD_eq_getElem?_getD, List.getElem?_replicate] at e
      split at e <;> cases e
  | k + 1, h => by
    have ih := fwd_snd ok k (by omega)
    unfold fwd
    split
    · exact ih
    · rename_i c e
      have hr := List.getElem?_eq_getElem (l := rs) (i := k) (by omega)
      refine folds_snd hr (ih k c e) _ _ (fun x hx => ?_) ih
      rw [getD_of hr] at hx
      have := ok.lt k _ hr x hx
      exact ⟨hx, by rw [fwd_len]; omega⟩
/-- nothing better over a line that begins ahead of k -/
def Pot (rs : Rows) (xs : OL) (k : Nat) : Prop := ∀ i, i < k → ∀ c, xs.getD i none = some c → ∀ r, rs[i]? = some r → ∀ x ∈ r, ∃ d, xs.getD x.1 none = some d ∧ d ≤ c + x.2
theorem fwd_pot {rs : Rows} (ok : RowsOk rs) : ∀ k, k ≤ rs.length → Pot rs (fwd rs k) k ∧ (fwd rs k).getD 0 none = some 0
  | 0, _ => ⟨fun i hi => absurd hi (Nat.not_lt_zero _), rfl⟩
  | k + 1, h => by
    obtain ⟨ih, z⟩ := fwd_pot ok k (by omega)
    have hr := List.getElem?_eq_getElem (l := rs) (i := k) (by omega)
    unfold fwd
    split
    · rename_i e
      refine ⟨fun i hi c ec r er x hx => ?_, z⟩
      by_cases hk : i = k
      · subst hk
        rw [e] at ec
        cases ec
      · exact ih i (by omega) c ec r er x hx
    · rename_i c e
      have hx0 : ∀ x ∈ rs.getD k [], k < x.1 ∧ x.1 < (fwd rs k).length := fun x hx => by
        rw [getD_of hr] at hx
        have := ok.lt k _ hr x hx
        rw [fwd_len]
        omega
      have kp : ∀ i, i ≤ k → ((rs.getD k []).foldl (relax c) (fwd rs k)).getD i none = (fwd rs k).getD i none := fun i hi => folds_ne _ _ fun x hx => by
        have := hx0 x hx
        omega
      refine ⟨fun i hi c' ec r er x hx => ?_, by rw [kp 0 (Nat.zero_le _)]; exact z⟩
      rw [kp i (by omega)] at ec
      by_cases hk : i = k
      · subst hk
        rw [e] at ec
        cases ec
        rw [hr] at er
        cases er
        exact folds_at _ _ (fun y hy => (hx0 y hy).2) x (by rw [getD_of hr]; exact hx)
      · obtain ⟨d, ed, ld⟩ := ih i (by omega) c' ec r er x hx
        obtain ⟨d2, e2, l2⟩ := folds_le c (rs.getD k []) _ _ _ ed
        exact ⟨d2, e2, Int.le_trans l2 ld⟩
theorem least_snd {rs : Rows} (ok : RowsOk rs) {j : Nat} {d : Int} (h : (least rs).getD j none = some d) : Pth rs 0 j d := fwd_snd ok _ (Nat.le_refl _) j d h
theorem least_cmp {rs : Rows} (ok : RowsOk rs) {j : Nat} {c : Int} (h : Pth rs 0 j c) : ∃ d, (least rs).getD j none = some d ∧ d ≤ c := by
  obtain ⟨p, z⟩ := fwd_pot ok rs.length (Nat.le_refl _)
  have key : ∀ {i j : Nat} {c : Int}, Pth rs i j c → ∀ a, (least rs).getD i none = some a → ∃ d, (least rs).getD j none = some d ∧ d ≤ a + c := fun {i j c} h => by
    induction h with
    | nil i => exact fun a e => ⟨a, e, by omega⟩
    | cons h' m' t ih =>
      intro a e
      have hi := (List.getElem?_eq_some_iff.mp h').1
      obtain ⟨d, ed, ld⟩ := p _ hi a e _ h' _ m'
      obtain ⟨d2, e2, l2⟩ := ih d ed
      exact ⟨d2, e2, by omega⟩
  obtain ⟨d, e, l⟩ := key h 0 z
  exact ⟨d, e, by omega⟩
/-! the best from the end -/
abbrev BE := Int × Int × Option Nat
theorem argBest_min (l : Nat → List Int) : ∀ k, argBest (fun i j => HT.lexLt (l i) (l j)) k ≤ k ∧ ∀ j, j ≤ k → HT.lexLt (l j) (l (argBest (fun i j => HT.lexLt (l i) (l j)) k)) = false
  | 0 => ⟨Nat.le_refl _, fun j hj => by
    obtain rfl : j = 0 := by omega
    show HT.lexLt (l 0) (l 0) = false
    cases q : HT.lexLt (l 0) (l 0) with
    | false => rfl
    | true => rw [← q]; exact lexLt_asym q⟩
  | k + 1 => by
    obtain ⟨h1, h2⟩ := argBest_min l k
    unfold argBest
    split
    · rename_i q
      refine ⟨Nat.le_refl _, fun j hj => ?_⟩
      by_cases e : j = k + 1
      · subst e
        cases q2 : HT.lexLt (l (k + 1)) (l (k + 1)) with
        | false => rfl
        | true => rw [← q2]; exact lexLt_asym q2
      · exact lexLt_tr (lexLt_asym q) (h2 j (by omega))
    · rename_i q
      refine ⟨by omega, fun j hj => ?_⟩
      by_cases e : j = k + 1
      · rw [e]
        exact eq_false_of_ne_true q
      · exact h2 j (by omega)
def cand (told : List (Option BE)) (r : List (Nat × Int)) : List (List Int) := r.filterMap fun x => (told.getD x.1 none).map fun e => [x.2 + e.1, 1 + e.2.1, (x.1 : Int)]
def rank (told : List (Option BE)) (r : List (Nat × Int)) : Option BE :=
  if (cand told r).length = 0 then none else some ((mnL (cand told r)).getD 0 0, (mnL (cand told r)).getD 1 0, some ((mnL (cand told r)).getD 2 0).toNat)
def bk (rs : Rows) : Nat → List (Option BE)
  | 0 => List.replicate rs.length none ++ [some (0, 0, none)]
  | k + 1 => (bk rs k).set (rs.length - 1 - k) (rank (bk rs k) (rs.getD (rs.length - 1 - k) []))
def best (rs : Rows) : List (Option BE) := bk rs rs.length
theorem bk_len (rs : Rows) : ∀ k, (bk rs k).length = rs.length + 1
  | 0 => by
    unfold bk
    rw [List.length_append, List.length_replicate]
    rfl
  | k + 1 => by
    unfold bk
    rw [List.length_set, bk_len rs k]
theorem bk_keep (rs : Rows) {k m j : Nat} (hj : rs.length ≤ j + k) : k ≤ m → m ≤ rs.length → (bk rs m).getD j none = (bk rs k).getD j none := fun h1 h2 => by
  induction m with
  | zero =>
    obtain rfl : k = 0 := by omega
    rfl
  | succ m ih =>
    by_cases e : k = m + 1
    · rw [e]
    · rw [← ih (by omega) (by omega)]
      show ((bk rs m).set _ _).getD j none = _
      exact set_getD_ne (by omega)
theorem best_len (rs : Rows) : (best rs).length = rs.length + 1 := bk_len rs _
theorem best_end (rs : Rows) : (best rs).getD rs.length none = some (0, 0, none) := by
  unfold best
  rw [bk_keep rs (k := 0) (by omega) (by omega) (Nat.le_refl _)]
  unfold bk
  rw [List.getD_eq_getElem?_getD, List.getElem?_append_right (by rw [List.length_replicate]; omega), List.length_replicate, Nat.sub_self]
  rfl
theorem cand_congr {t t' : List (Option BE)} : ∀ {r : List (Nat × Int)}, (∀ x ∈ r, t.getD x.1 none = t'.getD x.1 none) → cand t r = cand t' r
  | [], _ => rfl
  | x :: r, h => by
    unfold cand
    rw [List.filterMap_cons, List.filterMap_cons, h x List.mem_cons_self]
    have ih := cand_congr (r := r) fun y hy => h y (List.mem_cons_of_mem _ hy)
    unfold cand at ih
    rw [ih]
theorem best_at {rs : Rows} (ok : RowsOk rs) {i : Nat} {r : List (Nat × Int)} (h : rs[i]? = some r) : (best rs).getD i none = rank (best rs) r := by
  have hi := (List.getElem?_eq_some_iff.mp h).1
  have e1 : (best rs).getD i none = (bk rs (rs.length - 1 - i + 1)).getD i none := bk_keep rs (by omega) (by omega) (Nat.le_refl _)
  rw [e1]
  show ((bk rs (rs.length - 1 - i)).set _ _).getD i none = _
  rw [show rs.length - 1 - (rs.length - 1 - i) = i by omega, getD_of h, set_getD_self (by rw [bk_len]; omega)]
  have e : cand (bk rs (rs.length - 1 - i)) r = cand (best rs) r := cand_congr fun x hx => by
    have := ok.lt i r h x hx
    exact (bk_keep rs (by omega) (by omega) (Nat.le_refl _)).symm
  unfold rank
  rw [e]
theorem mem_cand {t : List (Option BE)} {r : List (Nat × Int)} {ns : List Int} (h : ns ∈ cand t r) : ∃ x ∈ r, ∃ e, t.getD x.1 none = some e ∧ ns = [x.2 + e.1, 1 + e.2.1, (x.1 : Int)] := by
  unfold cand at h
  obtain ⟨x, hx, e⟩ := List.mem_filterMap.mp h
  cases q : t.getD x.1 none with
  | none =>
    rw [q] at e
    cases e
  | some y =>
    rw [q] at e
    cases e
    exact ⟨x, hx, y, q, rfl⟩
theorem cand_mem {t : List (Option BE)} {r : List (Nat × Int)} {x : Nat × Int} {e : BE} (hx : x ∈ r) (h : t.getD x.1 none = some e) : [x.2 + e.1, 1 + e.2.1, (x.1 : Int)] ∈ cand t r := by
  unfold cand
  exact List.mem_filterMap.mpr ⟨x, hx, by rw [h]; rfl⟩
theorem mnL_mem {nss : List (List Int)} (h : 0 < nss.length) : mnL nss ∈ nss ∧ ∀ ns ∈ nss, HT.lexLt ns (mnL nss) = false := by
  obtain ⟨h1, h2⟩ := argBest_min (fun i => nss.getD i []) (nss.length - 1)
  have hl : argBest (fun i j => HT.lexLt (nss.getD i []) (nss.getD j [])) (nss.length - 1) < nss.length := by omega
  refine ⟨?_, fun ns hn => ?_⟩
  · unfold mnL
    rw [getD_of (List.getElem?_eq_getElem hl)]
    exact List.getElem_mem hl
  · obtain ⟨i, hi, e⟩ := List.getElem_of_mem hn
    have := h2 i (by omega)
    rw [getD_of (List.getElem?_eq_getElem hi), e] at this
    exact this
theorem lex_fst {a b : Int} {xs ys : List Int} (h : HT.lexLt (a :: xs) (b :: ys) = false) : b ≤ a := by
  have h : (if a = b then HT.lexLt xs ys else decide (a < b)) = false := h
  split at h
  · omega
  · have := of_decide_eq_false h
    omega
theorem rank_none {t : List (Option BE)} {r : List (Nat × Int)} (h : rank t r = none) : ∀ x ∈ r, t.getD x.1 none = none := fun x hx => by
  unfold rank at h
  split at h
  · rename_i q
    cases e : t.getD x.1 none with
    | none => rfl
    | some y =>
      have m := cand_mem hx e
      rw [List.length_eq_zero_iff.mp q] at m
      cases m
  · cases h
theorem rank_some {t : List (Option BE)} {r : List (Nat × Int)} {e : BE} (h : rank t r = some e) : ∃ x ∈ r, ∃ y, t.getD x.1 none = some y ∧ e = (x.2 + y.1, 1 + y.2.1, some x.1) ∧ ∀ z ∈ r, ∀ u, t.getD z.1 none = some u → HT.lexLt [z.2 + u.1, 1 + u.2.1, (z.1 : Int)] [x.2 + y.1, 1 + y.2.1, (x.1 : Int)] = false := by
  unfold rank at h
  split at h
  · cases h
  · rename_i q
    obtain ⟨m, l⟩ := mnL_mem (nss := cand t r) (by omega)
    obtain ⟨x, hx, y, ey, em⟩ := mem_cand m
    refine ⟨x, hx, y, ey, ?_, fun z hz u eu => ?_⟩
    · rw [em] at h
      cases h
      rfl
    · have := l _ (cand_mem hz eu)
      rw [em] at this
      exact this
theorem best_snd {rs : Rows} (ok : RowsOk rs) : ∀ m i, (i ≤ rs.length ∧ rs.length ≤ i + m) → ∀ e, (best rs).getD i none = some e → Pth rs i rs.length e.1
  | 0, i, hi, e, h => by
    obtain rfl : i = rs.length := by omega
    rw [best_end] at h
    cases h
    exact .nil _
  | m + 1, i, hi, e, h => by
    by_cases q : i = rs.length
    · subst q
      rw [best_end] at h
      cases h
      exact .nil _
    · have hr := List.getElem?_eq_getElem (l := rs) (i := i) (by omega)
      rw [best_at ok hr] at h
      obtain ⟨x, hx, y, ey, rfl, _⟩ := rank_some h
      have lt := ok.lt i _ hr x hx
      exact .cons hr hx (best_snd ok m x.1 ⟨lt.2, by omega⟩ y ey)
theorem best_cmp {rs : Rows} (ok : RowsOk rs) {i j : Nat} {c : Int} (h : Pth rs i j c) : j = rs.length → ∃ e, (best rs).getD i none = some e ∧ e.1 ≤ c := by
  induction h with
  | nil i =>
    intro e
    subst e
    exact ⟨_, best_end rs, Int.le_refl _⟩
  | cons h' m' t ih =>
    intro e
    obtain ⟨y, ey, ly⟩ := ih e
    rw [best_at ok h']
    cases q : rank (best rs) _ with
    | none =>
      have := rank_none q _ m'
      rw [ey] at this
      cases this
    | some z =>
      obtain ⟨x, hx, u, eu, rfl, mn⟩ := rank_some q
      have := lex_fst (mn _ m' _ ey)
      exact ⟨_, rfl, by show x.2 + u.1 ≤ _; omega⟩
/-- both ways tell the same sum -/
theorem best_least {rs : Rows} (ok : RowsOk rs) : ((best rs).getD 0 none).map (·.1) = (least rs).getD rs.length none := by
  cases q : (best rs).getD 0 none with
  | none =>
    cases p : (least rs).getD rs.length none with
    | none => rfl
    | some d =>
      obtain ⟨e, he, _⟩ := best_cmp ok (least_snd ok p) rfl
      rw [q] at he
      cases he
  | some e =>
    have p := best_snd ok rs.length 0 ⟨by omega, by omega⟩ e q
    obtain ⟨d, hd, ld⟩ := least_cmp ok p
    obtain ⟨e', he', le'⟩ := best_cmp ok (least_snd ok hd) rfl
    rw [q] at he'
    cases he'
    rw [hd]
    show some e.1 = some d
    rw [show e.1 = d by omega]
/-- the stops of the best way -/
def bwk (rs : Rows) : Nat → Nat → List Nat
  | 0, _ => []
  | m + 1, a => match (best rs).getD a none with
    | some (_, _, some s) => s :: bwk rs m s
    | _ => []
theorem bwk_end (rs : Rows) (m : Nat) : bwk rs m rs.length = [] := by
  cases m with
  | zero => rfl
  | succ m =>
    unfold bwk
    rw [best_end]
theorem bwk_len (rs : Rows) : ∀ m a, (bwk rs m a).length ≤ m
  | 0, _ => Nat.le_refl _
  | m + 1, a => by
    unfold bwk
    split
    · rw [List.length_cons]
      have := bwk_len rs m
      exact Nat.succ_le_succ (this _)
    · exact Nat.zero_le _
theorem best_next {rs : Rows} (ok : RowsOk rs) {a : Nat} (ha : a < rs.length) {e : BE} (h : (best rs).getD a none = some e) : ∃ s u, e = (e.1, e.2.1, some s) ∧ a < s ∧ s ≤ rs.length ∧ (best rs).getD s none = some u ∧ ∀ m, bwk rs (m + 1) a = s :: bwk rs m s := by
  have hr := List.getElem?_eq_getElem (l := rs) (i := a) ha
  have h0 := h
  rw [best_at ok hr] at h
  obtain ⟨x, hx, y, ey, rfl, _⟩ := rank_some h
  have lt := ok.lt a _ hr x hx
  refine ⟨x.1, y, rfl, lt.1, lt.2, ey, fun m => ?_⟩
  show (match (best rs).getD a none with
    | some (_, _, some s) => s :: bwk rs m s
    | _ => []) = _
  rw [h0]
section
variable {X : Cx} {ρ : Sl} {M : Mem} {pos : Pos} {Φ : D → Mem → Prop}
/-- [y] * n + [x] -/
theorem ew_padOne {en ex ey : Expr} {p1 p2 p3 : Pos} {n : Nat} {dx dy : D} (hy : ∀ M, EV X ey ρ M dy M) (hn : ∀ M, EV X en ρ M (dI ((n : Nat) : Int)) M) (hx : ∀ M, EV X ex ρ M dx M) (h1 : n ≤ 100000) (hΦ : ∀ l, M l = none → Φ (dP l) (M.set l (.lst (List.replicate n dy ++ [dx]))))
    (hs1 : starEach [ey] X.env = (false, eval ey X.env) :: starEach [] X.env := by rfl) (hs2 : starEach [ex] X.env = (false, eval ex X.env) :: starEach [] X.env := by rfl) : EW X (.BinOp (.BinOp (.List [ey] p1) .Mult en p2) .Add (.List [ex] p3) pos) ρ M Φ := by
  refine ew_drop (ew_catNN (ew_mulN (ew_lstN (aw_av (av_cons (hy _) av_nil hs1) ⟨by show 1 ≤ sizeLine; decide, fun p hp => ⟨p, _, rfl, Mem.set_same, ew_ev (hn _) ⟨(n : Int), rfl, Mem.set_same, by omega, by omega, ?_, fun l hl => ⟨l, _, rfl, Mem.set_same, ew_lstN (aw_av (av_cons (hx _) av_nil hs2) ⟨by show 1 ≤ sizeLine; decide, fun q hq => ⟨q, [dx], rfl, ?_, Mem.set_same, ?_, fun r hr => ?_⟩⟩)⟩⟩⟩⟩))))
  · show 1 * ((n : Int)).toNat ≤ sizeLine
    exact Nat.le_trans (show _ ≤ 100000 by omega) (by decide)
  · rw [Mem.set_ne (fun h => by rw [← h, Mem.set_same] at hq; cases hq)]
    exact Mem.set_same
  · rw [List.length_flatten, List.map_replicate, List.sum_replicate_nat]
    show ((n : Int)).toNat * 1 + 1 ≤ sizeLine
    exact Nat.le_trans (show _ ≤ 100001 by omega) (by decide)
  · have rq : r ≠ q := fun h => by rw [h, Mem.set_same] at hr; cases hr
    rw [Mem.set_ne rq] at hr
    have rl : r ≠ l := fun h => by rw [h, Mem.set_same] at hr; cases hr
    rw [Mem.set_ne rl] at hr
    have rp : r ≠ p := fun h => by rw [h, Mem.set_same] at hr; cases hr
    rw [Mem.set_ne rp] at hr
    refine ⟨M.set r (.lst (List.replicate n dy ++ [dx])), ?_, hΦ r hr⟩
    have e : (List.replicate ((n : Int)).toNat [dy]).flatten = List.replicate n dy := by
      rw [Int.toNat_natCast]
      exact rep_flat1 _ n
    rw [← e]
    exact mle_set (((mle_at hp).trans (mle_at hl)).trans (mle_at hq))
/-- [x] + [y] * n -/
theorem ew_onePad {en ex ey : Expr} {p1 p2 p3 : Pos} {n : Nat} {dx dy : D} (hx : ∀ M, EV X ex ρ M dx M) (hy : ∀ M, EV X ey ρ M dy M) (hn : ∀ M, EV X en ρ M (dI ((n : Nat) : Int)) M) (h1 : n ≤ 100000) (hΦ : ∀ l, M l = none → Φ (dP l) (M.set l (.lst (dx :: List.replicate n dy))))
    (hs1 : starEach [ey] X.env = (false, eval ey X.env) :: starEach [] X.env := by rfl) (hs2 : starEach [ex] X.env = (false, eval ex X.env) :: starEach [] X.env := by rfl) : EW X (.BinOp (.List [ex] p1) .Add (.BinOp (.List [ey] p2) .Mult en p3) pos) ρ M Φ := by
  refine ew_drop (ew_catNN (ew_lstN (aw_av (av_cons (hx _) av_nil hs2) ⟨by show 1 ≤ sizeLine; decide, fun p hp => ⟨p, _, rfl, Mem.set_same, ew_mulN (ew_lstN (aw_av (av_cons (hy _) av_nil hs1) ⟨by show 1 ≤ sizeLine; decide, fun q hq => ⟨q, _, rfl, Mem.set_same, ew_ev (hn _) ⟨(n : Int), rfl, Mem.set_same, by omega, by omega, ?_, fun l hl => ⟨l, _, rfl, ?_, Mem.set_same, ?_, fun r hr => ?_⟩⟩⟩⟩))⟩⟩)))
  · show 1 * ((n : Int)).toNat ≤ sizeLine
    exact Nat.le_trans (show _ ≤ 100000 by omega) (by decide)
  · rw [Mem.set_ne (fun h => by rw [← h, Mem.set_ne (fun h => by rw [← h, Mem.set_same] at hq; cases hq), Mem.set_same] at hl; cases hl), Mem.set_ne (fun h => by rw [← h, Mem.set_same] at hq; cases hq)]
    exact Mem.set_same
  · rw [List.length_flatten, List.map_replicate, List.sum_replicate_nat]
    show 1 + ((n : Int)).toNat * 1 ≤ sizeLine
    exact Nat.le_trans (show _ ≤ 100001 by omega) (by decide)
  · have rl : r ≠ l := fun h => by rw [h, Mem.set_same] at hr; cases hr
    rw [Mem.set_ne rl] at hr
    have rq : r ≠ q := fun h => by rw [h, Mem.set_same] at hr; cases hr
    rw [Mem.set_ne rq] at hr
    have rp : r ≠ p := fun h => by rw [h, Mem.set_same] at hr; cases hr
    rw [Mem.set_ne rp] at hr
    refine ⟨M.set r (.lst (dx :: List.replicate n dy)), ?_, hΦ r hr⟩
    have e : (List.replicate ((n : Int)).toNat [dy]).flatten = List.replicate n dy := by
      rw [Int.toNat_natCast]
      exact rep_flat1 _ n
    have e2 : [dx] ++ (List.replicate ((n : Int)).toNat [dy]).flatten = dx :: List.replicate n dy := by rw [e]; rfl
    rw [← e2]
    exact mle_set (((mle_at hp).trans (mle_at hq)).trans (mle_at hl))
end
theorem ol_ix {xs : OL} {j : Nat} (h : j < xs.length) : atI (xs.map optB) ((j : Nat) : Int) = some (optB (xs.getD j none)) := atI_nat (by rw [List.getElem?_map, List.getElem?_eq_getElem h, List.getD_eq_getElem?_getD, List.getElem?_eq_getElem h]; rfl) rfl
theorem ol_last {xs : OL} {n : Nat} (h : xs.length = n + 1) : atI (xs.map optB) (-1) = some (optB (xs.getD n none)) := by
  unfold atI
  rw [List.length_map, ixN_last (by omega)]
  show (xs.map optB)[xs.length - 1]? = _
  rw [show xs.length - 1 = n by omega, List.getElem?_map, List.getElem?_eq_getElem (by omega), List.getD_eq_getElem?_getD, List.getElem?_eq_getElem (by omega)]
  rfl
theorem fwd_none {rs : Rows} {k : Nat} (h : (fwd rs k).getD k none = none) : fwd rs (k + 1) = fwd rs k := by
  show (match (fwd rs k).getD k none with
    | none => fwd rs k
    | some c => (rs.getD k []).foldl (relax c) (fwd rs k)) = _
  rw [h]
theorem fwd_some {rs : Rows} {k : Nat} {c : Int} {r : List (Nat × Int)} (h : (fwd rs k).getD k none = some c) (hr : rs[k]? = some r) : fwd rs (k + 1) = r.foldl (relax c) (fwd rs k) := by
  show (match (fwd rs k).getD k none with
    | none => fwd rs k
    | some c => (rs.getD k []).foldl (relax c) (fwd rs k)) = _
  rw [h, getD_of hr]
theorem fold_take {c : Int} {r : List (Nat × Int)} {j : Nat} {x : Nat × Int} {xs : OL} (h : r[j]? = some x) : (r.take (j + 1)).foldl (relax c) xs = relax c ((r.take j).foldl (relax c) xs) x := by
  rw [List.take_succ, h, Option.toList_some, List.foldl_append]
  rfl
theorem relax_none {c : Int} {xs : OL} {x : Nat × Int} (h : xs.getD x.1 none = none) : relax c xs x = xs.set x.1 (some (c + x.2)) := by
  unfold relax
  rw [h]
theorem relax_some {c d : Int} {xs : OL} {x : Nat × Int} (h : xs.getD x.1 none = some d) : relax c xs x = if c + x.2 < d then xs.set x.1 (some (c + x.2)) else xs := by
  unfold relax
  rw [h]
def optN : Option Nat → D
  | none => dN
  | some s => dI ((s : Nat) : Int)
def beD : Option BE → D
  | none => dN
  | some e => .tup [dI e.1, dI e.2.1, optN e.2.2]
theorem be_ix {xs : List (Option BE)} {j : Nat} (h : j < xs.length) : atI (xs.map beD) ((j : Nat) : Int) = some (beD (xs.getD j none)) := atI_nat (by rw [List.getElem?_map, List.getElem?_eq_getElem h, List.getD_eq_getElem?_getD, List.getElem?_eq_getElem h]; rfl) rfl
theorem rank_D {t : List (Option BE)} {r : List (Nat × Int)} (h : 0 < (cand t r).length) : tZ (mnL (cand t r)) = beD (rank t r) := by
  obtain ⟨m, _⟩ := mnL_mem h
  obtain ⟨x, _, e, _, em⟩ := mem_cand m
  unfold rank
  rw [if_neg (by omega), em]
  rfl
theorem rank_0 {t : List (Option BE)} {r : List (Nat × Int)} (h : (cand t r).length = 0) : rank t r = none := by
  unfold rank
  rw [if_pos h]
theorem cand_take {t : List (Option BE)} {r : List (Nat × Int)} {i : Nat} {x : Nat × Int} (h : r[i]? = some x) : cand t (r.take (i + 1)) = cand t (r.take i) ++ (match t.getD x.1 none with | none => [] | some e => [[x.2 + e.1, 1 + e.2.1, (x.1 : Int)]]) := by
  unfold cand
  rw [List.take_succ, h, Option.toList_some, List.filterMap_append]
  cases q : t.getD x.1 none with
  | none => rw [List.filterMap_cons, q]; rfl
  | some e => rw [List.filterMap_cons, q]; rfl
/-! what is shown -/
def okIt (xs : OL) (c : Int) (x : Nat × Int) : Bool := match xs.getD x.1 none with
  | none => false
  | some d => decide (d ≤ c + x.2)
def okRow (xs : OL) (i : Nat) (r : List (Nat × Int)) : Bool := match xs.getD i none with
  | none => true
  | some c => r.all (okIt xs c)
def okAll (rs : Rows) (xs : OL) : Bool := (List.range rs.length).all fun i => okRow xs i (rs.getD i [])
def endB (o : Option Int) (l : Option Int) : Bool := match o with
  | none => l.isNone
  | some t => match l with
    | none => true
    | some d => decide (t ≤ d)
def shB (rs : Rows) (xs : OL) (o : Option Int) : Bool := decide (xs.getD 0 none = some 0) && okAll rs xs && endB o (xs.getD rs.length none)
theorem okAll_no {rs : Rows} {xs : OL} {i : Nat} {r : List (Nat × Int)} (hr : rs[i]? = some r) (h : okRow xs i r = false) : okAll rs xs = false := by
  cases q : okAll rs xs with
  | false => rfl
  | true =>
    have hi := (List.getElem?_eq_some_iff.mp hr).1
    have := List.all_eq_true.mp q i (List.mem_range.mpr hi)
    rw [getD_of hr, h] at this
    cases this
theorem okRow_no {xs : OL} {i j : Nat} {r : List (Nat × Int)} {c : Int} {x : Nat × Int} (hc : xs.getD i none = some c) (hx : r[j]? = some x) (h : okIt xs c x = false) : okRow xs i r = false := by
  unfold okRow
  rw [hc]
  show r.all (okIt xs c) = false
  cases q : r.all (okIt xs c) with
  | false => rfl
  | true =>
    have := List.all_eq_true.mp q x (List.mem_of_getElem? hx)
    rw [h] at this
    cases this
theorem okAll_yes {rs : Rows} {xs : OL} (h : ∀ (i : Nat) r, rs[i]? = some r → okRow xs i r = true) : okAll rs xs = true := List.all_eq_true.mpr fun i hi => by
  have hi := List.mem_range.mp hi
  rw [getD_of (List.getElem?_eq_getElem hi)]
  exact h i _ (List.getElem?_eq_getElem hi)
theorem okRow_yes {xs : OL} {i : Nat} {r : List (Nat × Int)} {c : Int} (hc : xs.getD i none = some c) (h : ∀ (j : Nat) x, r[j]? = some x → okIt xs c x = true) : okRow xs i r = true := by
  unfold okRow
  rw [hc]
  refine List.all_eq_true.mpr fun x hx => ?_
  obtain ⟨j, hj, e⟩ := List.getElem_of_mem hx
  exact h j x (by rw [List.getElem?_eq_getElem hj, e])
def bestD (rs : Rows) : D := match (best rs).getD 0 none with
  | none => dN
  | some e => .tup [dI e.1, .tup ((zs (bwk rs rs.length 0)).map dI)]
def PrBest (ds : List D) (M : Mem) (d : D) (M' : Mem) : Prop := ∃ (c b e : Bool) (ps : List Pc) (rd : Int × Int), ds = [sq c (ps.map (pcq b)), frq e rd] ∧ PcsOk ps ∧ RmOk rd ∧ d = bestD (lnOf rd ps).rows ∧ M' = M
theorem mle_fr {M M1 : Mem} {z : Addr} (h : Fr1 z M M1) (hz : M z = none) : Mle M M1 := fun b u e => h b (fun q => by rw [q, hz] at e; cases e) u e
theorem fr_new {z p : Addr} {M M1 : Mem} {o : MO} (h : Fr1 z M M1) (hp : M1 p = none) : Fr1 z M (M1.set p o) := fun b n u e => by
  have q := h b n u e
  rw [Mem.set_ne (fun k => by rw [k, hp] at q; cases q)]
  exact q
theorem lastn_ix {l : List Nat} {a : Nat} (h : l[l.length - 1]? = some a) (h0 : 0 < l.length) : atI ((zs l).map dI) (-1) = some (dI ((a : Nat) : Int)) := by
  unfold atI
  have e : ((zs l).map dI).length = l.length := by rw [List.length_map, zs_len]
  rw [e, ixN_last h0]
  show ((zs l).map dI)[l.length - 1]? = _
  unfold zs
  rw [List.getElem?_map, List.getElem?_map, h]
  rfl
section
variable {P : Program} {w : World} {K : PySem.W.Frag} {mg : Str → Option Value} {base : Heap} {f : Addr} {fd : FuncData}
theorem c_p_best_lines {C : Addr} (F : Fun K "best_lines" "best_lines" s_p_best_lines f fd) (hm : mg "best_lines" = some (.ref f)) (T : Bt mg) (hmin : mg "min" = none) (cC : Cls K C) (mA : MetC P w K mg base 3 C "all_lines" (spW K (R_lall C))) (c_p_line_rows : Cal P w K mg base 7 "line_rows" (spW K (R_lrows C))) : Cal P w K mg base 8 "best_lines" (spD K PrBest) := by
  refine cal_of F sc_p_best_lines hm (fun _ _ _ _ _ _ us hl => match us, hl with | [_, _], _ => rfl) (fun ds M d M' h => ?_) fun cdv A outer s H E ds M d M' hr h => ?_
  · obtain ⟨c, b, e, ps, rd, rfl, _⟩ := h
    rfl
  · obtain ⟨c, b, e, ps, rd, rfl, ok, okr, rfl, rfl⟩ := h
    show BV _ _ [some (sq c (ps.map (pcq b))), some (frq e rd), none, none, none, none, none, none, none] _ _
    refine bv_cons (sw_set 2 sc_p_best_lines.nd (ew_drop (ew_meth0W mA cC (hr.mono (by decide)) (ew_callW c_p_line_rows (hr.mono (by decide)) (aw_av (av_cons (ev_var 0 rfl) (av_cons (ev_var 1 rfl) av_nil)) ⟨c, b, e, ps, rd, rfl, ok, okr, fun y hy => ⟨y, fsOf (lnOf rd ps), rfl, Mem.set_same, rfl, y, lnOf rd ps, rfl, Mem.set_same, lnOf_ok ok okr.toMeaOk, M', mle_at hy, ?_⟩⟩)))))
    have rok : RowsOk (lnOf rd ps).rows := rows_ok (lnOf_ok ok okr.toMeaOk)
    generalize (lnOf rd ps).rows = rs at *
    have n0 := rok.n0
    have n1 := rok.n1
    refine bv_cons (sw_set 3 sc_p_best_lines.nd (ew_padOne (n := rs.length) (dx := .tup [dI 0, dI 0, dN]) (dy := dN) (fun M => ev_non) (fun M => ev_to (ev_lenL T.len (ev_var 2 rfl)) (by rw [List.length_map])) (fun M => ev_tup (av_cons ev_int (av_cons ev_int (av_cons ev_non av_nil)))) (by omega) (fun z hz => ?_)))
    show BV _ _ [some (sq c (ps.map (pcq b))), some (frq e rd), some (.lst (rs.map rowT)), some (dP z), none, none, none, none, none] _ _
    refine bv_cons (sv_join (fun ρ M => ∃ (x4 x5 : Option D), ρ = [some (sq c (ps.map (pcq b))), some (frq e rd), some (.lst (rs.map rowT)), some (dP z), x4, x5, none, none, none] ∧ Fr1 z M' M ∧ M z = some (.lst ((best rs).map beD))) (sw_for rfl (pg_name (i := 4) sc_p_best_lines.nd rfl (.inl rfl)) ?_) ?_)
    · refine iw_iv (iv_range3 T.range (ev_op op_sub (ev_lenL T.len (ev_var 2 rfl)) ev_int rs_I0) (ev_un un_neg ev_int ru_neg) (ev_un un_neg ev_int ru_neg) (RgC.neg (by omega) (by rw [List.length_map]; omega) (by omega) (by omega))) ⟨fun k ρ M => ∃ (x4 x5 : Option D), ρ = [some (sq c (ps.map (pcq b))), some (frq e rd), some (.lst (rs.map rowT)), some (dP z), x4, x5, none, none, none] ∧ Fr1 z M' M ∧ M z = some (.lst ((bk rs k).map beD)), ⟨none, none, rfl, (Fr1.refl z M').set, by rw [Mem.set_same]; unfold bk; rw [List.map_append, List.map_replicate]; rfl⟩, fun k d ρ' M hd iv => ?_, fun ρ' M iv => ?_⟩
      · obtain ⟨x4, x5, rfl, fr, hM⟩ := iv
        have hk : k < rs.length := by
          have := (List.getElem?_eq_some_iff.mp hd).1
          rw [List.length_map, List.length_range, List.length_map] at this
          omega
        obtain rfl : d = dI ((rs.length - 1 - k : Nat) : Int) := by
          rw [List.getElem?_map, List.getElem?_range (by rw [List.length_map]; omega)] at hd
          cases hd
          rw [List.length_map]
          exact congrArg dI (by omega)
        have hg := List.getElem?_eq_getElem (l := rs) (i := rs.length - 1 - k) (by omega)
        have ebk : bk rs (k + 1) = (bk rs k).set (rs.length - 1 - k) (rank (bk rs k) (rs.getD (rs.length - 1 - k) [])) := rfl
        rw [getD_of hg] at ebk
        generalize rs[rs.length - 1 - k] = r at hg ebk
        have bl := bk_len rs k
        generalize bk rs k = t at hM ebk bl
        refine ⟨_, tg_name, ?_⟩
        refine bv_cons (sw_setLcF 5 (own := [("stop", 6), ("bad", 7)]) (g := gAny _ 2 (gCons (gName 6) (gCons (gName 7) gNil))) rfl sc_p_best_lines.nd (blkOk_by (N := ["pieces", "room", "rows", "told", "first", "ranked", "stop", "bad", "ends"]) (sc := defScope s_p_best_lines) (by decide +kernel)) (fun _ _ _ _ _ => (pg_any rfl (pgs_cons (pg_name (i := 6) sc_p_best_lines.nd rfl (.inl rfl)) (pgs_cons (pg_name (i := 7) sc_p_best_lines.nd rfl (.inl rfl)) pgs_nil)))) ?_)
        refine iw_iv (iv_list (ds := r.map rT) (ev_ixL (ds := rs.map rowT) (ev_var 2 rfl) (ev_var 4 rfl) (row_ix hg))) ⟨by rw [List.length_map]; exact Nat.le_trans (rok.len _ _ hg) (by decide), fun i acc M1 => M1 = M ∧ acc = (cand t (r.take i)).map tZ, ⟨rfl, rfl⟩, fun i d acc M1 hd2 hacc iv => ?_, fun acc M1 hacc iv p hp => ?_⟩
        · obtain ⟨rfl, rfl⟩ := iv
          rw [List.getElem?_map, Option.map_eq_some_iff] at hd2
          obtain ⟨x, hx, rfl⟩ := hd2
          have hxl := rok.lt _ _ hg x (List.mem_of_getElem? hx)
          refine ⟨_, tgb_of (tb_any (b := false) (ds := [dI ((x.1 : Nat) : Int), dI x.2]) (tbs_cons tb_name (tbs_cons tb_name tbs_nil))), fun y hy s H C cl fp => ?_⟩
          have hM1 := Mem.set_at (u := .lst ((cand t (r.take i)).map tZ)) hM hy
          have ei := be_ix (xs := t) (j := x.1) (by omega)
          have ct := cand_take (t := t) hx
          cases hs : t.getD x.1 none with
          | none =>
            rw [hs] at ei ct
            refine tw_tv (tv_to (tv_notNn (d := dN) (ev_ixM (ev_var 3 rfl) (ev_var 6 rfl) hM1 ei)) rfl) ⟨M1, rfl, hy, fun _ => ⟨rfl, ?_⟩, (fun h => nomatch h)⟩
            rw [ct]
            exact congrArg (List.map tZ) (List.append_nil _).symm
          | some e0 =>
            rw [hs] at ei ct
            refine tw_tv (tv_to (tv_notNn (d := beD (some e0)) (ev_ixM (ev_var 3 rfl) (ev_var 6 rfl) hM1 ei)) rfl) ⟨M1, rfl, hy, (fun h => nomatch h), fun _ s H C cl fp => ?_⟩
            refine ew_ev (ev_tup (av_cons (ev_op op_add (ev_var 7 rfl) (ev_ixT (ds := [dI e0.1, dI e0.2.1, optN e0.2.2]) (ev_ixM (ev_var 3 rfl) (ev_var 6 rfl) hM1 ei) ev_int rfl) rs_I0) (av_cons (ev_op op_add ev_int (ev_ixT (ds := [dI e0.1, dI e0.2.1, optN e0.2.2]) (ev_ixM (ev_var 3 rfl) (ev_var 6 rfl) hM1 ei) ev_int rfl) rs_I0) (av_cons (ev_var 6 rfl) av_nil)))) ⟨M1, rfl, hy, rfl, ?_⟩
            rw [ct, List.map_append]
            rfl
        · obtain ⟨rfl, rfl⟩ := iv
          rw [List.length_map, List.take_length]
          have zp := mem_ne hM hp
          refine bv_one (sw_setItem (ew_minND rfl (hu64 hr) hmin (ew_ev (ev_var 5 rfl) ⟨p, cand t r, rfl, Mem.set_same, fun h0 => ⟨z, _, _, rs.length - 1 - k, ev_var 3 rfl, ev_var 4 rfl, Mem.set_at hM hp, ixN_nat (by rw [List.length_map]; omega), _, _, rfl, ?_, ?_⟩, fun h0 => ⟨z, _, _, rs.length - 1 - k, ev_var 3 rfl, ev_var 4 rfl, Mem.set_at hM hp, ixN_nat (by rw [List.length_map]; omega), _, _, rfl, ?_, ?_⟩⟩)))
          · exact (fr_new fr hp).set
          · rw [Mem.set_same, ebk, rank_0 h0, List.map_set]
            rfl
          · exact (fr_new fr hp).set
          · rw [Mem.set_same, ebk, rank_D h0, List.map_set]
      · obtain ⟨x4, x5, rfl, fr, hM⟩ := iv
        rw [List.length_map, List.length_range, List.length_map, show ((rs.length : Int) - 1 - -1).toNat = rs.length by omega] at hM
        exact ⟨x4, x5, rfl, fr, hM⟩
    · rintro ρ M ⟨x4, x5, rfl, fr, hM⟩
      have bl := best_len rs
      have e0 := be_ix (xs := best rs) (j := 0) (by omega)
      have bd : bestD rs = (match (best rs).getD 0 none with
        | none => dN
        | some e => .tup [dI e.1, .tup ((zs (bwk rs rs.length 0)).map dI)]) := rfl
      cases hb : (best rs).getD 0 none with
      | none =>
        rw [hb] at e0 bd
        refine bv_cons (sv_if (p := true) (M1 := M) (tv_isNn (d := dN) (ev_ixM (ev_var 3 rfl) ev_int hM e0)) (fun _ => bv_one (sv_ret ev_non ⟨?_, mle_fr fr hz⟩)) (fun h => nomatch h))
        exact bd.symm
      | some u =>
        obtain ⟨s0, u1, eu, lt0, le0, hs0, hw⟩ := best_next rok (a := 0) (by omega) hb
        rw [hb] at e0 bd
        have e0 : atI ((best rs).map beD) ((0 : Nat) : Int) = some (.tup [dI u.1, dI u.2.1, dI ((s0 : Nat) : Int)]) := by rw [e0, eu]; rfl
        refine bv_cons (sv_if (p := false) (M1 := M) (tv_isNn (d := .tup [dI u.1, dI u.2.1, dI ((s0 : Nat) : Int)]) (ev_ixM (ev_var 3 rfl) ev_int hM e0)) (fun h => nomatch h) (fun _ => bv_nil ?_))
        refine bv_cons (sv_setNew 8 sc_p_best_lines.nd (av_cons (ev_ixT (ds := [dI u.1, dI u.2.1, dI ((s0 : Nat) : Int)]) (ev_ixM (ev_var 3 rfl) ev_int hM e0) ev_int rfl) av_nil) (fun y hy => ?_))
        have yz : z ≠ y := mem_ne hM hy
        refine bv_cons (sv_join (fun ρ M1 => ρ = [some (sq c (ps.map (pcq b))), some (frq e rd), some (.lst (rs.map rowT)), some (dP z), x4, x5, none, none, some (dP y)] ∧ M1 = M.set y (.lst ((zs (bwk rs rs.length 0)).map dI))) ?_ ?_)
        · obtain ⟨n, en⟩ : ∃ n, rs.length = n + 1 := ⟨rs.length - 1, by omega⟩
          have hw0 : bwk rs rs.length 0 = s0 :: bwk rs n s0 := by rw [en]; exact hw n
          refine sv_while (fun m ρ M1 => ∃ (dn : List Nat) (a : Nat) (u : BE), ρ = [some (sq c (ps.map (pcq b))), some (frq e rd), some (.lst (rs.map rowT)), some (dP z), x4, x5, none, none, some (dP y)] ∧ M1 = M.set y (.lst ((zs dn).map dI)) ∧ 0 < dn.length ∧ dn[dn.length - 1]? = some a ∧ a ≤ rs.length ∧ rs.length - a ≤ m ∧ dn.length ≤ a ∧ dn ++ bwk rs m a = bwk rs rs.length 0 ∧ (best rs).getD a none = some u) n ⟨[s0], s0, u1, rfl, rfl, Nat.one_pos, rfl, le0, by omega, by show 1 ≤ s0; omega, by rw [hw0]; rfl, hs0⟩ ?_
          rintro m ρ' M1 ⟨dn, a, v, rfl, rfl, hl0, hl, ha, hm, hd, hwk, hv⟩
          have lv : ∀ {X : Cx} {ρ : Sl} {e1 e2 : Expr} {p1 : Pos}, EV X e1 ρ (M.set y (.lst ((zs dn).map dI))) (dP y) (M.set y (.lst ((zs dn).map dI))) → EV X e2 ρ (M.set y (.lst ((zs dn).map dI))) (dI (-1)) (M.set y (.lst ((zs dn).map dI))) → PlainIx e2 → EV X (.Subscript e1 e2 p1) ρ (M.set y (.lst ((zs dn).map dI))) (dI ((a : Nat) : Int)) (M.set y (.lst ((zs dn).map dI))) := fun h1 h2 h3 => ev_ixM h1 h2 Mem.set_same (lastn_ix hl hl0) h3
          refine ⟨decide (a < rs.length), tv_to (tv_cmpR op_lt (lv (ev_var 8 rfl) (ev_un un_neg ev_int ru_neg) (by intro _ _; rfl)) (ev_lenL T.len (ev_var 2 rfl)) rs_I0 (nomark _)) (decide_eq_decide.mpr (by rw [List.length_map]; omega)), fun h => ?_, fun h => ?_⟩
          · have hlt := of_decide_eq_true h
            obtain ⟨k, rfl⟩ : ∃ k, m = k + 1 := ⟨m - 1, by omega⟩
            obtain ⟨s1, u2, eu2, lt1, le1, hs1, hw1⟩ := best_next rok hlt hv
            rw [hw1] at hwk
            have ea : atI ((best rs).map beD) ((a : Nat) : Int) = some (.tup [dI v.1, dI v.2.1, dI ((s1 : Nat) : Int)]) := by rw [be_ix (by omega), hv, eu2]; rfl
            refine bv_one (sv_append (ev_var 8 rfl) (ev_ixT (ds := [dI v.1, dI v.2.1, dI ((s1 : Nat) : Int)]) (ev_ixM (ev_var 3 rfl) (lv (ev_var 8 rfl) (ev_un un_neg ev_int ru_neg) (by intro _ _; rfl)) (by rw [Mem.set_ne yz]; exact hM) ea) ev_int rfl) ⟨_, Mem.set_same⟩ Mem.set_same (by rw [List.length_map, zs_len]; exact Nat.lt_of_le_of_lt (show dn.length ≤ 400 by omega) (by decide)) ?_)
            refine ⟨k, Nat.lt_succ_self _, dn ++ [s1], s1, u2, rfl, ?_, by rw [List.length_append]; show 0 < dn.length + 1; omega, ?_, le1, by omega, by rw [List.length_append]; show dn.length + 1 ≤ s1; omega, by rw [List.append_assoc]; exact hwk, hs1⟩
            · rw [Mem.set_set]
              unfold zs
              rw [List.map_append, List.map_append]
              rfl
            · rw [List.length_append]
              show (dn ++ [s1])[dn.length + 1 - 1]? = _
              rw [List.getElem?_append_right (by omega)]
              show [s1][dn.length + 1 - 1 - dn.length]? = _
              rw [show dn.length + 1 - 1 - dn.length = 0 by omega]
              rfl
          · have hge := of_decide_eq_false h
            obtain rfl : a = rs.length := by omega
            rw [bwk_end, List.append_nil] at hwk
            subst hwk
            exact ⟨rfl, rfl⟩
        · rintro ρ' M1 ⟨rfl, rfl⟩
          refine bv_one (sv_ret (ev_tup (av_cons (ev_ixT (ds := [dI u.1, dI u.2.1, dI ((s0 : Nat) : Int)]) (ev_ixM (ev_var 3 rfl) ev_int (by rw [Mem.set_ne yz]; exact hM) e0) ev_int rfl) (av_cons (ev_tupM T.tuple (ev_var 8 rfl) Mem.set_same) av_nil))) ⟨?_, (mle_fr fr hz).trans (mle_at hy)⟩)
          exact bd.symm
end
/-! all breakings -/
abbrev Brk := List Nat × Int
def brk (rs : Rows) : Nat → Nat → List Brk
  | 0, i => if i = rs.length then [([], 0)] else []
  | m + 1, i => if i = rs.length then [([], 0)] else (rs.getD i []).flatMap fun x => (brk rs m x.1).map fun e => (x.1 :: e.1, x.2 + e.2)
theorem brk_end (rs : Rows) (m : Nat) : brk rs m rs.length = [([], 0)] := by
  cases m with
  | zero => exact if_pos rfl
  | succ m => exact if_pos rfl
theorem brk_step {rs : Rows} {m i : Nat} {r : List (Nat × Int)} (h : rs[i]? = some r) : brk rs (m + 1) i = r.flatMap fun x => (brk rs m x.1).map fun e => (x.1 :: e.1, x.2 + e.2) := by
  have hi := (List.getElem?_eq_some_iff.mp h).1
  show (if i = rs.length then _ else _) = _
  rw [if_neg (by omega), getD_of h]
theorem sum_pow {n : Nat} (f : Nat × Int → Nat) : ∀ (r : List (Nat × Int)) (a : Nat), r.Pairwise (fun x y => x.1 < y.1) → (∀ x ∈ r, a ≤ x.1 ∧ x.1 ≤ n ∧ f x ≤ 2 ^ (n - x.1)) → a ≤ n + 1 → (r.map f).sum + 1 ≤ 2 ^ (n + 1 - a)
  | [], a, _, _, _ => by
    show 0 + 1 ≤ _
    exact Nat.one_le_two_pow
  | x :: r, a, hp, h, ha => by
    obtain ⟨h1, h2⟩ := List.pairwise_cons.mp hp
    obtain ⟨q1, q2, q3⟩ := h x List.mem_cons_self
    have ih := sum_pow f r (x.1 + 1) h2 (fun y hy => ⟨h1 y hy, (h y (List.mem_cons_of_mem _ hy)).2⟩) (by omega)
    rw [List.map_cons, List.sum_cons]
    rw [show n + 1 - (x.1 + 1) = n - x.1 by omega] at ih
    have e : 2 ^ (n + 1 - x.1) = 2 * 2 ^ (n - x.1) := by rw [show n + 1 - x.1 = (n - x.1) + 1 by omega, Nat.pow_succ, Nat.mul_comm]
    have m : 2 ^ (n + 1 - x.1) ≤ 2 ^ (n + 1 - a) := Nat.pow_le_pow_right (by decide) (by omega)
    omega
theorem brk_len {rs : Rows} (ok : RowsOk rs) : ∀ m i, i ≤ rs.length → (brk rs m i).length ≤ 2 ^ (rs.length - i)
  | 0, i, hi => by
    show (if i = rs.length then [(([] : List Nat), (0 : Int))] else []).length ≤ _
    split
    · exact Nat.one_le_two_pow
    · exact Nat.zero_le _
  | m + 1, i, hi => by
    by_cases e : i = rs.length
    · rw [e, brk_end]
      exact Nat.one_le_two_pow
    · have hr := List.getElem?_eq_getElem (l := rs) (i := i) (by omega)
      rw [brk_step hr, List.length_flatMap]
      have := sum_pow (n := rs.length) (fun x => ((brk rs m x.1).map fun e => (x.1 :: e.1, x.2 + e.2)).length) rs[i] (i + 1) (ok.srt i _ hr) (fun x hx => by
        have lt := ok.lt i _ hr x hx
        exact ⟨lt.1, lt.2, by rw [List.length_map]; exact brk_len ok m x.1 lt.2⟩) (by omega)
      rw [show rs.length + 1 - (i + 1) = rs.length - i by omega] at this
      omega
def keyB (e : Brk) : List Int := e.2 :: ((e.1.length : Nat) : Int) :: zs e.1
theorem lex_irr (x : List Int) : HT.lexLt x x = false := by
  cases q : HT.lexLt x x with
  | false => rfl
  | true => rw [← q]; exact lexLt_asym q
theorem lex_anti : ∀ {x y : List Int}, HT.lexLt x y = false → HT.lexLt y x = false → x = y
  | [], [], _, _ => rfl
  | [], _ :: _, h, _ => absurd (show true = false from h) (by decide)
  | _ :: _, [], _, h => absurd (show true = false from h) (by decide)
  | a :: x, b :: y, h, k => by
    have h : (if a = b then HT.lexLt x y else decide (a < b)) = false := h
    have k : (if b = a then HT.lexLt y x else decide (b < a)) = false := k
    by_cases e : a = b
    · subst e
      rw [if_pos rfl] at h k
      rw [lex_anti h k]
    · rw [if_neg e] at h
      rw [if_neg (Ne.symm e)] at k
      have := of_decide_eq_false h
      have := of_decide_eq_false k
      omega
theorem zs_inj : ∀ {l m : List Nat}, zs l = zs m → l = m
  | [], [], _ => rfl
  | [], _ :: _, h => by cases h
  | _ :: _, [], h => by cases h
  | a :: l, b :: m, h => by
    have h : ((a : Nat) : Int) :: zs l = ((b : Nat) : Int) :: zs m := h
    obtain ⟨h1, h2⟩ := List.cons.inj h
    rw [zs_inj h2, show a = b by omega]
theorem key_inj {e f : Brk} (h : keyB e = keyB f) : e = f := by
  obtain ⟨h1, h2⟩ := List.cons.inj h
  obtain ⟨_, h3⟩ := List.cons.inj h2
  exact Prod.ext (zs_inj h3) h1
/-- a number more, a number more, and the same ahead -/
theorem lex_shift {a b c d s : Int} {k : Int} {l m : List Int} (h : HT.lexLt (a :: b :: l) (c :: d :: m) = false) : HT.lexLt ((s + a) :: (1 + b) :: k :: l) ((s + c) :: (1 + d) :: k :: m) = false := by
  have h : (if a = c then (if b = d then HT.lexLt l m else decide (b < d)) else decide (a < c)) = false := h
  show (if s + a = s + c then (if 1 + b = 1 + d then (if k = k then HT.lexLt l m else decide (k < k)) else decide (1 + b < 1 + d)) else decide (s + a < s + c)) = false
  by_cases e : a = c
  · rw [if_pos e] at h
    rw [if_pos (by omega)]
    by_cases e2 : b = d
    · rw [if_pos e2] at h
      rw [if_pos (by omega), if_pos rfl]
      exact h
    · rw [if_neg e2] at h
      rw [if_neg (by omega)]
      exact decide_eq_false (by have := of_decide_eq_false h; omega)
  · rw [if_neg e] at h
    rw [if_neg (by omega)]
    exact decide_eq_false (by have := of_decide_eq_false h; omega)
theorem lex_three {a b c a' b' c' : Int} {l m : List Int} (hc : c ≠ c') (h : HT.lexLt [a, b, c] [a', b', c'] = false) : HT.lexLt (a :: b :: c :: l) (a' :: b' :: c' :: m) = false := by
  have h : (if a = a' then (if b = b' then (if c = c' then false else decide (c < c')) else decide (b < b')) else decide (a < a')) = false := h
  show (if a = a' then (if b = b' then (if c = c' then HT.lexLt l m else decide (c < c')) else decide (b < b')) else decide (a < a')) = false
  rw [if_neg hc] at h ⊢
  exact h
theorem row_same {r : List (Nat × Int)} (hp : r.Pairwise fun x y => x.1 < y.1) {x y : Nat × Int} (hx : x ∈ r) (hy : y ∈ r) (e : x.1 = y.1) : x = y := by
  induction r with
  | nil => cases hx
  | cons a r ih =>
    obtain ⟨h1, h2⟩ := List.pairwise_cons.mp hp
    rcases List.mem_cons.mp hx with e1 | hx'
    · rcases List.mem_cons.mp hy with e2 | hy'
      · rw [e1, e2]
      · have := h1 y hy'
        rw [e1] at e
        omega
    · rcases List.mem_cons.mp hy with e2 | hy'
      · have := h1 x hx'
        rw [e2] at e
        omega
      · exact ih h2 hx' hy'
structure BrkOk (rs : Rows) (m i : Nat) (e : BE) : Prop where
  mem : (bwk rs m i, e.1) ∈ brk rs m i
  len : e.2.1 = ((bwk rs m i).length : Nat)
  mn : ∀ z ∈ brk rs m i, HT.lexLt (keyB z) (keyB (bwk rs m i, e.1)) = false
theorem brk_best {rs : Rows} (ok : RowsOk rs) : ∀ m i, i ≤ rs.length → rs.length ≤ i + m → ((best rs).getD i none = none → brk rs m i = []) ∧ ∀ e, (best rs).getD i none = some e → BrkOk rs m i e
  | m, i, hi, hm => by
    by_cases q : i = rs.length
    · subst q
      rw [best_end, brk_end]
      refine ⟨fun h => (nomatch h), fun e h => ?_⟩
      cases h
      refine ⟨?_, ?_, ?_⟩
      · rw [bwk_end, brk_end]
        exact List.mem_singleton.mpr rfl
      · rw [bwk_end]
        rfl
      · intro z hz
        rw [brk_end] at hz
        rw [List.mem_singleton.mp hz, bwk_end]
        exact lex_irr _
    · match m, hm with
      | 0, hm => exact absurd (show i = rs.length by omega) q
      | m + 1, hm =>
        have hr := List.getElem?_eq_getElem (l := rs) (i := i) (by omega)
        have ih := fun (x : Nat × Int) (hx : x ∈ rs[i]) => brk_best ok m x.1 (ok.lt i _ hr x hx).2 (by have := ok.lt i _ hr x hx; omega)
        generalize rs[i] = r at hr ih
        have ba := best_at ok hr
        refine ⟨fun h => ?_, fun e h => ?_⟩
        · rw [ba] at h
          rw [brk_step hr, List.flatMap_eq_nil_iff]
          intro x hx
          rw [(ih x hx).1 (rank_none h x hx)]
          rfl
        · have hw := h
          rw [ba] at h
          obtain ⟨x, hx, y, ey, rfl, mn⟩ := rank_some h
          obtain ⟨s, u, es, _, _, _, wk⟩ := best_next ok (a := i) (by omega) hw
          have e1 : x.1 = s := Option.some.inj (congrArg (fun t : BE => t.2.2) es)
          subst e1
          have bx := (ih x hx).2 y ey
          refine ⟨?_, ?_, ?_⟩
          · rw [wk m, brk_step hr]
            exact List.mem_flatMap.mpr ⟨x, hx, List.mem_map.mpr ⟨_, bx.mem, rfl⟩⟩
          · rw [wk m, List.length_cons]
            show 1 + y.2.1 = _
            rw [bx.len]
            omega
          · intro z hz
            rw [brk_step hr] at hz
            obtain ⟨x', hx', hz⟩ := List.mem_flatMap.mp hz
            obtain ⟨e', he', rfl⟩ := List.mem_map.mp hz
            rw [wk m]
            cases q2 : (best rs).getD x'.1 none with
            | none =>
              rw [(ih x' hx').1 q2] at he'
              cases he'
            | some u' =>
              have bu := (ih x' hx').2 u' q2
              have h1 := bu.mn e' he'
              have l1 : HT.lexLt ((x'.2 + e'.2) :: (1 + ((e'.1.length : Nat) : Int)) :: (x'.1 : Int) :: zs e'.1) ((x'.2 + u'.1) :: (1 + (((bwk rs m x'.1).length : Nat) : Int)) :: (x'.1 : Int) :: zs (bwk rs m x'.1)) = false := lex_shift h1
              have l2 : HT.lexLt ((x'.2 + u'.1) :: (1 + (((bwk rs m x'.1).length : Nat) : Int)) :: (x'.1 : Int) :: zs (bwk rs m x'.1)) ((x.2 + y.1) :: (1 + (((bwk rs m x.1).length : Nat) : Int)) :: (x.1 : Int) :: zs (bwk rs m x.1)) = false := by
                by_cases e2 : x'.1 = x.1
                · have := row_same (ok.srt i _ hr) hx' hx e2
                  subst this
                  rw [q2] at ey
                  cases ey
                  exact lex_irr _
                · have h3 := mn x' hx' u' q2
                  rw [bu.len, bx.len] at h3
                  exact lex_three (by omega) h3
              have l3 := lexLt_tr l2 l1
              have k1 : ∀ (s : Nat) (l : List Nat) (b : Int), keyB (s :: l, b) = b :: (1 + ((l.length : Nat) : Int)) :: (s : Int) :: zs l := fun s l b => by
                unfold keyB
                rw [List.length_cons, show (((l.length + 1 : Nat)) : Int) = 1 + ((l.length : Nat) : Int) by omega]
                rfl
              rw [k1, k1]
              exact l3
/-- the first of the least, one after another -/
def stepB (b : Option Brk) (e : Brk) : Option Brk := match b with
  | none => some e
  | some b => if HT.lexLt (keyB e) (keyB b) = true then some e else some b
def minB (l : List Brk) : Option Brk := l.foldl stepB none
theorem minB_snoc (l : List Brk) (e : Brk) : minB (l ++ [e]) = stepB (minB l) e := by
  unfold minB
  rw [List.foldl_append]
  rfl
theorem foldB_some : ∀ (l : List Brk) (b : Brk), ∃ c, l.foldl stepB (some b) = some c ∧ (c = b ∨ c ∈ l) ∧ HT.lexLt (keyB b) (keyB c) = false ∧ ∀ e ∈ l, HT.lexLt (keyB e) (keyB c) = false
  | [], b => ⟨b, rfl, .inl rfl, lex_irr _, fun e h => absurd h List.not_mem_nil⟩
  | a :: l, b => by
    rw [List.foldl_cons]
    show ∃ c, l.foldl stepB (if HT.lexLt (keyB a) (keyB b) = true then some a else some b) = some c ∧ _
    by_cases q : HT.lexLt (keyB a) (keyB b) = true
    · rw [if_pos q]
      obtain ⟨c, h1, h2, h3, h4⟩ := foldB_some l a
      refine ⟨c, h1, .inr ?_, lexLt_tr h3 (lexLt_asym q), fun e he => ?_⟩
      · rcases h2 with rfl | h2
        · exact List.mem_cons_self
        · exact List.mem_cons_of_mem _ h2
      · rcases List.mem_cons.mp he with rfl | he
        · exact h3
        · exact h4 e he
    · rw [if_neg q]
      obtain ⟨c, h1, h2, h3, h4⟩ := foldB_some l b
      refine ⟨c, h1, ?_, h3, fun e he => ?_⟩
      · rcases h2 with rfl | h2
        · exact .inl rfl
        · exact .inr (List.mem_cons_of_mem _ h2)
      · rcases List.mem_cons.mp he with rfl | he
        · exact lexLt_tr h3 (eq_false_of_ne_true q)
        · exact h4 e he
theorem minB_min {l : List Brk} {b : Brk} (hb : b ∈ l) (h : ∀ e ∈ l, HT.lexLt (keyB e) (keyB b) = false) : minB l = some b := by
  cases l with
  | nil => cases hb
  | cons a l =>
    show l.foldl stepB (some a) = some b
    obtain ⟨c, h1, h2, h3, h4⟩ := foldB_some l a
    rw [h1]
    have cm : c ∈ a :: l := by
      rcases h2 with rfl | h2
      · exact List.mem_cons_self
      · exact List.mem_cons_of_mem _ h2
    have bc : HT.lexLt (keyB b) (keyB c) = false := by
      rcases List.mem_cons.mp hb with rfl | hb
      · exact h3
      · exact h4 b hb
    rw [key_inj (lex_anti (h c cm) bc)]
theorem minB_best {rs : Rows} (ok : RowsOk rs) : minB (brk rs rs.length 0) = ((best rs).getD 0 none).map fun e => (bwk rs rs.length 0, e.1) := by
  obtain ⟨h1, h2⟩ := brk_best ok rs.length 0 (Nat.zero_le _) (by omega)
  cases q : (best rs).getD 0 none with
  | none =>
    rw [h1 q]
    rfl
  | some e =>
    have b := h2 e q
    exact minB_min b.mem b.mn
/-- the least of rows, one row more -/
theorem argB_le (bt : Nat → Nat → Bool) : ∀ k, argBest bt k ≤ k
  | 0 => Nat.le_refl _
  | k + 1 => by
    unfold argBest
    split
    · exact Nat.le_refl _
    · have := argB_le bt k
      omega
theorem argB_congr {bt bt' : Nat → Nat → Bool} : ∀ k, (∀ i j, i ≤ k → j ≤ k → bt i j = bt' i j) → argBest bt k = argBest bt' k
  | 0, _ => rfl
  | k + 1, h => by
    have ih := argB_congr (bt := bt) (bt' := bt') k fun i j hi hj => h i j (by omega) (by omega)
    unfold argBest
    rw [ih, h (k + 1) (argBest bt' k) (Nat.le_refl _) (by have := argB_le bt' k; omega)]
theorem mnL_snoc {l : List (List Int)} (x : List Int) (h : 0 < l.length) : mnL (l ++ [x]) = if HT.lexLt x (mnL l) = true then x else mnL l := by
  obtain ⟨k, hk⟩ : ∃ k, l.length = k + 1 := ⟨l.length - 1, by omega⟩
  have g1 : ∀ i, i ≤ k → (l ++ [x]).getD i [] = l.getD i [] := fun i hi => by
    rw [List.getD_eq_getElem?_getD, List.getElem?_append_left (by omega), List.getD_eq_getElem?_getD]
  have g2 : (l ++ [x]).getD (k + 1) [] = x := by
    rw [List.getD_eq_getElem?_getD, List.getElem?_append_right (by omega), hk, Nat.sub_self]
    rfl
  have e1 : argBest (fun i j => HT.lexLt ((l ++ [x]).getD i []) ((l ++ [x]).getD j [])) k = argBest (fun i j => HT.lexLt (l.getD i []) (l.getD j [])) k := argB_congr k fun i j hi hj => by rw [g1 i hi, g1 j hj]
  have ml : mnL l = l.getD (argBest (fun i j => HT.lexLt (l.getD i []) (l.getD j [])) k) [] := by
    unfold mnL
    rw [hk, Nat.add_sub_cancel]
  have hb := argB_le (fun i j => HT.lexLt (l.getD i []) (l.getD j [])) k
  unfold mnL
  rw [List.length_append, hk, show k + 1 + [x].length - 1 = k + 1 from rfl]
  show (l ++ [x]).getD (if HT.lexLt ((l ++ [x]).getD (k + 1) []) ((l ++ [x]).getD (argBest _ k) []) = true then k + 1 else argBest _ k) [] = _
  rw [e1, g2, g1 _ hb, ← ml]
  rw [show k + 1 - 1 = k from rfl, ← ml]
  split
  · exact g2
  · rw [g1 _ hb, ← ml]
theorem fm_congr {α β : Type} {F G : α → List β} : ∀ {r : List α}, (∀ x ∈ r, F x = G x) → r.flatMap F = r.flatMap G
  | [], _ => rfl
  | x :: r, h => by rw [List.flatMap_cons, List.flatMap_cons, h x List.mem_cons_self, fm_congr fun y hy => h y (List.mem_cons_of_mem _ hy)]
theorem brk_fuel {rs : Rows} (ok : RowsOk rs) : ∀ m m' i, i ≤ rs.length → rs.length ≤ i + m → rs.length ≤ i + m' → brk rs m i = brk rs m' i
  | m, m', i, hi, h, h' => by
    by_cases q : i = rs.length
    · rw [q, brk_end, brk_end]
    · match m, m', h, h' with
      | 0, _, h, _ => exact absurd (show i = rs.length by omega) q
      | _ + 1, 0, _, h' => exact absurd (show i = rs.length by omega) q
      | m + 1, m' + 1, h, h' =>
        have hr := List.getElem?_eq_getElem (l := rs) (i := i) (by omega)
        rw [brk_step hr, brk_step hr]
        refine fm_congr fun x hx => ?_
        have lt := ok.lt i _ hr x hx
        rw [brk_fuel ok m m' x.1 lt.2 (by omega) (by omega)]
/-! t < u of tuples -/
section
variable {X : Cx} {ρ : Sl} {M M1 M2 : Mem} {a b : Expr} {pos : Pos}
theorem tz_rep {K : PySem.W.Frag} {G : Hp} {v : V} {ns : List Int} (h : Rep K G v (tZ ns)) : ∃ p, v = .ref p ∧ SqT K G p (ns.map V.int) := by
  cases h with
  | tup q r =>
    refine ⟨_, rfl, ?_⟩
    rw [show ns.map dI = (ns.map V.int).map D.val by rw [List.map_map]; rfl] at r
    rw [RepL.of_vals r] at q
    exact q
theorem tv_ltT {ns ms : List Int} (hu : X.A.units + 64 < cLine) (ha : EV X a ρ M (tZ ns) M1) (hb : EV X b ρ M1 (tZ ms) M2) (hm : behindInMarks .Lt b = false) : TV X (.Compare a [.Lt] [b] pos) ρ M (HT.lexLt ns ms) M2 :=
  (pt_cmpR (op_ltT (by omega)) ha hb hm).mono fun σ H Q ⟨G, sa, k⟩ => ⟨G, sa, fun v1 G1 H1 g1 sh1 r1 => ⟨G1, ⟨sh1, sa.sl.up g1⟩, fun v2 G2 H2 g2 sh2 r2 => by
    obtain ⟨p, rfl, q1⟩ := tz_rep r1
    obtain ⟨q, rfl, q2⟩ := tz_rep r2
    exact ⟨p, q, ns, ms, rfl, rfl, sqtUp sh2.le (sqtUp g2 q1), sqtUp sh2.le q2, _, rfl, k G2 H2 (g1.trans g2) sh2⟩⟩⟩
theorem op_ltD {X : Cx} (hu : X.A.units + 64 < cLine) : OpR X (compareOp .Lt) (fun x y H Q => ∃ d e, Dp X.K H x d ∧ Dp X.K H y e ∧ PySem.W.alike d e = true ∧ d ≠ .none ∧ d.depth ≤ 60 ∧ Q (.bl (PySem.W.dataLt d e)) H) := by
  intro pins s σ H x y v u Q I rx ry h
  obtain ⟨d, e, hd, he, al, nn, dp, q⟩ := h
  obtain ⟨as, r1⟩ := Dp.reads I d x v hd rx
  obtain ⟨bs, r2⟩ := Dp.reads I e y u he ry
  exact PySem.W.lt_data r1 r2 al nn (by omega) ⟨.bl _, H, I, rfl, q⟩
theorem tv_ltD {d1 d2 : D} {r : Bool} (hu : X.A.units + 64 < cLine) (ha : EV X a ρ M d1 M1) (hb : EV X b ρ M1 d2 M2) (p1 : D.plain d1 = true) (p2 : D.plain d2 = true) (al : PySem.W.alike d1.py d2.py = true) (nn : d1.py ≠ .none) (dp : d1.py.depth ≤ 60) (hr : PySem.W.dataLt d1.py d2.py = r) (hm : behindInMarks .Lt b = false) : TV X (.Compare a [.Lt] [b] pos) ρ M r M2 :=
  (pt_cmpR (op_ltD hu) ha hb hm).mono fun σ H Q ⟨G, sa, k⟩ => ⟨G, sa, fun v1 G1 H1 g1 sh1 r1 => ⟨G1, ⟨sh1, sa.sl.up g1⟩, fun v2 G2 H2 g2 sh2 r2 =>
    ⟨_, _, dp_of sh2.le _ _ p1 (r1.up g2), dp_of sh2.le _ _ p2 r2, al, nn, dp, _, rfl, by rw [hr]; exact k G2 H2 (g1.trans g2) sh2⟩⟩⟩
end
theorem pyL_ints : ∀ l : List Int, D.pyL (l.map dI) = l.map PyData.int
  | [] => by simp only [List.map_nil, D.pyL]
  | a :: l => by simp only [List.map_cons, D.pyL, D.py, pyL_ints l]
theorem plainL_ints : ∀ l : List Int, D.plainL (l.map dI) = true
  | [] => by simp only [List.map_nil, D.plainL]
  | a :: l => by simp only [List.map_cons, D.plainL, D.plain, plainL_ints l, Bool.and_self]
theorem alike_ints : ∀ l m : List Int, PySem.W.alikeAll (l.map PyData.int) (m.map PyData.int) = true
  | [], m => by simp only [List.map_nil, PySem.W.alikeAll]
  | a :: l, [] => by simp only [List.map_nil, List.map_cons, PySem.W.alikeAll]
  | a :: l, b :: m => by simp only [List.map_cons, PySem.W.alikeAll, PySem.W.alike, alike_ints l m, Bool.and_self]
theorem depth_ints : ∀ l : List Int, PyData.depthAll (l.map PyData.int) = 0
  | [] => by simp only [List.map_nil, PyData.depthAll]
  | a :: l => by simp only [List.map_cons, PyData.depthAll, PyData.depth, depth_ints l, Nat.max_self]
theorem eqv_int (a b : Int) : PyData.eqv (.int a) (.int b) = decide (a = b) := by
  simp only [PyData.eqv]
  by_cases h : a = b
  · rw [h, decide_eq_true rfl]; exact beq_self_eq_true b
  · rw [decide_eq_false h]; exact beq_eq_false_iff_ne.mpr h
theorem lt_ints : ∀ l m : List Int, PyProof.Rows.lexLt PyProof.Rows.itemOrd (PySem.W.keyToksAll (l.map PyData.int)) (PySem.W.keyToksAll (m.map PyData.int)) = HT.lexLt l m
  | [], [] => by
    simp only [List.map_nil, PySem.W.keyToksAll]
    exact PyProof.Rows.lex_irrefl _
  | [], b :: m => by
    simp only [List.map_nil, List.map_cons, PySem.W.keyToksAll]
    rw [PyProof.Rows.lex_diff (by intro h; cases h)]
    rfl
  | a :: l, [] => by
    simp only [List.map_nil, List.map_cons, PySem.W.keyToksAll]
    rw [PyProof.Rows.lex_diff (by intro h; cases h)]
    rfl
  | a :: l, b :: m => by
    rw [List.map_cons, List.map_cons, PySem.W.dataLt_cons (by simp only [PySem.W.alike]), eqv_int, PySem.W.dataLt_int, lt_ints l m]
    by_cases e : a = b
    · rw [if_pos (decide_eq_true e)]
      show _ = if a = b then _ else _
      rw [if_pos e]
    · rw [if_neg (by rw [decide_eq_false e]; exact Bool.false_ne_true)]
      show _ = if a = b then _ else _
      rw [if_neg e]
/-- what breakings are ranked by -/
def mineD (e : Brk) : D := .tup [dI e.2, dI ((e.1.length : Nat) : Int), .tup ((zs e.1).map dI)]
theorem mine_py (e : Brk) : (mineD e).py = .tuple [.int e.2, .int ((e.1.length : Nat) : Int), .tuple ((zs e.1).map PyData.int)] := by
  unfold mineD
  simp only [D.py, D.pyL, pyL_ints]
theorem mine_plain (e : Brk) : D.plain (mineD e) = true := by
  unfold mineD
  simp only [D.plain, D.plainL, plainL_ints, Bool.and_self]
theorem mine_alike (e f : Brk) : PySem.W.alike (mineD e).py (mineD f).py = true := by
  rw [mine_py, mine_py]
  simp only [PySem.W.alike, PySem.W.alikeAll, alike_ints, Bool.and_self]
theorem mine_none (e : Brk) : (mineD e).py ≠ .none := by
  rw [mine_py]
  intro h
  cases h
theorem mine_depth (e : Brk) : (mineD e).py.depth ≤ 60 := by
  rw [mine_py]
  simp only [PyData.depth, PyData.depthAll, depth_ints]
  decide
theorem mine_lt (e f : Brk) : PySem.W.dataLt (mineD e).py (mineD f).py = HT.lexLt (keyB e) (keyB f) := by
  have ai : ∀ a b : Int, PySem.W.alike (.int a) (.int b) = true := fun a b => by simp only [PySem.W.alike]
  have at_ : PySem.W.alike (.tuple ((zs e.1).map PyData.int)) (.tuple ((zs f.1).map PyData.int)) = true := by simp only [PySem.W.alike, alike_ints]
  rw [mine_py, mine_py, PySem.W.dataLt_tuple, PySem.W.dataLt_cons (ai _ _), PySem.W.dataLt_cons (ai _ _), PySem.W.dataLt_cons at_, eqv_int, eqv_int, PySem.W.dataLt_int, PySem.W.dataLt_int, PySem.W.dataLt_tuple, lt_ints]
  have tl : (if PyData.eqv (.tuple ((zs e.1).map PyData.int)) (.tuple ((zs f.1).map PyData.int)) = true then PyProof.Rows.lexLt PyProof.Rows.itemOrd (PySem.W.keyToksAll []) (PySem.W.keyToksAll []) else HT.lexLt (zs e.1) (zs f.1)) = HT.lexLt (zs e.1) (zs f.1) := by
    split
    · rename_i q
      have h := (PySem.W.toks_eqv _ _ at_).1 q
      have k := lt_ints (zs e.1) (zs f.1)
      simp only [PySem.W.keyToks] at h
      rw [h, PyProof.Rows.lex_irrefl] at k
      rw [← k]
      exact PyProof.Rows.lex_irrefl _
    · rfl
  rw [tl]
  show _ = if e.2 = f.2 then (if ((e.1.length : Nat) : Int) = ((f.1.length : Nat) : Int) then HT.lexLt (zs e.1) (zs f.1) else decide (((e.1.length : Nat) : Int) < ((f.1.length : Nat) : Int))) else decide (e.2 < f.2)
  by_cases h1 : e.2 = f.2
  · rw [if_pos (decide_eq_true h1), if_pos h1]
    by_cases h2 : ((e.1.length : Nat) : Int) = ((f.1.length : Nat) : Int)
    · rw [if_pos (decide_eq_true h2), if_pos h2]
    · rw [if_neg (by rw [decide_eq_false h2]; exact Bool.false_ne_true), if_neg h2]
  · rw [if_neg (by rw [decide_eq_false h1]; exact Bool.false_ne_true), if_neg h1]
def brD (e : Brk) : D := .tup [.tup ((zs e.1).map dI), dI e.2]
def PrBrk (m : Nat) (ds : List D) (M : Mem) (d : D) (M' : Mem) : Prop := ∃ (rs : Rows) (i : Nat), ds = [.lst (rs.map rowT), dI ((i : Nat) : Int)] ∧ RowsOk rs ∧ rs.length ≤ 12 ∧ i ≤ rs.length ∧ rs.length ≤ i + m ∧ d = .lst ((brk rs m i).map brD) ∧ M' = M
def PrDue (ds : List D) (M : Mem) (d : D) (M' : Mem) : Prop := ∃ rs : Rows, ds = [.lst (rs.map rowT)] ∧ RowsOk rs ∧ d = bestD rs ∧ M' = M
theorem brk_ends {rs : Rows} (ok : RowsOk rs) : ∀ m i, i ≤ rs.length → ∀ e ∈ brk rs m i, e.1.length + i ≤ rs.length
  | 0, i, hi, e, h => by
    have h : e ∈ (if i = rs.length then [(([] : List Nat), (0 : Int))] else []) := h
    split at h
    · rw [List.mem_singleton.mp h]
      show 0 + i ≤ _
      omega
    · cases h
  | m + 1, i, hi, e, h => by
    by_cases q : i = rs.length
    · rw [q, brk_end] at h
      rw [List.mem_singleton.mp h]
      show 0 + i ≤ _
      omega
    · have hr := List.getElem?_eq_getElem (l := rs) (i := i) (by omega)
      rw [brk_step hr] at h
      obtain ⟨x, hx, h⟩ := List.mem_flatMap.mp h
      obtain ⟨u, hu, rfl⟩ := List.mem_map.mp h
      have lt := ok.lt i _ hr x hx
      have := brk_ends ok m x.1 lt.2 u hu
      show u.1.length + 1 + i ≤ _
      omega
theorem flat_take {α β : Type} {F : α → List β} {r : List α} {j : Nat} {x : α} (h : r[j]? = some x) : (r.take (j + 1)).flatMap F = (r.take j).flatMap F ++ F x := by
  rw [List.take_succ, h, Option.toList_some, List.flatMap_append, List.flatMap_cons, List.flatMap_nil, List.append_nil]
theorem flat_le {α β : Type} {F : α → List β} (r : List α) (j : Nat) : ((r.take j).flatMap F).length ≤ (r.flatMap F).length := by
  have e : r.flatMap F = (r.take j).flatMap F ++ (r.drop j).flatMap F := by rw [← List.flatMap_append, List.take_append_drop]
  rw [e, List.length_append]
  omega
def leD : Option BE → D
  | none => dN
  | some e => .tup [dI e.1, dI e.2.1, (match e.2.2 with
    | none => .tup []
    | some s => dI ((s : Nat) : Int))]
theorem le_ix {xs : List (Option BE)} {j : Nat} (h : j < xs.length) : atI (xs.map leD) ((j : Nat) : Int) = some (leD (xs.getD j none)) := atI_nat (by rw [List.getElem?_map, List.getElem?_eq_getElem h, List.getD_eq_getElem?_getD, List.getElem?_eq_getElem h]; rfl) rfl
def bsD (nss : List (List Int)) : D := if nss.length = 0 then dN else tZ (mnL nss)
theorem bsD_rank (t : List (Option BE)) (r : List (Nat × Int)) : bsD (cand t r) = leD (rank t r) := by
  unfold bsD
  by_cases h : (cand t r).length = 0
  · rw [if_pos h, rank_0 h]
    rfl
  · rw [if_neg h]
    obtain ⟨m, _⟩ := mnL_mem (nss := cand t r) (by omega)
    obtain ⟨x, _, e, _, em⟩ := mem_cand m
    unfold rank
    rw [if_neg h, em]
    rfl
def bmD : Option Brk → D
  | none => dN
  | some e => mineD e
theorem take_snoc {α : Type} {l : List α} {k : Nat} {x : α} (h : l[k]? = some x) : l.take (k + 1) = l.take k ++ [x] := by rw [List.take_succ, h, Option.toList_some]
section
variable {P : Program} {w : World} {K : PySem.W.Frag} {mg : Str → Option Value} {base : Heap} {f : Addr} {fd : FuncData}
theorem c_breakings (F : Fun K "_law_breakings" "_law_breakings" s_breakings f fd) (hm : mg "_law_breakings" = some (.ref f)) (T : Bt mg) : ∀ n, Cal P w K mg base (n + 1) "_law_breakings" (spD K (PrBrk n)) := by
  intro n
  induction n with
  | zero =>
    refine cal_of F sc_breakings hm (fun _ _ _ _ _ _ us hl => match us, hl with | [_, _], _ => rfl) (fun ds M d M' h => ?_) fun cdv A outer s H E ds M d M' hr h => ?_
    · obtain ⟨rs, i, rfl, _⟩ := h
      rfl
    · obtain ⟨rs, i, rfl, rok, h12, hi, hm0, rfl, rfl⟩ := h
      obtain rfl : i = rs.length := by omega
      show BV _ _ [some (.lst (rs.map rowT)), some (dI ((rs.length : Nat) : Int)), none, none, none, none, none] _ _
      refine bv_cons (sv_if (p := true) (M1 := M') (tv_to (tv_cmpR op_eq (ev_var 1 rfl) (ev_lenL T.len (ev_var 0 rfl)) rs_eqI (nomark _)) (by rw [List.length_map, decide_eq_true rfl])) (fun _ => ?_) (fun h => nomatch h))
      exact bv_one (sv_ret (ev_lst (av_cons (ev_tup (av_cons (ev_tup av_nil) (av_cons ev_int av_nil))) av_nil)) ⟨by rw [brk_end]; rfl, Mle.refl _⟩)
  | succ n ih =>
    refine cal_of F sc_breakings hm (fun _ _ _ _ _ _ us hl => match us, hl with | [_, _], _ => rfl) (fun ds M d M' h => ?_) fun cdv A outer s H E ds M d M' hr h => ?_
    · obtain ⟨rs, i, rfl, _⟩ := h
      rfl
    · obtain ⟨rs, i, rfl, rok, h12, hi, hm0, rfl, rfl⟩ := h
      have hr0 : Room (n + 1) (A.deeper (envOfC "_law_breakings" (defScope s_breakings) s.heap.objs.size f cdv)) := hr
      show BV _ _ [some (.lst (rs.map rowT)), some (dI ((i : Nat) : Int)), none, none, none, none, none] _ _
      by_cases q : i = rs.length
      · subst q
        refine bv_cons (sv_if (p := true) (M1 := M') (tv_to (tv_cmpR op_eq (ev_var 1 rfl) (ev_lenL T.len (ev_var 0 rfl)) rs_eqI (nomark _)) (by rw [List.length_map, decide_eq_true rfl])) (fun _ => ?_) (fun h => nomatch h))
        exact bv_one (sv_ret (ev_lst (av_cons (ev_tup (av_cons (ev_tup av_nil) (av_cons ev_int av_nil))) av_nil)) ⟨by rw [brk_end]; rfl, Mle.refl _⟩)
      · refine bv_cons (sv_if (p := false) (M1 := M') (tv_to (tv_cmpR op_eq (ev_var 1 rfl) (ev_lenL T.len (ev_var 0 rfl)) rs_eqI (nomark _)) (by rw [List.length_map]; exact decide_eq_false (by omega))) (fun h => nomatch h) (fun _ => bv_nil ?_))
        have hrr := List.getElem?_eq_getElem (l := rs) (i := i) (by omega)
        generalize rs[i] = r at hrr
        have blen := brk_len rok (n + 1) i hi
        have p12 : 2 ^ (rs.length - i) ≤ 2 ^ 12 := Nat.pow_le_pow_right (by decide) (by omega)
        have p12' : (2 : Nat) ^ 12 = 4096 := by decide
        rw [brk_step hrr] at blen ⊢
        refine bv_cons (sv_setNew 2 sc_breakings.nd av_nil (fun z hz => ?_))
        show BV _ _ [some (.lst (rs.map rowT)), some (dI ((i : Nat) : Int)), some (dP z), none, none, none, none] _ _
        refine bv_cons (sv_for rfl (iv_list (ds := r.map rT) (ev_ixL (ds := rs.map rowT) (ev_var 0 rfl) (ev_var 1 rfl) (row_ix hrr))) (pg_any rfl (pgs_cons (pg_name (i := 3) sc_breakings.nd rfl (.inl rfl)) (pgs_cons (pg_name (i := 4) sc_breakings.nd rfl (.inl rfl)) pgs_nil))) (fun j ρ M => ∃ (x3 x4 x5 x6 : Option D), ρ = [some (.lst (rs.map rowT)), some (dI ((i : Nat) : Int)), some (dP z), x3, x4, x5, x6] ∧ M = M'.set z (.lst (((r.take j).flatMap fun x => (brk rs n x.1).map fun e => (x.1 :: e.1, x.2 + e.2)).map brD))) ⟨_, _, _, _, rfl, rfl⟩ (fun j d ρ' M hd iv => ?_) (fun ρ' M iv => ?_))
        · obtain ⟨x3, x4, x5, x6, rfl, rfl⟩ := iv
          rw [List.getElem?_map, Option.map_eq_some_iff] at hd
          obtain ⟨x, hx, rfl⟩ := hd
          have hxl := rok.lt i _ hrr x (List.mem_of_getElem? hx)
          have fl := flat_le (F := fun x : Nat × Int => (brk rs n x.1).map fun e => (x.1 :: e.1, x.2 + e.2)) r (j + 1)
          have ft := flat_take (F := fun x : Nat × Int => (brk rs n x.1).map fun e => (x.1 :: e.1, x.2 + e.2)) hx
          rw [ft] at fl
          generalize ((r.take j).flatMap fun x => (brk rs n x.1).map fun e => (x.1 :: e.1, x.2 + e.2)) = A0 at ft fl
          rw [List.length_append, List.length_map] at fl
          refine ⟨_, tg_any (b := false) (ds := [dI ((x.1 : Nat) : Int), dI x.2]) (tg_cons tg_name (tg_cons tg_name tg_nil)), ?_⟩
          have be := brk_ends rok n x.1 hxl.2
          refine bv_one (sv_for rfl (iv_list (ds := (brk rs n x.1).map brD) (ev_call ih hr0 (av_cons (ev_var 0 rfl) (av_cons (ev_var 3 rfl) av_nil)) ⟨rs, x.1, rfl, rok, h12, hxl.2, by omega, rfl, rfl⟩)) (pg_any rfl (pgs_cons (pg_name (i := 5) sc_breakings.nd rfl (.inl rfl)) (pgs_cons (pg_name (i := 6) sc_breakings.nd rfl (.inl rfl)) pgs_nil))) (fun k ρ M => ∃ (x5 x6 : Option D), ρ = [some (.lst (rs.map rowT)), some (dI ((i : Nat) : Int)), some (dP z), some (dI ((x.1 : Nat) : Int)), some (dI x.2), x5, x6] ∧ M = M'.set z (.lst ((A0 ++ ((brk rs n x.1).take k).map fun e => (x.1 :: e.1, x.2 + e.2)).map brD))) ⟨_, _, rfl, by rw [List.take_zero, List.map_nil, List.append_nil]⟩ (fun k d ρ' M hd2 iv => ?_) (fun ρ' M iv => ?_))
          · obtain ⟨x5, x6, rfl, rfl⟩ := iv
            rw [List.getElem?_map, Option.map_eq_some_iff] at hd2
            obtain ⟨e, he, rfl⟩ := hd2
            have lk := (List.getElem?_eq_some_iff.mp he).1
            have le := be e (List.mem_of_getElem? he)
            refine ⟨_, tg_any (b := false) (ds := [.tup ((zs e.1).map dI), dI e.2]) (tg_cons tg_name (tg_cons tg_name tg_nil)), ?_⟩
            refine bv_one (sv_append (d := brD (x.1 :: e.1, x.2 + e.2)) (ev_var 2 rfl) (ev_tup (av_cons (ev_catT (ds := [dI ((x.1 : Nat) : Int)]) (ev_tup (av_cons (ev_var 3 rfl) av_nil)) (ev_var 5 rfl) ?_) (av_cons (ev_op op_add (ev_var 4 rfl) (ev_var 6 rfl) rs_I0) av_nil))) ⟨_, Mem.set_same⟩ Mem.set_same ?_ ⟨_, _, rfl, ?_⟩)
            · rw [List.length_map]
              show 1 + (zs e.1).length ≤ sizeLine
              rw [zs_len]
              exact Nat.le_trans (show _ ≤ 13 by omega) (by decide)
            · rw [List.length_map, List.length_append, List.length_map, List.length_take]
              exact Nat.lt_of_le_of_lt (show _ ≤ 4096 by omega) (by decide)
            · rw [Mem.set_set, take_snoc he]
              simp only [List.map_append, List.map_cons, List.map_nil, List.append_assoc]
          · obtain ⟨x5, x6, rfl, rfl⟩ := iv
            rw [List.length_map, List.take_length]
            exact ⟨_, _, _, _, rfl, by rw [ft]⟩
        · obtain ⟨x3, x4, x5, x6, rfl, rfl⟩ := iv
          rw [List.length_map, List.take_length]
          refine bv_still 2 rfl Mem.set_same ?_
          rw [mem_set_del hz]
          exact bv_one (sv_ret (ev_var 2 rfl) ⟨rfl, Mle.refl _⟩)
theorem c_best (F : Fun K "_law_best" "_law_best" s_best f fd) (hm : mg "_law_best" = some (.ref f)) (T : Bt mg) : Cal P w K mg base 1 "_law_best" (spD K PrDue) := by
  refine cal_of F sc_best hm (fun _ _ _ _ _ _ us hl => match us, hl with | [_], _ => rfl) (fun ds M d M' h => ?_) fun cdv A outer s H E ds M d M' hr h => ?_
  · obtain ⟨rs, rfl, _⟩ := h
    rfl
  · obtain ⟨rs, rfl, rok, rfl, rfl⟩ := h
    show BV _ _ [some (.lst (rs.map rowT)), none, none, none, none, none, none, none, none, none, none] _ _
    have n0 := rok.n0
    have n1 := rok.n1
    refine bv_cons (sv_set 1 sc_best.nd (ev_to (ev_lenL T.len (ev_var 0 rfl)) (show _ = dI ((rs.length : Nat) : Int) by rw [List.length_map])) ?_)
    refine bv_cons (sw_set 2 sc_best.nd (ew_padOne (n := rs.length) (dx := .tup [dI 0, dI 0, .tup []]) (dy := dN) (fun M => ev_non) (fun M => ev_var 1 rfl) (fun M => ev_tup (av_cons ev_int (av_cons ev_int (av_cons (ev_tup av_nil) av_nil)))) (by omega) (fun z hz => ?_)))
    show BV _ _ [some (.lst (rs.map rowT)), some (dI ((rs.length : Nat) : Int)), some (dP z), none, none, none, none, none, none, none, none] _ _
    refine bv_cons (sv_join (fun ρ M => ∃ (x3 x4 x5 x6 x7 : Option D), ρ = [some (.lst (rs.map rowT)), some (dI ((rs.length : Nat) : Int)), some (dP z), x3, x4, x5, x6, x7, none, none, none] ∧ M = M'.set z (.lst ((best rs).map leD))) (sw_for rfl (pg_name (i := 3) sc_best.nd rfl (.inl rfl)) ?_) ?_)
    · refine iw_iv (iv_range3 T.range (ev_op op_sub (ev_var 1 rfl) ev_int rs_I0) (ev_un un_neg ev_int ru_neg) (ev_un un_neg ev_int ru_neg) (RgC.neg (by omega) (by omega) (by omega) (by omega))) ⟨fun k ρ M => ∃ (x3 x4 x5 x6 x7 : Option D), ρ = [some (.lst (rs.map rowT)), some (dI ((rs.length : Nat) : Int)), some (dP z), x3, x4, x5, x6, x7, none, none, none] ∧ M = M'.set z (.lst ((bk rs k).map leD)), ⟨none, none, none, none, none, rfl, by unfold bk; rw [List.map_append, List.map_replicate]; rfl⟩, fun k d ρ' M hd iv => ?_, fun ρ' M iv => ?_⟩
      · obtain ⟨x3, x4, x5, x6, x7, rfl, rfl⟩ := iv
        have hk : k < rs.length := by
          have := (List.getElem?_eq_some_iff.mp hd).1
          rw [List.length_map, List.length_range] at this
          omega
        obtain rfl : d = dI ((rs.length - 1 - k : Nat) : Int) := by
          rw [List.getElem?_map, List.getElem?_range (by omega)] at hd
          cases hd
          exact congrArg dI (by omega)
        have hg := List.getElem?_eq_getElem (l := rs) (i := rs.length - 1 - k) (by omega)
        have ebk : bk rs (k + 1) = (bk rs k).set (rs.length - 1 - k) (rank (bk rs k) (rs.getD (rs.length - 1 - k) [])) := rfl
        rw [getD_of hg] at ebk
        generalize rs[rs.length - 1 - k] = r at hg ebk
        have bl := bk_len rs k
        generalize bk rs k = t at ebk bl
        refine ⟨_, tg_name, ?_⟩
        refine bv_cons (sv_set 4 sc_best.nd ev_non ?_)
        refine bv_cons (sv_for rfl (iv_list (ds := r.map rT) (ev_ixL (ds := rs.map rowT) (ev_var 0 rfl) (ev_var 3 rfl) (row_ix hg))) (pg_any rfl (pgs_cons (pg_name (i := 5) sc_best.nd rfl (.inl rfl)) (pgs_cons (pg_name (i := 6) sc_best.nd rfl (.inl rfl)) pgs_nil))) (fun j ρ M => ∃ (x5 x6 x7 : Option D), ρ = [some (.lst (rs.map rowT)), some (dI ((rs.length : Nat) : Int)), some (dP z), some (dI ((rs.length - 1 - k : Nat) : Int)), some (bsD (cand t (r.take j))), x5, x6, x7, none, none, none] ∧ M = M'.set z (.lst (t.map leD))) ⟨_, _, _, rfl, rfl⟩ (fun j d ρ' M hd2 iv => ?_) (fun ρ' M iv => ?_))
        · obtain ⟨x5, x6, x7, rfl, rfl⟩ := iv
          rw [List.getElem?_map, Option.map_eq_some_iff] at hd2
          obtain ⟨x, hx, rfl⟩ := hd2
          have hxl := rok.lt _ _ hg x (List.mem_of_getElem? hx)
          refine ⟨_, tg_any (b := false) (ds := [dI ((x.1 : Nat) : Int), dI x.2]) (tg_cons tg_name (tg_cons tg_name tg_nil)), ?_⟩
          have ei := le_ix (xs := t) (j := x.1) (by omega)
          have ct := cand_take (t := t) hx
          cases hs : t.getD x.1 none with
          | none =>
            rw [hs] at ei ct
            have ct : cand t (r.take (j + 1)) = cand t (r.take j) ++ [] := ct
            rw [List.append_nil] at ct
            exact bv_one (sv_if (p := false) (M1 := M'.set z (.lst (t.map leD))) (tv_to (tv_notNn (d := dN) (ev_ixM (ev_var 2 rfl) (ev_var 5 rfl) Mem.set_same ei)) rfl) (fun h => nomatch h) (fun _ => bv_nil ⟨_, _, _, by rw [ct]; rfl, rfl⟩))
          | some e0 =>
            rw [hs] at ei ct
            have ct : cand t (r.take (j + 1)) = cand t (r.take j) ++ [[x.2 + e0.1, 1 + e0.2.1, (x.1 : Int)]] := ct
            generalize cand t (r.take j) = nss at ct
            refine bv_one (sv_if (p := true) (M1 := M'.set z (.lst (t.map leD))) (tv_to (tv_notNn (d := leD (some e0)) (ev_ixM (ev_var 2 rfl) (ev_var 5 rfl) Mem.set_same ei)) rfl) (fun _ => ?_) (fun h => nomatch h))
            refine bv_cons (sv_set 7 sc_best.nd (d := tZ [x.2 + e0.1, 1 + e0.2.1, (x.1 : Int)]) (ev_to (ev_tup (av_cons (ev_op op_add (ev_var 6 rfl) (ev_ixT (ds := [dI e0.1, dI e0.2.1, _]) (ev_ixM (ev_var 2 rfl) (ev_var 5 rfl) Mem.set_same ei) ev_int rfl) rs_I0) (av_cons (ev_op op_add ev_int (ev_ixT (ds := [dI e0.1, dI e0.2.1, _]) (ev_ixM (ev_var 2 rfl) (ev_var 5 rfl) Mem.set_same ei) ev_int rfl) rs_I0) (av_cons (ev_var 5 rfl) av_nil)))) rfl) ?_)
            by_cases h0 : nss.length = 0
            · have hn := List.length_eq_zero_iff.mp h0
              subst hn
              refine bv_one (sv_if (p := true) (M1 := M'.set z (.lst (t.map leD))) (PW.pt (wv_orT (tv_isNn (d := dN) (ev_var 4 rfl)))) (fun _ => bv_one (sv_set 4 sc_best.nd (ev_var 7 rfl) ⟨some (dI ((x.1 : Nat) : Int)), some (dI x.2), some (tZ [x.2 + e0.1, 1 + e0.2.1, (x.1 : Int)]), ?_, rfl⟩)) (fun h => nomatch h))
              rw [ct]
              rfl
            · have eb : bsD nss = tZ (mnL nss) := if_neg h0
              rw [eb]
              have ms := mnL_snoc (l := nss) [x.2 + e0.1, 1 + e0.2.1, (x.1 : Int)] (by omega)
              have eb2 : bsD (cand t (r.take (j + 1))) = tZ (mnL (nss ++ [[x.2 + e0.1, 1 + e0.2.1, (x.1 : Int)]])) := by
                rw [ct]
                exact if_neg (by rw [List.length_append]; omega)
              refine bv_one (sv_if (p := HT.lexLt [x.2 + e0.1, 1 + e0.2.1, (x.1 : Int)] (mnL nss)) (M1 := M'.set z (.lst (t.map leD))) (PW.pt (wv_orF (tv_isNn (d := tZ (mnL nss)) (ev_var 4 rfl)) (wv_one_or (tv_ltT (hu64 hr) (ev_var 7 rfl) (ev_var 4 rfl) (nomark _))))) (fun h => bv_one (sv_set 4 sc_best.nd (ev_var 7 rfl) ⟨some (dI ((x.1 : Nat) : Int)), some (dI x.2), some (tZ [x.2 + e0.1, 1 + e0.2.1, (x.1 : Int)]), ?_, rfl⟩)) (fun h => bv_nil ⟨some (dI ((x.1 : Nat) : Int)), some (dI x.2), some (tZ [x.2 + e0.1, 1 + e0.2.1, (x.1 : Int)]), ?_, rfl⟩))
              · rw [eb2, ms, if_pos h]
                rfl
              · rw [eb2, ms, if_neg (by rw [h]; exact Bool.false_ne_true)]
                rfl
        · obtain ⟨x5, x6, x7, rfl, rfl⟩ := iv
          rw [List.length_map, List.take_length]
          refine bv_one (sw_setItem (ew_ev (ev_var 4 rfl) ⟨z, _, _, rs.length - 1 - k, ev_var 2 rfl, ev_var 3 rfl, Mem.set_same, ixN_nat (by rw [List.length_map]; omega), _, _, _, _, _, rfl, ?_⟩))
          rw [Mem.set_set, ebk, bsD_rank, List.map_set]
      · obtain ⟨x3, x4, x5, x6, x7, rfl, rfl⟩ := iv
        refine ⟨_, _, _, _, _, rfl, ?_⟩
        rw [List.length_map, List.length_range, show ((rs.length : Int) - 1 - -1).toNat = rs.length by omega]
        rfl
    · rintro ρ M ⟨x3, x4, x5, x6, x7, rfl, rfl⟩
      have bl := best_len rs
      have e0 := le_ix (xs := best rs) (j := 0) (by omega)
      have bd : bestD rs = (match (best rs).getD 0 none with
        | none => dN
        | some e => .tup [dI e.1, .tup ((zs (bwk rs rs.length 0)).map dI)]) := rfl
      cases hb : (best rs).getD 0 none with
      | none =>
        rw [hb] at e0 bd
        refine bv_cons (sv_if (p := true) (M1 := M'.set z (.lst ((best rs).map leD))) (tv_isNn (d := dN) (ev_ixM (ev_var 2 rfl) ev_int Mem.set_same e0)) (fun _ => bv_one (sv_ret ev_non ⟨?_, mle_at hz⟩)) (fun h => nomatch h))
        exact bd.symm
      | some u =>
        rw [hb] at e0 bd
        refine bv_cons (sv_if (p := false) (M1 := M'.set z (.lst ((best rs).map leD))) (tv_isNn (d := leD (some u)) (ev_ixM (ev_var 2 rfl) ev_int Mem.set_same e0)) (fun h => nomatch h) (fun _ => bv_nil ?_))
        refine bv_cons (sv_set 8 sc_best.nd (ev_tup av_nil) ?_)
        refine bv_cons (sv_set 9 sc_best.nd ev_int ?_)
        refine bv_cons (sv_for rfl (iv_range1 T.range (ev_var 1 rfl) (by omega)) (pg_name (i := 10) sc_best.nd rfl (.inl rfl)) (fun k ρ M => ∃ (dn : List Nat) (a : Nat) (v : BE) (x10 : Option D), ρ = [some (.lst (rs.map rowT)), some (dI ((rs.length : Nat) : Int)), some (dP z), x3, x4, x5, x6, x7, some (.tup ((zs dn).map dI)), some (dI ((a : Nat) : Int)), x10] ∧ M = M'.set z (.lst ((best rs).map leD)) ∧ a ≤ rs.length ∧ rs.length ≤ a + (rs.length - k) ∧ dn.length ≤ k ∧ dn ++ bwk rs (rs.length - k) a = bwk rs rs.length 0 ∧ (best rs).getD a none = some v) ⟨[], 0, u, none, rfl, rfl, Nat.zero_le _, by omega, Nat.le_refl _, rfl, hb⟩ (fun k d ρ' M hd iv => ?_) (fun ρ' M iv => ?_))
        · obtain ⟨dn, a, v, x10, rfl, rfl, ha, hak, hl, hw, hv⟩ := iv
          obtain ⟨hk, rfl⟩ := rgD_get hd
          have hk : k < rs.length := by omega
          refine ⟨_, tg_name, ?_⟩
          refine bv_one (sv_if (p := decide (a < rs.length)) (M1 := M'.set z (.lst ((best rs).map leD))) (tv_to (tv_cmpR op_lt (ev_var 9 rfl) (ev_var 1 rfl) rs_I0 (nomark _)) (decide_eq_decide.mpr (by omega))) (fun h => ?_) (fun h => bv_nil ?_))
          · have hlt := of_decide_eq_true h
            obtain ⟨m, em⟩ : ∃ m, rs.length - k = m + 1 := ⟨rs.length - k - 1, by omega⟩
            have em2 : rs.length - (k + 1) = m := by omega
            obtain ⟨s1, u2, eu2, lt1, le1, hs1, hw1⟩ := best_next rok hlt hv
            rw [em, hw1] at hw
            have ea : atI ((best rs).map leD) ((a : Nat) : Int) = some (.tup [dI v.1, dI v.2.1, dI ((s1 : Nat) : Int)]) := by rw [le_ix (by omega), hv, eu2]; rfl
            refine bv_cons (sv_set 9 sc_best.nd (ev_ixT (ds := [dI v.1, dI v.2.1, dI ((s1 : Nat) : Int)]) (ev_ixM (ev_var 2 rfl) (ev_var 9 rfl) Mem.set_same ea) ev_int rfl) ?_)
            refine bv_one (sw_set 8 sc_best.nd (ew_catT (ew_ev (ev_var 8 rfl) ⟨_, rfl, ew_ev (ev_tup (av_cons (ev_var 9 rfl) av_nil)) ⟨_, rfl, ?_, ?_⟩⟩)))
            · rw [List.length_map, zs_len]
              show dn.length + 1 ≤ sizeLine
              exact Nat.le_trans (show _ ≤ 401 by omega) (by decide)
            · refine ⟨dn ++ [s1], s1, u2, some (dI (0 + ((k : Nat) : Int))), ?_, rfl, le1, by omega, by rw [List.length_append]; show dn.length + 1 ≤ k + 1; omega, by rw [em2, List.append_assoc]; exact hw, hs1⟩
              unfold zs
              rw [List.map_append, List.map_append]
              rfl
          · have hge := of_decide_eq_false h
            obtain rfl : a = rs.length := by omega
            rw [bwk_end] at hw
            exact ⟨dn, _, v, _, rfl, rfl, Nat.le_refl _, by omega, by omega, by rw [bwk_end]; exact hw, hv⟩
        · obtain ⟨dn, a, v, x10, rfl, rfl, ha, hak, hl, hw, hv⟩ := iv
          rw [rgD_len, Int.toNat_natCast, Nat.sub_self] at hw
          have hw : dn ++ [] = _ := hw
          rw [List.append_nil] at hw
          subst hw
          refine bv_one (sv_ret (ev_tup (av_cons (ev_ixT (ds := [dI u.1, dI u.2.1, _]) (ev_ixM (ev_var 2 rfl) ev_int Mem.set_same e0) ev_int rfl) (av_cons (ev_var 8 rfl) av_nil))) ⟨?_, mle_at hz⟩)
          exact bd.symm
theorem c_due (F : Fun K "_law_due" "_law_due" s_due f fd) (hm : mg "_law_due" = some (.ref f)) (T : Bt mg) (c_best : Cal P w K mg base 1 "_law_best" (spD K PrDue)) (c_breakings : Cal P w K mg base 13 "_law_breakings" (spD K (PrBrk 12))) : Cal P w K mg base 14 "_law_due" (spD K PrDue) := by
  refine cal_of F sc_due hm (fun _ _ _ _ _ _ us hl => match us, hl with | [_], _ => rfl) (fun ds M d M' h => ?_) fun cdv A outer s H E ds M d M' hr h => ?_
  · obtain ⟨rs, rfl, _⟩ := h
    rfl
  · obtain ⟨rs, rfl, rok, rfl, rfl⟩ := h
    show BV _ _ [some (.lst (rs.map rowT)), none, none, none, none] _ _
    refine bv_cons (sv_if (p := decide (12 < rs.length)) (M1 := M') (tv_to (tv_cmpR op_gt (ev_lenL T.len (ev_var 0 rfl)) ev_int rs_I0 (nomark _)) (decide_eq_decide.mpr (by rw [List.length_map]; omega))) (fun _ => ?_) (fun h => bv_nil ?_))
    · exact bv_one (sv_ret (ev_call c_best (hr.mono (by decide)) (av_cons (ev_var 0 rfl) av_nil) ⟨rs, rfl, rok, rfl, rfl⟩) ⟨rfl, Mle.refl _⟩)
    have h12 : rs.length ≤ 12 := by have := of_decide_eq_false h; omega
    refine bv_cons (sv_set 1 sc_due.nd ev_non ?_)
    have mb := minB_best rok
    have e12 : ∀ m, rs.length ≤ m → brk rs m 0 = brk rs rs.length 0 := fun m hmm => brk_fuel rok m rs.length 0 (Nat.zero_le _) (by omega) (by omega)
    rw [← e12 12 h12] at mb
    refine bv_cons (sv_for rfl (iv_list (ds := (brk rs 12 0).map brD) (ev_call c_breakings (hr.mono (by decide)) (av_cons (ev_var 0 rfl) (av_cons ev_int av_nil)) ⟨rs, 0, rfl, rok, h12, Nat.zero_le _, by omega, rfl, rfl⟩)) (pg_any rfl (pgs_cons (pg_name (i := 2) sc_due.nd rfl (.inl rfl)) (pgs_cons (pg_name (i := 3) sc_due.nd rfl (.inl rfl)) pgs_nil))) (fun k ρ M => ∃ (x2 x3 x4 : Option D), ρ = [some (.lst (rs.map rowT)), some (bmD (minB ((brk rs 12 0).take k))), x2, x3, x4] ∧ M = M') ⟨_, _, _, rfl, rfl⟩ (fun k d ρ' M hd iv => ?_) (fun ρ' M iv => ?_))
    · obtain ⟨x2, x3, x4, rfl, rfl⟩ := iv
      rw [List.getElem?_map, Option.map_eq_some_iff] at hd
      obtain ⟨e, he, rfl⟩ := hd
      have ms : minB ((brk rs 12 0).take (k + 1)) = stepB (minB ((brk rs 12 0).take k)) e := by rw [take_snoc he, minB_snoc]
      generalize minB ((brk rs 12 0).take k) = o at ms
      refine ⟨_, tg_any (b := false) (ds := [.tup ((zs e.1).map dI), dI e.2]) (tg_cons tg_name (tg_cons tg_name tg_nil)), ?_⟩
      refine bv_cons (sv_set 4 sc_due.nd (d := mineD e) (ev_tup (av_cons (ev_var 3 rfl) (av_cons (ev_to (ev_lenT (ds := (zs e.1).map dI) T.len (ev_var 2 rfl)) (by rw [List.length_map, zs_len])) (av_cons (ev_var 2 rfl) av_nil)))) ?_)
      cases o with
      | none =>
        refine bv_one (sv_if (p := true) (M1 := M) (PW.pt (wv_orT (tv_isNn (d := dN) (ev_var 1 rfl)))) (fun _ => bv_one (sv_set 1 sc_due.nd (ev_var 4 rfl) ⟨some (.tup ((zs e.1).map dI)), some (dI e.2), some (mineD e), ?_, rfl⟩)) (fun h => nomatch h))
        rw [ms]
        rfl
      | some b =>
        refine bv_one (sv_if (p := HT.lexLt (keyB e) (keyB b)) (M1 := M) (PW.pt (wv_orF (tv_isNn (d := mineD b) (ev_var 1 rfl)) (wv_one_or (tv_ltD (d1 := mineD e) (d2 := mineD b) (hu64 hr) (ev_var 4 rfl) (ev_var 1 rfl) (mine_plain e) (mine_plain b) (mine_alike e b) (mine_none e) (mine_depth e) (mine_lt e b) (nomark _))))) (fun h => bv_one (sv_set 1 sc_due.nd (ev_var 4 rfl) ⟨some (.tup ((zs e.1).map dI)), some (dI e.2), some (mineD e), ?_, rfl⟩)) (fun h => bv_nil ⟨some (.tup ((zs e.1).map dI)), some (dI e.2), some (mineD e), ?_, rfl⟩))
        · rw [ms]
          rw [show stepB (some b) e = (if HT.lexLt (keyB e) (keyB b) = true then some e else some b) from rfl]
          rw [if_pos h]
          rfl
        · rw [ms]
          rw [show stepB (some b) e = (if HT.lexLt (keyB e) (keyB b) = true then some e else some b) from rfl]
          rw [if_neg (by rw [h]; exact Bool.false_ne_true)]
          rfl
    · obtain ⟨x2, x3, x4, rfl, rfl⟩ := iv
      rw [List.length_map, List.take_length, mb]
      have bd : bestD rs = (match (best rs).getD 0 none with
        | none => dN
        | some e => .tup [dI e.1, .tup ((zs (bwk rs rs.length 0)).map dI)]) := rfl
      cases hb : (best rs).getD 0 none with
      | none =>
        rw [hb] at bd
        exact bv_one (sw_ret (ew_if (tw_tv (tv_isNn (d := dN) (ev_var 1 rfl)) ⟨fun _ => ew_ev ev_non ⟨bd.symm, Mle.refl _⟩, (fun h => nomatch h)⟩)))
      | some u =>
        rw [hb] at bd
        exact bv_one (sw_ret (ew_if (tw_tv (tv_isNn (d := mineD (bwk rs rs.length 0, u.1)) (ev_var 1 rfl)) ⟨(fun h => nomatch h), fun _ => ew_ev (ev_tup (av_cons (ev_ixT (ds := [dI u.1, dI (((bwk rs rs.length 0).length : Nat) : Int), .tup ((zs (bwk rs rs.length 0)).map dI)]) (ev_var 1 rfl) ev_int rfl) (av_cons (ev_ixT (ds := [dI u.1, dI (((bwk rs rs.length 0).length : Nat) : Int), .tup ((zs (bwk rs rs.length 0)).map dI)]) (ev_var 1 rfl) ev_int rfl) av_nil))) ⟨bd.symm, Mle.refl _⟩⟩)))
end
theorem fr_at {a z : Addr} {M M1 : Mem} {o : MO} (h : Fr1 a M M1) (za : z ≠ a) (hz : M z = some o) : M1 z = some o := h z za o hz
theorem sq_nv {b : Bool} {ds : List D} : ∀ v, sq b ds ≠ .val v := fun v h => by cases b <;> cases h
theorem rp_sq {n w : Nat} {b : Bool} {ds : List D} (h : ∃ w', ds.length * (w' + 2) + 3 ≤ w ∧ ∀ d ∈ ds, rp n w' d) : rp (n + 1) w (sq b ds) := by cases b <;> exact h
theorem rp_six {n : Nat} {i : Int} (h0 : 0 ≤ i) (h1 : i ≤ 1000000) : rp n 1002 (dI i) := rp_int (Nat.lt_of_le_of_lt (show i.natAbs ≤ 1000000 by omega) (by decide)) (Nat.le_refl _)
theorem rp_frq {b : Bool} {x : Int × Int} (h : MeaOk x) : rp 1 2011 (frq b x) := rp_sq ⟨1002, by show 2 * 1004 + 3 ≤ 2011; decide, fun d hd => by
  have := h.d0
  have := h.d1
  rcases List.mem_cons.mp hd with rfl | hd
  · exact rp_six h.n0 h.n1
  · rcases List.mem_cons.mp hd with rfl | hd
    · exact rp_six (by omega) (by omega)
    · cases hd⟩
theorem rp_pcq {b : Bool} {p : Pc} (h : PcOk p) : rp 2 6042 (pcq b p) := rp_sq ⟨2011, by show 3 * 2013 + 3 ≤ 6042; decide, three_mem (P := rp 1 2011) (rp_frq h.w) (rp_frq h.s) (rp_frq h.k)⟩
theorem rp_pcs {b c : Bool} {ps : List Pc} (h : PcsOk ps) : rp 3 2417603 (sq c (ps.map (pcq b))) := rp_sq ⟨6042, by rw [List.length_map]; have := h.l1; omega, fun d hd => by
  obtain ⟨p, hp, rfl⟩ := List.mem_map.mp hd
  exact rp_pcq (h.pc p hp)⟩
theorem okD_best {rs : Rows} (h : rs.length ≤ 400) : okD 2 (bestD rs) := by
  unfold bestD
  split
  · exact .inl rfl
  · refine ⟨by show 2 ≤ 1000000; decide, fun d hd => ?_⟩
    rcases List.mem_cons.mp hd with rfl | hd
    · exact okD_int _
    · rcases List.mem_cons.mp hd with rfl | hd
      · refine ⟨?_, fun d hd => ?_⟩
        · rw [List.length_map, zs_len]
          have := bwk_len rs rs.length 0
          omega
        · obtain ⟨i, _, rfl⟩ := List.mem_map.mp hd
          exact okD_int _
      · cases hd
theorem cut_init {ds : List D} : cutD ds none (some (-1)) = ds.take (ds.length - 1) := by
  unfold cutD
  have e : HT.sIx ds.length ds.length (some (-1)) = ds.length - 1 := by
    show (if (-1 : Int) < 0 then ((-1 : Int) + (ds.length : Int)).toNat else min (-1 : Int).toNat ds.length) = _
    rw [if_pos (by decide)]
    omega
  rw [HT.sIx_none, List.drop_zero, Nat.sub_zero, e]
/-- the last piece without shrink -/
def stiff (ps : List Pc) (q : Pc) : List Pc := ps.take (ps.length - 1) ++ [(q.1, q.2.1, (0, 1))]
theorem stiff_ok {ps : List Pc} {q : Pc} (h : PcsOk ps) (hq : q ∈ ps) : PcsOk (stiff ps q) := by
  have l0 := h.l0
  have l1 := h.l1
  have pq := h.pc q hq
  refine ⟨?_, ?_, fun p hp => ?_⟩
  · unfold stiff
    rw [List.length_append]
    show 0 < _ + 1
    omega
  · unfold stiff
    rw [List.length_append, List.length_take]
    show _ + 1 ≤ _
    omega
  · rcases List.mem_append.mp hp with hp | hp
    · exact h.pc p (List.mem_of_mem_take hp)
    · rw [List.mem_singleton.mp hp]
      refine ⟨pq.w, pq.s, mea_one (by decide) (by decide), ?_⟩
      show (0 : Int) * q.1.2 ≤ q.1.1 * 1
      rw [Int.zero_mul, Int.mul_one]
      exact pq.w.n0
def rwD (e : List Pc × (Int × Int)) : D := .tup [.tup (e.1.map (pcq false)), frD e.2, bestD (lnOf e.2 e.1).rows]
section
variable {P : Program} {w : World} {K : PySem.W.Frag} {mg : Str → Option Value} {base : Heap} {f : Addr} {fd : FuncData}
theorem c_law (F : Fun K "law" "law" s_law f fd) (T : Bt mg) (hmin : mg "min" = none) (hrep : mg "repr" = none) (c_pool : Cal P w K mg base 1 "_law_pool" (spN K PrPool)) (c_amounts : Cal P w K mg base 4 "_law_amounts" (spW K R_am)) (c_pieces : Cal P w K mg base 4 "_law_pieces" (spW K R_pieces)) (c_room : Cal P w K mg base 3 "_law_room" (spW K R_room)) (c_scaled : Cal P w K mg base 3 "_law_scaled" (spD K PrScaled)) (c_fitting : Cal P w K mg base 2 "_law_fitting" (spD K PrFit)) (c_given : Cal P w K mg base 5 "_law_given" (spW K (R_given 3))) (c_same : Cal P w K mg base 4 "_law_same" (spD K (PrSame 2)))
    (c_due : Cal P w K mg base 14 "_law_due" (spD K PrDue)) (c_p_best_lines : Cal P w K mg base 8 "best_lines" (spD K PrBest)) : FnG P w K mg base 15 f fd ["script"] (spLaw K) := by
  refine law_ofG F sc_law fun cdv A outer s H E ns g hr hl => ?_
  show BV _ _ [some (.lst (ns.map dI)), none, none, none, none, none, none, none, none, none, none, none] _ _
  refine bv_cons (sv_setN 1 sc_law.nd (en_call c_pool (hr.mono (by decide)) (av_cons (ev_var 0 rfl) av_nil) ⟨ns, rfl, by omega, rfl, rfl⟩) (fun a ha => ?_))
  have hA : (Mem.set (fun _ => none) a (Pool.mo (Pool.new ns))) a = some (Pool.mo (Pool.new ns)) := Mem.set_same
  have ok := Pool.new_ok ns
  show BV _ _ _ (Mem.set (fun _ => none) a (Pool.mo (Pool.new ns))) _
  generalize Mem.set (fun _ => none) a (Pool.mo (Pool.new ns)) = M0 at hA ⊢
  generalize Pool.new ns = p at hA ok
  refine bv_cons (sv_setNew 2 sc_law.nd av_nil (fun z hz => ?_))
  have za := ne_at hA hz
  have hA1 := Mem.set_at (u := .lst []) hA hz
  have hz1 : (M0.set z (.lst [])) z = some (.lst (([] : List (List Pc × (Int × Int))).map rwD)) := Mem.set_same
  show BV _ _ [some (.lst (ns.map dI)), some (dP a), some (dP z), none, none, none, none, none, none, none, none, none] (M0.set z (.lst [])) _
  generalize M0.set z (.lst []) = M1 at hA1 hz1
  have one : ∀ {X : Cx} {ρ : Sl} {M : Mem} {k : Nat} {p1 p2 : Pos}, EV X (.UnaryOp .USub (.Constant (.int 1) k p1) p2) ρ M (dI (-1)) M := ev_un un_neg ev_int ru_neg
  refine bv_cons (sv_join (fun ρ M => ∃ (x3 x4 x5 x6 x7 : Option D) (q : Pool) (es : List (List Pc × (Int × Int))), ρ = [some (.lst (ns.map dI)), some (dP a), some (dP z), x3, x4, x5, x6, x7, none, none, none, none] ∧ M a = some q.mo ∧ q.Ok ∧ M z = some (.lst (es.map rwD)) ∧ es.length = 4 ∧ ∀ e ∈ es, PcsOk e.1 ∧ RmOk e.2) (sw_for rfl (pg_name (i := 3) sc_law.nd rfl (.inl rfl)) ?_) ?_)
  · refine iw_iv (iv_range1 T.range ev_int (by decide)) ⟨fun i ρ M => ∃ (x3 x4 x5 x6 x7 : Option D) (q : Pool) (es : List (List Pc × (Int × Int))), ρ = [some (.lst (ns.map dI)), some (dP a), some (dP z), x3, x4, x5, x6, x7, none, none, none, none] ∧ M a = some q.mo ∧ q.Ok ∧ M z = some (.lst (es.map rwD)) ∧ es.length = i ∧ ∀ e ∈ es, PcsOk e.1 ∧ RmOk e.2, ⟨_, _, _, _, _, p, [], rfl, hA1, ok, hz1, rfl, fun e h => absurd h List.not_mem_nil⟩, fun i d ρ' M' hd iv => ?_, fun ρ' M' iv => ?_⟩
    · obtain ⟨x3, x4, x5, x6, x7, q, es, rfl, hA, ok, hzz, les, hes⟩ := iv
      obtain ⟨hi, rfl⟩ := rgD_get hd
      have hi : i < 4 := hi
      refine ⟨_, tg_name, ?_⟩
      refine bv_cons (sw_asg (pg_sq false rfl (pgs_cons (pg_name (i := 4) sc_law.nd rfl (.inl rfl)) (pgs_cons (pg_name (i := 5) sc_law.nd rfl (.inl rfl)) pgs_nil))) ?_)
      refine ew_callW c_amounts (hr.mono (by decide)) (aw_av (av_cons (ev_var 1 rfl) av_nil) ⟨a, q, rfl, hA, ok, fun many most m0 m1 s0 s1 p1 ok1 M1 fr1 hA1 => ⟨_, tg_sq (b := false) (tg_cons tg_name (tg_cons tg_name tg_nil)), ?_⟩⟩)
      have hzz1 := fr_at fr1 za hzz
      refine bv_cons (sv_join (fun ρ M => ∃ many : Int, ρ = [some (.lst (ns.map dI)), some (dP a), some (dP z), some (dI (0 + ((i : Nat) : Int))), some (dI many), some (dI most), x6, x7, none, none, none, none] ∧ M = M1 ∧ 0 < many ∧ many ≤ 400) (sv_if (tv_cmpR op_gt (ev_var 3 rfl) ev_int rs_I0 (nomark _)) (fun _ => bv_one (sv_set 4 sc_law.nd (ev_min2 rfl hmin (av_cons (ev_var 4 rfl) (av_cons ev_int av_nil))) ⟨if 12 < many then 12 else many, rfl, rfl, ?_, ?_⟩)) (fun _ => bv_nil ⟨many, rfl, rfl, m0, m1⟩)) ?_)
      · split <;> omega
      · split <;> omega
      clear m0 m1 many
      rintro ρ M1' ⟨many, rfl, rfl, m0, m1⟩
      refine bv_cons (sw_set 6 sc_law.nd ?_)
      refine ew_callW c_pieces (hr.mono (by decide)) (aw_av (av_cons (ev_var 1 rfl) (av_cons (ev_var 4 rfl) av_nil)) ⟨a, p1, _, rfl, hA1, ok1, m0, m1, fun ps0 pok0 p2 ok2 M2 fr2 hA2 => ?_⟩)
      have hzz2 := fr_at fr2 za hzz1
      show BV _ _ [some (.lst (ns.map dI)), some (dP a), some (dP z), some (dI (0 + ((i : Nat) : Int))), some (dI many), some (dI most), some (.tup (ps0.map (pcq false))), x7, none, none, none, none] _ _
      refine bv_cons (sv_join (fun ρ M => ∃ ps : List Pc, ρ = [some (.lst (ns.map dI)), some (dP a), some (dP z), some (dI (0 + ((i : Nat) : Int))), some (dI many), some (dI most), some (.tup (ps.map (pcq false))), x7, none, none, none, none] ∧ M = M2 ∧ PcsOk ps) (sv_if (tv_cmpR op_eq (ev_var 3 rfl) ev_int rs_eqI (nomark _)) (fun h => ?_) (fun _ => bv_nil ⟨ps0, rfl, rfl, pok0⟩)) ?_)
      · have h3 : i = 3 := by have := of_decide_eq_true h; omega
        have he := List.getElem?_eq_getElem (l := es) (i := 2) (by omega)
        generalize es[2] = e2 at he
        obtain ⟨pok2, rok2⟩ := hes e2 (List.mem_of_getElem? he)
        have l0 := pok2.l0
        have l1 := pok2.l1
        have hlst := List.getElem?_eq_getElem (l := e2.1) (i := e2.1.length - 1) (by omega)
        generalize e2.1[e2.1.length - 1] = pl at hlst
        have r2 : atI (es.map rwD) ((2 : Nat) : Int) = some (rwD e2) := atI_nat (by rw [List.getElem?_map, he]; rfl) rfl
        have rl : atI (e2.1.map (pcq false)) (-1) = some (pcq false pl) := atI_last (by rw [List.getLast?_eq_getElem?, List.length_map, List.getElem?_map, hlst]; rfl)
        have q2 : ∀ {X : Cx} {ρ : Sl} {e : Expr} {k : Nat} {p1 p2 : Pos}, EV X e ρ M2 (rwD e2) M2 → EV X (.Subscript e (.Constant (.int 0) k p1) p2) ρ M2 (.tup (e2.1.map (pcq false))) M2 := fun h => ev_ixT (ds := [.tup (e2.1.map (pcq false)), frD e2.2, bestD (lnOf e2.2 e2.1).rows]) h ev_int rfl
        refine bv_one (sv_set 6 sc_law.nd (d := .tup ((stiff e2.1 pl).map (pcq false))) (ev_to (ev_catT (ds := (e2.1.map (pcq false)).take ((e2.1.map (pcq false)).length - 1)) (es := [pcq false (pl.1, pl.2.1, (0, 1))]) (ev_to (ev_sliceQ (b' := false) (q2 (ev_ixM (ev_var 2 rfl) ev_int hzz2 r2)) ov_none (ov_some one)) (congrArg D.tup cut_init)) (ev_to (ev_tup (av_cons (ev_catT (ds := [frq false pl.1, frq false pl.2.1]) (ev_to (ev_sliceQ (b' := false) (ds := [frq false pl.1, frq false pl.2.1, frq false pl.2.2]) (ev_ixT (q2 (ev_ixM (ev_var 2 rfl) ev_int hzz2 r2)) one rl) ov_none (ov_some ev_int)) rfl) (ev_tup (av_cons (ev_tup (av_cons ev_int (av_cons ev_int av_nil))) av_nil)) (by show 3 ≤ sizeLine; decide)) av_nil)) rfl) ?_) ?_) ⟨_, rfl, rfl, stiff_ok pok2 (List.mem_of_getElem? hlst)⟩)
        · rw [List.length_take, List.length_map]
          show _ + 1 ≤ sizeLine
          exact Nat.le_trans (show _ ≤ 401 by omega) (by decide)
        · unfold stiff
          rw [List.map_append, List.map_take, List.length_map]
          rfl
      rintro ρ M2' ⟨ps, rfl, rfl, pok⟩
      refine bv_cons (sw_set 7 sc_law.nd ?_)
      refine ew_callW c_room (hr.mono (by decide)) (aw_av (av_cons (ev_var 1 rfl) (av_cons (ev_var 6 rfl) (av_cons (ev_var 5 rfl) av_nil))) ⟨a, p2, ps, _, rfl, hA2, ok2, pok, s0, s1, fun rd rok p3 ok3 M3 fr3 hA3 => ?_⟩)
      have lok := lnOf_ok pok rok.toMeaOk
      have hzz3 := fr_at fr3 za hzz2
      refine bv_one (sv_append (d := rwD (ps, rd)) (ev_var 2 rfl) (ev_tup (av_cons (ev_var 6 rfl) (av_cons (ev_var 7 rfl) (av_cons (ev_call c_due (hr.mono (by decide)) (av_cons (ev_call c_fitting (hr.mono (by decide)) (av_cons (ev_call c_scaled (hr.mono (by decide)) (av_cons (ev_var 6 rfl) (av_cons (ev_var 7 rfl) av_nil)) ⟨ps, rd, rfl, pok, rok, rfl, rfl⟩) av_nil) ⟨_, rfl, lok, rfl, rfl⟩) av_nil) ⟨_, rfl, rows_ok lok, rfl, rfl⟩) av_nil)))) ⟨_, hzz3⟩ hzz3 (by rw [List.length_map]; exact Nat.lt_of_le_of_lt (show es.length ≤ 4 by omega) (by decide)) ?_)
      refine ⟨_, _, _, _, _, p3, es ++ [(ps, rd)], rfl, by rw [Mem.set_ne (Ne.symm za)]; exact hA3, ok3, by rw [Mem.set_same, List.map_append]; rfl, by rw [List.length_append, les]; rfl, fun e he => ?_⟩
      rcases List.mem_append.mp he with he | he
      · exact hes e he
      · rw [List.mem_singleton.mp he]
        exact ⟨pok, rok⟩
    · obtain ⟨x3, x4, x5, x6, x7, q, es, rfl, hA, ok, hzz, les, hes⟩ := iv
      exact ⟨_, _, _, _, _, q, es, rfl, hA, ok, hzz, les, hes⟩
  clear hA hA1 hz1 ok p
  rintro ρ M ⟨x3, x4, x5, x6, x7, p, es, rfl, hA, ok, hzz, les, hes⟩
  refine bv_cons (sv_for rfl (iv_tup (ev_tup (av_cons ev_int (av_cons ev_int (av_cons ev_int (av_cons ev_int (av_cons ev_int (av_cons ev_int av_nil)))))))) (pg_name (i := 8) sc_law.nd rfl (.inl rfl)) (fun k ρ M => ∃ (x6 x7 x8 x9 x10 x11 : Option D) (q : Pool), ρ = [some (.lst (ns.map dI)), some (dP a), some (dP z), x3, x4, x5, x6, x7, x8, x9, x10, x11] ∧ M a = some q.mo ∧ q.Ok ∧ M z = some (.lst (es.map rwD))) ⟨_, _, _, _, _, _, p, rfl, hA, ok, hzz⟩ (fun i d ρ' M1 hd iv => ?_) (fun ρ' M1 iv => ?_))
  · obtain ⟨x6, x7, x8, x9, x10, x11, q, rfl, hA, ok, hzz⟩ := iv
    obtain ⟨k, rfl, hk⟩ : ∃ k : Nat, d = dI ((k : Nat) : Int) ∧ k < 4 := by
      have := List.mem_of_getElem? hd
      simp only [List.mem_cons, List.not_mem_nil, or_false] at this
      rcases this with rfl | rfl | rfl | rfl | rfl | rfl
      · exact ⟨0, rfl, by decide⟩
      · exact ⟨1, rfl, by decide⟩
      · exact ⟨2, rfl, by decide⟩
      · exact ⟨3, rfl, by decide⟩
      · exact ⟨1, rfl, by decide⟩
      · exact ⟨2, rfl, by decide⟩
    have he := List.getElem?_eq_getElem (l := es) (i := k) (by omega)
    generalize es[k] = e at he
    obtain ⟨pok, rok⟩ := hes e (List.mem_of_getElem? he)
    obtain ⟨ps, rd⟩ := e
    refine ⟨_, tg_name, ?_⟩
    refine bv_cons (sv_asg (d := .tup [.tup (ps.map (pcq false)), frD rd, bestD (lnOf rd ps).rows]) (ev_ixM (ev_var 2 rfl) (ev_var 8 rfl) hzz (atI_nat (by rw [List.getElem?_map, he]; rfl) rfl)) (pg_any rfl (pgs_cons (pg_name (i := 6) sc_law.nd rfl (.inl rfl)) (pgs_cons (pg_name (i := 7) sc_law.nd rfl (.inl rfl)) (pgs_cons (pg_name (i := 9) sc_law.nd rfl (.inl rfl)) pgs_nil)))) (tg_any (b := false) (ds := [.tup (ps.map (pcq false)), frD rd, bestD (lnOf rd ps).rows]) (tg_cons tg_name (tg_cons tg_name (tg_cons tg_name tg_nil)))) ?_)
    show BV _ _ [some (.lst (ns.map dI)), some (dP a), some (dP z), x3, x4, x5, some (.tup (ps.map (pcq false))), some (frD rd), some (dI ((k : Nat) : Int)), some (bestD (lnOf rd ps).rows), x10, x11] _ _
    have rl : (lnOf rd ps).rows.length ≤ 400 := (rows_ok (lnOf_ok pok rok.toMeaOk)).n1
    refine bv_cons (sv_join (fun ρ M => ∃ (b : Bool) (q : Pool), ρ = [some (.lst (ns.map dI)), some (dP a), some (dP z), x3, x4, x5, some (.tup (ps.map (pcq false))), some (frD rd), some (dI ((k : Nat) : Int)), some (bestD (lnOf rd ps).rows), some (sq b (ps.map (pcq b))), x11] ∧ M a = some q.mo ∧ q.Ok ∧ M z = some (.lst (es.map rwD))) (sw_set 10 sc_law.nd ?_) ?_)
    · refine ew_callW c_given (hr.mono (by decide)) (aw_av (av_cons (ev_var 1 rfl) (av_cons (ev_var 6 rfl) av_nil)) ⟨a, q, _, rfl, hA, ok, tup_pcs pok.l1, ?_, ?_⟩)
      · rw [lst_pcs]
        exact fun p4 ok4 M4 fr4 hA4 => ⟨true, p4, rfl, hA4, ok4, fr_at fr4 za hzz⟩
      · exact fun p4 ok4 M4 fr4 hA4 => ⟨false, p4, rfl, hA4, ok4, fr_at fr4 za hzz⟩
    rintro ρ M2 ⟨b, q, rfl, hA, ok, hzz⟩
    have rpb : rp 3 2417603 (sq b (ps.map (pcq b))) := rp_pcs pok
    have tf : tupD 3 (frD rd) := tup_two (tup_int _) (tup_int _)
    refine bv_cons (sv_set 11 sc_law.nd (ev_reprB g hr hrep (ev_var 10 rfl) rpb sq_nv (by decide) (by decide)) ?_)
    have fin : ∀ (c : Bool) (p4 : Pool) (ok4 : p4.Ok) (M4 : Mem) (fr4 : Fr1 a M2 M4) (hA4 : M4 a = some p4.mo), PrBest [sq b (ps.map (pcq b)), frq c rd] M4 (bestD (lnOf rd ps).rows) M4 := fun c p4 ok4 M4 fr4 hA4 => ⟨b, b, c, ps, rd, rfl, pok, rok, rfl, rfl⟩
    refine bv_one (sw_if (PW.pt (ww_or (tw_not (tw_val (ew_callD c_same (hr.mono (by decide)) (aw_cons (ew_callD c_p_best_lines (hr.mono (by decide)) (aw_cons (ew_ev (ev_var 10 rfl) (aw_cons ?_)))))))))))
    refine ew_callW c_given (hr.mono (by decide)) (aw_av (av_cons (ev_var 1 rfl) (av_cons (ev_var 7 rfl) av_nil)) ⟨a, q, _, rfl, hA, ok, tf, ?_, ?_⟩)
    · rw [show lstD (frD rd) = frq true rd from lst_frq rd]
      refine fun p4 ok4 M4 fr4 hA4 => aw_nil ⟨_, _, fin true p4 ok4 M4 fr4 hA4, aw_av (av_cons (ev_var 9 rfl) av_nil) ⟨_, _, ⟨_, rfl, okD_best rl, rfl, rfl⟩, true, rfl, fun _ => ww_one_or (tw_tv (tv_cmpR op_ne (ev_reprB g hr hrep (ev_var 10 rfl) rpb sq_nv (by decide) (by decide)) (ev_var 11 rfl) rs_neS (nomark _)) ⟨fun h => ?_, fun _ => bv_nil ⟨_, _, _, _, _, _, p4, rfl, hA4, ok4, fr_at fr4 za hzz⟩⟩), (fun h => nomatch h)⟩⟩
      rw [decide_eq_true rfl] at h
      cases h
    · refine fun p4 ok4 M4 fr4 hA4 => aw_nil ⟨_, _, fin false p4 ok4 M4 fr4 hA4, aw_av (av_cons (ev_var 9 rfl) av_nil) ⟨_, _, ⟨_, rfl, okD_best rl, rfl, rfl⟩, true, rfl, fun _ => ww_one_or (tw_tv (tv_cmpR op_ne (ev_reprB g hr hrep (ev_var 10 rfl) rpb sq_nv (by decide) (by decide)) (ev_var 11 rfl) rs_neS (nomark _)) ⟨fun h => ?_, fun _ => bv_nil ⟨_, _, _, _, _, _, p4, rfl, hA4, ok4, fr_at fr4 za hzz⟩⟩), (fun h => nomatch h)⟩⟩
      rw [decide_eq_true rfl] at h
      cases h
  · exact bv_one (sv_ret ev_bl rfl)
end
theorem all_k5 {Pd : Str → Prop} {a b c d e : Str} (h1 : Pd a) (h2 : Pd b) (h3 : Pd c) (h4 : Pd d) (h5 : Pd e) : ∀ z ∈ ([a, b, c, d, e] : List Str), Pd z := by
  intro z hz
  simp only [List.mem_cons, List.not_mem_nil, or_false] at hz
  rcases hz with rfl | rfl | rfl | rfl | rfl <;> assumption
theorem all_mk {l : PySem.W.OpenLaw} {w : World} {K : PySem.W.Frag} {h : Heap} {mg : Str → Option Value} {fa f_take f_pool f_pick f_is_integer f_same f_lowest f_p_is_row f_p_is_pair f_p_is_number f_p_is_whole f_listed f_p_is_fraction f_p_is_measure f_p_is_piece f_p_check_pieces f_p_sums f_p_line_rows f_divisor f_bad f_scaled f_fitting f_given f_piece f_sum f_pieces f_amounts f_room f_p_best_lines f_breakings f_best f_due f_law : Addr} (X : K.In h) (G : h.Ns mainGlobals mg) (hfa : mg "law" = some (.ref fa))
    {t_MOST_NUMERATOR t_MOST_DENOMINATOR t_MOST_PIECES : Tok}
    {CL fL f_m_ba f_m_fu f_m_lf f_m_al : Addr} {t_FULL : Tok}
    {od_L an_L : Option Addr} {sl_L : Array (Option Value)} {oc_L kV_L dc_L pm_L cd_L ct_L : Value}
    {od_ba an_ba : Option Addr} {sl_ba : Array (Option Value)} {oc_ba kV_ba dc_ba pm_ba cd_ba ct_ba : Value}
    {od_fu an_fu : Option Addr} {sl_fu : Array (Option Value)} {oc_fu kV_fu dc_fu pm_fu cd_fu ct_fu : Value}
    {od_lf an_lf : Option Addr} {sl_lf : Array (Option Value)} {oc_lf kV_lf dc_lf pm_lf cd_lf ct_lf : Value}
    {od_al an_al : Option Addr} {sl_al : Array (Option Value)} {oc_al kV_al dc_al pm_al cd_al ct_al : Value}
    {od_take an_take od_pool an_pool od_pick an_pick od_is_integer an_is_integer od_same an_same od_lowest an_lowest od_p_is_row an_p_is_row od_p_is_pair an_p_is_pair od_p_is_number an_p_is_number od_p_is_whole an_p_is_whole od_listed an_listed od_p_is_fraction an_p_is_fraction od_p_is_measure an_p_is_measure od_p_is_piece an_p_is_piece od_p_check_pieces an_p_check_pieces od_p_sums an_p_sums od_p_line_rows an_p_line_rows od_divisor an_divisor od_bad an_bad od_scaled an_scaled od_fitting an_fitting od_given an_given od_piece an_piece od_sum an_sum od_pieces an_pieces od_amounts an_amounts od_room an_room od_p_best_lines an_p_best_lines od_breakings an_breakings od_best an_best od_due an_due od_law an_law : Option Addr} {sl_take sl_pool sl_pick sl_is_integer sl_same sl_lowest sl_p_is_row sl_p_is_pair sl_p_is_number sl_p_is_whole sl_listed sl_p_is_fraction sl_p_is_measure sl_p_is_piece sl_p_check_pieces sl_p_sums sl_p_line_rows sl_divisor sl_bad sl_scaled sl_fitting sl_given sl_piece sl_sum sl_pieces sl_amounts sl_room sl_p_best_lines sl_breakings sl_best sl_due sl_law : Array (Option Value)} {oc_take kV_take dc_take pm_take cd_take ct_take oc_pool kV_pool dc_pool pm_pool cd_pool ct_pool oc_pick kV_pick dc_pick pm_pick cd_pick ct_pick oc_is_integer kV_is_integer dc_is_integer pm_is_integer cd_is_integer ct_is_integer oc_same kV_same dc_same pm_same cd_same ct_same oc_lowest kV_lowest dc_lowest pm_lowest cd_lowest ct_lowest oc_p_is_row kV_p_is_row dc_p_is_row pm_p_is_row cd_p_is_row ct_p_is_row oc_p_is_pair kV_p_is_pair dc_p_is_pair pm_p_is_pair cd_p_is_pair ct_p_is_pair oc_p_is_number kV_p_is_number dc_p_is_number pm_p_is_number cd_p_is_number ct_p_is_number oc_p_is_whole kV_p_is_whole dc_p_is_whole pm_p_is_whole cd_p_is_whole ct_p_is_whole oc_listed kV_listed dc_listed pm_listed cd_listed ct_listed oc_p_is_fraction kV_p_is_fraction dc_p_is_fraction pm_p_is_fraction cd_p_is_fraction ct_p_is_fraction oc_p_is_measure kV_p_is_measure dc_p_is_measure pm_p_is_measure cd_p_is_measure ct_p_is_measure oc_p_is_piece kV_p_is_piece dc_p_is_piece pm_p_is_piece cd_p_is_piece ct_p_is_piece oc_p_check_pieces kV_p_check_pieces dc_p_check_pieces pm_p_check_pieces cd_p_check_pieces ct_p_check_pieces oc_p_sums kV_p_sums dc_p_sums pm_p_sums cd_p_sums ct_p_sums oc_p_line_rows kV_p_line_rows dc_p_line_rows pm_p_line_rows cd_p_line_rows ct_p_line_rows oc_divisor kV_divisor dc_divisor pm_divisor cd_divisor ct_divisor oc_bad kV_bad dc_bad pm_bad cd_bad ct_bad oc_scaled kV_scaled dc_scaled pm_scaled cd_scaled ct_scaled oc_fitting kV_fitting dc_fitting pm_fitting cd_fitting ct_fitting oc_given kV_given dc_given pm_given cd_given ct_given oc_piece kV_piece dc_piece pm_piece cd_piece ct_piece oc_sum kV_sum dc_sum pm_sum cd_sum ct_sum oc_pieces kV_pieces dc_pieces pm_pieces cd_pieces ct_pieces oc_amounts kV_amounts dc_amounts pm_amounts cd_amounts ct_amounts oc_room kV_room dc_room pm_room cd_room ct_room oc_p_best_lines kV_p_best_lines dc_p_best_lines pm_p_best_lines cd_p_best_lines ct_p_best_lines oc_breakings kV_breakings dc_breakings pm_breakings cd_breakings ct_breakings oc_best kV_best dc_best pm_best cd_best ct_best oc_due kV_due dc_due pm_due cd_due ct_due oc_law kV_law dc_law pm_law cd_law ct_law : Value}
    (a_take : PySem.W.nsIn K mainGlobals "_law_take" = some (some (.ref f_take))) (l_take : K.lookup f_take = some ⟨oc_take, od_take, .func (PySem.W.fnOf "_law_take" "_law_take" (defArgs s_take) (defBody s_take) (defScope s_take) .none kV_take dc_take pm_take an_take cd_take ct_take), sl_take⟩) (c_take : PySem.W.codeIn K cd_take "_law_take" = true) (k_take : PySem.W.keepIn K (.ref f_take) = true)
    (a_pool : PySem.W.nsIn K mainGlobals "_law_pool" = some (some (.ref f_pool))) (l_pool : K.lookup f_pool = some ⟨oc_pool, od_pool, .func (PySem.W.fnOf "_law_pool" "_law_pool" (defArgs s_pool) (defBody s_pool) (defScope s_pool) .none kV_pool dc_pool pm_pool an_pool cd_pool ct_pool), sl_pool⟩) (c_pool : PySem.W.codeIn K cd_pool "_law_pool" = true) (k_pool : PySem.W.keepIn K (.ref f_pool) = true)
    (a_pick : PySem.W.nsIn K mainGlobals "_law_pick" = some (some (.ref f_pick))) (l_pick : K.lookup f_pick = some ⟨oc_pick, od_pick, .func (PySem.W.fnOf "_law_pick" "_law_pick" (defArgs s_pick) (defBody s_pick) (defScope s_pick) .none kV_pick dc_pick pm_pick an_pick cd_pick ct_pick), sl_pick⟩) (c_pick : PySem.W.codeIn K cd_pick "_law_pick" = true) (k_pick : PySem.W.keepIn K (.ref f_pick) = true)
    (a_is_integer : PySem.W.nsIn K mainGlobals "_law_is_integer" = some (some (.ref f_is_integer))) (l_is_integer : K.lookup f_is_integer = some ⟨oc_is_integer, od_is_integer, .func (PySem.W.fnOf "_law_is_integer" "_law_is_integer" (defArgs s_is_integer) (defBody s_is_integer) (defScope s_is_integer) .none kV_is_integer dc_is_integer pm_is_integer an_is_integer cd_is_integer ct_is_integer), sl_is_integer⟩) (c_is_integer : PySem.W.codeIn K cd_is_integer "_law_is_integer" = true) (k_is_integer : PySem.W.keepIn K (.ref f_is_integer) = true)
    (a_same : PySem.W.nsIn K mainGlobals "_law_same" = some (some (.ref f_same))) (l_same : K.lookup f_same = some ⟨oc_same, od_same, .func (PySem.W.fnOf "_law_same" "_law_same" (defArgs s_same) (defBody s_same) (defScope s_same) .none kV_same dc_same pm_same an_same cd_same ct_same), sl_same⟩) (c_same : PySem.W.codeIn K cd_same "_law_same" = true) (k_same : PySem.W.keepIn K (.ref f_same) = true)
    (a_lowest : PySem.W.nsIn K mainGlobals "_law_lowest" = some (some (.ref f_lowest))) (l_lowest : K.lookup f_lowest = some ⟨oc_lowest, od_lowest, .func (PySem.W.fnOf "_law_lowest" "_law_lowest" (defArgs s_lowest) (defBody s_lowest) (defScope s_lowest) .none kV_lowest dc_lowest pm_lowest an_lowest cd_lowest ct_lowest), sl_lowest⟩) (c_lowest : PySem.W.codeIn K cd_lowest "_law_lowest" = true) (k_lowest : PySem.W.keepIn K (.ref f_lowest) = true)
    (a_p_is_row : PySem.W.nsIn K mainGlobals "is_row" = some (some (.ref f_p_is_row))) (l_p_is_row : K.lookup f_p_is_row = some ⟨oc_p_is_row, od_p_is_row, .func (PySem.W.fnOf "is_row" "is_row" (defArgs s_p_is_row) (defBody s_p_is_row) (defScope s_p_is_row) .none kV_p_is_row dc_p_is_row pm_p_is_row an_p_is_row cd_p_is_row ct_p_is_row), sl_p_is_row⟩) (c_p_is_row : PySem.W.codeIn K cd_p_is_row "is_row" = true) (k_p_is_row : PySem.W.keepIn K (.ref f_p_is_row) = true)
    (a_p_is_pair : PySem.W.nsIn K mainGlobals "is_pair" = some (some (.ref f_p_is_pair))) (l_p_is_pair : K.lookup f_p_is_pair = some ⟨oc_p_is_pair, od_p_is_pair, .func (PySem.W.fnOf "is_pair" "is_pair" (defArgs s_p_is_pair) (defBody s_p_is_pair) (defScope s_p_is_pair) .none kV_p_is_pair dc_p_is_pair pm_p_is_pair an_p_is_pair cd_p_is_pair ct_p_is_pair), sl_p_is_pair⟩) (c_p_is_pair : PySem.W.codeIn K cd_p_is_pair "is_pair" = true) (k_p_is_pair : PySem.W.keepIn K (.ref f_p_is_pair) = true)
    (a_p_is_number : PySem.W.nsIn K mainGlobals "is_number" = some (some (.ref f_p_is_number))) (l_p_is_number : K.lookup f_p_is_number = some ⟨oc_p_is_number, od_p_is_number, .func (PySem.W.fnOf "is_number" "is_number" (defArgs s_p_is_number) (defBody s_p_is_number) (defScope s_p_is_number) .none kV_p_is_number dc_p_is_number pm_p_is_number an_p_is_number cd_p_is_number ct_p_is_number), sl_p_is_number⟩) (c_p_is_number : PySem.W.codeIn K cd_p_is_number "is_number" = true) (k_p_is_number : PySem.W.keepIn K (.ref f_p_is_number) = true)
    (a_p_is_whole : PySem.W.nsIn K mainGlobals "is_whole" = some (some (.ref f_p_is_whole))) (l_p_is_whole : K.lookup f_p_is_whole = some ⟨oc_p_is_whole, od_p_is_whole, .func (PySem.W.fnOf "is_whole" "is_whole" (defArgs s_p_is_whole) (defBody s_p_is_whole) (defScope s_p_is_whole) .none kV_p_is_whole dc_p_is_whole pm_p_is_whole an_p_is_whole cd_p_is_whole ct_p_is_whole), sl_p_is_whole⟩) (c_p_is_whole : PySem.W.codeIn K cd_p_is_whole "is_whole" = true) (k_p_is_whole : PySem.W.keepIn K (.ref f_p_is_whole) = true)
    (a_listed : PySem.W.nsIn K mainGlobals "_law_listed" = some (some (.ref f_listed))) (l_listed : K.lookup f_listed = some ⟨oc_listed, od_listed, .func (PySem.W.fnOf "_law_listed" "_law_listed" (defArgs s_listed) (defBody s_listed) (defScope s_listed) .none kV_listed dc_listed pm_listed an_listed cd_listed ct_listed), sl_listed⟩) (c_listed : PySem.W.codeIn K cd_listed "_law_listed" = true) (k_listed : PySem.W.keepIn K (.ref f_listed) = true)
    (a_p_is_fraction : PySem.W.nsIn K mainGlobals "is_fraction" = some (some (.ref f_p_is_fraction))) (l_p_is_fraction : K.lookup f_p_is_fraction = some ⟨oc_p_is_fraction, od_p_is_fraction, .func (PySem.W.fnOf "is_fraction" "is_fraction" (defArgs s_p_is_fraction) (defBody s_p_is_fraction) (defScope s_p_is_fraction) .none kV_p_is_fraction dc_p_is_fraction pm_p_is_fraction an_p_is_fraction cd_p_is_fraction ct_p_is_fraction), sl_p_is_fraction⟩) (c_p_is_fraction : PySem.W.codeIn K cd_p_is_fraction "is_fraction" = true) (k_p_is_fraction : PySem.W.keepIn K (.ref f_p_is_fraction) = true)
    (a_p_is_measure : PySem.W.nsIn K mainGlobals "is_measure" = some (some (.ref f_p_is_measure))) (l_p_is_measure : K.lookup f_p_is_measure = some ⟨oc_p_is_measure, od_p_is_measure, .func (PySem.W.fnOf "is_measure" "is_measure" (defArgs s_p_is_measure) (defBody s_p_is_measure) (defScope s_p_is_measure) .none kV_p_is_measure dc_p_is_measure pm_p_is_measure an_p_is_measure cd_p_is_measure ct_p_is_measure), sl_p_is_measure⟩) (c_p_is_measure : PySem.W.codeIn K cd_p_is_measure "is_measure" = true) (k_p_is_measure : PySem.W.keepIn K (.ref f_p_is_measure) = true)
    (a_p_is_piece : PySem.W.nsIn K mainGlobals "is_piece" = some (some (.ref f_p_is_piece))) (l_p_is_piece : K.lookup f_p_is_piece = some ⟨oc_p_is_piece, od_p_is_piece, .func (PySem.W.fnOf "is_piece" "is_piece" (defArgs s_p_is_piece) (defBody s_p_is_piece) (defScope s_p_is_piece) .none kV_p_is_piece dc_p_is_piece pm_p_is_piece an_p_is_piece cd_p_is_piece ct_p_is_piece), sl_p_is_piece⟩) (c_p_is_piece : PySem.W.codeIn K cd_p_is_piece "is_piece" = true) (k_p_is_piece : PySem.W.keepIn K (.ref f_p_is_piece) = true)
    (a_p_check_pieces : PySem.W.nsIn K mainGlobals "check_pieces" = some (some (.ref f_p_check_pieces))) (l_p_check_pieces : K.lookup f_p_check_pieces = some ⟨oc_p_check_pieces, od_p_check_pieces, .func (PySem.W.fnOf "check_pieces" "check_pieces" (defArgs s_p_check_pieces) (defBody s_p_check_pieces) (defScope s_p_check_pieces) .none kV_p_check_pieces dc_p_check_pieces pm_p_check_pieces an_p_check_pieces cd_p_check_pieces ct_p_check_pieces), sl_p_check_pieces⟩) (c_p_check_pieces : PySem.W.codeIn K cd_p_check_pieces "check_pieces" = true) (k_p_check_pieces : PySem.W.keepIn K (.ref f_p_check_pieces) = true)
    (a_p_sums : PySem.W.nsIn K mainGlobals "_sums" = some (some (.ref f_p_sums))) (l_p_sums : K.lookup f_p_sums = some ⟨oc_p_sums, od_p_sums, .func (PySem.W.fnOf "_sums" "_sums" (defArgs s_p_sums) (defBody s_p_sums) (defScope s_p_sums) .none kV_p_sums dc_p_sums pm_p_sums an_p_sums cd_p_sums ct_p_sums), sl_p_sums⟩) (c_p_sums : PySem.W.codeIn K cd_p_sums "_sums" = true) (k_p_sums : PySem.W.keepIn K (.ref f_p_sums) = true)
    (a_p_line_rows : PySem.W.nsIn K mainGlobals "line_rows" = some (some (.ref f_p_line_rows))) (l_p_line_rows : K.lookup f_p_line_rows = some ⟨oc_p_line_rows, od_p_line_rows, .func (PySem.W.fnOf "line_rows" "line_rows" (defArgs s_p_line_rows) (defBody s_p_line_rows) (defScope s_p_line_rows) .none kV_p_line_rows dc_p_line_rows pm_p_line_rows an_p_line_rows cd_p_line_rows ct_p_line_rows), sl_p_line_rows⟩) (c_p_line_rows : PySem.W.codeIn K cd_p_line_rows "line_rows" = true) (k_p_line_rows : PySem.W.keepIn K (.ref f_p_line_rows) = true)
    (a_divisor : PySem.W.nsIn K mainGlobals "_law_divisor" = some (some (.ref f_divisor))) (l_divisor : K.lookup f_divisor = some ⟨oc_divisor, od_divisor, .func (PySem.W.fnOf "_law_divisor" "_law_divisor" (defArgs s_divisor) (defBody s_divisor) (defScope s_divisor) .none kV_divisor dc_divisor pm_divisor an_divisor cd_divisor ct_divisor), sl_divisor⟩) (c_divisor : PySem.W.codeIn K cd_divisor "_law_divisor" = true) (k_divisor : PySem.W.keepIn K (.ref f_divisor) = true)
    (a_bad : PySem.W.nsIn K mainGlobals "_law_bad" = some (some (.ref f_bad))) (l_bad : K.lookup f_bad = some ⟨oc_bad, od_bad, .func (PySem.W.fnOf "_law_bad" "_law_bad" (defArgs s_bad) (defBody s_bad) (defScope s_bad) .none kV_bad dc_bad pm_bad an_bad cd_bad ct_bad), sl_bad⟩) (c_bad : PySem.W.codeIn K cd_bad "_law_bad" = true) (k_bad : PySem.W.keepIn K (.ref f_bad) = true)
    (a_scaled : PySem.W.nsIn K mainGlobals "_law_scaled" = some (some (.ref f_scaled))) (l_scaled : K.lookup f_scaled = some ⟨oc_scaled, od_scaled, .func (PySem.W.fnOf "_law_scaled" "_law_scaled" (defArgs s_scaled) (defBody s_scaled) (defScope s_scaled) .none kV_scaled dc_scaled pm_scaled an_scaled cd_scaled ct_scaled), sl_scaled⟩) (c_scaled : PySem.W.codeIn K cd_scaled "_law_scaled" = true) (k_scaled : PySem.W.keepIn K (.ref f_scaled) = true)
    (a_fitting : PySem.W.nsIn K mainGlobals "_law_fitting" = some (some (.ref f_fitting))) (l_fitting : K.lookup f_fitting = some ⟨oc_fitting, od_fitting, .func (PySem.W.fnOf "_law_fitting" "_law_fitting" (defArgs s_fitting) (defBody s_fitting) (defScope s_fitting) .none kV_fitting dc_fitting pm_fitting an_fitting cd_fitting ct_fitting), sl_fitting⟩) (c_fitting : PySem.W.codeIn K cd_fitting "_law_fitting" = true) (k_fitting : PySem.W.keepIn K (.ref f_fitting) = true)
    (a_given : PySem.W.nsIn K mainGlobals "_law_given" = some (some (.ref f_given))) (l_given : K.lookup f_given = some ⟨oc_given, od_given, .func (PySem.W.fnOf "_law_given" "_law_given" (defArgs s_given) (defBody s_given) (defScope s_given) .none kV_given dc_given pm_given an_given cd_given ct_given), sl_given⟩) (c_given : PySem.W.codeIn K cd_given "_law_given" = true) (k_given : PySem.W.keepIn K (.ref f_given) = true)
    (a_piece : PySem.W.nsIn K mainGlobals "_law_piece" = some (some (.ref f_piece))) (l_piece : K.lookup f_piece = some ⟨oc_piece, od_piece, .func (PySem.W.fnOf "_law_piece" "_law_piece" (defArgs s_piece) (defBody s_piece) (defScope s_piece) .none kV_piece dc_piece pm_piece an_piece cd_piece ct_piece), sl_piece⟩) (c_piece : PySem.W.codeIn K cd_piece "_law_piece" = true) (k_piece : PySem.W.keepIn K (.ref f_piece) = true)
    (a_sum : PySem.W.nsIn K mainGlobals "_law_sum" = some (some (.ref f_sum))) (l_sum : K.lookup f_sum = some ⟨oc_sum, od_sum, .func (PySem.W.fnOf "_law_sum" "_law_sum" (defArgs s_sum) (defBody s_sum) (defScope s_sum) .none kV_sum dc_sum pm_sum an_sum cd_sum ct_sum), sl_sum⟩) (c_sum : PySem.W.codeIn K cd_sum "_law_sum" = true) (k_sum : PySem.W.keepIn K (.ref f_sum) = true)
    (a_pieces : PySem.W.nsIn K mainGlobals "_law_pieces" = some (some (.ref f_pieces))) (l_pieces : K.lookup f_pieces = some ⟨oc_pieces, od_pieces, .func (PySem.W.fnOf "_law_pieces" "_law_pieces" (defArgs s_pieces) (defBody s_pieces) (defScope s_pieces) .none kV_pieces dc_pieces pm_pieces an_pieces cd_pieces ct_pieces), sl_pieces⟩) (c_pieces : PySem.W.codeIn K cd_pieces "_law_pieces" = true) (k_pieces : PySem.W.keepIn K (.ref f_pieces) = true)
    (a_amounts : PySem.W.nsIn K mainGlobals "_law_amounts" = some (some (.ref f_amounts))) (l_amounts : K.lookup f_amounts = some ⟨oc_amounts, od_amounts, .func (PySem.W.fnOf "_law_amounts" "_law_amounts" (defArgs s_amounts) (defBody s_amounts) (defScope s_amounts) .none kV_amounts dc_amounts pm_amounts an_amounts cd_amounts ct_amounts), sl_amounts⟩) (c_amounts : PySem.W.codeIn K cd_amounts "_law_amounts" = true) (k_amounts : PySem.W.keepIn K (.ref f_amounts) = true)
    (a_room : PySem.W.nsIn K mainGlobals "_law_room" = some (some (.ref f_room))) (l_room : K.lookup f_room = some ⟨oc_room, od_room, .func (PySem.W.fnOf "_law_room" "_law_room" (defArgs s_room) (defBody s_room) (defScope s_room) .none kV_room dc_room pm_room an_room cd_room ct_room), sl_room⟩) (c_room : PySem.W.codeIn K cd_room "_law_room" = true) (k_room : PySem.W.keepIn K (.ref f_room) = true)
    (a_p_best_lines : PySem.W.nsIn K mainGlobals "best_lines" = some (some (.ref f_p_best_lines))) (l_p_best_lines : K.lookup f_p_best_lines = some ⟨oc_p_best_lines, od_p_best_lines, .func (PySem.W.fnOf "best_lines" "best_lines" (defArgs s_p_best_lines) (defBody s_p_best_lines) (defScope s_p_best_lines) .none kV_p_best_lines dc_p_best_lines pm_p_best_lines an_p_best_lines cd_p_best_lines ct_p_best_lines), sl_p_best_lines⟩) (c_p_best_lines : PySem.W.codeIn K cd_p_best_lines "best_lines" = true) (k_p_best_lines : PySem.W.keepIn K (.ref f_p_best_lines) = true)
    (a_breakings : PySem.W.nsIn K mainGlobals "_law_breakings" = some (some (.ref f_breakings))) (l_breakings : K.lookup f_breakings = some ⟨oc_breakings, od_breakings, .func (PySem.W.fnOf "_law_breakings" "_law_breakings" (defArgs s_breakings) (defBody s_breakings) (defScope s_breakings) .none kV_breakings dc_breakings pm_breakings an_breakings cd_breakings ct_breakings), sl_breakings⟩) (c_breakings : PySem.W.codeIn K cd_breakings "_law_breakings" = true) (k_breakings : PySem.W.keepIn K (.ref f_breakings) = true)
    (a_best : PySem.W.nsIn K mainGlobals "_law_best" = some (some (.ref f_best))) (l_best : K.lookup f_best = some ⟨oc_best, od_best, .func (PySem.W.fnOf "_law_best" "_law_best" (defArgs s_best) (defBody s_best) (defScope s_best) .none kV_best dc_best pm_best an_best cd_best ct_best), sl_best⟩) (c_best : PySem.W.codeIn K cd_best "_law_best" = true) (k_best : PySem.W.keepIn K (.ref f_best) = true)
    (a_due : PySem.W.nsIn K mainGlobals "_law_due" = some (some (.ref f_due))) (l_due : K.lookup f_due = some ⟨oc_due, od_due, .func (PySem.W.fnOf "_law_due" "_law_due" (defArgs s_due) (defBody s_due) (defScope s_due) .none kV_due dc_due pm_due an_due cd_due ct_due), sl_due⟩) (c_due : PySem.W.codeIn K cd_due "_law_due" = true) (k_due : PySem.W.keepIn K (.ref f_due) = true)
    (a_law : PySem.W.nsIn K mainGlobals "law" = some (some (.ref f_law))) (l_law : K.lookup f_law = some ⟨oc_law, od_law, .func (PySem.W.fnOf "law" "law" (defArgs s_law) (defBody s_law) (defScope s_law) .none kV_law dc_law pm_law an_law cd_law ct_law), sl_law⟩) (c_law : PySem.W.codeIn K cd_law "law" = true) (k_law : PySem.W.keepIn K (.ref f_law) = true)
    (z_len : PySem.W.nsIn K mainGlobals "len" = some none)
    (z_int : PySem.W.nsIn K mainGlobals "int" = some none)
    (z_isinstance : PySem.W.nsIn K mainGlobals "isinstance" = some none)
    (z_range : PySem.W.nsIn K mainGlobals "range" = some none)
    (z_list : PySem.W.nsIn K mainGlobals "list" = some none)
    (z_tuple : PySem.W.nsIn K mainGlobals "tuple" = some none)
    (z_all : PySem.W.nsIn K mainGlobals "all" = some none)
    (z_bool : PySem.W.nsIn K mainGlobals "bool" = some none)
    (z_str : PySem.W.nsIn K mainGlobals "str" = some none)
    (z_abs : PySem.W.nsIn K mainGlobals "abs" = some none)
    (z_enumerate : PySem.W.nsIn K mainGlobals "enumerate" = some none)
    (z_min : PySem.W.nsIn K mainGlobals "min" = some none)
    (z_repr : PySem.W.nsIn K mainGlobals "repr" = some none)
    (a_MOST_DENOMINATOR : PySem.W.nsIn K mainGlobals "MOST_DENOMINATOR" = some (some (.int 1000 t_MOST_DENOMINATOR)))
    (a_MOST_NUMERATOR : PySem.W.nsIn K mainGlobals "MOST_NUMERATOR" = some (some (.int 1000000 t_MOST_NUMERATOR)))
    (a_MOST_PIECES : PySem.W.nsIn K mainGlobals "MOST_PIECES" = some (some (.int 400 t_MOST_PIECES)))
    (g_gcd : PySem.W.nsIn K mainGlobals "gcd" = some (some (.builtin "math.gcd")))
    (g_lcm : PySem.W.nsIn K mainGlobals "lcm" = some (some (.builtin "math.lcm")))
    (a_FULL : PySem.W.nsIn K mainGlobals "FULL" = some (some (.int 1000 t_FULL)))
    (a_LineRows : PySem.W.nsIn K mainGlobals "LineRows" = some (some (.ref CL)))
    (mk_L : PySem.W.makesIn K CL = true)
    (in_L : PySem.W.findIn K (.ref CL) "__init__" = some (some (.ref fL)))
    (fn_L : PySem.W.isFn K (.ref fL) = true)
    (kp_L : PySem.W.keepIn K (.ref CL) = true)
    (pg_L : PySem.W.plainGet K CL Str.empty = true)
    (hd_L : PySem.W.hasDictIn K CL = true)
    (po_L : PySem.W.plainOver K CL = true)
    (sa_L : PySem.W.findIn K (.ref CL) "__setattr__" = some (some (.builtin "object.__setattr__")))
    (na_L_room : PySem.W.findIn K (.ref CL) "room" = some none)
    (na_L_size : PySem.W.findIn K (.ref CL) "size" = some none)
    (na_L_widths : PySem.W.findIn K (.ref CL) "widths" = some none)
    (na_L_stretches : PySem.W.findIn K (.ref CL) "stretches" = some none)
    (na_L_shrinks : PySem.W.findIn K (.ref CL) "shrinks" = some none)
    (in_ba : PySem.W.findIn K (.ref CL) "badness_of" = some (some (.ref f_m_ba)))
    (fn_ba : PySem.W.isFn K (.ref f_m_ba) = true)
    (in_fu : PySem.W.findIn K (.ref CL) "_is_full" = some (some (.ref f_m_fu)))
    (fn_fu : PySem.W.isFn K (.ref f_m_fu) = true)
    (in_lf : PySem.W.findIn K (.ref CL) "lines_from" = some (some (.ref f_m_lf)))
    (fn_lf : PySem.W.isFn K (.ref f_m_lf) = true)
    (in_al : PySem.W.findIn K (.ref CL) "all_lines" = some (some (.ref f_m_al)))
    (fn_al : PySem.W.isFn K (.ref f_m_al) = true)
    (l_L : K.lookup fL = some ⟨oc_L, od_L, .func (PySem.W.fnOf "__init__" "LineRows.__init__" (defArgs s_LineRows_init) (defBody s_LineRows_init) (defScope s_LineRows_init) .none kV_L dc_L pm_L an_L cd_L ct_L), sl_L⟩)
    (c_L : PySem.W.codeIn K cd_L "LineRows.__init__" = true)
    (k_L : PySem.W.keepIn K (.ref fL) = true)
    (l_ba : K.lookup f_m_ba = some ⟨oc_ba, od_ba, .func (PySem.W.fnOf "badness_of" "LineRows.badness_of" (defArgs s_LineRows_badness_of) (defBody s_LineRows_badness_of) (defScope s_LineRows_badness_of) .none kV_ba dc_ba pm_ba an_ba cd_ba ct_ba), sl_ba⟩)
    (c_ba : PySem.W.codeIn K cd_ba "LineRows.badness_of" = true)
    (k_ba : PySem.W.keepIn K (.ref f_m_ba) = true)
    (l_fu : K.lookup f_m_fu = some ⟨oc_fu, od_fu, .func (PySem.W.fnOf "_is_full" "LineRows._is_full" (defArgs s_LineRows_is_full) (defBody s_LineRows_is_full) (defScope s_LineRows_is_full) .none kV_fu dc_fu pm_fu an_fu cd_fu ct_fu), sl_fu⟩)
    (c_fu : PySem.W.codeIn K cd_fu "LineRows._is_full" = true)
    (k_fu : PySem.W.keepIn K (.ref f_m_fu) = true)
    (l_lf : K.lookup f_m_lf = some ⟨oc_lf, od_lf, .func (PySem.W.fnOf "lines_from" "LineRows.lines_from" (defArgs s_LineRows_lines_from) (defBody s_LineRows_lines_from) (defScope s_LineRows_lines_from) .none kV_lf dc_lf pm_lf an_lf cd_lf ct_lf), sl_lf⟩)
    (c_lf : PySem.W.codeIn K cd_lf "LineRows.lines_from" = true)
    (k_lf : PySem.W.keepIn K (.ref f_m_lf) = true)
    (l_al : K.lookup f_m_al = some ⟨oc_al, od_al, .func (PySem.W.fnOf "all_lines" "LineRows.all_lines" (defArgs s_LineRows_all_lines) (defBody s_LineRows_all_lines) (defScope s_LineRows_all_lines) .none kV_al dc_al pm_al an_al cd_al ct_al), sl_al⟩)
    (c_al : PySem.W.codeIn K cd_al "LineRows.all_lines" = true)
    (k_al : PySem.W.keepIn K (.ref f_m_al) = true)
    : ∃ fd : FuncData, (∀ (s : Shared) (v : Value), BindsTo s fd ⟨[v], []⟩ [("script", v)]) ∧ ∀ base : Heap, K.In base → base.Ns mainGlobals mg → FnG l.prog w K mg base 15 fa fd ["script"] (spLaw K) := by
  have e := hfa.symm.trans (PySem.W.mg_of X G a_law)
  cases e
  have T : Bt mg := ⟨PySem.W.mg_none_of X G z_len, PySem.W.mg_none_of X G z_int, PySem.W.mg_none_of X G z_isinstance, PySem.W.mg_none_of X G z_range, PySem.W.mg_none_of X G z_list, PySem.W.mg_none_of X G z_tuple, PySem.W.mg_none_of X G z_all, PySem.W.mg_none_of X G z_bool, PySem.W.mg_none_of X G z_str⟩
  have F_take := fun_mk (st := s_take) l_take c_take k_take
  have m_take := PySem.W.mg_of X G a_take
  have F_pool := fun_mk (st := s_pool) l_pool c_pool k_pool
  have m_pool := PySem.W.mg_of X G a_pool
  have F_pick := fun_mk (st := s_pick) l_pick c_pick k_pick
  have m_pick := PySem.W.mg_of X G a_pick
  have F_is_integer := fun_mk (st := s_is_integer) l_is_integer c_is_integer k_is_integer
  have m_is_integer := PySem.W.mg_of X G a_is_integer
  have F_same := fun_mk (st := s_same) l_same c_same k_same
  have m_same := PySem.W.mg_of X G a_same
  have F_lowest := fun_mk (st := s_lowest) l_lowest c_lowest k_lowest
  have m_lowest := PySem.W.mg_of X G a_lowest
  have F_p_is_row := fun_mk (st := s_p_is_row) l_p_is_row c_p_is_row k_p_is_row
  have m_p_is_row := PySem.W.mg_of X G a_p_is_row
  have F_p_is_pair := fun_mk (st := s_p_is_pair) l_p_is_pair c_p_is_pair k_p_is_pair
  have m_p_is_pair := PySem.W.mg_of X G a_p_is_pair
  have F_p_is_number := fun_mk (st := s_p_is_number) l_p_is_number c_p_is_number k_p_is_number
  have m_p_is_number := PySem.W.mg_of X G a_p_is_number
  have F_p_is_whole := fun_mk (st := s_p_is_whole) l_p_is_whole c_p_is_whole k_p_is_whole
  have m_p_is_whole := PySem.W.mg_of X G a_p_is_whole
  have F_listed := fun_mk (st := s_listed) l_listed c_listed k_listed
  have m_listed := PySem.W.mg_of X G a_listed
  have F_p_is_fraction := fun_mk (st := s_p_is_fraction) l_p_is_fraction c_p_is_fraction k_p_is_fraction
  have m_p_is_fraction := PySem.W.mg_of X G a_p_is_fraction
  have F_p_is_measure := fun_mk (st := s_p_is_measure) l_p_is_measure c_p_is_measure k_p_is_measure
  have m_p_is_measure := PySem.W.mg_of X G a_p_is_measure
  have F_p_is_piece := fun_mk (st := s_p_is_piece) l_p_is_piece c_p_is_piece k_p_is_piece
  have m_p_is_piece := PySem.W.mg_of X G a_p_is_piece
  have F_p_check_pieces := fun_mk (st := s_p_check_pieces) l_p_check_pieces c_p_check_pieces k_p_check_pieces
  have m_p_check_pieces := PySem.W.mg_of X G a_p_check_pieces
  have F_p_sums := fun_mk (st := s_p_sums) l_p_sums c_p_sums k_p_sums
  have m_p_sums := PySem.W.mg_of X G a_p_sums
  have F_p_line_rows := fun_mk (st := s_p_line_rows) l_p_line_rows c_p_line_rows k_p_line_rows
  have m_p_line_rows := PySem.W.mg_of X G a_p_line_rows
  have F_divisor := fun_mk (st := s_divisor) l_divisor c_divisor k_divisor
  have m_divisor := PySem.W.mg_of X G a_divisor
  have F_bad := fun_mk (st := s_bad) l_bad c_bad k_bad
  have m_bad := PySem.W.mg_of X G a_bad
  have F_scaled := fun_mk (st := s_scaled) l_scaled c_scaled k_scaled
  have m_scaled := PySem.W.mg_of X G a_scaled
  have F_fitting := fun_mk (st := s_fitting) l_fitting c_fitting k_fitting
  have m_fitting := PySem.W.mg_of X G a_fitting
  have F_given := fun_mk (st := s_given) l_given c_given k_given
  have m_given := PySem.W.mg_of X G a_given
  have F_piece := fun_mk (st := s_piece) l_piece c_piece k_piece
  have m_piece := PySem.W.mg_of X G a_piece
  have F_sum := fun_mk (st := s_sum) l_sum c_sum k_sum
  have m_sum := PySem.W.mg_of X G a_sum
  have F_pieces := fun_mk (st := s_pieces) l_pieces c_pieces k_pieces
  have m_pieces := PySem.W.mg_of X G a_pieces
  have F_amounts := fun_mk (st := s_amounts) l_amounts c_amounts k_amounts
  have m_amounts := PySem.W.mg_of X G a_amounts
  have F_room := fun_mk (st := s_room) l_room c_room k_room
  have m_room := PySem.W.mg_of X G a_room
  have F_p_best_lines := fun_mk (st := s_p_best_lines) l_p_best_lines c_p_best_lines k_p_best_lines
  have m_p_best_lines := PySem.W.mg_of X G a_p_best_lines
  have F_breakings := fun_mk (st := s_breakings) l_breakings c_breakings k_breakings
  have m_breakings := PySem.W.mg_of X G a_breakings
  have F_best := fun_mk (st := s_best) l_best c_best k_best
  have m_best := PySem.W.mg_of X G a_best
  have F_due := fun_mk (st := s_due) l_due c_due k_due
  have m_due := PySem.W.mg_of X G a_due
  have F_law := fun_mk (st := s_law) l_law c_law k_law
  have m_law := PySem.W.mg_of X G a_law
  have n_abs := PySem.W.mg_none_of X G z_abs
  have n_enumerate := PySem.W.mg_none_of X G z_enumerate
  have n_min := PySem.W.mg_none_of X G z_min
  have n_repr := PySem.W.mg_none_of X G z_repr
  refine ⟨PySem.W.fnOf "law" "law" (defArgs s_law) (defBody s_law) (defScope s_law) .none kV_law dc_law pm_law an_law cd_law ct_law, fun s v => .of_eq rfl, fun base _ _ => ?_⟩
  have q_c_take0 := Vt.c_take0 (P := l.prog) (w := w) (base := base) F_take m_take T
  have q_c_take := Vt.c_take (P := l.prog) (w := w) (base := base) F_take m_take T
  have q_c_pool := Vt.c_pool (P := l.prog) (w := w) (base := base) F_pool m_pool
  have q_c_pick := Vt.c_pick F_pick m_pick T q_c_take
  have q_c_is_integer := Vt.c_is_integer (P := l.prog) (w := w) (base := base) F_is_integer m_is_integer T
  have q_c_same := Vt.c_same F_same m_same T q_c_is_integer
  have q_w_take := Vt.w_take q_c_take
  have q_w_pick := Vt.w_pick q_c_pick
  have q_c_lowest := Vt.c_lowest (P := l.prog) (w := w) (base := base) F_lowest m_lowest T n_abs
  have q_c_p_is_row := Vt.c_p_is_row (P := l.prog) (w := w) (base := base) F_p_is_row m_p_is_row T
  have q_c_p_is_pair := Vt.c_p_is_pair F_p_is_pair m_p_is_pair T q_c_p_is_row
  have q_c_p_is_number := Vt.c_p_is_number (P := l.prog) (w := w) (base := base) F_p_is_number m_p_is_number T
  have q_c_p_is_whole := Vt.c_p_is_whole F_p_is_whole m_p_is_whole q_c_p_is_number
  have q_c_listed := Vt.c_listed (P := l.prog) (w := w) (base := base) F_listed m_listed T
  have q_c_p_is_fraction := Vt.c_p_is_fraction F_p_is_fraction m_p_is_fraction T (PySem.W.mg_of X G g_gcd) q_c_p_is_pair q_c_p_is_number
  have q_c_p_is_measure := Vt.c_p_is_measure F_p_is_measure m_p_is_measure ⟨_, PySem.W.mg_of X G a_MOST_NUMERATOR⟩ ⟨_, PySem.W.mg_of X G a_MOST_DENOMINATOR⟩ q_c_p_is_fraction q_c_p_is_whole
  have q_c_p_is_piece := Vt.c_p_is_piece F_p_is_piece m_p_is_piece T q_c_p_is_row q_c_p_is_measure
  have q_c_p_check_pieces := Vt.c_p_check_pieces F_p_check_pieces m_p_check_pieces T n_enumerate ⟨_, PySem.W.mg_of X G a_MOST_PIECES⟩ q_c_p_is_row q_c_p_is_piece
  have q_c_p_sums := Vt.c_p_sums (P := l.prog) (w := w) (base := base) F_p_sums m_p_sums
  have F_L := fun_mk (st := s_LineRows_init) l_L c_L k_L
  have F_ba := fun_mk (st := s_LineRows_badness_of) l_ba c_ba k_ba
  have F_fu := fun_mk (st := s_LineRows_is_full) l_fu c_fu k_fu
  have F_lf := fun_mk (st := s_LineRows_lines_from) l_lf c_lf k_lf
  have F_al := fun_mk (st := s_LineRows_all_lines) l_al c_al k_al
  have cL : Cls K CL := ⟨pg_L, hd_L, po_L, sa_L⟩
  have nL : ∀ z ∈ (["room", "size", "widths", "stretches", "shrinks"] : List Str), NoAttr K CL z := Vt.all_k5 na_L_room na_L_size na_L_widths na_L_stretches na_L_shrinks
  have M_L : Vt.MkD l.prog w K mg base 2 "LineRows" CL (spW K (R_linit CL)) := ⟨⟨_, _, _, PySem.W.mg_of X G a_LineRows, ⟨mk_L, in_L, fn_L, kp_L⟩, F_L.binds (fun _ _ _ _ _ _ us hl => match us, hl with | [_, _, _], _ => rfl), Vt.m_init F_L T (PySem.W.mg_of X G g_lcm) cL nL q_c_p_sums⟩⟩
  have M_ba : Vt.MetC l.prog w K mg base 1 CL "badness_of" (spW K (R_lbad CL)) := ⟨⟨_, _, _, ⟨in_ba, fn_ba, k_ba⟩, F_ba.binds (fun _ _ _ _ _ _ us hl => match us, hl with | [_, _, _], _ => rfl), Vt.m_bad F_ba cL nL ⟨_, PySem.W.mg_of X G a_FULL⟩⟩⟩
  have M_fu : Vt.MetC l.prog w K mg base 1 CL "_is_full" (spW K (R_lfull CL)) := ⟨⟨_, _, _, ⟨in_fu, fn_fu, k_fu⟩, F_fu.binds (fun _ _ _ _ _ _ us hl => match us, hl with | [_, _, _], _ => rfl), Vt.m_full F_fu cL nL⟩⟩
  have M_lf : Vt.MetC l.prog w K mg base 2 CL "lines_from" (spW K (R_lfrom CL)) := ⟨⟨_, _, _, ⟨in_lf, fn_lf, k_lf⟩, F_lf.binds (fun _ _ _ _ _ _ us hl => match us, hl with | [_, _], _ => rfl), Vt.m_from F_lf T cL nL M_ba M_fu⟩⟩
  have M_al : Vt.MetC l.prog w K mg base 3 CL "all_lines" (spW K (R_lall CL)) := ⟨⟨_, _, _, ⟨in_al, fn_al, k_al⟩, F_al.binds (fun _ _ _ _ _ _ us hl => match us, hl with | [_], _ => rfl), Vt.m_all F_al T cL nL M_lf⟩⟩
  have q_c_p_line_rows := Vt.c_p_line_rows F_p_line_rows m_p_line_rows M_L q_c_p_check_pieces q_c_p_is_measure
  have q_c_divisor := Vt.c_divisor F_divisor m_divisor q_c_lowest
  have q_c_bad := Vt.c_bad (P := l.prog) (w := w) (base := base) F_bad m_bad T
  have q_c_scaled := Vt.c_scaled F_scaled m_scaled q_c_divisor
  have q_c_fitting := Vt.c_fitting F_fitting m_fitting T q_c_bad
  have q_c_given := Vt.c_given F_given m_given q_w_take (q_c_listed 3)
  have q_c_piece := Vt.c_piece F_piece m_piece q_w_take q_c_lowest
  have q_c_sum := Vt.c_sum F_sum m_sum q_c_lowest
  have q_c_pieces := Vt.c_pieces F_pieces m_pieces T q_w_take q_c_piece
  have q_c_amounts := Vt.c_amounts F_amounts m_amounts q_w_take q_w_pick
  have q_c_room := Vt.c_room F_room m_room T q_w_take q_c_sum q_c_lowest
  have q_c_p_best_lines := Vt.c_p_best_lines F_p_best_lines m_p_best_lines T n_min cL M_al q_c_p_line_rows
  have q_c_breakings := Vt.c_breakings (P := l.prog) (w := w) (base := base) F_breakings m_breakings T
  have q_c_best := Vt.c_best (P := l.prog) (w := w) (base := base) F_best m_best T
  have q_c_due := Vt.c_due F_due m_due T q_c_best (q_c_breakings 12)
  exact Vt.c_law F_law T n_min n_repr q_c_pool q_c_amounts q_c_pieces q_c_room q_c_scaled q_c_fitting q_c_given (q_c_same 2) q_c_due q_c_p_best_lines
end Vt
open PySem PySem.W PyProof.Rows
set_option maxRecDepth 100000 in
set_option maxHeartbeats 0 in
theorem PySem.Challenge.cw_counterheld_k73_whole_best_lines_holds : PySem.Challenge.rw_counterheld_k73_whole_best_lines.Holds := by
  w_on; o_law; k_head; (case hw => w_witness2)
  k_fill
  refine Vt.walkG (l := PySem.Challenge.rw_counterheld_k73_whole_best_lines) (k := 15) ⟨rfl, by decide, by decide⟩ rfl rfl (fun w h Y => PySem.W.kIn_of Y) ?F
  case F =>
    intro w mg fa h KX G hmg
    refine' Vt.all_mk KX G hmg ?a_take ?l_take ?c_take ?k_take ?a_pool ?l_pool ?c_pool ?k_pool ?a_pick ?l_pick ?c_pick ?k_pick ?a_is_integer ?l_is_integer ?c_is_integer ?k_is_integer ?a_same ?l_same ?c_same ?k_same ?a_lowest ?l_lowest ?c_lowest ?k_lowest ?a_p_is_row ?l_p_is_row ?c_p_is_row ?k_p_is_row ?a_p_is_pair ?l_p_is_pair ?c_p_is_pair ?k_p_is_pair ?a_p_is_number ?l_p_is_number ?c_p_is_number ?k_p_is_number ?a_p_is_whole ?l_p_is_whole ?c_p_is_whole ?k_p_is_whole ?a_listed ?l_listed ?c_listed ?k_listed ?a_p_is_fraction ?l_p_is_fraction ?c_p_is_fraction ?k_p_is_fraction ?a_p_is_measure ?l_p_is_measure ?c_p_is_measure ?k_p_is_measure ?a_p_is_piece ?l_p_is_piece ?c_p_is_piece ?k_p_is_piece ?a_p_check_pieces ?l_p_check_pieces ?c_p_check_pieces ?k_p_check_pieces ?a_p_sums ?l_p_sums ?c_p_sums ?k_p_sums ?a_p_line_rows ?l_p_line_rows ?c_p_line_rows ?k_p_line_rows ?a_divisor ?l_divisor ?c_divisor ?k_divisor ?a_bad ?l_bad ?c_bad ?k_bad ?a_scaled ?l_scaled ?c_scaled ?k_scaled ?a_fitting ?l_fitting ?c_fitting ?k_fitting ?a_given ?l_given ?c_given ?k_given ?a_piece ?l_piece ?c_piece ?k_piece ?a_sum ?l_sum ?c_sum ?k_sum ?a_pieces ?l_pieces ?c_pieces ?k_pieces ?a_amounts ?l_amounts ?c_amounts ?k_amounts ?a_room ?l_room ?c_room ?k_room ?a_p_best_lines ?l_p_best_lines ?c_p_best_lines ?k_p_best_lines ?a_breakings ?l_breakings ?c_breakings ?k_breakings ?a_best ?l_best ?c_best ?k_best ?a_due ?l_due ?c_due ?k_due ?a_law ?l_law ?c_law ?k_law ?z_len ?z_int ?z_isinstance ?z_range ?z_list ?z_tuple ?z_all ?z_bool ?z_str ?z_abs ?z_enumerate ?z_min ?z_repr ?a_MOST_DENOMINATOR ?a_MOST_NUMERATOR ?a_MOST_PIECES ?g_gcd ?g_lcm ?a_FULL ?a_LineRows ?mk_L ?in_L ?fn_L ?kp_L ?pg_L ?hd_L ?po_L ?sa_L ?na_L_room ?na_L_size ?na_L_widths ?na_L_stretches ?na_L_shrinks ?in_ba ?fn_ba ?in_fu ?fn_fu ?in_lf ?fn_lf ?in_al ?fn_al ?l_L ?c_L ?k_L ?l_ba ?c_ba ?k_ba ?l_fu ?c_fu ?k_fu ?l_lf ?c_lf ?k_lf ?l_al ?c_al ?k_al
    (case a_take => k_is)
    (case l_take => k_is)
    (case c_take => k_is)
    (case k_take => k_is)
    (case a_pool => k_is)
    (case l_pool => k_is)
    (case c_pool => k_is)
    (case k_pool => k_is)
    (case a_pick => k_is)
    (case l_pick => k_is)
    (case c_pick => k_is)
    (case k_pick => k_is)
    (case a_is_integer => k_is)
    (case l_is_integer => k_is)
    (case c_is_integer => k_is)
    (case k_is_integer => k_is)
    (case a_same => k_is)
    (case l_same => k_is)
    (case c_same => k_is)
    (case k_same => k_is)
    (case a_lowest => k_is)
    (case l_lowest => k_is)
    (case c_lowest => k_is)
    (case k_lowest => k_is)
    (case a_p_is_row => k_is)
    (case l_p_is_row => k_is)
    (case c_p_is_row => k_is)
    (case k_p_is_row => k_is)
    (case a_p_is_pair => k_is)
    (case l_p_is_pair => k_is)
    (case c_p_is_pair => k_is)
    (case k_p_is_pair => k_is)
    (case a_p_is_number => k_is)
    (case l_p_is_number => k_is)
    (case c_p_is_number => k_is)
    (case k_p_is_number => k_is)
    (case a_p_is_whole => k_is)
    (case l_p_is_whole => k_is)
    (case c_p_is_whole => k_is)
    (case k_p_is_whole => k_is)
    (case a_listed => k_is)
    (case l_listed => k_is)
    (case c_listed => k_is)
    (case k_listed => k_is)
    (case a_p_is_fraction => k_is)
    (case l_p_is_fraction => k_is)
    (case c_p_is_fraction => k_is)
    (case k_p_is_fraction => k_is)
    (case a_p_is_measure => k_is)
    (case l_p_is_measure => k_is)
    (case c_p_is_measure => k_is)
    (case k_p_is_measure => k_is)
    (case a_p_is_piece => k_is)
    (case l_p_is_piece => k_is)
    (case c_p_is_piece => k_is)
    (case k_p_is_piece => k_is)
    (case a_p_check_pieces => k_is)
    (case l_p_check_pieces => k_is)
    (case c_p_check_pieces => k_is)
    (case k_p_check_pieces => k_is)
    (case a_p_sums => k_is)
    (case l_p_sums => k_is)
    (case c_p_sums => k_is)
    (case k_p_sums => k_is)
    (case a_p_line_rows => k_is)
    (case l_p_line_rows => k_is)
    (case c_p_line_rows => k_is)
    (case k_p_line_rows => k_is)
    (case a_divisor => k_is)
    (case l_divisor => k_is)
    (case c_divisor => k_is)
    (case k_divisor => k_is)
    (case a_bad => k_is)
    (case l_bad => k_is)
    (case c_bad => k_is)
    (case k_bad => k_is)
    (case a_scaled => k_is)
    (case l_scaled => k_is)
    (case c_scaled => k_is)
    (case k_scaled => k_is)
    (case a_fitting => k_is)
    (case l_fitting => k_is)
    (case c_fitting => k_is)
    (case k_fitting => k_is)
    (case a_given => k_is)
    (case l_given => k_is)
    (case c_given => k_is)
    (case k_given => k_is)
    (case a_piece => k_is)
    (case l_piece => k_is)
    (case c_piece => k_is)
    (case k_piece => k_is)
    (case a_sum => k_is)
    (case l_sum => k_is)
    (case c_sum => k_is)
    (case k_sum => k_is)
    (case a_pieces => k_is)
    (case l_pieces => k_is)
    (case c_pieces => k_is)
    (case k_pieces => k_is)
    (case a_amounts => k_is)
    (case l_amounts => k_is)
    (case c_amounts => k_is)
    (case k_amounts => k_is)
    (case a_room => k_is)
    (case l_room => k_is)
    (case c_room => k_is)
    (case k_room => k_is)
    (case a_p_best_lines => k_is)
    (case l_p_best_lines => k_is)
    (case c_p_best_lines => k_is)
    (case k_p_best_lines => k_is)
    (case a_breakings => k_is)
    (case l_breakings => k_is)
    (case c_breakings => k_is)
    (case k_breakings => k_is)
    (case a_best => k_is)
    (case l_best => k_is)
    (case c_best => k_is)
    (case k_best => k_is)
    (case a_due => k_is)
    (case l_due => k_is)
    (case c_due => k_is)
    (case k_due => k_is)
    (case a_law => k_is)
    (case l_law => k_is)
    (case c_law => k_is)
    (case k_law => k_is)
    (case z_len => k_is)
    (case z_int => k_is)
    (case z_isinstance => k_is)
    (case z_range => k_is)
    (case z_list => k_is)
    (case z_tuple => k_is)
    (case z_all => k_is)
    (case z_bool => k_is)
    (case z_str => k_is)
    (case z_abs => k_is)
    (case z_enumerate => k_is)
    (case z_min => k_is)
    (case z_repr => k_is)
    (case a_MOST_DENOMINATOR => k_is)
    (case a_MOST_NUMERATOR => k_is)
    (case a_MOST_PIECES => k_is)
    (case g_gcd => k_is)
    (case g_lcm => k_is)
    (case a_FULL => k_is)
    (case a_LineRows => k_is)
    (case mk_L => k_is)
    (case in_L => k_is)
    (case fn_L => k_is)
    (case kp_L => k_is)
    (case pg_L => k_is)
    (case hd_L => k_is)
    (case po_L => k_is)
    (case sa_L => k_is)
    (case na_L_room => k_is)
    (case na_L_size => k_is)
    (case na_L_widths => k_is)
    (case na_L_stretches => k_is)
    (case na_L_shrinks => k_is)
    (case in_ba => k_is)
    (case fn_ba => k_is)
    (case in_fu => k_is)
    (case fn_fu => k_is)
    (case in_lf => k_is)
    (case fn_lf => k_is)
    (case in_al => k_is)
    (case fn_al => k_is)
    (case l_L => k_is)
    (case c_L => k_is)
    (case k_L => k_is)
    (case l_ba => k_is)
    (case c_ba => k_is)
    (case k_ba => k_is)
    (case l_fu => k_is)
    (case c_fu => k_is)
    (case k_fu => k_is)
    (case l_lf => k_is)
    (case c_lf => k_is)
    (case k_lf => k_is)
    (case l_al => k_is)
    (case c_al => k_is)
    (case k_al => k_is)
