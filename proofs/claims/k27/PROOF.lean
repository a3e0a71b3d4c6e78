import PyProof.Rows.All
import Wide.All
import OpenK.AllK
import Wide.FinOn
import HandS.ForMost
import HandS.IsInst
import HandS.Wide
import HandS.Sort
import HandS.TupAny
import HandS.StrMore
import HandS.Conv
import HandS.NoneIn
import HandS.SortRule
import HandS.Iter
import HandS.Exc
import HandS.ExcOwn
import HandS.ExcIs
import HandS.WordsExc
import HandS.TryMany
import KE.KTryMore
import PyProof.ExcBaseAll.ValueError
import HandS.Replace
import HandS.Gcd
import HandS.Style
import HandS.Zip0
import HandS.Zip
import HandS.Rev
import HandS.ExcInit
import HandS.ExcField
import HandS.CallLocal
import HandS.TupMul
import KE.KExcIs
import HandS.More
import HandS.Deep
import HandS.HeadHook3
import PyProof.P3In
import PySem.Challenge.RW_counterheld_k27_wrong_books
set_option Elab.async false
set_option linter.all false
set_option maxRecDepth 100000
set_option maxHeartbeats 2000000
/-! Values as trees: what is never changed is a tree; what is changed stands in a memory by address. -/
namespace Vt
open PySem PySem.Spec PyProof.Rows L2

inductive D where
  | val (v : V)
  | tup (ds : List D)
  | lst (ds : List D)
  | dic
abbrev dI (i : Int) : D := .val (.int i)
abbrev dB (b : Bool) : D := .val (.bl b)
abbrev dS (s : Str) : D := .val (.str s)
abbrev dN : D := .val .non
abbrev dP (a : Addr) : D := .val (.ref a)

section
variable (K : PySem.W.Frag) (G : Hp)
mutual
inductive Rep : V → D → Prop where
  | val (v : V) : Rep v (.val v)
  | tup {a : Addr} {vs : List V} {ds : List D} (h : SqT K G a vs) (r : RepL vs ds) : Rep (.ref a) (.tup ds)
  | lst {a : Addr} {vs : List V} {ds : List D} (h : SqL K G a vs) (r : RepL vs ds) : Rep (.ref a) (.lst ds)
  | dic {a : Addr} {kvs : List (Key × V)} (h : G a = some (.dK kvs)) : Rep (.ref a) .dic
inductive RepL : List V → List D → Prop where
  | nil : RepL [] []
  | cons {v : V} {d : D} {vs : List V} {ds : List D} (h : Rep v d) (t : RepL vs ds) : RepL (v :: vs) (d :: ds)
end
end

section
variable {K : PySem.W.Frag} {G G' H H' : Hp} {v : V} {d : D} {vs : List V} {ds : List D} {a : Addr}
theorem rdUp {u : HO} (e : Same G G') (h : Rd G a u) : Rd G' a u := by
  rcases h with h | ⟨o, h⟩
  · exact .inl (e _ _ h)
  · exact .inr ⟨o, e _ _ h⟩
theorem sqtUp (e : Same G G') (h : SqT K G a vs) : SqT K G' a vs := by
  rcases h with h | h
  · exact .inl (rdUp e h)
  · exact .inr h
theorem sqlUp (e : Same G G') (h : SqL K G a vs) : SqL K G' a vs := by
  rcases h with h | h
  · exact .inl (rdUp e h)
  · exact .inr h
mutual
theorem Rep.up {v : V} {d : D} (e : Same G G') : Rep K G v d → Rep K G' v d
  | .val v => .val v
  | .tup h r => .tup (sqtUp e h) (RepL.up e r)
  | .lst h r => .lst (sqlUp e h) (RepL.up e r)
  | .dic h => .dic (e _ _ h)
theorem RepL.up {vs : List V} {ds : List D} (e : Same G G') : RepL K G vs ds → RepL K G' vs ds
  | .nil => .nil
  | .cons h t => .cons (Rep.up e h) (RepL.up e t)
end
theorem RepL.len : ∀ {vs : List V} {ds : List D}, RepL K G vs ds → vs.length = ds.length
  | _, _, .nil => rfl
  | _, _, .cons _ t => congrArg (· + 1) (RepL.len t)
theorem RepL.get : ∀ {vs : List V} {ds : List D} {i : Nat} {d : D}, RepL K G vs ds → ds[i]? = some d → ∃ v, vs[i]? = some v ∧ Rep K G v d
  | _, _, _, _, .nil, e => by simp at e
  | _, _, 0, _, .cons h _, e => by simp at e; subst e; exact ⟨_, rfl, h⟩
  | _, _, i + 1, d, .cons _ t, e => by
    obtain ⟨v, h1, h2⟩ := RepL.get (i := i) (d := d) t (by simpa using e)
    exact ⟨v, by simpa using h1, h2⟩
theorem RepL.append : ∀ {vs ws : List V} {ds es : List D}, RepL K G vs ds → RepL K G ws es → RepL K G (vs ++ ws) (ds ++ es)
  | _, _, _, _, .nil, s => s
  | _, _, _, _, .cons h t, s => .cons h (RepL.append t s)
theorem RepL.set {v : V} {d : D} (r : Rep K G v d) : ∀ {vs : List V} {ds : List D} (i : Nat), RepL K G vs ds → RepL K G (vs.set i v) (ds.set i d)
  | _, _, _, .nil => .nil
  | _, _, 0, .cons _ t => .cons r t
  | _, _, i + 1, .cons q t => .cons q (RepL.set r i t)
theorem RepL.erase : ∀ {vs : List V} {ds : List D} (i : Nat), RepL K G vs ds → RepL K G (vs.eraseIdx i) (ds.eraseIdx i)
  | _, _, _, .nil => .nil
  | _, _, 0, .cons _ t => t
  | _, _, i + 1, .cons q t => .cons q (RepL.erase i t)
theorem RepL.vals : ∀ (xs : List V), RepL K G xs (xs.map D.val)
  | [] => .nil
  | v :: xs => .cons (.val v) (RepL.vals xs)
theorem RepL.of_vals : ∀ {vs : List V} {xs : List V}, RepL K G vs (xs.map D.val) → vs = xs
  | [], [], _ => rfl
  | v :: vs, x :: xs, h => by
    cases h with
    | cons h t =>
      cases h
      rw [RepL.of_vals t]
theorem Rep.of_val {v u : V} (h : Rep K G v (.val u)) : v = u := by cases h; rfl
end

/-! ### the memory -/
inductive MO where
  | lst (ds : List D)
  | xd (fs : List (Str × D))
  | ins (C : Addr) (fs : List (Str × D))
  | dK (kvs : List (Key × D))
  | dT (kvs : List (List Key × D))
/-- names or keys, each with what stands there -/
structure RepF {κ : Type} (K : PySem.W.Frag) (G : Hp) (fv : List (κ × V)) (fs : List (κ × D)) : Prop where
  ks : fv.map (·.1) = fs.map (·.1)
  vs : RepL K G (fv.map (·.2)) (fs.map (·.2))
theorem RepF.up {κ : Type} {K : PySem.W.Frag} {G G' : Hp} {fv : List (κ × V)} {fs : List (κ × D)} (e : Same G G') (h : RepF K G fv fs) : RepF K G' fv fs := ⟨h.ks, h.vs.up e⟩
theorem RepF.nil {κ : Type} {K : PySem.W.Frag} {G : Hp} : RepF K G ([] : List (κ × V)) [] := ⟨rfl, .nil⟩
theorem RepF.cons {κ : Type} {K : PySem.W.Frag} {G : Hp} {fv : List (κ × V)} {fs : List (κ × D)} {k : κ} {v : V} {d : D} (r : Rep K G v d) (h : RepF K G fv fs) : RepF K G ((k, v) :: fv) ((k, d) :: fs) := ⟨by rw [List.map_cons, List.map_cons, h.ks], .cons r h.vs⟩
theorem RepF.get {κ : Type} [BEq κ] {K : PySem.W.Frag} {G : Hp} {k : κ} {d : D} : ∀ {fv : List (κ × V)} {fs : List (κ × D)}, RepF K G fv fs → fs.lookup k = some d → ∃ v, fv.lookup k = some v ∧ Rep K G v d
  | [], [], _, e => by cases e
  | [], _ :: _, h, _ => by have := h.ks; cases this
  | _ :: _, [], h, _ => by have := h.ks; cases this
  | (k1, v1) :: fv, (k2, d2) :: fs, ⟨ks, vs⟩, e => by
    rw [List.map_cons, List.map_cons] at ks vs
    obtain ⟨e1, e2⟩ := List.cons.inj ks
    obtain rfl : k1 = k2 := e1
    cases vs with
    | cons r t =>
      rw [List.lookup_cons] at e ⊢
      cases q : k == k1 with
      | true =>
        rw [q] at e
        cases e
        exact ⟨v1, rfl, r⟩
      | false =>
        rw [q] at e
        exact RepF.get (fv := fv) (fs := fs) ⟨e2, t⟩ e
abbrev Mem := Addr → Option MO
def Mem.set (M : Mem) (a : Addr) (o : MO) : Mem := fun b => if b = a then some o else M b
theorem Mem.set_same {M : Mem} {a : Addr} {o : MO} : M.set a o a = some o := if_pos rfl
theorem Mem.set_ne {M : Mem} {a b : Addr} {o : MO} (h : b ≠ a) : M.set a o b = M b := if_neg h
theorem Mem.set_set {M : Mem} {a : Addr} {o u : MO} : (M.set a o).set a u = M.set a u := by
  funext b; unfold Mem.set; split <;> rfl
def AtM (K : PySem.W.Frag) (G H : Hp) (a : Addr) : MO → Prop
  | .lst ds => ∃ vs, H a = some (.lst vs) ∧ RepL K G vs ds
  | .xd fs => ∃ fv, H a = some (.xd fv) ∧ RepF K G fv fs
  | .ins C fs => ∃ dx fv, H a = some (.ins C dx fv) ∧ RepF K G fv fs
  | .dK kvs => ∃ kv, H a = some (.dK kv) ∧ RepF K G kv kvs
  | .dT kvs => ∃ kv, H a = some (.dT kv) ∧ RepF K G kv kvs
structure SH (K : PySem.W.Frag) (G H : Hp) (M : Mem) : Prop where
  le : Same G H
  mem : ∀ b mo, M b = some mo → G b = none ∧ AtM K G H b mo
def Mle (M M' : Mem) : Prop := ∀ b o, M b = some o → M' b = some o
theorem Mle.refl (M : Mem) : Mle M M := fun _ _ h => h
theorem Mle.trans {M M1 M2 : Mem} (a : Mle M M1) (b : Mle M1 M2) : Mle M M2 := fun c o h => b c o (a c o h)
theorem SH.weak {K : PySem.W.Frag} {G H : Hp} {M M' : Mem} (s : SH K G H M') (h : Mle M M') : SH K G H M := ⟨s.le, fun b mo e => s.mem b mo (h b mo e)⟩
theorem AtM.some {K : PySem.W.Frag} {G H : Hp} {a : Addr} {mo : MO} (h : AtM K G H a mo) : ∃ o, H a = some o := by
  cases mo with
  | lst ds => obtain ⟨vs, e, _⟩ := h; exact ⟨_, e⟩
  | xd fs => obtain ⟨vs, e, _⟩ := h; exact ⟨_, e⟩
  | ins C fs => obtain ⟨dx, vs, e, _⟩ := h; exact ⟨_, e⟩
  | dK fs => obtain ⟨vs, e, _⟩ := h; exact ⟨_, e⟩
  | dT fs => obtain ⟨vs, e, _⟩ := h; exact ⟨_, e⟩
theorem AtM.up {K : PySem.W.Frag} {G G' H H' : Hp} {a : Addr} {mo : MO} (e : Same G G') (q : H' a = H a) (h : AtM K G H a mo) : AtM K G' H' a mo := by
  cases mo with
  | lst ds => obtain ⟨vs, e1, r⟩ := h; exact ⟨vs, by rw [q]; exact e1, r.up e⟩
  | xd fs => obtain ⟨vs, e1, r⟩ := h; exact ⟨vs, by rw [q]; exact e1, r.up e⟩
  | ins C fs => obtain ⟨dx, vs, e1, r⟩ := h; exact ⟨dx, vs, by rw [q]; exact e1, r.up e⟩
  | dK fs => obtain ⟨vs, e1, r⟩ := h; exact ⟨vs, by rw [q]; exact e1, r.up e⟩
  | dT fs => obtain ⟨vs, e1, r⟩ := h; exact ⟨vs, by rw [q]; exact e1, r.up e⟩
/-- a new thing that is never changed -/
theorem SH.new {K : PySem.W.Frag} {G H : Hp} {M : Mem} {p : Addr} {o : HO} (s : SH K G H M) (hp : H p = none) : SH K (upd G p o) (upd H p o) M ∧ Same G (upd G p o) := by
  have gp : G p = none := by
    cases e : G p with
    | none => rfl
    | some u => rw [s.le p u e] at hp; cases hp
  have up : Same G (upd G p o) := fun b u e => by rw [upd_ne (ne_of_none e gp)]; exact e
  refine ⟨⟨fun b u e => ?_, fun b mo e => ?_⟩, up⟩
  · by_cases hb : b = p
    · subst hb; rw [upd_same] at e ⊢; exact e
    · rw [upd_ne hb] at e ⊢; exact s.le b u e
  · obtain ⟨g0, at0⟩ := s.mem b mo e
    obtain ⟨u, hu⟩ := at0.some
    have hb : b ≠ p := ne_of_none hu hp
    exact ⟨by rw [upd_ne hb]; exact g0, at0.up up (upd_ne hb)⟩
/-- a new thing that may be changed -/
theorem SH.newM {K : PySem.W.Frag} {G H : Hp} {M : Mem} {p : Addr} {vs : List V} {ds : List D} (s : SH K G H M) (hp : H p = none) (r : RepL K G vs ds) : SH K G (upd H p (.lst vs)) (M.set p (.lst ds)) ∧ M p = none ∧ G p = none := by
  have gp : G p = none := by
    cases e : G p with
    | none => rfl
    | some u => rw [s.le p u e] at hp; cases hp
  refine ⟨⟨fun b u e => ?_, fun b mo e => ?_⟩, ?_, gp⟩
  · rw [upd_ne (ne_of_none e gp)]; exact s.le b u e
  · by_cases hb : b = p
    · subst hb
      rw [Mem.set_same] at e
      cases e
      exact ⟨gp, vs, upd_same, r⟩
    · rw [Mem.set_ne hb] at e
      obtain ⟨g0, at0⟩ := s.mem b mo e
      exact ⟨g0, at0.up (Same.refl G) (upd_ne hb)⟩
  · cases e : M p with
    | none => rfl
    | some mo =>
      obtain ⟨_, at0⟩ := s.mem p mo e
      obtain ⟨u, hu⟩ := at0.some
      rw [hp] at hu; cases hu
/-- a list that stands in the memory is changed -/
theorem SH.put {K : PySem.W.Frag} {G H : Hp} {M : Mem} {p : Addr} {mo : MO} {vs : List V} {ds : List D} (s : SH K G H M) (hm : M p = some mo) (r : RepL K G vs ds) : SH K G (upd H p (.lst vs)) (M.set p (.lst ds)) := by
  obtain ⟨gp, _⟩ := s.mem p mo hm
  refine ⟨fun b u e => ?_, fun b mo e => ?_⟩
  · rw [upd_ne (ne_of_none e gp)]; exact s.le b u e
  · by_cases hb : b = p
    · subst hb
      rw [Mem.set_same] at e
      cases e
      exact ⟨gp, vs, upd_same, r⟩
    · rw [Mem.set_ne hb] at e
      obtain ⟨g0, at0⟩ := s.mem b mo e
      exact ⟨g0, at0.up (Same.refl G) (upd_ne hb)⟩

/-! ### the slots -/
abbrev Sl := List (Option D)
def RepS (K : PySem.W.Frag) (G : Hp) (σ : L2.St) (ρ : Sl) : Prop := σ.length = ρ.length ∧ ∀ (i : Nat) (d : D), ρ[i]? = some (some d) → ∃ v, σ[i]? = some (some v) ∧ Rep K G v d
theorem RepS.up {K : PySem.W.Frag} {G G' : Hp} {σ : L2.St} {ρ : Sl} (e : Same G G') (h : RepS K G σ ρ) : RepS K G' σ ρ :=
  ⟨h.1, fun i d q => let ⟨v, a, b⟩ := h.2 i d q; ⟨v, a, b.up e⟩⟩
theorem RepS.set {K : PySem.W.Frag} {G : Hp} {σ : L2.St} {ρ : Sl} {v : V} {d : D} (i : Nat) (h : RepS K G σ ρ) (r : Rep K G v d) : RepS K G (σ.set i (some v)) (ρ.set i (some d)) := by
  refine ⟨by rw [List.length_set, List.length_set]; exact h.1, fun j e q => ?_⟩
  by_cases hj : i = j
  · subst hj
    by_cases hl : i < ρ.length
    · rw [List.getElem?_set_self hl] at q
      cases q
      exact ⟨v, List.getElem?_set_self (by rw [h.1]; exact hl), r⟩
    · rw [List.getElem?_eq_none (by rw [List.length_set]; omega)] at q
      cases q
  · rw [List.getElem?_set_ne hj] at q ⊢
    exact h.2 j e q
/-- a slot is forgotten -/
theorem RepS.none {K : PySem.W.Frag} {G : Hp} {σ : L2.St} {ρ : Sl} {x : Option V} (i : Nat) (h : RepS K G σ ρ) : RepS K G (σ.set i x) (ρ.set i Option.none) := by
  refine ⟨by rw [List.length_set, List.length_set]; exact h.1, fun j e q => ?_⟩
  by_cases hj : i = j
  · subst hj
    by_cases hl : i < ρ.length
    · rw [List.getElem?_set_self hl] at q
      cases q
    · rw [List.getElem?_eq_none (by rw [List.length_set]; omega)] at q
      cases q
  · rw [List.getElem?_set_ne hj] at q ⊢
    exact h.2 j e q
/-- of fewer slots known -/
theorem RepS.weak {K : PySem.W.Frag} {G : Hp} {σ : L2.St} {ρ ρ' : Sl} (h : RepS K G σ ρ) (hl : ρ'.length = ρ.length) (hs : ∀ (i : Nat) (d : D), ρ'[i]? = some (some d) → ρ[i]? = some (some d)) : RepS K G σ ρ' :=
  ⟨by rw [h.1, hl], fun i d q => h.2 i d (hs i d q)⟩
structure SA (K : PySem.W.Frag) (G H : Hp) (σ : L2.St) (ρ : Sl) (M : Mem) : Prop where
  sh : SH K G H M
  sl : RepS K G σ ρ

/-! ### the judgements -/
def tE (K : PySem.W.Frag) (ρ : Sl) (M : Mem) (d : D) (M' : Mem) : TE := fun σ H Q => ∃ G, SA K G H σ ρ M ∧ ∀ v G' H', Same G G' → SH K G' H' M' → Rep K G' v d → Q v H'
def tT (K : PySem.W.Frag) (ρ : Sl) (M : Mem) (b : Bool) (M' : Mem) : TT := fun σ H Q => ∃ G, SA K G H σ ρ M ∧ ∀ G' H', Same G G' → SH K G' H' M' → Q b H'
def tA (K : PySem.W.Frag) (ρ : Sl) (M : Mem) (ds : List D) (M' : Mem) : TA := fun σ H Q => ∃ G, SA K G H σ ρ M ∧ ∀ vs G' H', Same G G' → SH K G' H' M' → RepL K G' vs ds → Q vs H'
def tO (K : PySem.W.Frag) (ρ : Sl) (M : Mem) (o : Option Int) (M' : Mem) : TO := fun σ H Q => ∃ G, SA K G H σ ρ M ∧ ∀ G' H', Same G G' → SH K G' H' M' → Q o H'
abbrev EV (X : Cx) (e : Expr) (ρ : Sl) (M : Mem) (d : D) (M' : Mem) : Prop := PE X e (tE X.K ρ M d M')
abbrev TV (X : Cx) (e : Expr) (ρ : Sl) (M : Mem) (b : Bool) (M' : Mem) : Prop := PT X e (tT X.K ρ M b M')
abbrev WV (X : Cx) (e : Expr) (ρ : Sl) (M : Mem) (b : Bool) (M' : Mem) : Prop := PW X e (tT X.K ρ M b M')
abbrev AV (X : Cx) (es : List Expr) (ρ : Sl) (M : Mem) (ds : List D) (M' : Mem) : Prop := PA X es (tA X.K ρ M ds M')
abbrev OV (X : Cx) (e : Option Expr) (ρ : Sl) (M : Mem) (o : Option Int) (M' : Mem) : Prop := PO X e (tO X.K ρ M o M')
inductive Out where
  | nx (ρ : Sl) (M : Mem) | ret (d : D) (M : Mem) | bk (ρ : Sl) (M : Mem) | ct (ρ : Sl) (M : Mem)
def okE (K : PySem.W.Frag) (G0 : Hp) (E : Ends) : Out → Prop
  | .nx ρ M => ∀ σ G H, Same G0 G → SA K G H σ ρ M → E.nx σ H
  | .ret d M => ∀ v G H, Same G0 G → SH K G H M → Rep K G v d → E.rt v H
  | .bk ρ M => ∀ σ G H, Same G0 G → SA K G H σ ρ M → E.bk σ H
  | .ct ρ M => ∀ σ G H, Same G0 G → SA K G H σ ρ M → E.ct σ H
theorem okE.up {K : PySem.W.Frag} {G0 G1 : Hp} {E : Ends} {o : Out} (e : Same G0 G1) (h : okE K G0 E o) : okE K G1 E o := by
  cases o with
  | nx ρ M => exact fun σ G H g => h σ G H (e.trans g)
  | ret d M => exact fun v G H g => h v G H (e.trans g)
  | bk ρ M => exact fun σ G H g => h σ G H (e.trans g)
  | ct ρ M => exact fun σ G H g => h σ G H (e.trans g)
def tS (K : PySem.W.Frag) (ρ : Sl) (M : Mem) (Ψ : Out → Prop) : TS := fun E σ H => ∃ G, SA K G H σ ρ M ∧ ∀ o, Ψ o → okE K G E o
abbrev SV (X : Cx) (st : Stmt) (ρ : Sl) (M : Mem) (Ψ : Out → Prop) : Prop := PS X st (tS X.K ρ M Ψ)
abbrev BV (X : Cx) (sts : List Stmt) (ρ : Sl) (M : Mem) (Ψ : Out → Prop) : Prop := PSs X sts (tS X.K ρ M Ψ)

section
variable {X : Cx}
theorem _root_.L2.PE.mono {e : Expr} {t t' : TE} (h : PE X e t) (i : ∀ σ H Q, t' σ H Q → t σ H Q) : PE X e t' := ⟨fun pins s σ H Q I q => h.run pins s σ H Q I (i σ H Q q)⟩
theorem _root_.L2.PT.mono {e : Expr} {t t' : TT} (h : PT X e t) (i : ∀ σ H Q, t' σ H Q → t σ H Q) : PT X e t' := ⟨fun pins s σ H Q I q => h.run pins s σ H Q I (i σ H Q q)⟩
theorem _root_.L2.PW.mono {e : Expr} {t t' : TT} (h : PW X e t) (i : ∀ σ H Q, t' σ H Q → t σ H Q) : PW X e t' := ⟨fun wh pins s σ H Q I q => h.run wh pins s σ H Q I (i σ H Q q)⟩
theorem _root_.L2.PA.mono {e : List Expr} {t t' : TA} (h : PA X e t) (i : ∀ σ H Q, t' σ H Q → t σ H Q) : PA X e t' := ⟨fun pos pins s σ H Q I q => h.run pos pins s σ H Q I (i σ H Q q)⟩
theorem _root_.L2.PO.mono {e : Option Expr} {t t' : TO} (h : PO X e t) (i : ∀ σ H Q, t' σ H Q → t σ H Q) : PO X e t' := ⟨fun pins s σ H Q I q => h.run pins s σ H Q I (i σ H Q q)⟩
theorem _root_.L2.PS.mono {e : Stmt} {t t' : TS} (h : PS X e t) (i : ∀ E σ H, t' E σ H → t E σ H) : PS X e t' := ⟨fun pins s σ H E I q => h.run pins s σ H E I (i E σ H q)⟩
theorem _root_.L2.PSs.mono {e : List Stmt} {t t' : TS} (h : PSs X e t) (i : ∀ E σ H, t' E σ H → t E σ H) : PSs X e t' := ⟨fun pins s σ H E I q => h.run pins s σ H E I (i E σ H q)⟩
end

section
variable {X : Cx} {ρ : Sl} {M M1 M2 M3 : Mem} {a b c e : Expr} {es : List Expr} {d d1 d2 : D} {ds : List D} {pos : Pos}
/-! ### leaves -/
theorem ev_var (i : Nat) {x : Str} (hρ : ρ[i]? = some (some d)) (hN : X.N[i]? = some x := by rfl) (hv : Vis X.env.scope x := by first | exact Or.inl rfl | exact Or.inr (Or.inl rfl) | exact Or.inr (Or.inr rfl))
    (hd : (x == ("__debug__" : Str)) = false := by decide) (hcd : (x == ("__classdict__" : Str)) = false := by decide) : EV X (.Name x pos) ρ M d M :=
  (pe_var hN hv hd hcd).mono fun σ H Q ⟨G, sa, k⟩ => let ⟨v, e1, r⟩ := sa.sl.2 i d hρ; ⟨v, e1, k v G H (Same.refl G) sa.sh r⟩
theorem ev_int {i : Int} {j} : EV X (.Constant (.int i) j pos) ρ M (dI i) M := pe_int.mono fun σ H Q ⟨G, sa, k⟩ => k _ G H (Same.refl G) sa.sh (.val _)
theorem ev_bl {i : Bool} {j} : EV X (.Constant (.bool i) j pos) ρ M (dB i) M := pe_bl.mono fun σ H Q ⟨G, sa, k⟩ => k _ G H (Same.refl G) sa.sh (.val _)
theorem ev_non {j} : EV X (.Constant .none j pos) ρ M dN M := pe_non.mono fun σ H Q ⟨G, sa, k⟩ => k _ G H (Same.refl G) sa.sh (.val _)
theorem ev_str {x : Str} {j} : EV X (.Constant (.str x) j pos) ρ M (dS x) M := pe_str.mono fun σ H Q ⟨G, sa, k⟩ => k _ G H (Same.refl G) sa.sh (.val _)
theorem ev_glob {x : Str} {v : V} {u : Value} (hg : Gl X x) (hm : X.mg x = some u) (r : RelV v u) (hd : (x == ("__debug__" : Str)) = false := by decide) : EV X (.Name x pos) ρ M (.val v) M :=
  (pe_glob hg hm r hd).mono fun σ H Q ⟨G, sa, k⟩ => k _ G H (Same.refl G) sa.sh (.val _)
/-- a tuple or a list of the module, written -/
theorem ev_globD {x : Str} {f : Addr} (hg : Gl X x) (hm : X.mg x = some (.ref f)) (h : ∀ G, Rep X.K G (.ref f) d) (hd : (x == ("__debug__" : Str)) = false := by decide) : EV X (.Name x pos) ρ M d M :=
  (pe_glob (v := .ref f) hg hm rfl hd).mono fun σ H Q ⟨G, sa, k⟩ => k _ G H (Same.refl G) sa.sh (h G)

/-! ### operators by values -/
def RS (r : R2) (x y z : V) : Prop := ∀ H Q, Q z H → r x y H Q
def RU (r : V → Hp → VK → Prop) (x z : V) : Prop := ∀ H Q, Q z H → r x H Q
theorem ev_op {op : Operator} {r : R2} {x y z : V} (ho : OpR X (binaryOp op) r) (ha : EV X a ρ M (.val x) M1) (hb : EV X b ρ M1 (.val y) M2) (hr : RS r x y z) : EV X (.BinOp a op b pos) ρ M (.val z) M2 :=
  (pe_op ho ha hb).mono fun σ H Q ⟨G, sa, k⟩ => ⟨G, sa, fun v1 G1 H1 g1 sh1 r1 => ⟨G1, ⟨sh1, sa.sl.up g1⟩, fun v2 G2 H2 g2 sh2 r2 => by
    rw [r1.of_val, r2.of_val]
    exact hr H2 Q (k _ G2 H2 (g1.trans g2) sh2 (.val _))⟩⟩
theorem ev_un {op : UnaryOp} {r : V → Hp → VK → Prop} {x z : V} (ho : UnR X (unaryOp op) r) (ha : EV X a ρ M (.val x) M1) (hr : RU r x z) : EV X (.UnaryOp op a pos) ρ M (.val z) M1 :=
  (pe_un ho ha).mono fun σ H Q ⟨G, sa, k⟩ => ⟨G, sa, fun v1 G1 H1 g1 sh1 r1 => by
    rw [r1.of_val]
    exact hr H1 Q (k _ G1 H1 g1 sh1 (.val _))⟩
theorem ev_cmpR {op : CmpOp} {r : R2} {x y z : V} (ho : OpR X (compareOp op) r) (ha : EV X a ρ M (.val x) M1) (hb : EV X b ρ M1 (.val y) M2) (hr : RS r x y z) (hm : behindInMarks op b = false) : EV X (.Compare a [op] [b] pos) ρ M (.val z) M2 :=
  (pe_cmpR ho ha hb hm).mono fun σ H Q ⟨G, sa, k⟩ => ⟨G, sa, fun v1 G1 H1 g1 sh1 r1 => ⟨G1, ⟨sh1, sa.sl.up g1⟩, fun v2 G2 H2 g2 sh2 r2 => by
    rw [r1.of_val, r2.of_val]
    exact hr H2 Q (k _ G2 H2 (g1.trans g2) sh2 (.val _))⟩⟩
theorem tv_cmpR {op : CmpOp} {r : R2} {x y : V} {z : Bool} (ho : OpR X (compareOp op) r) (ha : EV X a ρ M (.val x) M1) (hb : EV X b ρ M1 (.val y) M2) (hr : RS r x y (.bl z)) (hm : behindInMarks op b = false) : TV X (.Compare a [op] [b] pos) ρ M z M2 :=
  (pt_cmpR ho ha hb hm).mono fun σ H Q ⟨G, sa, k⟩ => ⟨G, sa, fun v1 G1 H1 g1 sh1 r1 => ⟨G1, ⟨sh1, sa.sl.up g1⟩, fun v2 G2 H2 g2 sh2 r2 => by
    rw [r1.of_val, r2.of_val]
    exact hr H2 _ ⟨_, rfl, k G2 H2 (g1.trans g2) sh2⟩⟩⟩
theorem rs_I0 {g : Int → Int → V} {i j : Int} : RS (rI0 g) (.int i) (.int j) (g i j) := fun H Q q => ⟨i, j, rfl, rfl, q⟩
theorem rs_I {C : Int → Int → Prop} {g : Int → Int → V} {i j : Int} (h : C i j) : RS (rI C g) (.int i) (.int j) (g i j) := fun H Q q => ⟨i, j, rfl, rfl, h, q⟩
theorem rs_eq {x y : V} (h : scal x y = true) : RS rEq x y (.bl (decide (x = y))) := fun H Q q => ⟨h, q⟩
theorem rs_ne {x y : V} (h : scal x y = true) : RS rNe x y (.bl (!decide (x = y))) := fun H Q q => ⟨h, q⟩

theorem sc_ii {i j : Int} : scal (.int i) (.int j) = true := rfl
theorem sc_ss {i j : Str} : scal (.str i) (.str j) = true := rfl
theorem sc_bb {i j : Bool} : scal (.bl i) (.bl j) = true := rfl

/-! ### tests -/
theorem tv_val {b : Bool} (h : EV X e ρ M (dB b) M1) (he : ∀ whole, isTrue e X.env whole = (do let v ← whole; standAt e.pos; holding [v] (truthy v)) := by intro _; rfl) : TV X e ρ M b M1 :=
  (pt_val h he).mono fun σ H Q ⟨G, sa, k⟩ => ⟨G, sa, fun v1 G1 H1 g1 sh1 r1 => ⟨b, r1.of_val, k G1 H1 g1 sh1⟩⟩
theorem wv_one_and {b : Bool} {pos} (h : TV X e ρ M b M1) : WV X (.BoolOp .And [e] pos) ρ M b M1 := pw_and1 h
theorem wv_one_or {b : Bool} {pos} (h : TV X e ρ M b M1) : WV X (.BoolOp .Or [e] pos) ρ M b M1 := pw_or1 h
/-- a and b and ..: what stands behind a is asked only where a is true; it changes nothing -/
theorem wv_and {p q : Bool} {rest : List Expr} (ha : TV X a ρ M p M1) (hb : p = true → WV X (.BoolOp .And (b :: rest) pos) ρ M1 q M1) : WV X (.BoolOp .And (a :: b :: rest) pos) ρ M (p && q) M1 := by
  cases p with
  | true => exact (pw_and ha (hb rfl)).mono fun σ H Q ⟨G, sa, k⟩ => ⟨G, sa, fun G1 H1 g1 sh1 => (⟨G1, ⟨sh1, sa.sl.up g1⟩, fun G2 H2 g2 sh2 => k G2 H2 (g1.trans g2) sh2⟩ : tT _ _ _ _ _ σ H1 Q)⟩
  | false => exact (pw_and (tB' := fun _ _ _ => False) ha ⟨fun _ _ _ _ _ _ _ h => h.elim⟩).mono fun σ H Q ⟨G, sa, k⟩ => ⟨G, sa, fun G1 H1 g1 sh1 => (k G1 H1 g1 sh1 : Q false H1)⟩
theorem wv_or {p q : Bool} {rest : List Expr} (ha : TV X a ρ M p M1) (hb : p = false → WV X (.BoolOp .Or (b :: rest) pos) ρ M1 q M1) : WV X (.BoolOp .Or (a :: b :: rest) pos) ρ M (p || q) M1 := by
  cases p with
  | false => exact (pw_or ha (hb rfl)).mono fun σ H Q ⟨G, sa, k⟩ => ⟨G, sa, fun G1 H1 g1 sh1 => (⟨G1, ⟨sh1, sa.sl.up g1⟩, fun G2 H2 g2 sh2 => k G2 H2 (g1.trans g2) sh2⟩ : tT _ _ _ _ _ σ H1 Q)⟩
  | true => exact (pw_or (tB' := fun _ _ _ => False) ha ⟨fun _ _ _ _ _ _ _ h => h.elim⟩).mono fun σ H Q ⟨G, sa, k⟩ => ⟨G, sa, fun G1 H1 g1 sh1 => (k G1 H1 g1 sh1 : Q true H1)⟩
/-- what stands behind may change the memory: the way is known -/
theorem wv_andT {q : Bool} {rest : List Expr} (ha : TV X a ρ M true M1) (hb : WV X (.BoolOp .And (b :: rest) pos) ρ M1 q M2) : WV X (.BoolOp .And (a :: b :: rest) pos) ρ M q M2 :=
  (pw_and ha hb).mono fun σ H Q ⟨G, sa, k⟩ => ⟨G, sa, fun G1 H1 g1 sh1 => (⟨G1, ⟨sh1, sa.sl.up g1⟩, fun G2 H2 g2 sh2 => k G2 H2 (g1.trans g2) sh2⟩ : tT _ _ _ _ _ σ H1 Q)⟩
theorem wv_andF {rest : List Expr} (ha : TV X a ρ M false M1) : WV X (.BoolOp .And (a :: b :: rest) pos) ρ M false M1 :=
  (pw_and (tB' := fun _ _ _ => False) ha ⟨fun _ _ _ _ _ _ _ h => h.elim⟩).mono fun σ H Q ⟨G, sa, k⟩ => ⟨G, sa, fun G1 H1 g1 sh1 => (k G1 H1 g1 sh1 : Q false H1)⟩
theorem wv_orT {rest : List Expr} (ha : TV X a ρ M true M1) : WV X (.BoolOp .Or (a :: b :: rest) pos) ρ M true M1 :=
  (pw_or (tB' := fun _ _ _ => False) ha ⟨fun _ _ _ _ _ _ _ h => h.elim⟩).mono fun σ H Q ⟨G, sa, k⟩ => ⟨G, sa, fun G1 H1 g1 sh1 => (k G1 H1 g1 sh1 : Q true H1)⟩
theorem wv_orF {q : Bool} {rest : List Expr} (ha : TV X a ρ M false M1) (hb : WV X (.BoolOp .Or (b :: rest) pos) ρ M1 q M2) : WV X (.BoolOp .Or (a :: b :: rest) pos) ρ M q M2 :=
  (pw_or ha hb).mono fun σ H Q ⟨G, sa, k⟩ => ⟨G, sa, fun G1 H1 g1 sh1 => (⟨G1, ⟨sh1, sa.sl.up g1⟩, fun G2 H2 g2 sh2 => k G2 H2 (g1.trans g2) sh2⟩ : tT _ _ _ _ _ σ H1 Q)⟩
theorem tv_not {b : Bool} (h : TV X e ρ M b M1) : TV X (.UnaryOp .Not e pos) ρ M (!b) M1 :=
  (pt_not h).mono fun σ H Q ⟨G, sa, k⟩ => ⟨G, sa, fun G1 H1 g1 sh1 => k G1 H1 g1 sh1⟩
theorem tv_to {b b' : Bool} (h : TV X e ρ M b M1) (q : b = b') : TV X e ρ M b' M1 := q ▸ h
theorem ev_to {d d' : D} (h : EV X e ρ M d M1) (q : d = d') : EV X e ρ M d' M1 := q ▸ h
theorem ev_toM {d : D} (h : EV X e ρ M d M1) (q : M1 = M2) : EV X e ρ M d M2 := q ▸ h
theorem wv_to {b b' : Bool} (h : WV X e ρ M b M1) (q : b = b') : WV X e ρ M b' M1 := q ▸ h

/-! ### and, or, not as values -/
theorem ev_one {op} {b : Bool} (h : EV X e ρ M d M1) : EV X (.BoolOp op [e] pos) ρ M d M1 := pe_one h
theorem ev_and {p : Bool} {d : D} {rest : List Expr} (ha : EV X a ρ M (dB p) M1) (hb : p = true → EV X (.BoolOp .And (b :: rest) pos) ρ M1 d M1) (hf : p = false → d = dB false) : EV X (.BoolOp .And (a :: b :: rest) pos) ρ M d M1 := by
  cases p with
  | true => exact (pe_and ha (hb rfl)).mono fun σ H Q ⟨G, sa, k⟩ => ⟨G, sa, fun v1 G1 H1 g1 sh1 r1 => ⟨true, r1.of_val, (⟨G1, ⟨sh1, sa.sl.up g1⟩, fun v G2 H2 g2 sh2 => k v G2 H2 (g1.trans g2) sh2⟩ : tE _ _ _ _ _ σ H1 Q)⟩⟩
  | false =>
    cases hf rfl
    exact (pe_and (tb := fun _ _ _ => False) ha ⟨fun _ _ _ _ _ _ h => h.elim⟩).mono fun σ H Q ⟨G, sa, k⟩ => ⟨G, sa, fun v1 G1 H1 g1 sh1 r1 => ⟨false, r1.of_val, (k _ G1 H1 g1 sh1 (.val _) : Q (.bl false) H1)⟩⟩
theorem ev_andB {p q : Bool} {rest : List Expr} (ha : EV X a ρ M (dB p) M1) (hb : p = true → EV X (.BoolOp .And (b :: rest) pos) ρ M1 (dB q) M1) : EV X (.BoolOp .And (a :: b :: rest) pos) ρ M (dB (p && q)) M1 := by
  refine ev_and ha (fun h => ?_) fun h => by rw [h]; rfl
  rw [h]
  exact hb h
theorem ev_orB {p q : Bool} {rest : List Expr} (ha : EV X a ρ M (dB p) M1) (hb : p = false → EV X (.BoolOp .Or (b :: rest) pos) ρ M1 (dB q) M1) : EV X (.BoolOp .Or (a :: b :: rest) pos) ρ M (dB (p || q)) M1 := by
  cases p with
  | false => exact (pe_or ha (hb rfl)).mono fun σ H Q ⟨G, sa, k⟩ => ⟨G, sa, fun v1 G1 H1 g1 sh1 r1 => ⟨false, r1.of_val, (⟨G1, ⟨sh1, sa.sl.up g1⟩, fun v G2 H2 g2 sh2 => k v G2 H2 (g1.trans g2) sh2⟩ : tE _ _ _ _ _ σ H1 Q)⟩⟩
  | true => exact (pe_or (tb := fun _ _ _ => False) ha ⟨fun _ _ _ _ _ _ h => h.elim⟩).mono fun σ H Q ⟨G, sa, k⟩ => ⟨G, sa, fun v1 G1 H1 g1 sh1 r1 => ⟨true, r1.of_val, (k _ G1 H1 g1 sh1 (.val _) : Q (.bl true) H1)⟩⟩
theorem ev_notB {p : Bool} (h : EV X e ρ M (dB p) M1) : EV X (.UnaryOp .Not e pos) ρ M (dB (!p)) M1 :=
  (pe_not h).mono fun σ H Q ⟨G, sa, k⟩ => ⟨G, sa, fun v1 G1 H1 g1 sh1 r1 => ⟨p, r1.of_val, k _ G1 H1 g1 sh1 (.val _)⟩⟩
/-- a if c else b -/
theorem ev_if {p : Bool} (hc : TV X c ρ M p M1) (ha : p = true → EV X a ρ M1 d M2) (hb : p = false → EV X b ρ M1 d M2) : EV X (.IfExp c a b pos) ρ M d M2 := by
  cases p with
  | true => exact (pe_ifExp (tb := fun _ _ _ => False) hc (ha rfl) ⟨fun _ _ _ _ _ _ h => h.elim⟩).mono fun σ H Q ⟨G, sa, k⟩ => ⟨G, sa, fun G1 H1 g1 sh1 => (⟨G1, ⟨sh1, sa.sl.up g1⟩, fun v G2 H2 g2 sh2 => k v G2 H2 (g1.trans g2) sh2⟩ : tE _ _ _ _ _ σ H1 Q)⟩
  | false => exact (pe_ifExp (ta := fun _ _ _ => False) hc ⟨fun _ _ _ _ _ _ h => h.elim⟩ (hb rfl)).mono fun σ H Q ⟨G, sa, k⟩ => ⟨G, sa, fun G1 H1 g1 sh1 => (⟨G1, ⟨sh1, sa.sl.up g1⟩, fun v G2 H2 g2 sh2 => k v G2 H2 (g1.trans g2) sh2⟩ : tE _ _ _ _ _ σ H1 Q)⟩
theorem ev_ifB {p : Bool} (hc : TV X c ρ M p M1) (ha : EV X a ρ M1 d1 M2) (hb : EV X b ρ M1 d2 M2) : EV X (.IfExp c a b pos) ρ M (if p = true then d1 else d2) M2 :=
  ev_if hc (fun h => by rw [if_pos h]; exact ha) (fun h => by rw [h, if_neg Bool.false_ne_true]; exact hb)

/-! ### arguments, displays -/
theorem av_nil : AV X [] ρ M [] M := pa_nil.mono fun σ H Q ⟨G, sa, k⟩ => k [] G H (Same.refl G) sa.sh .nil
theorem av_cons (ha : EV X e ρ M d M1) (hr : AV X es ρ M1 ds M2) (hs : starEach (e :: es) X.env = (false, eval e X.env) :: starEach es X.env := by rfl) : AV X (e :: es) ρ M (d :: ds) M2 :=
  (pa_cons ha hr hs).mono fun σ H Q ⟨G, sa, k⟩ => ⟨G, sa, fun v1 G1 H1 g1 sh1 r1 => ⟨G1, ⟨sh1, sa.sl.up g1⟩, fun vs G2 H2 g2 sh2 r2 => k _ G2 H2 (g1.trans g2) sh2 (.cons (r1.up g2) r2)⟩⟩
theorem ev_tup {x1} (h : AV X es ρ M ds M1) (hl : ds.length ≤ sizeLine := by first | (simp only [List.length_cons, List.length_nil]; decide) | decide) : EV X (.Tuple es x1 pos) ρ M (.tup ds) M1 :=
  (pe_tup h).mono fun σ H Q ⟨G, sa, k⟩ => ⟨G, sa, fun vs G1 H1 g1 sh1 r1 => ⟨by rw [r1.len]; exact hl, fun p hp => by
    obtain ⟨sh2, g2⟩ := sh1.new (o := .tup vs) hp
    exact k _ _ _ (g1.trans g2) sh2 (.tup (.inl (.inl upd_same)) (r1.up g2))⟩⟩
theorem ev_lst (h : AV X es ρ M ds M1) (hl : ds.length ≤ sizeLine := by first | (simp only [List.length_cons, List.length_nil]; decide) | decide) : EV X (.List es pos) ρ M (.lst ds) M1 :=
  (pe_lst h).mono fun σ H Q ⟨G, sa, k⟩ => ⟨G, sa, fun vs G1 H1 g1 sh1 r1 => ⟨by rw [r1.len]; exact hl, fun p hp => by
    obtain ⟨sh2, g2⟩ := sh1.new (o := .lst vs) hp
    exact k _ _ _ (g1.trans g2) sh2 (.lst (.inl (.inl upd_same)) (r1.up g2))⟩⟩

/-! ### items -/
theorem atI_up {K : PySem.W.Frag} {G : Hp} {vs : List V} {i : Int} (r : RepL K G vs ds) (h : atI ds i = some d) : ∃ v, atI vs i = some v ∧ Rep K G v d := by
  unfold atI at h ⊢
  rw [r.len]
  cases q : ixN ds.length i with
  | none => rw [q] at h; cases h
  | some j =>
    rw [q] at h
    exact r.get h
theorem ev_ixT {i : Int} (ha : EV X a ρ M (.tup ds) M1) (hb : EV X b ρ M1 (dI i) M2) (h : atI ds i = some d) (hs : PlainIx b := by (intro _ _; rfl)) : EV X (.Subscript a b pos) ρ M d M2 :=
  (pe_ix ix_tup ha hb hs).mono fun σ H Q ⟨G, sa, k⟩ => ⟨G, sa, fun v1 G1 H1 g1 sh1 r1 => ⟨G1, ⟨sh1, sa.sl.up g1⟩, fun v2 G2 H2 g2 sh2 r2 => by
    cases r1 with
    | tup q r =>
      obtain ⟨v, e, rv⟩ := atI_up (r.up g2) h
      exact ⟨_, _, i, v, rfl, r2.of_val, sqtUp sh2.le (sqtUp g2 q), e, k _ G2 H2 (g1.trans g2) sh2 rv⟩⟩⟩
theorem ev_ixL {i : Int} (ha : EV X a ρ M (.lst ds) M1) (hb : EV X b ρ M1 (dI i) M2) (h : atI ds i = some d) (hs : PlainIx b := by (intro _ _; rfl)) : EV X (.Subscript a b pos) ρ M d M2 :=
  (pe_ix ix_list ha hb hs).mono fun σ H Q ⟨G, sa, k⟩ => ⟨G, sa, fun v1 G1 H1 g1 sh1 r1 => ⟨G1, ⟨sh1, sa.sl.up g1⟩, fun v2 G2 H2 g2 sh2 r2 => by
    cases r1 with
    | lst q r =>
      obtain ⟨v, e, rv⟩ := atI_up (r.up g2) h
      exact ⟨_, _, i, v, rfl, r2.of_val, sqlUp sh2.le (sqlUp g2 q), e, k _ G2 H2 (g1.trans g2) sh2 rv⟩⟩⟩
/-- an item of a list of the memory -/
theorem ev_ixM {p : Addr} {i : Int} (ha : EV X a ρ M (dP p) M1) (hb : EV X b ρ M1 (dI i) M2) (hm : M2 p = some (.lst ds)) (h : atI ds i = some d) (hs : PlainIx b := by (intro _ _; rfl)) : EV X (.Subscript a b pos) ρ M d M2 :=
  (pe_ix ix_list ha hb hs).mono fun σ H Q ⟨G, sa, k⟩ => ⟨G, sa, fun v1 G1 H1 g1 sh1 r1 => ⟨G1, ⟨sh1, sa.sl.up g1⟩, fun v2 G2 H2 g2 sh2 r2 => by
    obtain ⟨_, vs, hv, r⟩ := sh2.mem p _ hm
    obtain ⟨v, e, rv⟩ := atI_up r h
    exact ⟨p, vs, i, v, r1.of_val, r2.of_val, .inl (.inl hv), e, k _ G2 H2 (g1.trans g2) sh2 rv⟩⟩⟩
theorem ev_ixS {z : Str} {i : Int} {ch : Nat} (ha : EV X a ρ M (dS z) M1) (hb : EV X b ρ M1 (dI i) M2) (hz : z.length ≤ sizeLine) (h : atI z.cps.toList i = some ch) (hs : PlainIx b := by (intro _ _; rfl)) : EV X (.Subscript a b pos) ρ M (dS ⟨#[ch]⟩) M2 :=
  (pe_ix ix_str ha hb hs).mono fun σ H Q ⟨G, sa, k⟩ => ⟨G, sa, fun v1 G1 H1 g1 sh1 r1 => ⟨G1, ⟨sh1, sa.sl.up g1⟩, fun v2 G2 H2 g2 sh2 r2 =>
    ⟨z, i, ch, r1.of_val, r2.of_val, hz, h, k _ G2 H2 (g1.trans g2) sh2 (.val _)⟩⟩⟩

/-! ### calls -/
/-- what a def of trees promises -/
def spD (K : PySem.W.Frag) (Pr : List D → Mem → D → Mem → Prop) : Sp := fun vs H Q _ => ∃ G ds M d M', SH K G H M ∧ RepL K G vs ds ∧ Pr ds M d M' ∧ ∀ v G' H', Same G G' → SH K G' H' M' → Rep K G' v d → Q v H'
structure Cal (P : Program) (w : World) (K : PySem.W.Frag) (mg : Str → Option Value) (base : Heap) (k : Nat) (x : Str) (sp : Sp) : Prop where
  ex : ∃ f fd ps, mg x = some (.ref f) ∧ PySem.W.keepIn K (.ref f) = true ∧ Binds K fd ps [] ∧ FnOk P w K mg base CX0 k f fd ps sp
theorem Cal.mono {P : Program} {w : World} {K : PySem.W.Frag} {mg : Str → Option Value} {base : Heap} {j k : Nat} {x : Str} {sp : Sp} (C : Cal P w K mg base j x sp) (h : j ≤ k) : Cal P w K mg base k x sp :=
  let ⟨f, fd, ps, a, b, c, F⟩ := C.ex
  ⟨f, fd, ps, a, b, c, F.mono h⟩
theorem Cal.imp {P : Program} {w : World} {K : PySem.W.Frag} {mg : Str → Option Value} {base : Heap} {k : Nat} {x : Str} {sp sp' : Sp} (C : Cal P w K mg base k x sp) (h : ∀ vs H Q E, sp' vs H Q E → sp vs H Q E) : Cal P w K mg base k x sp' :=
  let ⟨f, fd, ps, a, b, c, F⟩ := C.ex
  ⟨f, fd, ps, a, b, c, F.imp h⟩
theorem ev_call {k : Nat} {x : Str} {Pr : List D → Mem → D → Mem → Prop} {p : Pos} (C : Cal X.prog X.w X.K X.mg X.base k x (spD X.K Pr)) (hr : Room k X.A) (ha : AV X (e :: es) ρ M ds M1) (hp : Pr ds M1 d M2) (hg : Gl X x := by rfl)
    (hd : (x == ("__debug__" : Str)) = false := by decide) (hst : starEach (e :: es) X.env = (false, eval e X.env) :: starEach es X.env := by rfl) (hpl : (backTo pos (starEach es X.env)).any (·.1) = false := by rfl) : EV X (.Call (.Name x p) (e :: es) [] pos) ρ M d M2 := by
  obtain ⟨f, fd, ps, hm, hk, hb, F⟩ := C.ex
  refine (pe_call F hr hg hm hk hb .nil pass0 ha (hdb := hd) (he := hst) (hpl := hpl)).mono fun σ H Q ⟨G, sa, k⟩ => ⟨G, sa, fun vs G1 H1 g1 sh1 r1 => ?_⟩
  show spD X.K Pr (vs ++ []) H1 Q E0
  rw [List.append_nil]
  exact ⟨G1, ds, M1, d, M2, sh1, r1, hp, fun v G' H' g sh r => k v G' H' (g1.trans g) sh r⟩
/-- a built-in of scalars -/
def RC (r : List V → Hp → VK → Prop) (vs : List V) (z : V) : Prop := ∀ H Q, Q z H → r vs H Q
theorem ev_cb {x : Str} {p : Pos} {id : String} {r : List V → Hp → VK → Prop} {vs : List V} {z : V} (hc : CallR X (.builtin id) r) (hm : X.mg x = none) (hv : bootBuiltins x = some (.builtin id)) (ha : AV X (e :: es) ρ M (vs.map D.val) M1) (hr : RC r vs z) (hg : Gl X x := by rfl)
    (hn : x ≠ "__name__" := by decide) (hd : (x == ("__debug__" : Str)) = false := by decide) (hst : starEach (e :: es) X.env = (false, eval e X.env) :: starEach es X.env := by rfl) (hpl : (backTo pos (starEach es X.env)).any (·.1) = false := by rfl) : EV X (.Call (.Name x p) (e :: es) [] pos) ρ M (.val z) M1 :=
  (pe_callB hc hg hm hv ha hn hd hst hpl).mono fun σ H Q ⟨G, sa, k⟩ => ⟨G, sa, fun vs' G1 H1 g1 sh1 r1 => by
    rw [RepL.of_vals r1]
    exact hr H1 Q (k _ G1 H1 g1 sh1 (.val _))⟩
theorem ev_ct {x : Str} {p : Pos} {id : String} {r : List V → Hp → VK → Prop} {vs : List V} {z : V} (hc : CallR X (.type id) r) (hm : X.mg x = none) (hv : bootBuiltins x = some (.type id)) (ha : AV X (e :: es) ρ M (vs.map D.val) M1) (hr : RC r vs z) (hg : Gl X x := by rfl)
    (hn : x ≠ "__name__" := by decide) (hd : (x == ("__debug__" : Str)) = false := by decide) (hst : starEach (e :: es) X.env = (false, eval e X.env) :: starEach es X.env := by rfl) (hpl : (backTo pos (starEach es X.env)).any (·.1) = false := by rfl) : EV X (.Call (.Name x p) (e :: es) [] pos) ρ M (.val z) M1 :=
  (pe_callTy hc hg hm hv ha hn hd hst hpl).mono fun σ H Q ⟨G, sa, k⟩ => ⟨G, sa, fun vs' G1 H1 g1 sh1 r1 => by
    rw [RepL.of_vals r1]
    exact hr H1 Q (k _ G1 H1 g1 sh1 (.val _))⟩
/-- int(i) -/
theorem ev_intI {i : Int} {p : Pos} (hm : X.mg "int" = none) (ha : EV X e ρ M (dI i) M1) (hg : Gl X "int" := by rfl) (hst : starEach [e] X.env = [(false, eval e X.env)] := by rfl) : EV X (.Call (.Name "int" p) [e] [] pos) ρ M (dI i) M1 :=
  (pe_callTy call_int1 hg hm (by decide +kernel) (av_cons ha av_nil hst) (he := hst)).mono fun σ H Q ⟨G, sa, k⟩ => ⟨G, sa, fun vs' G1 H1 g1 sh1 r1 => by
    rw [RepL.of_vals (xs := [.int i]) r1]
    exact .inl ⟨i, rfl, k _ G1 H1 g1 sh1 (.val _)⟩⟩
/-- len of a tree, of a list of the memory, of a text -/
theorem ev_lenT {p : Pos} (hm : X.mg "len" = none) (ha : EV X e ρ M (.tup ds) M1) (hg : Gl X "len" := by rfl) (hst : starEach [e] X.env = [(false, eval e X.env)] := by rfl) : EV X (.Call (.Name "len" p) [e] [] pos) ρ M (dI ds.length) M1 :=
  (pe_callB call_len_seq hg hm PySem.boot_len (av_cons ha av_nil hst) (he := hst)).mono fun σ H Q ⟨G, sa, k⟩ => ⟨G, sa, fun vs' G1 H1 g1 sh1 r1 => by
    cases r1 with
    | cons h t =>
      cases t
      cases h with
      | tup q r => exact ⟨_, _, rfl, .inr (sqtUp sh1.le q), by rw [r.len]; exact k _ G1 H1 g1 sh1 (.val _)⟩⟩
theorem ev_lenL {p : Pos} (hm : X.mg "len" = none) (ha : EV X e ρ M (.lst ds) M1) (hg : Gl X "len" := by rfl) (hst : starEach [e] X.env = [(false, eval e X.env)] := by rfl) : EV X (.Call (.Name "len" p) [e] [] pos) ρ M (dI ds.length) M1 :=
  (pe_callB call_len_seq hg hm PySem.boot_len (av_cons ha av_nil hst) (he := hst)).mono fun σ H Q ⟨G, sa, k⟩ => ⟨G, sa, fun vs' G1 H1 g1 sh1 r1 => by
    cases r1 with
    | cons h t =>
      cases t
      cases h with
      | lst q r => exact ⟨_, _, rfl, .inl (sqlUp sh1.le q), by rw [r.len]; exact k _ G1 H1 g1 sh1 (.val _)⟩⟩
theorem ev_lenM {a : Addr} {p : Pos} (hm : X.mg "len" = none) (ha : EV X e ρ M (dP a) M1) (h : M1 a = some (.lst ds)) (hg : Gl X "len" := by rfl) (hst : starEach [e] X.env = [(false, eval e X.env)] := by rfl) : EV X (.Call (.Name "len" p) [e] [] pos) ρ M (dI ds.length) M1 :=
  (pe_callB call_len_seq hg hm PySem.boot_len (av_cons ha av_nil hst) (he := hst)).mono fun σ H Q ⟨G, sa, k⟩ => ⟨G, sa, fun vs' G1 H1 g1 sh1 r1 => by
    obtain ⟨_, vs, hv, r⟩ := sh1.mem a _ h
    rw [RepL.of_vals (xs := [.ref a]) r1]
    exact ⟨a, vs, rfl, .inl (.inl (.inl hv)), by rw [r.len]; exact k _ G1 H1 g1 sh1 (.val _)⟩⟩
theorem ev_lenS {z : Str} {p : Pos} (hm : X.mg "len" = none) (ha : EV X e ρ M (dS z) M1) (hz : z.length ≤ sizeLine) (hg : Gl X "len" := by rfl) (hst : starEach [e] X.env = [(false, eval e X.env)] := by rfl) : EV X (.Call (.Name "len" p) [e] [] pos) ρ M (dI z.length) M1 :=
  (pe_callB call_len_str hg hm PySem.boot_len (av_cons ha av_nil hst) (he := hst)).mono fun σ H Q ⟨G, sa, k⟩ => ⟨G, sa, fun vs' G1 H1 g1 sh1 r1 => by
    rw [RepL.of_vals (xs := [.str z]) r1]
    exact ⟨z, rfl, hz, k _ G1 H1 g1 sh1 (.val _)⟩⟩

/-! ### statements -/
variable {Ψ : Out → Prop} {st : Stmt} {rest : List Stmt}
/-- what follows -/
def thenR (X : Cx) (rest : List Stmt) (Ψ : Out → Prop) : Out → Prop
  | .nx ρ M => BV X rest ρ M Ψ
  | o => Ψ o
theorem bv_nil (h : Ψ (.nx ρ M)) : BV X [] ρ M Ψ := pss_nil.mono fun E σ H ⟨G, sa, k⟩ => k _ h σ G H (Same.refl G) sa
theorem bv_cons (h : SV X st ρ M (thenR X rest Ψ)) : BV X (st :: rest) ρ M Ψ := by
  refine (pss_cons (u := fun E σ H => ∃ ρ' M', BV X rest ρ' M' Ψ ∧ tS X.K ρ' M' Ψ E σ H) h ⟨fun pins s σ H E I ⟨ρ', M', hb, q⟩ => hb.run pins s σ H E I q⟩).mono fun E σ H ⟨G, sa, k⟩ => ⟨G, sa, fun o ho => ?_⟩
  cases o with
  | nx ρ' M' => exact fun σ' G' H' g sa' => ⟨ρ', M', ho, G', sa', fun o' ho' => (k o' ho').up g⟩
  | ret d M' => exact k _ ho
  | bk ρ' M' => exact k _ ho
  | ct ρ' M' => exact k _ ho
theorem bv_one (h : SV X st ρ M Ψ) : BV X [st] ρ M Ψ := pss_one h
theorem sv_to {Ψ' : Out → Prop} (h : SV X st ρ M Ψ) (i : ∀ o, Ψ o → Ψ' o) : SV X st ρ M Ψ' := h.mono fun E σ H ⟨G, sa, k⟩ => ⟨G, sa, fun o ho => k o (i o ho)⟩
theorem bv_to {Ψ' : Out → Prop} (h : BV X rest ρ M Ψ) (i : ∀ o, Ψ o → Ψ' o) : BV X rest ρ M Ψ' := h.mono fun E σ H ⟨G, sa, k⟩ => ⟨G, sa, fun o ho => k o (i o ho)⟩
/-- fewer slots known, the same memory -/
theorem bv_weak {ρ' : Sl} (h : BV X rest ρ' M Ψ) (hl : ρ'.length = ρ.length) (hs : ∀ (i : Nat) (d : D), ρ'[i]? = some (some d) → ρ[i]? = some (some d)) : BV X rest ρ M Ψ := h.mono fun E σ H ⟨G, sa, k⟩ => ⟨G, ⟨sa.sh, sa.sl.weak hl hs⟩, k⟩
theorem sv_ret (h : EV X e ρ M d M1) (hΨ : Ψ (.ret d M1)) : SV X (.Return (some e) pos) ρ M Ψ :=
  (ps_ret h).mono fun E σ H ⟨G, sa, k⟩ => ⟨G, sa, fun v G1 H1 g1 sh1 r1 => k _ hΨ v G1 H1 g1 sh1 r1⟩
theorem sv_retN (hΨ : Ψ (.ret dN M)) : SV X (.Return none pos) ρ M Ψ :=
  ps_retN.mono fun E σ H ⟨G, sa, k⟩ => k _ hΨ _ G H (Same.refl G) sa.sh (.val _)
theorem sv_pass (hΨ : Ψ (.nx ρ M)) : SV X (.Pass pos) ρ M Ψ := ps_pass.mono fun E σ H ⟨G, sa, k⟩ => k _ hΨ σ G H (Same.refl G) sa
theorem sv_break (hΨ : Ψ (.bk ρ M)) : SV X (.Break pos) ρ M Ψ := ps_break.mono fun E σ H ⟨G, sa, k⟩ => k _ hΨ σ G H (Same.refl G) sa
theorem sv_cont (hΨ : Ψ (.ct ρ M)) : SV X (.Continue pos) ρ M Ψ := ps_continue.mono fun E σ H ⟨G, sa, k⟩ => k _ hΨ σ G H (Same.refl G) sa
theorem sv_expr (h : EV X e ρ M d M1) (hΨ : Ψ (.nx ρ M1)) (hs : swapsWith e none pos.line X.env = pure false := by rfl) : SV X (.Expr e pos) ρ M Ψ :=
  (ps_expr h hs).mono fun E σ H ⟨G, sa, k⟩ => ⟨G, sa, fun v G1 H1 g1 sh1 r1 => k _ hΨ σ G1 H1 g1 ⟨sh1, sa.sl.up g1⟩⟩
/-- x = e -/
theorem sv_set (i : Nat) {x : Str} {pos' : Pos} (hN : X.N.Nodup) (he : EV X e ρ M d M1) (hΨ : Ψ (.nx (ρ.set i (some d)) M1)) (hi : X.N[i]? = some x := by rfl) (hx : L2.Loc X.env.scope x := by first | exact Or.inl rfl | exact Or.inr rfl) (hs : swapsWith e (some (.Name x pos')) pos.line X.env = pure false := by rfl)
    (hf : X.fn x = true ∨ X.env.scope.names.lookup x = some .local := by first | exact .inl rfl | exact .inr rfl) : SV X (.Assign [.Name x pos'] e pos) ρ M Ψ :=
  (ps_set hN hi hx he hs hf).mono fun E σ H ⟨G, sa, k⟩ => ⟨G, sa, fun v G1 H1 g1 sh1 r1 => k _ hΨ _ G1 H1 g1 ⟨sh1, (sa.sl.up g1).set i r1⟩⟩
/-- x = a new list that is going to be changed: its address p is new -/
theorem sv_setNew (i : Nat) {x : Str} {pos' pl : Pos} (hN : X.N.Nodup) (ha : AV X es ρ M ds M1) (hΨ : ∀ p, M1 p = none → Ψ (.nx (ρ.set i (some (dP p))) (M1.set p (.lst ds)))) (hl : ds.length ≤ sizeLine := by first | (simp only [List.length_cons, List.length_nil]; decide) | decide) (hi : X.N[i]? = some x := by rfl) (hx : L2.Loc X.env.scope x := by first | exact Or.inl rfl | exact Or.inr rfl)
    (hs : swapsWith (.List es pl) (some (.Name x pos')) pos.line X.env = pure false := by rfl) (hf : X.fn x = true ∨ X.env.scope.names.lookup x = some .local := by first | exact .inl rfl | exact .inr rfl) : SV X (.Assign [.Name x pos'] (.List es pl) pos) ρ M Ψ :=
  (ps_set hN hi hx (pe_lst ha) hs hf).mono fun E σ H ⟨G, sa, k⟩ => ⟨G, sa, fun vs G1 H1 g1 sh1 r1 => ⟨by rw [r1.len]; exact hl, fun p hp => by
    obtain ⟨sh2, mp, gp⟩ := sh1.newM hp r1
    exact k _ (hΨ p mp) _ G1 _ g1 ⟨sh2, (sa.sl.up g1).set i (.val _)⟩⟩⟩
theorem sv_if {p : Bool} {as bs : List Stmt} (hc : TV X c ρ M p M1) (ha : p = true → BV X as ρ M1 Ψ) (hb : p = false → BV X bs ρ M1 Ψ) : SV X (.If c as bs pos) ρ M Ψ := by
  cases p with
  | true => exact (ps_if (u := fun _ _ _ => False) hc (ha rfl) ⟨fun _ _ _ _ _ _ h => h.elim⟩).mono fun E σ H ⟨G, sa, k⟩ => ⟨G, sa, fun G1 H1 g1 sh1 => (⟨G1, ⟨sh1, sa.sl.up g1⟩, fun o ho => (k o ho).up g1⟩ : tS _ _ _ _ E σ H1)⟩
  | false => exact (ps_if (t := fun _ _ _ => False) hc ⟨fun _ _ _ _ _ _ h => h.elim⟩ (hb rfl)).mono fun E σ H ⟨G, sa, k⟩ => ⟨G, sa, fun G1 H1 g1 sh1 => (⟨G1, ⟨sh1, sa.sl.up g1⟩, fun o ho => (k o ho).up g1⟩ : tS _ _ _ _ E σ H1)⟩
/-- the list at p, which slot i names, is changed no more -/
theorem SH.freeze {K : PySem.W.Frag} {G H : Hp} {M : Mem} {p : Addr} {ds : List D} (s : SH K G H (M.set p (.lst ds))) (hm : M p = none) : ∃ vs, SH K (upd G p (.lst vs)) H M ∧ Same G (upd G p (.lst vs)) ∧ RepL K G vs ds := by
  obtain ⟨gp, vs, hv, r⟩ := s.mem p _ Mem.set_same
  have up : Same G (upd G p (.lst vs)) := fun b u e => by rw [upd_ne (ne_of_none e gp)]; exact e
  refine ⟨vs, ⟨fun b u e => ?_, fun b mo e => ?_⟩, up, r⟩
  · by_cases hb : b = p
    · subst hb; rw [upd_same] at e; rw [← e]; exact hv
    · rw [upd_ne hb] at e; exact s.le b u e
  · have hb : b ≠ p := fun q => by rw [q, hm] at e; cases e
    obtain ⟨g0, at0⟩ := s.mem b mo (by rw [Mem.set_ne hb]; exact e)
    exact ⟨by rw [upd_ne hb]; exact g0, at0.up up rfl⟩
theorem bv_freeze (i : Nat) {p : Addr} (hρ : ρ[i]? = some (some (dP p))) (hm : M p = none) (h : BV X rest (ρ.set i (some (.lst ds))) M Ψ) : BV X rest ρ (M.set p (.lst ds)) Ψ := h.mono fun E σ H ⟨G, sa, k⟩ => by
  obtain ⟨vs, sh, g, r⟩ := sa.sh.freeze hm
  obtain ⟨v, e1, r1⟩ := sa.sl.2 i _ hρ
  refine ⟨_, ⟨sh, ?_⟩, fun o ho => (k o ho).up g⟩
  have q := (sa.sl.up g).set i (v := .ref p) (d := .lst ds) (.lst (.inl (.inl upd_same)) (r.up g))
  have e2 : σ.set i (some (V.ref p)) = σ := by
    have ev : v = V.ref p := r1.of_val
    rw [ev] at e1
    obtain ⟨hi, e3⟩ := List.getElem?_eq_some_iff.mp e1
    rw [← e3]
    exact List.set_getElem_self hi
  rw [e2] at q
  exact q

/-- a def's promise by its body -/
def Fin (d : D) (M' : Mem) : Out → Prop
  | .ret d' M'' => d' = d ∧ Mle M' M''
  | .nx _ M'' => d = dN ∧ Mle M' M''
  | _ => False
def startD (N : List Str) (ds : List D) : Sl := ds.map some ++ List.replicate (N.length - ds.length) none
theorem start_rep {K : PySem.W.Frag} {G : Hp} {N : List Str} : ∀ {vs : List V} {ds : List D}, RepL K G vs ds → RepS K G (L2.start N vs) (startD N ds) := fun {vs ds} r => by
  have hl := r.len
  unfold L2.start startD
  refine ⟨by simp [hl], fun i d e => ?_⟩
  by_cases hi : i < ds.length
  · rw [List.getElem?_append_left (by simpa using hi), List.getElem?_map] at e
    rw [List.getElem?_append_left (by simpa [hl] using hi), List.getElem?_map]
    cases q : ds[i]? with
    | none => rw [q] at e; cases e
    | some d' =>
      rw [q] at e
      cases e
      obtain ⟨v, h1, h2⟩ := r.get q
      exact ⟨v, by rw [h1]; rfl, h2⟩
  · rw [List.getElem?_append_right (by simpa using hi), List.getElem?_replicate] at e
    split at e <;> cases e
theorem fn_ok {P : Program} {w : World} {K : PySem.W.Frag} {mg : Str → Option Value} {base : Heap} {x qual : Str} {sd : Stmt} {f : Addr} {fd : FuncData} {N ps : List Str} {k : Nat} {Pr : List D → Mem → D → Mem → Prop} (F : Fun K x qual sd f fd) (S : FnScope N ps (defScope sd))
    (len : ∀ ds M d M', Pr ds M d M' → ds.length = ps.length)
    (hb : ∀ (cdv : Value) (A : Around) (outer : List Env) (s : Shared) (H : Hp) (E : XK) (ds : List D) (M : Mem) (d : D) (M' : Mem), Room k (A.deeper (envOfC qual (defScope sd) s.heap.objs.size f cdv)) → Pr ds M d M' →
      BV (cxOf CX0 P w K mg base N qual (defScope sd) f cdv A outer s H E).nox (defBody sd) (startD N ds) M (Fin d M')) : FnOk P w K mg base CX0 (k + 1) f fd ps (spD K Pr) := by
  refine F.ok S (fun vs H Q E ⟨G, ds, M, d, M', sh, r, p, q⟩ => by rw [r.len]; exact len _ _ _ _ p) fun cdv A outer s H vs Q E hr ⟨G, ds, M, d, M', sh, r, p, q⟩ => ?_
  refine ⟨_, hb cdv A outer s H E ds M d M' hr p, G, ⟨sh, start_rep r⟩, fun o ho => ?_⟩
  cases o with
  | ret d' M'' =>
    obtain ⟨rfl, hm⟩ := ho
    exact fun v G' H' g sh' r' => q v G' H' g (sh'.weak hm) r'
  | nx ρ M'' =>
    obtain ⟨rfl, hm⟩ := ho
    exact fun σ' G' H' g sa' => q .non G' H' g (sa'.sh.weak hm) (.val _)
  | bk _ _ => exact ho.elim
  | ct _ _ => exact ho.elim
theorem cal_of {P : Program} {w : World} {K : PySem.W.Frag} {mg : Str → Option Value} {base : Heap} {x qual : Str} {sd : Stmt} {f : Addr} {fd : FuncData} {N ps : List Str} {k : Nat} {Pr : List D → Mem → D → Mem → Prop} (F : Fun K x qual sd f fd) (S : FnScope N ps (defScope sd)) (hm : mg x = some (.ref f))
    (hbind : ∀ (kV doc pm : Value) (an : Option Addr) (cdv ct : Value) (us : List Value), us.length = ps.length → bindArgs (PySem.W.fnOf x qual (defArgs sd) (defBody sd) (defScope sd) .none kV doc pm an cdv ct) ⟨us, []⟩ = pure (ps.zip us))
    (len : ∀ ds M d M', Pr ds M d M' → ds.length = ps.length)
    (hb : ∀ (cdv : Value) (A : Around) (outer : List Env) (s : Shared) (H : Hp) (E : XK) (ds : List D) (M : Mem) (d : D) (M' : Mem), Room k (A.deeper (envOfC qual (defScope sd) s.heap.objs.size f cdv)) → Pr ds M d M' →
      BV (cxOf CX0 P w K mg base N qual (defScope sd) f cdv A outer s H E).nox (defBody sd) (startD N ds) M (Fin d M')) : Cal P w K mg base (k + 1) x (spD K Pr) :=
  ⟨f, fd, ps, hm, F.kp, F.binds hbind, fn_ok F S len hb⟩

/-! ### a list or a tuple -/
def sq (b : Bool) (ds : List D) : D := if b = true then .lst ds else .tup ds

/-! ### isinstance, is None, abs, texts of ints -/
theorem rs_eqI {i j : Int} : RS rEq (.int i) (.int j) (.bl (decide (i = j))) := fun H Q q => ⟨rfl, by
  have e : decide (V.int i = V.int j) = decide (i = j) := decide_eq_decide.mpr ⟨fun h => by cases h; rfl, fun h => by rw [h]⟩
  rw [e]; exact q⟩
theorem rs_neI {i j : Int} : RS rNe (.int i) (.int j) (.bl (!decide (i = j))) := fun H Q q => ⟨rfl, by
  have e : decide (V.int i = V.int j) = decide (i = j) := decide_eq_decide.mpr ⟨fun h => by cases h; rfl, fun h => by rw [h]⟩
  rw [e]; exact q⟩
theorem rs_eqS {i j : Str} : RS rEq (.str i) (.str j) (.bl (decide (i = j))) := fun H Q q => ⟨rfl, by
  have e : decide (V.str i = V.str j) = decide (i = j) := decide_eq_decide.mpr ⟨fun h => by cases h; rfl, fun h => by rw [h]⟩
  rw [e]; exact q⟩
theorem rs_neS {i j : Str} : RS rNe (.str i) (.str j) (.bl (!decide (i = j))) := fun H Q q => ⟨rfl, by
  have e : decide (V.str i = V.str j) = decide (i = j) := decide_eq_decide.mpr ⟨fun h => by cases h; rfl, fun h => by rw [h]⟩
  rw [e]; exact q⟩
theorem rs_eqB {i j : Bool} : RS rEq (.bl i) (.bl j) (.bl (decide (i = j))) := fun H Q q => ⟨rfl, by
  have e : decide (V.bl i = V.bl j) = decide (i = j) := decide_eq_decide.mpr ⟨fun h => by cases h; rfl, fun h => by rw [h]⟩
  rw [e]; exact q⟩
theorem ru_neg {i : Int} : RU (rU fun i => .int (-i)) (.int i) (.int (-i)) := fun H Q q => ⟨i, rfl, q⟩
theorem cm_l {i j : Int} (h1 : -(2 ^ 64) < i) (h2 : i < 2 ^ 64) : CMul i j := .inl ⟨h1, h2⟩
theorem cm_r {i j : Int} (h1 : -(2 ^ 64) < j) (h2 : j < 2 ^ 64) : CMul i j := .inr ⟨h1, h2⟩
/-- the kind of a tree: isinstance's left side -/
def tyD : D → Option String
  | .val .non => some "NoneType"
  | .val (.bl _) => some "bool"
  | .val (.int _) => some "int"
  | .val (.str _) => some "str"
  | .val _ => none
  | .tup _ => some "tuple"
  | .lst _ => some "list"
  | .dic => some "dict"
theorem tyx_of {K : PySem.W.Frag} {G H : Hp} {v : V} {d : D} {t : String} (e : Same G H) (r : Rep K G v d) (h : tyD d = some t) : TyX K H v (.type t) := by
  cases r with
  | val v =>
    cases v with
    | non => cases h; exact .base .non
    | bl b => cases h; exact .base (.bl b)
    | int i => cases h; exact .base (.int i)
    | str z => cases h; exact .base (.str z)
    | _ => cases h
  | tup q _ =>
    cases h
    rcases sqtUp e q with (q | ⟨o, q⟩) | ⟨o, its, n, q, c, _⟩
    · exact .base (.tup q)
    · exact .fTuple q
    · exact .kTuple q c
  | lst q _ =>
    cases h
    rcases sqlUp e q with (q | ⟨o, q⟩) | ⟨o, its, n, q, c, _⟩
    · exact .base (.lst q)
    · exact .base (.frz q)
    · exact .kList q c
  | dic q =>
    cases h
    exact .base (.dK (e _ _ q))
/-- isinstance(a, T), T a built-in type -/
theorem ev_isi {x : Str} {T t : String} {r : Bool} {p p2 : Pos} (hm : X.mg "isinstance" = none) (hT : X.mg x = none) (hv : bootBuiltins x = some (.type T)) (ha : EV X a ρ M d M1) (ht : tyD d = some t) (hk : kitB t T = some r) (hg : Gl X "isinstance" := by rfl) (hgT : Gl X x := by rfl)
    (hn : x ≠ "__name__" := by decide) (hd : (x == ("__debug__" : Str)) = false := by decide)
    (h1 : starEach [a, .Name x p2] X.env = (false, eval a X.env) :: starEach [.Name x p2] X.env := by rfl) (h2 : starEach [.Name x p2] X.env = (false, eval (.Name x p2) X.env) :: starEach [] X.env := by rfl) (hpl : (backTo pos (starEach [.Name x p2] X.env)).any (·.1) = false := by rfl) :
    EV X (.Call (.Name "isinstance" p) [a, .Name x p2] [] pos) ρ M (dB r) M1 :=
  (pe_callB call_isi hg hm boot_isinstance (pa_cons ha (pa_cons (pe_bltn (v := .ty T) hgT hT hv rfl hn hd) pa_nil h2) h1) (hpl := hpl) (he := h1)).mono fun σ H Q ⟨G, sa, k⟩ => ⟨G, sa, fun v1 G1 H1 g1 sh1 r1 => 
    ⟨v1, .ty T, .type t, .type T, r, rfl, .ty T, tyx_of sh1.le r1 ht, kit_ty hk, k _ G1 H1 g1 sh1 (.val _)⟩⟩
theorem ev_isN {j} {v : V} {p2 : Pos} (ha : EV X a ρ M (.val v) M1) : EV X (.Compare a [.Is] [.Constant .none j p2] pos) ρ M (dB (decide (v = .non))) M1 :=
  (pe_cmp (pc_isN ha)).mono fun σ H Q ⟨G, sa, k⟩ => ⟨G, sa, fun v1 G1 H1 g1 sh1 r1 => by rw [r1.of_val]; exact k _ G1 H1 g1 sh1 (.val _)⟩
theorem tv_isN {j} {v : V} {p2 : Pos} (ha : EV X a ρ M (.val v) M1) : TV X (.Compare a [.Is] [.Constant .none j p2] pos) ρ M (decide (v = .non)) M1 :=
  (pt_cmp (pc_isN ha)).mono fun σ H Q ⟨G, sa, k⟩ => ⟨G, sa, fun v1 G1 H1 g1 sh1 r1 => by rw [r1.of_val]; exact ⟨_, rfl, k G1 H1 g1 sh1⟩⟩
theorem tv_isND {j} {b : Bool} {p2 : Pos} (ha : EV X a ρ M d M1) (h : ∀ v, d ≠ .val v) : TV X (.Compare a [.Is] [.Constant .none j p2] pos) ρ M false M1 :=
  (pt_cmp (pc_isN ha)).mono fun σ H Q ⟨G, sa, k⟩ => ⟨G, sa, fun v1 G1 H1 g1 sh1 r1 => by
    cases r1 with
    | val _ => exact absurd rfl (h _)
    | tup _ _ => exact ⟨_, rfl, k G1 H1 g1 sh1⟩
    | lst _ _ => exact ⟨_, rfl, k G1 H1 g1 sh1⟩
    | dic _ => exact ⟨_, rfl, k G1 H1 g1 sh1⟩⟩

/-! ### lists -/
/-- list(x) of a tree: a new list that stands as it is -/
theorem ev_listL {b : Bool} {p : Pos} (hm : X.mg "list" = none) (ha : EV X e ρ M (sq b ds) M1) (hg : Gl X "list" := by rfl) (hst : starEach [e] X.env = [(false, eval e X.env)] := by rfl) : EV X (.Call (.Name "list" p) [e] [] pos) ρ M (.lst ds) M1 :=
  (pe_callTy call_list_of hg hm boot_list (av_cons ha av_nil hst) (he := hst)).mono fun σ H Q ⟨G, sa, k⟩ => ⟨G, sa, fun vs' G1 H1 g1 sh1 r1 => by
    cases r1 with
    | cons h t =>
      cases t
      cases b with
      | true =>
        cases (show Rep X.K G1 _ (.lst ds) from h) with
        | lst q r => exact ⟨_, _, rfl, .inl (sqlUp sh1.le q), fun l hl => by
            obtain ⟨sh2, g2⟩ := sh1.new (o := .lst _) hl
            exact k _ _ _ (g1.trans g2) sh2 (.lst (.inl (.inl upd_same)) (r.up g2))⟩
      | false =>
        cases (show Rep X.K G1 _ (.tup ds) from h) with
        | tup q r => exact ⟨_, _, rfl, .inr (sqtUp sh1.le q), fun l hl => by
            obtain ⟨sh2, g2⟩ := sh1.new (o := .lst _) hl
            exact k _ _ _ (g1.trans g2) sh2 (.lst (.inl (.inl upd_same)) (r.up g2))⟩⟩
/-- tuple(x) of a tree -/
theorem ev_tupOf {b : Bool} {p : Pos} (hm : X.mg "tuple" = none) (ha : EV X e ρ M (sq b ds) M1) (hg : Gl X "tuple" := by rfl) (hst : starEach [e] X.env = [(false, eval e X.env)] := by rfl) : EV X (.Call (.Name "tuple" p) [e] [] pos) ρ M (.tup ds) M1 :=
  (pe_callTy call_tuple_of hg hm boot_tuple (av_cons ha av_nil hst) (he := hst)).mono fun σ H Q ⟨G, sa, k⟩ => ⟨G, sa, fun vs' G1 H1 g1 sh1 r1 => by
    cases r1 with
    | cons h t =>
      cases t
      cases b with
      | true =>
        cases (show Rep X.K G1 _ (.lst ds) from h) with
        | lst q r => exact ⟨_, _, rfl, .inl ⟨sqlUp sh1.le q, fun l hl => by
            obtain ⟨sh2, g2⟩ := sh1.new (o := .tup _) hl
            exact k _ _ _ (g1.trans g2) sh2 (.tup (.inl (.inl upd_same)) (r.up g2))⟩⟩
      | false =>
        cases (show Rep X.K G1 _ (.tup ds) from h) with
        | tup q r => exact ⟨_, _, rfl, .inr ⟨sqtUp sh1.le q, k _ G1 H1 g1 sh1 (.tup q r)⟩⟩⟩
theorem ev_ixQ {b' : Bool} {i : Int} (ha : EV X a ρ M (sq b' ds) M1) (hb : EV X b ρ M1 (dI i) M2) (h : atI ds i = some d) (hs : PlainIx b := by (intro _ _; rfl)) : EV X (.Subscript a b pos) ρ M d M2 := by
  cases b' with
  | true => exact ev_ixL ha hb h hs
  | false => exact ev_ixT ha hb h hs
theorem ev_lenQ {b' : Bool} {p : Pos} (hm : X.mg "len" = none) (ha : EV X e ρ M (sq b' ds) M1) (hg : Gl X "len" := by rfl) (hst : starEach [e] X.env = [(false, eval e X.env)] := by rfl) : EV X (.Call (.Name "len" p) [e] [] pos) ρ M (dI ds.length) M1 := by
  cases b' with
  | true => exact ev_lenL hm ha hg hst
  | false => exact ev_lenT hm ha hg hst
/-- all(x) of a list of bools -/
theorem ev_all {bs : List Bool} {p : Pos} (hc : X.calm = true) (hm : X.mg "all" = none) (ha : EV X e ρ M (.lst (bs.map dB)) M1) (hg : Gl X "all" := by rfl) (hst : starEach [e] X.env = [(false, eval e X.env)] := by rfl) : EV X (.Call (.Name "all" p) [e] [] pos) ρ M (dB (bs.all id)) M1 :=
  (pe_callB (cr_all hc) hg hm boot_all (av_cons ha av_nil hst) (he := hst)).mono fun σ H Q ⟨G, sa, k⟩ => ⟨G, sa, fun vs' G1 H1 g1 sh1 r1 => by
    cases r1 with
    | cons h t =>
      cases t
      cases h with
      | lst q r =>
        have e : bs.map dB = (bs.map V.bl).map D.val := by rw [List.map_map] <;> rfl
        rw [e] at r
        rw [RepL.of_vals r] at q
        exact ⟨_, bs, rfl, sqlUp sh1.le q, k _ G1 H1 g1 sh1 (.val _)⟩⟩
/-- tuple + tuple -/
theorem ev_catT {es : List D} (ha : EV X a ρ M (.tup ds) M1) (hb : EV X b ρ M1 (.tup es) M2) (hl : ds.length + es.length ≤ sizeLine) : EV X (.BinOp a .Add b pos) ρ M (.tup (ds ++ es)) M2 :=
  (pe_op op_catA ha hb).mono fun σ H Q ⟨G, sa, k⟩ => ⟨G, sa, fun v1 G1 H1 g1 sh1 r1 => ⟨G1, ⟨sh1, sa.sl.up g1⟩, fun v2 G2 H2 g2 sh2 r2 => by
    cases r1 with
    | tup q r =>
      cases r2 with
      | tup q2 r2 =>
        have rr := r.up g2
        refine ⟨_, _, _, _, rfl, rfl, sqtUp sh2.le (sqtUp g2 q), sqtUp sh2.le q2, by rw [r.len, r2.len]; exact hl, fun e => ?_, fun _ e => ?_, fun _ _ p hp => ?_⟩
        · subst e
          cases rr
          exact k _ G2 H2 (g1.trans g2) sh2 (.tup q2 r2)
        · subst e
          cases r2
          rw [List.append_nil] at k
          exact k _ G2 H2 (g1.trans g2) sh2 (.tup (sqtUp g2 q) rr)
        · obtain ⟨sh3, g3⟩ := sh2.new (o := .tup _) hp
          exact k _ _ _ ((g1.trans g2).trans g3) sh3 (.tup (.inl (.inl upd_same)) ((rr.append r2).up g3))⟩⟩
/-- xs.append(e), xs a list of the memory -/
theorem sv_append {p : Addr} {ap cp : Pos} (ho : EV X a ρ M (dP p) M1) (ha : EV X e ρ M1 d M2) (hm1 : ∃ es, M1 p = some (.lst es)) (hm : M2 p = some (.lst ds)) (hl : ds.length < sizeLine) (hΨ : Ψ (.nx ρ (M2.set p (.lst (ds ++ [d])))))
    (h1 : attributeBase a "append" X.env (eval a X.env) = eval a X.env := by rfl) (h3 : (ap.endLine == cp.line) = true := by decide) (h4 : starEach [e] X.env = (false, eval e X.env) :: starEach [] X.env := by rfl)
    (h2 : (((((backTo cp (starEach [e] X.env)).all fun x => !x.fst) && (backToKw cp (keywordEach [] X.env)).all fun x => x.fst.isSome) && decide (([e].length + ([] : List Keyword).length + if ([] : List Keyword).isEmpty = true then 0 else 1) < 30)) = true) := by rfl)
    (h5 : (((backTo cp (starEach [] X.env)).any fun x => x.fst) = false) := by rfl)
    (hs : swapsWith (.Call (.Attribute a "append" ap) [e] [] cp) none pos.line X.env = pure false := by rfl) : SV X (.Expr (.Call (.Attribute a "append" ap) [e] [] cp) pos) ρ M Ψ :=
  (ps_expr (pe_bm PySem.F.plainAttrs_list PySem.F.slot_list_append PySem.F.type_list_append mt_append ho (av_cons ha av_nil h4) h1 h2 h3 h4 h5) hs).mono fun E σ H ⟨G, sa, k⟩ => ⟨G, sa, fun v1 G1 H1 g1 sh1 r1 => by
    obtain ⟨es, hes⟩ := hm1
    obtain ⟨_, vs1, hv1, _⟩ := sh1.mem p _ hes
    rw [r1.of_val]
    refine ⟨.inl ⟨rfl, _, .inl (.inl hv1)⟩, G1, ⟨sh1, sa.sl.up g1⟩, fun vs G2 H2 g2 sh2 r2 => ?_⟩
    cases r2 with
    | cons r2 t =>
      cases t
      obtain ⟨_, vs2, hv2, rl⟩ := sh2.mem p _ hm
      exact ⟨p, vs2, _, rfl, rfl, hv2, by rw [rl.len]; exact hl, k _ hΨ σ G2 _ (g1.trans g2) ⟨sh2.put hm (rl.append (.cons r2 .nil)), (sa.sl.up g1).up g2⟩⟩⟩
/-- xs.pop(i) -/
theorem ev_pop {p : Addr} {i : Nat} {ap : Pos} (ho : EV X a ρ M (dP p) M1) (ha : EV X e ρ M1 (dI i) M2) (hm1 : ∃ es, M1 p = some (.lst es)) (hm : M2 p = some (.lst ds)) (hi : ds[i]? = some d)
    (h1 : attributeBase a "pop" X.env (eval a X.env) = eval a X.env := by rfl) (h3 : (ap.endLine == pos.line) = true := by decide) (h4 : starEach [e] X.env = (false, eval e X.env) :: starEach [] X.env := by rfl)
    (h2 : (((((backTo pos (starEach [e] X.env)).all fun x => !x.fst) && (backToKw pos (keywordEach [] X.env)).all fun x => x.fst.isSome) && decide (([e].length + ([] : List Keyword).length + if ([] : List Keyword).isEmpty = true then 0 else 1) < 30)) = true) := by rfl)
    (h5 : (((backTo pos (starEach [] X.env)).any fun x => x.fst) = false) := by rfl) (hz : ds.length < 2 ^ 62) : EV X (.Call (.Attribute a "pop" ap) [e] [] pos) ρ M d (M2.set p (.lst (ds.eraseIdx i))) :=
  (pe_bm PySem.F.plainAttrs_list PySem.F.slot_list_pop PySem.F.type_list_pop mt_popAt ho (av_cons ha av_nil h4) h1 h2 h3 h4 h5).mono fun σ H Q ⟨G, sa, k⟩ => ⟨G, sa, fun v1 G1 H1 g1 sh1 r1 => by
    obtain ⟨es, hes⟩ := hm1
    obtain ⟨_, vs1, hv1, _⟩ := sh1.mem p _ hes
    rw [r1.of_val]
    refine ⟨.inl ⟨rfl, _, .inl (.inl hv1)⟩, G1, ⟨sh1, sa.sl.up g1⟩, fun vs G2 H2 g2 sh2 r2 => ?_⟩
    rw [RepL.of_vals (xs := [.int i]) r2]
    obtain ⟨_, vs2, hv2, rl⟩ := sh2.mem p _ hm
    obtain ⟨v, hv, rv⟩ := rl.get hi
    have hlt : i < vs2.length := (List.getElem?_eq_some_iff.mp hv).1
    have hll := rl.len
    refine ⟨p, vs2, i, i, v, rfl, rfl, hv2, by omega, by omega, ?_, hv, k _ G2 _ (g1.trans g2) (sh2.put hm (rl.erase i)) rv⟩
    unfold seqIndex?
    have e1 : ¬ ((i : Int) < 0) := by omega
    simp only [e1, if_false]
    rw [if_pos (by simp only [Bool.and_eq_true, decide_eq_true_eq]; omega)]
    rfl⟩
/-- xs[i] = e -/
theorem sv_setItem {p : Addr} {i : Nat} {tp : Pos} (he : EV X e ρ M d M1) (ho : EV X a ρ M1 (dP p) M2) (hi : EV X b ρ M2 (dI i) M3) (hm : M3 p = some (.lst ds)) (hlt : i < ds.length) (hΨ : Ψ (.nx ρ (M3.set p (.lst (ds.set i d)))))
    (ha : ∀ v, assign (.Subscript a b tp) X.env v = (do
      let ov ← holding [v] (eval a X.env)
      let iv ← holding [v, ov] (eval b X.env)
      standAt tp
      holding [v, ov, iv] (setItem ov iv v)
      release [v, ov, iv] []) := by intro _; rfl)
    (hs : swapsWithSole [.Subscript a b tp] e pos.line X.env = pure false := by rfl) (hw : swappedStores [.Subscript a b tp] e X.env = pure none := by rfl)
    (h1 : (assignEach [.Subscript a b tp] X.env).map (·.2) = [assign (.Subscript a b tp) X.env] := by rfl) : SV X (.Assign [.Subscript a b tp] e pos) ρ M Ψ :=
  (ps_asg he (pg_sub ho hi set_list ha) hs hw h1).mono fun E σ H ⟨G, sa, k⟩ => ⟨G, sa, fun v G1 H1 g1 sh1 r1 => ⟨G1, ⟨sh1, sa.sl.up g1⟩, fun v2 G2 H2 g2 sh2 r2 => ⟨G2, ⟨sh2, (sa.sl.up g1).up g2⟩, fun v3 G3 H3 g3 sh3 r3 => by
    obtain ⟨_, vs, hv, rl⟩ := sh3.mem p _ hm
    refine ⟨p, vs, i, i, r2.of_val, r3.of_val, hv, ?_, k _ hΨ σ G3 _ ((g1.trans g2).trans g3) ⟨sh3.put hm (rl.set ((r1.up g2).up g3) i), ((sa.sl.up g1).up g2).up g3⟩⟩
    have hl := rl.len
    unfold ixN
    rw [if_pos (by omega), if_pos (by omega)]
    simp⟩⟩⟩

/-! ### targets -/
/-- g stores d: the slots are ρ' then -/
def TG1 (K : PySem.W.Frag) (g : TG) (ρ : Sl) (d : D) (ρ' : Sl) : Prop := ∀ v σ G H Q, Same G H → RepS K G σ ρ → Rep K G v d → (∀ σ', RepS K G σ' ρ' → Q σ' H) → g v σ H Q
def TG2 (K : PySem.W.Frag) (g : TGs) (ρ : Sl) (ds : List D) (ρ' : Sl) : Prop := ∀ vs σ G H Q, Same G H → RepS K G σ ρ → RepL K G vs ds → (∀ σ', RepS K G σ' ρ' → Q σ' H) → g vs σ H Q
variable {K : PySem.W.Frag} {ρ' ρ'' : Sl} {g : TG} {gs : TGs}
theorem tg_name {i : Nat} : TG1 K (gName i) ρ d (ρ.set i (some d)) := fun v σ G H Q e h r k => k _ (h.set i r)
theorem tg_nil : TG2 K gNil ρ [] ρ := fun vs σ G H Q e h r k => by
  cases r
  exact ⟨rfl, k σ h⟩
theorem tg_cons (h1 : TG1 K g ρ d ρ') (h2 : TG2 K gs ρ' ds ρ'') : TG2 K (gCons g gs) ρ (d :: ds) ρ'' := fun vs σ G H Q e h r k => by
  cases r with
  | cons r t => exact ⟨_, _, rfl, h1 _ σ G H _ e h r fun σ' h' => h2 _ σ' G H _ e h' t k⟩
theorem tg_tup {n : Nat} (h : TG2 K gs ρ ds ρ') (hl : ds.length = n := by rfl) : TG1 K (gTup K n gs) ρ (.tup ds) ρ' := fun v σ G H Q e h0 r k => by
  cases r with
  | tup q r => exact ⟨_, _, rfl, sqtUp e q, r.len.trans hl, h _ σ G H _ e h0 r k⟩
theorem tg_lst {n : Nat} (h : TG2 K gs ρ ds ρ') (hl : ds.length = n := by rfl) : TG1 K (gUnl K n gs) ρ (.lst ds) ρ' := fun v σ G H Q e h0 r k => by
  cases r with
  | lst q r => exact ⟨_, _, rfl, sqlUp e q, r.len.trans hl, h _ σ G H _ e h0 r k⟩
/-- target = e -/
theorem sv_asg {tg : Expr} (he : EV X e ρ M d M1) (hg : PG X tg g) (ht : TG1 X.K g ρ d ρ') (hΨ : Ψ (.nx ρ' M1)) (hs : swapsWithSole [tg] e pos.line X.env = pure false := by rfl) (hw : swappedStores [tg] e X.env = pure none := by rfl)
    (h1 : (assignEach [tg] X.env).map (·.2) = [assign tg X.env] := by rfl) : SV X (.Assign [tg] e pos) ρ M Ψ :=
  (ps_asg he hg hs hw h1).mono fun E σ H ⟨G, sa, k⟩ => ⟨G, sa, fun v G1 H1 g1 sh1 r1 => ht v σ G1 H1 _ sh1.le (sa.sl.up g1) r1 fun σ' h' => k _ hΨ σ' G1 H1 g1 ⟨sh1, h'⟩⟩

/-! ### what is walked -/
def JW (K : PySem.W.Frag) (J : It) (G : Hp) (ds : List D) : Prop := ∀ (i : Nat) H, Same G H → (∀ d, ds[i]? = some d → J.go i H ∧ ∀ x H', J.yld i H x H' → H' = H ∧ Rep K G x d) ∧ (ds.length ≤ i → J.stop i H)
def tI (K : PySem.W.Frag) (ρ : Sl) (M : Mem) (ds : List D) (M1 : Mem) : TI := fun σ H R => ∃ G, SA K G H σ ρ M ∧ ∀ J G' H', Same G G' → SH K G' H' M1 → JW K J G' ds → R J H'
abbrev IV (X : Cx) (tg iter : Expr) (ρ : Sl) (M : Mem) (ds : List D) (M1 : Mem) : Prop := PI X tg iter (tI X.K ρ M ds M1)
theorem _root_.L2.PI.mono {tg iter : Expr} {t t' : TI} (h : PI X tg iter t) (i : ∀ σ H R, t' σ H R → t σ H R) : PI X tg iter t' := ⟨fun pins s σ H R I q => h.run pins s σ H R I (i σ H R q)⟩
theorem JW.range {lo : Int} {n : Nat} {G : Hp} : JW K (Itr lo n) G ((List.range n).map fun i => dI (lo + (i : Nat))) := fun i H e => ⟨fun d h => by
    rw [List.getElem?_map] at h
    have hi : i < n := by
      rcases Nat.lt_or_ge i n with q | q
      · exact q
      · rw [List.getElem?_eq_none (by simpa using q)] at h; cases h
    rw [List.getElem?_range hi] at h
    cases h
    exact ⟨hi, fun x H' ⟨e1, e2⟩ => ⟨e1, by rw [e2]; exact .val _⟩⟩, fun h => by
    rw [List.length_map, List.length_range] at h
    exact h⟩
theorem JW.list {p : Addr} {vs : List V} {G : Hp} (q : SqL K G p vs) (r : RepL K G vs ds) : JW K (Itl K p) G ds := fun i H e => ⟨fun d h => by
    obtain ⟨v, hv, rv⟩ := r.get h
    exact ⟨⟨vs, v, sqlUp e q, hv⟩, fun x H' ⟨e1, e2⟩ => ⟨e1, by
      have := e2 vs (sqlUp e q)
      rw [hv] at this
      cases this
      exact rv⟩⟩, fun h => ⟨vs, sqlUp e q, by rw [r.len]; exact h⟩⟩
theorem JW.tup {p : Addr} {vs : List V} {G : Hp} (q : SqT K G p vs) (r : RepL K G vs ds) : JW K (Itt K p) G ds := fun i H e => ⟨fun d h => by
    obtain ⟨v, hv, rv⟩ := r.get h
    exact ⟨⟨vs, v, sqtUp e q, hv⟩, fun x H' ⟨e1, e2⟩ => ⟨e1, by
      have := e2 vs (sqtUp e q)
      rw [hv] at this
      cases this
      exact rv⟩⟩, fun h => ⟨vs, sqtUp e q, by rw [r.len]; exact h⟩⟩
theorem iv_list {tg : Expr} (h : EV X e ρ M (.lst ds) M1) : IV X tg e ρ M ds M1 :=
  (pi_list h).mono fun σ H R ⟨G, sa, k⟩ => ⟨G, sa, fun v G1 H1 g1 sh1 r1 => by
    cases r1 with
    | lst q r => exact ⟨_, rfl, ⟨_, sqlUp sh1.le q⟩, k _ G1 H1 g1 sh1 (JW.list q r)⟩⟩
theorem iv_tup {tg : Expr} (h : EV X e ρ M (.tup ds) M1) : IV X tg e ρ M ds M1 :=
  (pi_tup h).mono fun σ H R ⟨G, sa, k⟩ => ⟨G, sa, fun v G1 H1 g1 sh1 r1 => by
    cases r1 with
    | tup q r => exact ⟨_, rfl, ⟨_, sqtUp sh1.le q⟩, k _ G1 H1 g1 sh1 (JW.tup q r)⟩⟩
def rgD (lo : Int) (n : Nat) : List D := (List.range n).map fun i => dI (lo + (i : Nat))
theorem rgD_len {lo : Int} {n : Nat} : (rgD lo n).length = n := by unfold rgD; rw [List.length_map, List.length_range]
theorem rgD_get {lo : Int} {n i : Nat} {d : D} (h : (rgD lo n)[i]? = some d) : i < n ∧ d = dI (lo + (i : Nat)) := by
  have hi : i < n := by
    rcases Nat.lt_or_ge i n with q | q
    · exact q
    · rw [List.getElem?_eq_none (by rw [rgD_len]; exact q)] at h; cases h
  unfold rgD at h
  rw [List.getElem?_map, List.getElem?_range hi] at h
  cases h
  exact ⟨hi, rfl⟩
theorem iv_range1 {tg : Expr} {j : Int} {p : Pos} (hm : X.mg "range" = none) (h : EV X e ρ M (dI j) M1) (hj : -(2 ^ 62) ≤ j ∧ j < 2 ^ 62) (hg : Gl X "range" := by rfl) (hst : starEach [e] X.env = [(false, eval e X.env)] := by rfl) : IV X tg (.Call (.Name "range" p) [e] [] pos) ρ M (rgD 0 j.toNat) M1 :=
  (pi_range1 hg hm (av_cons h av_nil hst) hst).mono fun σ H R ⟨G, sa, k⟩ => ⟨G, sa, fun vs G1 H1 g1 sh1 r1 => by
    rw [RepL.of_vals (xs := [.int j]) r1]
    exact ⟨j, rfl, hj.1, hj.2, k _ G1 H1 g1 sh1 JW.range⟩⟩
theorem iv_range2 {tg : Expr} {i j : Int} {p : Pos} (hm : X.mg "range" = none) (ha : EV X a ρ M (dI i) M1) (hb : EV X b ρ M1 (dI j) M2) (hj : -(2 ^ 62) ≤ i ∧ i < 2 ^ 62 ∧ -(2 ^ 62) ≤ j ∧ j < 2 ^ 62) (hg : Gl X "range" := by rfl)
    (hst : starEach [a, b] X.env = [(false, eval a X.env), (false, eval b X.env)] := by rfl) (hs2 : starEach [b] X.env = [(false, eval b X.env)] := by rfl) : IV X tg (.Call (.Name "range" p) [a, b] [] pos) ρ M (rgD i (j - i).toNat) M2 :=
  (pi_range2 hg hm (av_cons ha (av_cons hb av_nil hs2) (by rw [hst, hs2])) hst hs2).mono fun σ H R ⟨G, sa, k⟩ => ⟨G, sa, fun vs G1 H1 g1 sh1 r1 => by
    rw [RepL.of_vals (xs := [.int i, .int j]) r1]
    exact ⟨i, j, rfl, hj, k _ G1 H1 g1 sh1 JW.range⟩⟩

/-! ### for -/
def loopR (Inv : Nat → Sl → Mem → Prop) (Ψ : Out → Prop) (i : Nat) : Out → Prop
  | .nx ρ M => Inv (i + 1) ρ M
  | .ct ρ M => Inv (i + 1) ρ M
  | .bk ρ M => Ψ (.nx ρ M)
  | .ret d M => Ψ (.ret d M)
theorem sv_for {tg iter : Expr} {body : List Stmt} (hc : X.calm = true) (hi : IV X tg iter ρ M ds M1) (hg : PG X tg g) (Iv : Nat → Sl → Mem → Prop) (start : Iv 0 ρ M1)
    (step : ∀ i d ρ' M', ds[i]? = some d → Iv i ρ' M' → ∃ ρ'', TG1 X.K g ρ' d ρ'' ∧ BV X body ρ'' M' (loopR Iv Ψ i)) (done : ∀ ρ' M', Iv ds.length ρ' M' → Ψ (.nx ρ' M'))
    (hp : PassesOwn (model X.prog X.w) X.A X.env X.xe := by exact PassesOwn.never) (hs : ∀ x, foldedSetIterable iter X.env x = pure x := by intro _; rfl) : SV X (.For tg iter body [] pos) ρ M Ψ := by
  refine (ps_for (tb := fun E σ H => ∃ ρ M Ψ', BV X body ρ M Ψ' ∧ tS X.K ρ M Ψ' E σ H) hp hc hi hg ⟨fun pins s σ H E I ⟨ρ', M', Ψ', hb, q⟩ => hb.run pins s σ H E I q⟩ hs).mono fun E σ H ⟨G, sa, k⟩ => ⟨G, sa, fun J G1 H1 g1 sh1 jw => ?_⟩
  refine ⟨fun i m σ H => m = ds.length - i ∧ i ≤ ds.length ∧ ∃ G ρ M, Same G1 G ∧ SA X.K G H σ ρ M ∧ Iv i ρ M, ⟨ds.length, by simp, Nat.zero_le _, G1, ρ, M1, Same.refl _, ⟨sh1, sa.sl.up g1⟩, start⟩, ?_⟩
  rintro i m σ2 H2 ⟨rfl, hi, G2, ρ2, M2, g2, sa2, iv⟩
  obtain ⟨j1, j2⟩ := jw i H2 (g2.trans sa2.sh.le)
  by_cases hlt : i < ds.length
  · have hd : ds[i]? = some ds[i] := List.getElem?_eq_getElem hlt
    obtain ⟨go, yl⟩ := j1 _ hd
    refine .inr ⟨go, fun σ3 H3 => ∃ G ρ M, Same G1 G ∧ SA X.K G H3 σ3 ρ M ∧ Iv (i + 1) ρ M, fun σ' H' p' => ⟨ds.length - (i + 1), by omega, rfl, hlt, p'⟩, fun x H' y => ?_⟩
    obtain ⟨e, rx⟩ := yl x H' y
    subst e
    obtain ⟨ρ3, tg3, bv⟩ := step i _ ρ2 M2 hd iv
    refine tg3 x σ2 G2 H' _ sa2.sh.le sa2.sl (rx.up g2) fun σ3 rs3 => ⟨ρ3, M2, _, bv, G2, ⟨sa2.sh, rs3⟩, fun o ho => ?_⟩
    cases o with
    | nx ρ4 M4 => exact fun σ4 G4 H4 g4 sa4 => ⟨G4, ρ4, M4, g2.trans g4, sa4, ho⟩
    | ct ρ4 M4 => exact fun σ4 G4 H4 g4 sa4 => ⟨G4, ρ4, M4, g2.trans g4, sa4, ho⟩
    | bk ρ4 M4 => exact fun σ4 G4 H4 g4 sa4 => k _ ho σ4 G4 H4 ((g1.trans g2).trans g4) sa4
    | ret d4 M4 => exact fun v G4 H4 g4 sh4 r4 => k _ ho v G4 H4 ((g1.trans g2).trans g4) sh4 r4
  · have e : i = ds.length := by omega
    subst e
    exact .inl ⟨j2 (Nat.le_refl _), k _ (done ρ2 M2 iv) σ2 G2 H2 (g1.trans g2) sa2⟩

/-! ### a list comprehension (one clause, no test) -/
def wipeD (ρ : Sl) : List Nat → Sl
  | [] => ρ
  | v :: vs => (wipeD ρ vs).set v none
theorem wipe_rep {G : Hp} {σ : L2.St} (h : RepS K G σ ρ) : ∀ vs, RepS K G (wipe σ vs) (wipeD ρ vs)
  | [] => h
  | v :: vs => (wipe_rep h vs).none v
/-- g stores d in slots that are the block's own -/
def TGb (K : PySem.W.Frag) (g : TG) (vs : List Nat) (ρ : Sl) (d : D) (ρ' : Sl) : Prop := ∀ v σ G H Q, Same G H → RepS K G (wipe σ vs) ρ → Rep K G v d → (∀ σ', RepS K G σ' ρ' → wipe σ' vs = wipe σ vs → Q σ' H) → g v (wipe σ vs) H Q
theorem tgb_name {i : Nat} : TGb K (gName i) [i] ρ d (ρ.set i (some d)) := fun v σ G H Q e h r k => k _ (h.set i r) (by
  show ((wipe σ [i]).set i (some v)).set i none = (wipe σ [i])
  show ((σ.set i none).set i (some v)).set i none = σ.set i none
  rw [List.set_set, List.set_set])
/-- the reading of a list comprehension -/
theorem lc_read {elt tg iter : Expr} {scope : Scope} {own : List (Str × Nat)}
    (f : Nat → D) (m : Nat → Mem) (h0 : m 0 = M1) (hm : ∀ i p, M1 p = none → m i p = none) (hlen : ds.length ≤ sizeLine)
    (step : ∀ i d, ds[i]? = some d → ∃ ρ', TGb X.K g (own.map (·.2)) (wipeD ρ (own.map (·.2))) d ρ' ∧ ∀ (p : Addr) (acc : List D), M1 p = none → ∀ (s : Shared) (H : Hp) (C : Addr) (cl : List (Str × Addr)) (fp : List Addr),
      EV (X.blk s H scope (compEnvC scope cl C X.env) fp) elt ρ' ((m i).set p (.lst acc)) (f i) ((m (i + 1)).set p (.lst acc))) (σ : L2.St) (H : Hp) (Q : VK) (h : tE X.K ρ M (.lst ((List.range ds.length).map f)) (m ds.length) σ H Q) :
    tLc (tI X.K ρ M ds M1) g tYes (fun σ H Q => ∃ ρ' M' d' M'', (∀ (s : Shared) (H : Hp) (C : Addr) (cl : List (Str × Addr)) (fp : List Addr), EV (X.blk s H scope (compEnvC scope cl C X.env) fp) elt ρ' M' d' M'') ∧ tE X.K ρ' M' d' M'' σ H Q) (own.map (·.2)) σ H Q := by
  obtain ⟨G, sa, k⟩ := h
  refine ⟨G, sa, fun J G1 H1 g1 sh1 jw => fun p hp => ?_⟩
  obtain ⟨shp, mp, gp⟩ := sh1.newM hp (RepL.nil (K := X.K) (G := G1))
  refine ⟨fun i mm H => mm = ds.length - i ∧ i ≤ ds.length ∧ ∃ G, Same G1 G ∧ SH X.K G H ((m i).set p (.lst ((List.range i).map f))), ⟨ds.length, by simp, Nat.zero_le _, G1, Same.refl _, by rw [h0]; exact shp⟩, ?_⟩
  rintro i mm H2 ⟨rfl, hi, G2, g2, sh2⟩
  obtain ⟨j1, j2⟩ := jw i H2 (g2.trans sh2.le)
  by_cases hlt : i < ds.length
  · have hd : ds[i]? = some ds[i] := List.getElem?_eq_getElem hlt
    obtain ⟨go, yl⟩ := j1 _ hd
    refine .inr ⟨go, fun H3 => ∃ G, Same G1 G ∧ SH X.K G H3 ((m (i + 1)).set p (.lst ((List.range (i + 1)).map f))), fun H' p' => ⟨ds.length - (i + 1), by omega, rfl, hlt, p'⟩, fun x H' y => ?_⟩
    obtain ⟨e, rx⟩ := yl x H' y
    subst e
    obtain ⟨ρ3, tg3, ev⟩ := step i _ hd
    refine tg3 x σ G2 H' _ sh2.le (wipe_rep ((sa.sl.up g1).up g2) _) (rx.up g2) fun σ3 rs3 hw => ⟨hw, ?_⟩
    show ∃ ρ' M' d' M'', _ ∧ tE X.K ρ' M' d' M'' σ3 H' _
    refine ⟨ρ3, _, _, _, ev p _ mp, G2, ⟨sh2, rs3⟩, fun v G4 H4 g4 sh4 r4 => ?_⟩
    obtain ⟨_, vs, hv, rl⟩ := sh4.mem p _ Mem.set_same
    refine ⟨vs, hv, ?_, G4, g2.trans g4, ?_⟩
    · rw [rl.len, List.length_map, List.length_range]
      exact Nat.lt_of_lt_of_le hlt hlen
    · have q := sh4.put (ds := (List.range i).map f ++ [f i]) Mem.set_same (rl.append (.cons r4 .nil))
      rw [Mem.set_set] at q
      rw [List.range_succ, List.map_append]
      exact q
  · have e : i = ds.length := by omega
    subst e
    obtain ⟨vs, sh3, g3, rl⟩ := sh2.freeze (hm _ p mp)
    exact .inl ⟨j2 (Nat.le_refl _), k _ _ H2 ((g1.trans g2).trans g3) sh3 (.lst (.inl (.inl upd_same)) (rl.up g3))⟩
theorem ev_lc {elt tg iter : Expr} {scope : Scope} {own : List (Str × Nat)} (hc : X.calm = true) (hN : X.N.Nodup) (hi : IV X tg iter ρ M ds M1) (ok : BlkOk X.N X.env.scope scope own)
    (hg : ∀ (s : Shared) (H : Hp) (C : Addr) (cl : List (Str × Addr)) (fp : List Addr), PG (X.blk s H scope (compEnvC scope cl C X.env) fp) tg g)
    (f : Nat → D) (m : Nat → Mem) (h0 : m 0 = M1) (hm : ∀ i p, M1 p = none → m i p = none) (hlen : ds.length ≤ sizeLine)
    (step : ∀ i d, ds[i]? = some d → ∃ ρ', TGb X.K g (own.map (·.2)) (wipeD ρ (own.map (·.2))) d ρ' ∧ ∀ (p : Addr) (acc : List D), M1 p = none → ∀ (s : Shared) (H : Hp) (C : Addr) (cl : List (Str × Addr)) (fp : List Addr),
      EV (X.blk s H scope (compEnvC scope cl C X.env) fp) elt ρ' ((m i).set p (.lst acc)) (f i) ((m (i + 1)).set p (.lst acc)))
    (hs : ∀ x, foldedSetIterable iter X.env x = pure x := by intro _; rfl) : EV X (.ListComp elt [⟨tg, iter, [], 0⟩] scope pos) ρ M (.lst ((List.range ds.length).map f)) (m ds.length) :=
  (pe_lc hc hN hi ok hg (fun _ _ _ _ _ => pts_nil) (fun s H C cl fp => ⟨fun pins s' σ H' Q I ⟨ρ', M', d', M'', hb, q⟩ => (hb s H C cl fp).run pins s' σ H' Q I q⟩) hs).mono (lc_read (tg := tg) (iter := iter) f m h0 hm hlen step)
/-- y = [e for x in ..] -/
theorem sv_setLc (i : Nat) {y : Str} {py : Pos} {elt tg iter : Expr} {scope : Scope} {own : List (Str × Nat)} {spos : Pos} (hc : X.calm = true) (hN : X.N.Nodup) (hy : X.N[i]? = some y) (hl : X.env.scope.names.lookup y = some .local)
    (hw : swapsWith (.ListComp elt [⟨tg, iter, [], 0⟩] scope pos) (some (.Name y py)) spos.line X.env = pure true) (hi : IV X tg iter ρ M ds M1) (ok : BlkOk X.N X.env.scope scope own)
    (hg : ∀ (s : Shared) (H : Hp) (C : Addr) (cl : List (Str × Addr)) (fp : List Addr), PG (X.blk s H scope (compEnvC scope cl C X.env) fp) tg g)
    (f : Nat → D) (m : Nat → Mem) (h0 : m 0 = M1) (hm : ∀ i p, M1 p = none → m i p = none) (hlen : ds.length ≤ sizeLine)
    (step : ∀ i d, ds[i]? = some d → ∃ ρ', TGb X.K g (own.map (·.2)) (wipeD ρ (own.map (·.2))) d ρ' ∧ ∀ (p : Addr) (acc : List D), M1 p = none → ∀ (s : Shared) (H : Hp) (C : Addr) (cl : List (Str × Addr)) (fp : List Addr),
      EV (X.blk s H scope (compEnvC scope cl C X.env) fp) elt ρ' ((m i).set p (.lst acc)) (f i) ((m (i + 1)).set p (.lst acc)))
    (hΨ : Ψ (.nx (ρ.set i (some (.lst ((List.range ds.length).map f)))) (m ds.length))) (hs : ∀ x, foldedSetIterable iter X.env x = pure x := by intro _; rfl) : SV X (.Assign [.Name y py] (.ListComp elt [⟨tg, iter, [], 0⟩] scope pos) spos) ρ M Ψ :=
  (ps_setLc hc hN hy hl hw hi ok hg (fun _ _ _ _ _ => pts_nil) (fun s H C cl fp => ⟨fun pins s' σ H' Q I ⟨ρ', M', d', M'', hb, q⟩ => (hb s H C cl fp).run pins s' σ H' Q I q⟩) hs).mono fun E σ H ⟨G, sa, k⟩ =>
    lc_read (tg := tg) (iter := iter) f m h0 hm hlen step σ H _ ⟨G, sa, fun v G1 H1 g1 sh1 r1 => k _ hΨ _ G1 H1 g1 ⟨sh1, (sa.sl.up g1).set i r1⟩⟩
end
end Vt
namespace Vt
open PySem PySem.Spec PyProof.Rows L2
/-! ### new lists that may be changed -/
def tN (K : PySem.W.Frag) (ρ : Sl) (M : Mem) (ds : List D) (M' : Mem) : TE := fun σ H Q => ∃ G, SA K G H σ ρ M ∧ ∀ p G' H', Same G G' → M' p = none → SH K G' H' (M'.set p (.lst ds)) → Q (.ref p) H'
abbrev EN (X : Cx) (e : Expr) (ρ : Sl) (M : Mem) (ds : List D) (M' : Mem) : Prop := PE X e (tN X.K ρ M ds M')
def spN (K : PySem.W.Frag) (Pr : List D → Mem → List D → Mem → Prop) : Sp := fun vs H Q _ => ∃ G ds M es M', SH K G H M ∧ RepL K G vs ds ∧ Pr ds M es M' ∧ ∀ p G' H', Same G G' → M' p = none → SH K G' H' (M'.set p (.lst es)) → Q (.ref p) H'
theorem Mem.set_comm {M : Mem} {a b : Addr} {o u : MO} (h : a ≠ b) : (M.set a o).set b u = (M.set b u).set a o := by
  funext c
  unfold Mem.set
  by_cases h1 : c = a
  · by_cases h2 : c = b
    · exact absurd (h1.symm.trans h2) h
    · rw [if_neg h2, if_pos h1, if_pos h1]
  · by_cases h2 : c = b
    · rw [if_pos h2, if_neg h1, if_pos h2]
    · rw [if_neg h2, if_neg h1, if_neg h1, if_neg h2]
theorem mle_new {M M' : Mem} {p : Addr} {o : MO} (h : Mle M M') (hp : M p = none) : Mle M (M'.set p o) := fun b u e => by
  rw [Mem.set_ne (fun q => by rw [q, hp] at e; cases e)]
  exact h b u e
/-- what a def that makes a list promises, by its body -/
def FinN (es : List D) (M' : Mem) : Out → Prop
  | .ret d M'' => ∃ p, d = dP p ∧ M' p = none ∧ Mle (M'.set p (.lst es)) M''
  | _ => False
section
variable {X : Cx} {ρ : Sl} {M M1 M2 M3 : Mem} {a b c e : Expr} {es : List Expr} {d d1 d2 : D} {ds : List D} {pos : Pos} {Ψ : Out → Prop}
theorem en_lst (h : AV X es ρ M ds M1) (hl : ds.length ≤ sizeLine := by first | (simp only [List.length_cons, List.length_nil]; decide) | decide) : EN X (.List es pos) ρ M ds M1 :=
  (pe_lst h).mono fun σ H Q ⟨G, sa, k⟩ => ⟨G, sa, fun vs G1 H1 g1 sh1 r1 => ⟨by rw [r1.len]; exact hl, fun p hp => by
    obtain ⟨sh2, mp, gp⟩ := sh1.newM hp r1
    exact k p _ _ g1 mp sh2⟩⟩
theorem en_listRg {n : Int} {p p2 pos2 : Pos} (hc : X.calm = true) (hm : X.mg "list" = none) (hm2 : X.mg "range" = none) (h : EV X e ρ M (dI n) M1) (hn : 0 ≤ n ∧ n ≤ 16777216) (hg : Gl X "list" := by rfl) (hg2 : Gl X "range" := by rfl)
    (n1 : starEach [e] X.env = (false, eval e X.env) :: starEach [] X.env := by rfl)
    (n2 : starEach [.Call (.Name "range" p2) [e] [] pos2] X.env = (false, eval (.Call (.Name "range" p2) [e] [] pos2) X.env) :: starEach [] X.env := by rfl) : EN X (.Call (.Name "list" p) [.Call (.Name "range" p2) [e] [] pos2] [] pos) ρ M (rgD 0 n.toNat) M1 :=
  (pe_listRg hc hg hm (prg_1 hg2 hm2 h n1) n2).mono fun σ H Q ⟨G, sa, k⟩ => ⟨G, sa, fun v G1 H1 g1 sh1 r1 => ⟨n, r1.of_val, RgOk.of_le (by omega) hn.2 (by omega) hn.1, fun p hp => by
    have r : RepL X.K G1 (rgV 0 n) (rgD 0 n.toNat) := by
      have q := RepL.vals (K := X.K) (G := G1) (rgV 0 n)
      have e : (rgV 0 n).map D.val = rgD 0 n.toNat := by
        unfold rgV rgD
        rw [List.map_map, Int.sub_zero]
        rfl
      rw [e] at q
      exact q
    obtain ⟨sh2, mp, gp⟩ := sh1.newM hp r
    exact k p _ _ g1 mp sh2⟩⟩
theorem sv_setN (i : Nat) {x : Str} {pos' : Pos} (hN : X.N.Nodup) (he : EN X e ρ M ds M1) (hΨ : ∀ p, M1 p = none → Ψ (.nx (ρ.set i (some (dP p))) (M1.set p (.lst ds)))) (hi : X.N[i]? = some x := by rfl) (hx : L2.Loc X.env.scope x := by first | exact Or.inl rfl | exact Or.inr rfl)
    (hs : swapsWith e (some (.Name x pos')) pos.line X.env = pure false := by rfl) (hf : X.fn x = true ∨ X.env.scope.names.lookup x = some .local := by first | exact .inl rfl | exact .inr rfl) : SV X (.Assign [.Name x pos'] e pos) ρ M Ψ :=
  (ps_set hN hi hx he hs hf).mono fun E σ H ⟨G, sa, k⟩ => ⟨G, sa, fun p G1 H1 g1 mp sh1 => k _ (hΨ p mp) _ G1 H1 g1 ⟨sh1, (sa.sl.up g1).set i (.val _)⟩⟩
theorem sv_retNew (he : EN X e ρ M ds M1) (hΨ : ∀ p, M1 p = none → Ψ (.ret (dP p) (M1.set p (.lst ds)))) : SV X (.Return (some e) pos) ρ M Ψ :=
  (ps_ret he).mono fun E σ H ⟨G, sa, k⟩ => ⟨G, sa, fun p G1 H1 g1 mp sh1 => k _ (hΨ p mp) _ G1 H1 g1 sh1 (.val _)⟩
theorem en_call {k : Nat} {x : Str} {Pr : List D → Mem → List D → Mem → Prop} {es' : List D} {p : Pos} (C : Cal X.prog X.w X.K X.mg X.base k x (spN X.K Pr)) (hr : Room k X.A) (ha : AV X (e :: es) ρ M ds M1) (hp : Pr ds M1 es' M2) (hg : Gl X x := by rfl)
    (hd : (x == ("__debug__" : Str)) = false := by decide) (hst : starEach (e :: es) X.env = (false, eval e X.env) :: starEach es X.env := by rfl) (hpl : (backTo pos (starEach es X.env)).any (·.1) = false := by rfl) : EN X (.Call (.Name x p) (e :: es) [] pos) ρ M es' M2 := by
  obtain ⟨f, fd, ps, hm, hk, hb, F⟩ := C.ex
  refine (pe_call F hr hg hm hk hb .nil pass0 ha (hdb := hd) (he := hst) (hpl := hpl)).mono fun σ H Q ⟨G, sa, k⟩ => ⟨G, sa, fun vs G1 H1 g1 sh1 r1 => ?_⟩
  show spN X.K Pr (vs ++ []) H1 Q E0
  rw [List.append_nil]
  exact ⟨G1, ds, M1, es', M2, sh1, r1, hp, fun q G' H' g mq sh => k q G' H' (g1.trans g) mq sh⟩
theorem calN_of {P : Program} {w : World} {K : PySem.W.Frag} {mg : Str → Option Value} {base : Heap} {x qual : Str} {sd : Stmt} {f : Addr} {fd : FuncData} {N ps : List Str} {k : Nat} {Pr : List D → Mem → List D → Mem → Prop} (F : Fun K x qual sd f fd) (S : FnScope N ps (defScope sd)) (hm : mg x = some (.ref f))
    (hbind : ∀ (kV doc pm : Value) (an : Option Addr) (cdv ct : Value) (us : List Value), us.length = ps.length → bindArgs (PySem.W.fnOf x qual (defArgs sd) (defBody sd) (defScope sd) .none kV doc pm an cdv ct) ⟨us, []⟩ = pure (ps.zip us))
    (len : ∀ ds M es M', Pr ds M es M' → ds.length = ps.length)
    (hb : ∀ (cdv : Value) (A : Around) (outer : List Env) (s : Shared) (H : Hp) (E : XK) (ds : List D) (M : Mem) (es : List D) (M' : Mem), Room k (A.deeper (envOfC qual (defScope sd) s.heap.objs.size f cdv)) → Pr ds M es M' →
      BV (cxOf CX0 P w K mg base N qual (defScope sd) f cdv A outer s H E).nox (defBody sd) (startD N ds) M (FinN es M')) : Cal P w K mg base (k + 1) x (spN K Pr) := by
  refine ⟨f, fd, ps, hm, F.kp, F.binds hbind, F.ok S (fun vs H Q E ⟨G, ds, M, es, M', sh, r, p, q⟩ => by rw [r.len]; exact len _ _ _ _ p) fun cdv A outer s H vs Q E hr ⟨G, ds, M, es, M', sh, r, p, q⟩ => ?_⟩
  refine ⟨_, hb cdv A outer s H E ds M es M' hr p, G, ⟨sh, start_rep r⟩, fun o ho => ?_⟩
  cases o with
  | ret d' M'' =>
    obtain ⟨p, rfl, mp, hm⟩ := ho
    exact fun v G' H' g sh' r' => by
      rw [r'.of_val]
      exact q p G' H' g mp (sh'.weak hm)
  | nx ρ M'' => exact ho.elim
  | bk _ _ => exact ho.elim
  | ct _ _ => exact ho.elim
/-- [F(x) for x in ..] that changes nothing -/
theorem range_getD {α β : Type} (x0 : α) (g : α → β) : ∀ (xs : List α), (List.range xs.length).map (fun i => g (xs.getD i x0)) = xs.map g := fun xs => by
  apply List.ext_getElem?
  intro i
  rw [List.getElem?_map, List.getElem?_map]
  rcases Nat.lt_or_ge i xs.length with h | h
  · rw [List.getElem?_range h, List.getElem?_eq_getElem h]
    show some (g (xs.getD i x0)) = some (g xs[i])
    rw [List.getD_eq_getElem?_getD, List.getElem?_eq_getElem h]
    rfl
  · rw [List.getElem?_eq_none (by simpa using h), List.getElem?_eq_none h]
    rfl
theorem getD_of {α : Type} {xs : List α} {i : Nat} {x x0 : α} (h : xs[i]? = some x) : xs.getD i x0 = x := by
  rw [List.getD_eq_getElem?_getD, h]
  rfl
theorem ev_lcM {elt tg iter : Expr} {scope : Scope} {own : List (Str × Nat)} {g : TG} (hc : X.calm = true) (hN : X.N.Nodup) (hi : IV X tg iter ρ M ds M1) (ok : BlkOk X.N X.env.scope scope own)
    (hg : ∀ (s : Shared) (H : Hp) (C : Addr) (cl : List (Str × Addr)) (fp : List Addr), PG (X.blk s H scope (compEnvC scope cl C X.env) fp) tg g) (F : D → D) (hlen : ds.length ≤ sizeLine)
    (step : ∀ (i : Nat) d, ds[i]? = some d → ∃ ρ', TGb X.K g (own.map (·.2)) (wipeD ρ (own.map (·.2))) d ρ' ∧ ∀ (M2 : Mem), ∀ (s : Shared) (H : Hp) (C : Addr) (cl : List (Str × Addr)) (fp : List Addr), EV (X.blk s H scope (compEnvC scope cl C X.env) fp) elt ρ' M2 (F d) M2)
    (hs : ∀ x, foldedSetIterable iter X.env x = pure x := by intro _; rfl) : EV X (.ListComp elt [⟨tg, iter, [], 0⟩] scope pos) ρ M (.lst (ds.map F)) M1 := by
  have q := ev_lc (f := fun i => F (ds.getD i dN)) (m := fun _ => M1) (pos := pos) hc hN hi ok hg rfl (fun _ _ h => h) hlen (fun i d h => by
    obtain ⟨ρ', h1, h2⟩ := step i d h
    refine ⟨ρ', h1, fun p acc _ s H C cl fp => ?_⟩
    show EV _ elt ρ' _ (F (ds.getD i dN)) _
    rw [getD_of h]
    exact h2 _ s H C cl fp) hs
  rw [range_getD dN F ds] at q
  exact q
end
end Vt
namespace Vt
open PySem PySem.Spec PyProof.Rows L2
/-! ### == and != of equal trees -/
mutual
def D.py : D → PyData
  | .val .non => .none
  | .val (.bl b) => .bool b
  | .val (.int i) => .int i
  | .val (.str x) => .str x
  | .val _ => .none
  | .tup ds => .tuple (D.pyL ds)
  | .lst ds => .list (D.pyL ds)
  | .dic => .none
def D.pyL : List D → List PyData
  | [] => []
  | d :: ds => D.py d :: D.pyL ds
end

mutual
def D.plain : D → Bool
  | .val .non => true
  | .val (.bl _) => true
  | .val (.int _) => true
  | .val (.str _) => true
  | .val _ => false
  | .tup ds => D.plainL ds
  | .lst ds => D.plainL ds
  | .dic => false
def D.plainL : List D → Bool
  | [] => true
  | d :: ds => D.plain d && D.plainL ds
end
section
variable {K : PySem.W.Frag} {G H : Hp}
mutual
theorem dp_of (e : Same G H) : ∀ (v : V) (d : D), D.plain d = true → Rep K G v d → Dp K H v (D.py d)
  | v, .val u, hp, r => by
    have q := r.of_val
    subst q
    cases v with
    | non => exact .non
    | bl b => exact .bl b
    | int i => exact .int i
    | str x => exact .str x
    | _ => cases hp
  | _, .tup ds, hp, .tup q r => .tup (sqtUp e q) (dpL_of e _ ds hp r)
  | _, .lst ds, hp, .lst q r => .lst (sqlUp e q) (dpL_of e _ ds hp r)
  | _, .dic, hp, _ => nomatch hp
theorem dpL_of (e : Same G H) : ∀ (vs : List V) (ds : List D), D.plainL ds = true → RepL K G vs ds → DpAll K H vs (D.pyL ds)
  | _, [], _, .nil => .nil
  | _, d :: ds, hp, .cons h t => by
    have q := (Bool.and_eq_true_iff.mp hp)
    exact .cons (dp_of e _ d q.1 h) (dpL_of e _ ds q.2 t)
end
end
section
variable {X : Cx} {ρ : Sl} {M M1 M2 M3 : Mem} {a b c e : Expr} {es : List Expr} {d d1 d2 : D} {ds : List D} {pos : Pos} {Ψ : Out → Prop}
theorem shaped_eqv {p : PyData} (h : SeqAt.shaped p = true) : PyData.eqv p p = true := SeqAt.eqv_refl p (SeqAt.canLay_of_shaped h)
theorem ev_eqD (hu : X.A.units + 64 < cLine) (ha : EV X a ρ M d1 M1) (hb : EV X b ρ M1 d2 M2) (p1 : D.plain d1 = true) (p2 : D.plain d2 = true) (s1 : SeqAt.shaped d1.py = true) (s2 : SeqAt.shaped d2.py = true) (hm : behindInMarks .Eq b = false) :
    EV X (.Compare a [.Eq] [b] pos) ρ M (dB (PyData.eqv d1.py d2.py)) M2 :=
  (pe_cmpR (op_eqD hu) ha hb hm).mono fun σ H Q ⟨G, sa, k⟩ => ⟨G, sa, fun v1 G1 H1 g1 sh1 r1 => ⟨G1, ⟨sh1, sa.sl.up g1⟩, fun v2 G2 H2 g2 sh2 r2 =>
    ⟨_, _, dp_of sh2.le _ _ p1 (r1.up g2), dp_of sh2.le _ _ p2 r2, s1, s2, k _ G2 H2 (g1.trans g2) sh2 (.val _)⟩⟩⟩
theorem tv_eqD (hu : X.A.units + 64 < cLine) (ha : EV X a ρ M d1 M1) (hb : EV X b ρ M1 d2 M2) (p1 : D.plain d1 = true) (p2 : D.plain d2 = true) (s1 : SeqAt.shaped d1.py = true) (s2 : SeqAt.shaped d2.py = true) (hm : behindInMarks .Eq b = false) :
    TV X (.Compare a [.Eq] [b] pos) ρ M (PyData.eqv d1.py d2.py) M2 :=
  (pt_cmpR (op_eqD hu) ha hb hm).mono fun σ H Q ⟨G, sa, k⟩ => ⟨G, sa, fun v1 G1 H1 g1 sh1 r1 => ⟨G1, ⟨sh1, sa.sl.up g1⟩, fun v2 G2 H2 g2 sh2 r2 =>
    ⟨_, _, dp_of sh2.le _ _ p1 (r1.up g2), dp_of sh2.le _ _ p2 r2, s1, s2, _, rfl, k G2 H2 (g1.trans g2) sh2⟩⟩⟩
theorem ev_neD (hu : X.A.units + 64 < cLine) (ha : EV X a ρ M d1 M1) (hb : EV X b ρ M1 d2 M2) (p1 : D.plain d1 = true) (p2 : D.plain d2 = true) (s1 : SeqAt.shaped d1.py = true) (s2 : SeqAt.shaped d2.py = true) (hm : behindInMarks .NotEq b = false) :
    EV X (.Compare a [.NotEq] [b] pos) ρ M (dB (!PyData.eqv d1.py d2.py)) M2 :=
  (pe_cmpR (op_neD hu) ha hb hm).mono fun σ H Q ⟨G, sa, k⟩ => ⟨G, sa, fun v1 G1 H1 g1 sh1 r1 => ⟨G1, ⟨sh1, sa.sl.up g1⟩, fun v2 G2 H2 g2 sh2 r2 =>
    ⟨_, _, dp_of sh2.le _ _ p1 (r1.up g2), dp_of sh2.le _ _ p2 r2, s1, s2, k _ G2 H2 (g1.trans g2) sh2 (.val _)⟩⟩⟩
theorem tv_neD (hu : X.A.units + 64 < cLine) (ha : EV X a ρ M d1 M1) (hb : EV X b ρ M1 d2 M2) (p1 : D.plain d1 = true) (p2 : D.plain d2 = true) (s1 : SeqAt.shaped d1.py = true) (s2 : SeqAt.shaped d2.py = true) (hm : behindInMarks .NotEq b = false) :
    TV X (.Compare a [.NotEq] [b] pos) ρ M (!PyData.eqv d1.py d2.py) M2 :=
  (pt_cmpR (op_neD hu) ha hb hm).mono fun σ H Q ⟨G, sa, k⟩ => ⟨G, sa, fun v1 G1 H1 g1 sh1 r1 => ⟨G1, ⟨sh1, sa.sl.up g1⟩, fun v2 G2 H2 g2 sh2 r2 =>
    ⟨_, _, dp_of sh2.le _ _ p1 (r1.up g2), dp_of sh2.le _ _ p2 r2, s1, s2, _, rfl, k G2 H2 (g1.trans g2) sh2⟩⟩⟩
/-- of one tree: != is false -/
theorem tv_neSame (hu : X.A.units + 64 < cLine) (ha : EV X a ρ M d M1) (hb : EV X b ρ M1 d M2) (p1 : D.plain d = true) (s1 : SeqAt.shaped d.py = true) (hm : behindInMarks .NotEq b = false) : TV X (.Compare a [.NotEq] [b] pos) ρ M false M2 := by
  have q := tv_neD (pos := pos) hu ha hb p1 p1 s1 s1 hm
  rw [shaped_eqv s1] at q
  exact q
theorem tv_eqSame (hu : X.A.units + 64 < cLine) (ha : EV X a ρ M d M1) (hb : EV X b ρ M1 d M2) (p1 : D.plain d = true) (s1 : SeqAt.shaped d.py = true) (hm : behindInMarks .Eq b = false) : TV X (.Compare a [.Eq] [b] pos) ρ M true M2 := by
  have q := tv_eqD (pos := pos) hu ha hb p1 p1 s1 s1 hm
  rw [shaped_eqv s1] at q
  exact q

/-! ### values that are known by what they meet alone -/
def tW (K : PySem.W.Frag) (ρ : Sl) (M : Mem) (Φ : D → Mem → Prop) : TE := fun σ H Q => ∃ G, SA K G H σ ρ M ∧ ∀ v G' H' d M', Φ d M' → Same G G' → SH K G' H' M' → Rep K G' v d → Q v H'
abbrev EW (X : Cx) (e : Expr) (ρ : Sl) (M : Mem) (Φ : D → Mem → Prop) : Prop := PE X e (tW X.K ρ M Φ)
def spW (K : PySem.W.Frag) (R : List D → Mem → (D → Mem → Prop) → Prop) : Sp := fun vs H Q _ => ∃ G ds M Φ, SH K G H M ∧ RepL K G vs ds ∧ R ds M Φ ∧ ∀ v G' H' d M', Φ d M' → Same G G' → SH K G' H' M' → Rep K G' v d → Q v H'
variable {Φ Φ' : D → Mem → Prop}
theorem ew_ev (h : EV X e ρ M d M1) (q : Φ d M1) : EW X e ρ M Φ := h.mono fun σ H Q ⟨G, sa, k⟩ => ⟨G, sa, fun v G1 H1 g1 sh1 r1 => k v G1 H1 d M1 q g1 sh1 r1⟩
theorem ew_to (h : EW X e ρ M Φ) (q : ∀ d M, Φ d M → Φ' d M) : EW X e ρ M Φ' := h.mono fun σ H Q ⟨G, sa, k⟩ => ⟨G, sa, fun v G1 H1 d M1 p => k v G1 H1 d M1 (q _ _ p)⟩
theorem ew_call {k : Nat} {x : Str} {R : List D → Mem → (D → Mem → Prop) → Prop} {p : Pos} (C : Cal X.prog X.w X.K X.mg X.base k x (spW X.K R)) (hr : Room k X.A) (ha : AV X (e :: es) ρ M ds M1) (hp : R ds M1 Φ) (hg : Gl X x := by rfl)
    (hd : (x == ("__debug__" : Str)) = false := by decide) (hst : starEach (e :: es) X.env = (false, eval e X.env) :: starEach es X.env := by rfl) (hpl : (backTo pos (starEach es X.env)).any (·.1) = false := by rfl) : EW X (.Call (.Name x p) (e :: es) [] pos) ρ M Φ := by
  obtain ⟨f, fd, ps, hm, hk, hb, F⟩ := C.ex
  refine (pe_call F hr hg hm hk hb .nil pass0 ha (hdb := hd) (he := hst) (hpl := hpl)).mono fun σ H Q ⟨G, sa, k⟩ => ⟨G, sa, fun vs G1 H1 g1 sh1 r1 => ?_⟩
  show spW X.K R (vs ++ []) H1 Q E0
  rw [List.append_nil]
  exact ⟨G1, ds, M1, Φ, sh1, r1, hp, fun v G' H' d M' q g sh r => k v G' H' d M' q (g1.trans g) sh r⟩
/-- x = e -/
theorem sv_setW (i : Nat) {x : Str} {pos' : Pos} (hN : X.N.Nodup) (he : EW X e ρ M Φ) (hΨ : ∀ d M1, Φ d M1 → Ψ (.nx (ρ.set i (some d)) M1)) (hi : X.N[i]? = some x := by rfl) (hx : L2.Loc X.env.scope x := by first | exact Or.inl rfl | exact Or.inr rfl) (hs : swapsWith e (some (.Name x pos')) pos.line X.env = pure false := by rfl)
    (hf : X.fn x = true ∨ X.env.scope.names.lookup x = some .local := by first | exact .inl rfl | exact .inr rfl) : SV X (.Assign [.Name x pos'] e pos) ρ M Ψ :=
  (ps_set hN hi hx he hs hf).mono fun E σ H ⟨G, sa, k⟩ => ⟨G, sa, fun v G1 H1 d M1 p g1 sh1 r1 => k _ (hΨ d M1 p) _ G1 H1 g1 ⟨sh1, (sa.sl.up g1).set i r1⟩⟩
theorem sv_retW (he : EW X e ρ M Φ) (hΨ : ∀ d M1, Φ d M1 → Ψ (.ret d M1)) : SV X (.Return (some e) pos) ρ M Ψ :=
  (ps_ret he).mono fun E σ H ⟨G, sa, k⟩ => ⟨G, sa, fun v G1 H1 d M1 p g1 sh1 r1 => k _ (hΨ d M1 p) v G1 H1 g1 sh1 r1⟩
/-- target = e -/
theorem sv_asgW {tg : Expr} {g : TG} (he : EW X e ρ M Φ) (hg : PG X tg g) (ht : ∀ d M1, Φ d M1 → ∃ ρ', TG1 X.K g ρ d ρ' ∧ Ψ (.nx ρ' M1)) (hs : swapsWithSole [tg] e pos.line X.env = pure false := by rfl) (hw : swappedStores [tg] e X.env = pure none := by rfl)
    (h1 : (assignEach [tg] X.env).map (·.2) = [assign tg X.env] := by rfl) : SV X (.Assign [tg] e pos) ρ M Ψ :=
  (ps_asg he hg hs hw h1).mono fun E σ H ⟨G, sa, k⟩ => ⟨G, sa, fun v G1 H1 d M1 p g1 sh1 r1 => by
    obtain ⟨ρ', t, q⟩ := ht d M1 p
    exact t v σ G1 H1 _ sh1.le (sa.sl.up g1) r1 fun σ' h' => k _ q σ' G1 H1 g1 ⟨sh1, h'⟩⟩
/-- a and b, a true -/
theorem ew_and {rest : List Expr} {Φ1 : Mem → Prop} (ha : EW X a ρ M (fun d M1 => d = dB true ∧ Φ1 M1)) (hb : ∀ M1, Φ1 M1 → EW X (.BoolOp .And (b :: rest) pos) ρ M1 Φ) : EW X (.BoolOp .And (a :: b :: rest) pos) ρ M Φ :=
  (pe_and (tb := fun σ H Q => ∃ M1, EW X (.BoolOp .And (b :: rest) pos) ρ M1 Φ ∧ tW X.K ρ M1 Φ σ H Q) ha ⟨fun pins s σ H Q I ⟨M1, hb, q⟩ => hb.run pins s σ H Q I q⟩).mono fun σ H Q ⟨G, sa, k⟩ => ⟨G, sa, fun v1 G1 H1 d M1 ⟨e, p⟩ g1 sh1 r1 => by
    subst e
    refine ⟨true, r1.of_val, ?_⟩
    show ∃ M1, EW X (.BoolOp .And (b :: rest) pos) ρ M1 Φ ∧ tW X.K ρ M1 Φ σ H1 Q
    exact ⟨M1, hb M1 p, G1, ⟨sh1, sa.sl.up g1⟩, fun v G2 H2 d2 M2 p2 g2 sh2 r2 => k v G2 H2 d2 M2 p2 (g1.trans g2) sh2 r2⟩⟩
theorem ew_one {op} (h : EW X e ρ M Φ) : EW X (.BoolOp op [e] pos) ρ M Φ := pe_one h
/-- a test of such a value: if e: as else: bs -/
theorem sv_ifW {as bs : List Stmt} (hc : EW X c ρ M Φ) (h : ∀ d M1, Φ d M1 → ∃ p, d = dB p ∧ (p = true → BV X as ρ M1 Ψ) ∧ (p = false → BV X bs ρ M1 Ψ)) (he : ∀ whole, isTrue c X.env whole = (do let v ← whole; standAt c.pos; holding [v] (truthy v)) := by intro _; rfl) : SV X (.If c as bs pos) ρ M Ψ :=
  (ps_if (t := fun E σ H => ∃ M1, BV X as ρ M1 Ψ ∧ tS X.K ρ M1 Ψ E σ H) (u := fun E σ H => ∃ M1, BV X bs ρ M1 Ψ ∧ tS X.K ρ M1 Ψ E σ H) (pt_val hc he) ⟨fun pins s σ H E I ⟨M1, hb, q⟩ => hb.run pins s σ H E I q⟩ ⟨fun pins s σ H E I ⟨M1, hb, q⟩ => hb.run pins s σ H E I q⟩).mono
    fun E σ H ⟨G, sa, k⟩ => ⟨G, sa, fun v G1 H1 d M1 p g1 sh1 r1 => by
      obtain ⟨b, rfl, h1, h2⟩ := h d M1 p
      refine ⟨b, r1.of_val, ?_⟩
      cases b with
      | true => exact ⟨M1, h1 rfl, G1, ⟨sh1, sa.sl.up g1⟩, fun o ho => (k o ho).up g1⟩
      | false => exact ⟨M1, h2 rfl, G1, ⟨sh1, sa.sl.up g1⟩, fun o ho => (k o ho).up g1⟩⟩
def FinW (Φ : D → Mem → Prop) : Out → Prop
  | .ret d M'' => ∃ M', Φ d M' ∧ Mle M' M''
  | .nx _ M'' => ∃ M', Φ dN M' ∧ Mle M' M''
  | _ => False
theorem calW_of {P : Program} {w : World} {K : PySem.W.Frag} {mg : Str → Option Value} {base : Heap} {x qual : Str} {sd : Stmt} {f : Addr} {fd : FuncData} {N ps : List Str} {k : Nat} {R : List D → Mem → (D → Mem → Prop) → Prop} (F : Fun K x qual sd f fd) (S : FnScope N ps (defScope sd)) (hm : mg x = some (.ref f))
    (hbind : ∀ (kV doc pm : Value) (an : Option Addr) (cdv ct : Value) (us : List Value), us.length = ps.length → bindArgs (PySem.W.fnOf x qual (defArgs sd) (defBody sd) (defScope sd) .none kV doc pm an cdv ct) ⟨us, []⟩ = pure (ps.zip us))
    (len : ∀ ds M Φ, R ds M Φ → ds.length = ps.length)
    (hb : ∀ (cdv : Value) (A : Around) (outer : List Env) (s : Shared) (H : Hp) (E : XK) (ds : List D) (M : Mem) (Φ : D → Mem → Prop), Room k (A.deeper (envOfC qual (defScope sd) s.heap.objs.size f cdv)) → R ds M Φ →
      BV (cxOf CX0 P w K mg base N qual (defScope sd) f cdv A outer s H E).nox (defBody sd) (startD N ds) M (FinW Φ)) : Cal P w K mg base (k + 1) x (spW K R) := by
  refine ⟨f, fd, ps, hm, F.kp, F.binds hbind, F.ok S (fun vs H Q E ⟨G, ds, M, Φ, sh, r, p, q⟩ => by rw [r.len]; exact len _ _ _ p) fun cdv A outer s H vs Q E hr ⟨G, ds, M, Φ, sh, r, p, q⟩ => ?_⟩
  refine ⟨_, hb cdv A outer s H E ds M Φ hr p, G, ⟨sh, start_rep r⟩, fun o ho => ?_⟩
  cases o with
  | ret d' M'' =>
    obtain ⟨M', hp, hm⟩ := ho
    exact fun v G' H' g sh' r' => q v G' H' d' M' hp g (sh'.weak hm) r'
  | nx ρ M'' =>
    obtain ⟨M', hp, hm⟩ := ho
    exact fun σ' G' H' g sa' => q .non G' H' dN M' hp g (sa'.sh.weak hm) (.val _)
  | bk _ _ => exact ho.elim
  | ct _ _ => exact ho.elim
/-- the law's own promise: of a list of at most 63 ints it hands back True -/
def spLaw (K : PySem.W.Frag) : Sp := fun vs H Q _ => ∃ (a : Addr) (ns : List Int), vs = [.ref a] ∧ SqL K H a (ns.map V.int) ∧ ns.length ≤ 63 ∧ ∀ H', Q (.bl true) H'
def FinL : Out → Prop
  | .ret d _ => d = dB true
  | _ => False
theorem law_of {P : Program} {w : World} {K : PySem.W.Frag} {mg : Str → Option Value} {base : Heap} {sd : Stmt} {f : Addr} {fd : FuncData} {N : List Str} {k : Nat} (F : Fun K "law" "law" sd f fd) (S : FnScope N ["script"] (defScope sd))
    (hb : ∀ (cdv : Value) (A : Around) (outer : List Env) (s : Shared) (H : Hp) (E : XK) (ns : List Int), Room k (A.deeper (envOfC "law" (defScope sd) s.heap.objs.size f cdv)) → ns.length ≤ 63 →
      BV (cxOf CX0 P w K mg base N "law" (defScope sd) f cdv A outer s H E).nox (defBody sd) (startD N [.lst (ns.map dI)]) (fun _ => none) FinL) : FnOk P w K mg base CX0 (k + 1) f fd ["script"] (spLaw K) := by
  refine F.ok S (fun vs H Q E ⟨a, ns, e, _⟩ => by rw [e]; rfl) fun cdv A outer s H vs Q E hr ⟨a, ns, e, hs, hl, q⟩ => ?_
  subst e
  have r : RepL K H [V.ref a] [.lst (ns.map dI)] := by
    refine .cons (.lst hs ?_) .nil
    have e := RepL.vals (K := K) (G := H) (ns.map V.int)
    rw [List.map_map] at e
    exact e
  refine ⟨_, hb cdv A outer s H E ns hr hl, H, ⟨⟨Same.refl _, fun b mo e => by cases e⟩, start_rep r⟩, fun o ho => ?_⟩
  cases o with
  | ret d M'' =>
    have e : d = dB true := ho
    subst e
    exact fun v G' H' g sh' r' => by
      rw [r'.of_val]
      exact q H'
  | nx ρ M'' => exact ho.elim
  | bk _ _ => exact ho.elim
  | ct _ _ => exact ho.elim
theorem walk {l : PySem.W.OpenLaw} {q : Program} {loose : List Str} {XP : (Str → Option Value) → Heap → Prop} {YP : World → Heap → Prop} {d : DefRec} {K : Params → PySem.W.Frag} {k : Nat} (hk : Room k callerA) (hn : l.most = some 63) (hdf : d.params.defaults = [])
    (hY : ∀ (w : World) (h : Heap), YP w h → (K w.params).In h)
    (F : ∀ (w : World) (mg : Str → Option Value) (fa : Addr) (h : Heap), (K w.params).In h → h.Ns mainGlobals mg → mg d.name = some (.ref fa) →
      ∃ fd : FuncData, (∀ (s : Shared) (u : Value), BindsTo s fd ⟨[u], []⟩ [("script", u)]) ∧ ∀ base : Heap, (K w.params).In base → base.Ns mainGlobals mg → FnOk l.prog w (K w.params) mg base CX0 k fa fd ["script"] (spLaw (K w.params))) :
    PySem.W.WalkO q loose XP YP l.row.toRowW d [] (fun f vs => PySem.call f vs) :=
  L2.walk_of (n := 63) (k := k) (x := "script") (CX := fun _ => CX0) (sp := fun w => spLaw (K w.params)) hn (by decide) hdf hk hY F (fun _ _ a ns hl _ hS => ⟨a, ns, rfl, hS, hl, fun _ => rfl⟩) fun _ _ _ _ _ z => z
end
end Vt
namespace Vt
open PySem PySem.Spec PyProof.Rows L2
/-! ### sorted of pairs of ints -/
def kOf (h : Heap) : Value → Int × Int
  | .ref t => match h.get? t with
    | some o => match o.data with
      | .seq arr _ => match arr.toList with
        | [.int i _, .int j _] => (i, j)
        | _ => (0, 0)
      | _ => (0, 0)
    | none => (0, 0)
  | _ => (0, 0)
def IsPr (K : PySem.W.Frag) (H : Hp) (x : V) (pr : Int × Int) : Prop := ∃ t, x = V.ref t ∧ SqT K H t [.int pr.1, .int pr.2]
def rSq (K : PySem.W.Frag) : List V → Hp → VK → Prop := fun vs H Q => ∃ (a : Addr) (xs : List V) (prs : List (Int × Int)) (G : Hp), vs = [V.ref a] ∧ SqL K H a xs ∧ Same G H ∧ Paired (IsPr K G) xs prs ∧
  ∀ ys qs p, Paired (IsPr K G) ys qs → qs.Perm prs → qs.Pairwise (fun a b => SrtO.lexB b a = false) → H p = none → Q (.ref p) (upd H p (.lst ys))
section
variable {X : Cx} {pins : List (Addr × Obj)} {s : Shared} {σ : L2.St} {G H : Hp}
theorem pr_val (I : Inv X pins σ H s) (g : Same G H) {x : V} {pr : Int × Int} {u : Value} (h : IsPr X.K G x pr) (r : RelV x u) : kOf s.heap u = pr ∧ Srt.IsPair s.heap u pr.1 pr.2 ∧ ∃ t, u = Value.ref t ∧ x = V.ref t := by
  obtain ⟨t, rfl, q⟩ := h
  obtain rfl : u = Value.ref t := r
  obtain ⟨its, rv, ⟨o, ho, hc, n, hd⟩, _⟩ := I.tuple (sqtUp g q)
  obtain ⟨u1, u2, rfl, ri, rj⟩ := vals2 rv
  obtain ⟨t1, rfl⟩ := ri
  obtain ⟨t2, rfl⟩ := rj
  refine ⟨?_, ⟨t, o, t1, t2, n, rfl, ho, hc, hd⟩, t, rfl, rfl⟩
  unfold kOf
  simp only [ho, hd]
theorem prs_val (I : Inv X pins σ H s) (g : Same G H) : ∀ {xs : List V} {prs : List (Int × Int)} {us : List Value}, Paired (IsPr X.K G) xs prs → Vals xs us →
    us.map (kOf s.heap) = prs ∧ ∀ u ∈ us, Srt.IsPair s.heap u (kOf s.heap u).1 (kOf s.heap u).2 ∧ ∃ t, u = Value.ref t ∧ IsPr X.K G (.ref t) (kOf s.heap u)
  | _, _, _, .nil, .nil => ⟨rfl, fun u hu => absurd hu (by simp)⟩
  | _, _, _, .cons h t, .cons r rr => by
    obtain ⟨e1, e2⟩ := prs_val I g t rr
    obtain ⟨k1, k2, t', k3, k4⟩ := pr_val I g h r
    refine ⟨by rw [List.map_cons, k1, e1], fun u hu => ?_⟩
    rcases List.mem_cons.mp hu with e | hu
    · subst e
      rw [k1]
      refine ⟨k2, t', k3, ?_⟩
      rw [← k4]
      exact h
    · exact e2 u hu
theorem paired_map {α β γ : Type} {F : β → γ → Prop} {f : α → β} {g : α → γ} : ∀ (l : List α), (∀ x ∈ l, F (f x) (g x)) → Paired F (l.map f) (l.map g)
  | [], _ => .nil
  | x :: l, h => .cons (h x List.mem_cons_self) (paired_map l fun y hy => h y (List.mem_cons_of_mem _ hy))
theorem cr_sq : CallR X (.builtin "sorted") (rSq X.K) := by
  intro pins s σ H vs us Q I r h
  obtain ⟨a, xs, prs, G, rfl, hs, g, hp, q⟩ := h
  obtain ⟨its, rv, hl, hz⟩ := I.list hs
  obtain ⟨u, rfl, ru⟩ := vals1 r
  obtain rfl : u = Value.ref a := ru
  obtain ⟨e1, e2⟩ := prs_val I g hp rv
  have hzz : its.length ≤ sizeLine := by
    have := rv.length
    omega
  refine SrtO.sorted_pairsO (k := kOf s.heap) hl.isList hzz (fun v hv => (e2 v hv).1) fun h' d out h1 h2 kp hd hn => ?_
  obtain ⟨n, hn⟩ := hn
  have hmem : ∀ u ∈ out, u ∈ its := fun u hu => h2.perm.mem_iff.mp hu
  have hv : Vals (out.map backV) out := by
    have : ∀ l : List Value, (∀ u ∈ l, u ∈ its) → Vals (l.map backV) l := fun l => by
      induction l with
      | nil => exact fun _ => .nil
      | cons u l ih =>
        intro hl
        obtain ⟨t, e, _⟩ := (e2 u (hl u List.mem_cons_self)).2
        refine .cons ?_ (ih fun v hv => hl v (List.mem_cons_of_mem _ hv))
        subst e
        rfl
    exact this out hmem
  refine ⟨.ref d, upd H d (.lst (out.map backV)), I.laid (t' := s.toks) kp hd (show ObjOk X.prog X.w _ _ _ (.lst (out.map backV)) from ⟨?_, out, n, hv, hn⟩), rfl, q _ (out.map (kOf s.heap)) d (paired_map out fun u hu => ?_) ?_ ?_ (I.hok.fresh hd)⟩
  · rw [List.length_map, h2.perm.length_eq]
    exact hzz
  · obtain ⟨t, e, h3⟩ := (e2 u (hmem u hu)).2
    subst e
    exact h3
  · rw [← e1]
    exact h2.perm.map _
  · exact List.pairwise_map.mpr h1
end
abbrev pD (pr : Int × Int) : D := .tup [dI pr.1, dI pr.2]
theorem pr_rep {K : PySem.W.Frag} {G : Hp} : ∀ {vs : List V} {prs : List (Int × Int)}, RepL K G vs (prs.map pD) → Paired (IsPr K G) vs prs
  | [], [], .nil => .nil
  | _ :: _, pr :: prs, .cons h t => by
    refine .cons ?_ (pr_rep t)
    cases h with
    | tup q r =>
      refine ⟨_, rfl, ?_⟩
      have e2 := RepL.of_vals (xs := [.int pr.1, .int pr.2]) r
      rw [e2] at q
      exact q
theorem rep_pr {K : PySem.W.Frag} {G : Hp} : ∀ {vs : List V} {prs : List (Int × Int)}, Paired (IsPr K G) vs prs → RepL K G vs (prs.map pD)
  | _, _, .nil => .nil
  | _, _, .cons h t => by
    obtain ⟨a, rfl, q⟩ := h
    exact .cons (.tup q (RepL.vals (K := K) (G := G) [.int _, .int _])) (rep_pr t)
/-- what is sorted and has the same items is the same -/
theorem lex_uniq : ∀ {l m : List (Int × Int)}, l.Pairwise (fun a b => SrtO.lexB b a = false) → m.Pairwise (fun a b => SrtO.lexB b a = false) → l.Perm m → l = m
  | [], m, _, _, h => (List.Perm.eq_nil h.symm).symm
  | x :: l, [], _, _, h => absurd h.length_eq (by simp)
  | x :: l, y :: m, hl, hm, h => by
    have hx : x ∈ y :: m := h.mem_iff.mp List.mem_cons_self
    have hy : y ∈ x :: l := h.mem_iff.mpr List.mem_cons_self
    have e : x = y := by
      rcases List.mem_cons.mp hx with e | hx
      · exact e
      · rcases List.mem_cons.mp hy with e | hy
        · exact e.symm
        · have h1 := (List.pairwise_cons.mp hm).1 x hx
          have h2 := (List.pairwise_cons.mp hl).1 y hy
          have q1 := SrtO.lexB_no.mp h1
          have q2 := SrtO.lexB_no.mp h2
          apply Prod.ext <;> omega
    subst e
    rw [lex_uniq (List.pairwise_cons.mp hl).2 (List.pairwise_cons.mp hm).2 h.cons_inv]
section
variable {X : Cx} {ρ : Sl} {M M1 M2 M3 : Mem} {a b c e : Expr} {es : List Expr} {d d1 d2 : D} {ds : List D} {pos : Pos} {Ψ : Out → Prop}
theorem ev_sortedM {q : Addr} {prs qs : List (Int × Int)} {p : Pos} (hm : X.mg "sorted" = none) (ha : EV X e ρ M (dP q) M1) (h : M1 q = some (.lst (prs.map pD))) (hq : qs.Pairwise (fun a b => SrtO.lexB b a = false)) (hp : qs.Perm prs) (hg : Gl X "sorted" := by rfl)
    (hst : starEach [e] X.env = [(false, eval e X.env)] := by rfl) : EV X (.Call (.Name "sorted" p) [e] [] pos) ρ M (.lst (qs.map pD)) M1 :=
  (pe_callB cr_sq hg hm boot_sorted (av_cons ha av_nil hst) (he := hst)).mono fun σ H Q ⟨G, sa, k⟩ => ⟨G, sa, fun vs' G1 H1 g1 sh1 r1 => by
    obtain ⟨gq, vs, hv, r⟩ := sh1.mem q _ h
    rw [RepL.of_vals (xs := [.ref q]) r1]
    refine ⟨q, vs, prs, G1, rfl, .inl (.inl hv), sh1.le, pr_rep r, fun ys qs' l hys hperm hsort hl => ?_⟩
    have e : qs' = qs := lex_uniq hsort hq (hperm.trans hp.symm)
    subst e
    obtain ⟨sh2, g2⟩ := sh1.new (o := .lst ys) hl
    exact k _ _ _ (g1.trans g2) sh2 (.lst (.inl (.inl upd_same)) ((rep_pr hys).up g2))⟩
theorem ev_abs {i : Int} {p : Pos} (hm : X.mg "abs" = none) (ha : EV X e ρ M (dI i) M1) (hg : Gl X "abs" := by rfl) (hst : starEach [e] X.env = [(false, eval e X.env)] := by rfl) : EV X (.Call (.Name "abs" p) [e] [] pos) ρ M (dI (if i < 0 then -i else i)) M1 :=
  (pe_callB call_abs hg hm boot_abs (av_cons ha av_nil hst) (he := hst)).mono fun σ H Q ⟨G, sa, k⟩ => ⟨G, sa, fun vs' G1 H1 g1 sh1 r1 => by
    rw [RepL.of_vals (xs := [.int i]) r1]
    exact ⟨i, rfl, k _ G1 H1 g1 sh1 (.val _)⟩⟩
theorem JW.rangeC {K : PySem.W.Frag} {lo c : Int} {n : Nat} {G : Hp} : JW K (Itc lo c n) G ((List.range n).map fun i => dI (lo + (i : Nat) * c)) := fun i H e => ⟨fun d h => by
    rw [List.getElem?_map] at h
    have hi : i < n := by
      rcases Nat.lt_or_ge i n with q | q
      · exact q
      · rw [List.getElem?_eq_none (by simpa using q)] at h; cases h
    rw [List.getElem?_range hi] at h
    cases h
    exact ⟨hi, fun x H' ⟨e1, e2⟩ => ⟨e1, by rw [e2]; exact .val _⟩⟩, fun h => by
    rw [List.length_map, List.length_range] at h
    exact h⟩
theorem iv_range3 {tg : Expr} {i j k : Int} {n : Nat} {p : Pos} (hm : X.mg "range" = none) (ha : EV X a ρ M (dI i) M1) (hb : EV X b ρ M1 (dI j) M2) (hc : EV X c ρ M2 (dI k) M3) (hr : RgC i j k n) (hg : Gl X "range" := by rfl)
    (h1 : starEach [a, b, c] X.env = (false, eval a X.env) :: starEach [b, c] X.env := by rfl) (h2 : starEach [b, c] X.env = (false, eval b X.env) :: starEach [c] X.env := by rfl) (h3 : starEach [c] X.env = (false, eval c X.env) :: starEach [] X.env := by rfl)
    (hpl : (backTo pos (starEach [b, c] X.env)).any (·.1) = false := by rfl) : IV X tg (.Call (.Name "range" p) [a, b, c] [] pos) ρ M ((List.range n).map fun m => dI (i + (m : Nat) * k)) M3 :=
  (pi_range3 hg hm (av_cons ha (av_cons hb (av_cons hc av_nil h3) h2) h1) h1 hpl).mono fun σ H R ⟨G, sa, kk⟩ => ⟨G, sa, fun vs G1 H1 g1 sh1 r1 => by
    rw [RepL.of_vals (xs := [.int i, .int j, .int k]) r1]
    exact ⟨i, j, k, n, rfl, hr, kk _ G1 H1 g1 sh1 JW.rangeC⟩⟩
theorem rgC_up {i j k : Int} {n : Nat} (h1 : -1000000000 < i ∧ i < 1000000000) (h2 : -1000000000 < j ∧ j < 1000000000) (h3 : 0 < k ∧ k < 1000000000) (hn : Builtin.Range.rangeSize i j k = n) (hs : Builtin.Range.small i j k = true) : RgC i j k n :=
  ⟨by omega, by omega, hs, hn⟩
end
end Vt
namespace Vt
open PySem PySem.Spec PyProof.Rows L2
/-! ### texts by their signs -/
def S (l : List Nat) : Str := ⟨l.toArray⟩
theorem S_list (l : List Nat) : (S l).cps.toList = l := by show l.toArray.toList = l; simp
theorem S_len (l : List Nat) : (S l).length = l.length := by show l.toArray.size = _; simp
theorem S_of (z : Str) : S z.cps.toList = z := by
  cases z with
  | mk c => show (⟨c.toList.toArray⟩ : Str) = ⟨c⟩; simp
theorem S_app (l m : List Nat) : S l ++ S m = S (l ++ m) := by
  show (⟨l.toArray ++ m.toArray⟩ : Str) = ⟨(l ++ m).toArray⟩
  simp
theorem S_one (c : Nat) : (⟨#[c]⟩ : Str) = S [c] := rfl
theorem S_inj {l m : List Nat} (h : S l = S m) : l = m := by
  have := congrArg (fun z : Str => z.cps.toList) h
  simpa [S] using this
theorem fold_app : ∀ (n : Nat) (c : Nat) (acc : Array Nat), (List.replicate n #[c]).foldl (· ++ ·) acc = acc ++ (List.replicate n c).toArray
  | 0, c, acc => by simp
  | n + 1, c, acc => by
    rw [List.replicate_succ, List.foldl_cons, fold_app n c, List.replicate_succ]
    apply Array.ext'
    simp
/-- one sign, so many times -/
def rRepS : R2 := fun x y H Q => ∃ (c : Nat) (n : Int), x = .str (S [c]) ∧ y = .int n ∧ (-1000000 ≤ n ∧ n ≤ 1000000) ∧ Q (.str (S (List.replicate n.toNat c))) H
section
variable {X : Cx}
theorem op_repS : OpR X (binaryOp .Mult) rRepS := by
  intro pins s σ H x y v u Q I rx ry h
  obtain ⟨c, n, rfl, rfl, hn, q⟩ := h
  obtain ⟨t, rfl⟩ := rx
  obtain ⟨t', rfl⟩ := ry
  refine P.mul_str (x := S [c]) ?_ (fun h1 _ => ?_) (fun h1 _ => ?_) ?_
  · rw [decide_eq_false (by omega), decide_eq_false (by omega)]
    rfl
  · show ¬ (((1 : Nat) : Int) > (2 ^ 63 - 1) / n)
    have : (1 : Int) ≤ (2 ^ 63 - 1) / n := by
      rw [Int.le_ediv_iff_mul_le (by omega)]
      omega
    omega
  · have : (S [c]).length * n.toNat ≤ 1000000 := by
      rw [S_len]
      show 1 * n.toNat ≤ 1000000
      omega
    show decide _ = false
    refine decide_eq_false ?_
    have e : (1000000 : Nat) ≤ sizeLine := by decide
    omega
  · by_cases h1 : n < 1
    · rw [if_pos h1]
      have e : n.toNat = 0 := by omega
      rw [e] at q
      exact ⟨by decide, .str _, H, I.tok _, ⟨_, rfl⟩, q⟩
    · rw [if_neg h1]
      by_cases h2 : (n == 1 || (S [c]).length == 0) = true
      · rw [if_pos h2]
        have e : n = 1 := by
          rw [Bool.or_eq_true, beq_iff_eq, beq_iff_eq, S_len] at h2
          rcases h2 with h2 | h2
          · exact h2
          · cases h2
        subst e
        exact ⟨.str (S [c]), H, I, ⟨_, rfl⟩, q⟩
      · rw [if_neg h2]
        have e : (⟨(List.replicate n.toNat (S [c]).cps).foldl (· ++ ·) #[]⟩ : Str) = S (List.replicate n.toNat c) := by
          have e2 := fold_app n.toNat c #[]
          show (⟨(List.replicate n.toNat #[c]).foldl (· ++ ·) #[]⟩ : Str) = ⟨_⟩
          rw [e2]
          simp
        rw [e]
        refine ⟨?_, .str _, H, I.tok _, ⟨_, rfl⟩, q⟩
        rw [S_len, List.length_replicate]
        exact Nat.le_trans (show n.toNat ≤ 1000000 by omega) (by decide)
end
section
variable {X : Cx} {ρ : Sl} {M M1 M2 M3 : Mem} {a b c e : Expr} {es : List Expr} {d d1 d2 : D} {ds : List D} {pos : Pos} {Ψ : Out → Prop}
theorem ev_repS {ch : Nat} {n : Int} (ha : EV X a ρ M (dS (S [ch])) M1) (hb : EV X b ρ M1 (dI n) M2) (hn : -1000000 ≤ n ∧ n ≤ 1000000) : EV X (.BinOp a .Mult b pos) ρ M (dS (S (List.replicate n.toNat ch))) M2 :=
  ev_op op_repS ha hb fun H Q q => ⟨ch, n, rfl, rfl, hn, q⟩
theorem ev_catS {l m : List Nat} (ha : EV X a ρ M (dS (S l)) M1) (hb : EV X b ρ M1 (dS (S m)) M2) (hn : l.length + m.length ≤ 1000000) : EV X (.BinOp a .Add b pos) ρ M (dS (S (l ++ m))) M2 :=
  ev_op op_add_str ha hb fun H Q q => ⟨S l, S m, rfl, rfl, by rw [S_len, S_len]; exact Nat.le_trans hn (by decide), by rw [S_app]; exact q⟩
theorem ev_strI {i : Int} {p : Pos} (hm : X.mg "str" = none) (ha : EV X e ρ M (dI i) M1) (hi : -1000000000 < i ∧ i < 1000000000) (hg : Gl X "str" := by rfl) (hst : starEach [e] X.env = [(false, eval e X.env)] := by rfl) : EV X (.Call (.Name "str" p) [e] [] pos) ρ M (dS (toString i : String)) M1 :=
  (pe_callTy call_str_int hg hm boot_str (av_cons ha av_nil hst) (he := hst)).mono fun σ H Q ⟨G, sa, k⟩ => ⟨G, sa, fun vs' G1 H1 g1 sh1 r1 => by
    rw [RepL.of_vals (xs := [.int i]) r1]
    refine ⟨i, rfl, ?_, k _ G1 H1 g1 sh1 (.val _)⟩
    have h1 : i.natAbs < 1000000000 := by omega
    have h2 : i.natAbs < 2 ^ 30 := by omega
    rcases Nat.eq_zero_or_pos i.natAbs with h0 | h0
    · rw [h0]; decide
    · exact Nat.lt_trans ((Nat.log2_lt (by omega)).mpr h2) (by decide)⟩
theorem ev_intS {z : Str} {n : Int} {p : Pos} (hm : X.mg "int" = none) (ha : EV X e ρ M (dS z) M1) (hz : PySem.intText? z = some n) (hl : z.length ≤ 640) (hg : Gl X "int" := by rfl) (hst : starEach [e] X.env = [(false, eval e X.env)] := by rfl) : EV X (.Call (.Name "int" p) [e] [] pos) ρ M (dI n) M1 :=
  (pe_callTy call_int_str hg hm (by decide +kernel) (av_cons ha av_nil hst) (he := hst)).mono fun σ H Q ⟨G, sa, k⟩ => ⟨G, sa, fun vs' G1 H1 g1 sh1 r1 => by
    rw [RepL.of_vals (xs := [.str z]) r1]
    exact ⟨z, n, rfl, hz, hl, k _ G1 H1 g1 sh1 (.val _)⟩⟩
/-- c in z -/
theorem rs_inC {ch : Nat} {z : Str} : RS (fun x y H Q => ∃ (c : Nat) (z : Str), x = .str ⟨#[c]⟩ ∧ y = .str z ∧ Q (.bl (decide (c ∈ z.cps.toList))) H) (.str (S [ch])) (.str z) (.bl (decide (ch ∈ z.cps.toList))) := fun H Q q => ⟨ch, z, rfl, rfl, q⟩
theorem ov_none : OV X none ρ M none M := po_none.mono fun σ H Q ⟨G, sa, k⟩ => k G H (Same.refl G) sa.sh
theorem ov_some {i : Int} (h : EV X e ρ M (dI i) M1) : OV X (some e) ρ M (some i) M1 := (po_some h).mono fun σ H Q ⟨G, sa, k⟩ => ⟨G, sa, fun v G1 H1 g1 sh1 r1 => ⟨i, r1.of_val, k G1 H1 g1 sh1⟩⟩
theorem ev_sliceS {lo hi : Option Expr} {l : List Nat} {o1 o2 : Option Int} {p2 : Pos} (ha : EV X a ρ M (dS (S l)) M1) (h1 : OV X lo ρ M1 o1 M2) (h2 : OV X hi ρ M2 o2 M3) (hl : l.length ≤ 1000000) :
    EV X (.Subscript a (.Slice lo hi none p2) pos) ρ M (dS (S ((l.drop (HT.sIx l.length 0 o1)).take (HT.sIx l.length l.length o2 - HT.sIx l.length 0 o1)))) M3 :=
  (pe_slice sl_str ha h1 h2).mono fun σ H Q ⟨G, sa, k⟩ => ⟨G, sa, fun v G1 H1 g1 sh1 r1 => ⟨G1, ⟨sh1, sa.sl.up g1⟩, fun G2 H2 g2 sh2 => ⟨G2, ⟨sh2, (sa.sl.up g1).up g2⟩, fun G3 H3 g3 sh3 => by
    rw [r1.of_val]
    refine ⟨S l, rfl, by rw [S_len]; exact Nat.le_trans hl (by decide), ?_⟩
    have e : cutS (S l) o1 o2 = S ((l.drop (HT.sIx l.length 0 o1)).take (HT.sIx l.length l.length o2 - HT.sIx l.length 0 o1)) := by
      unfold cutS
      rw [S_list, S_len]
      rfl
    rw [e]
    exact k _ G3 H3 ((g1.trans g2).trans g3) sh3 (.val _)⟩⟩⟩
/-- a method of a text with texts as arguments -/
theorem ev_bmS {name : Str} {id : String} {r : V → List V → Hp → VK → Prop} {z : Str} {vs : List V} {y : V} {ap : Pos} (pa : PlainAttrs "str") (slot : Slot "str" name id) (hty : typeOf (.builtin id) = pure (.type "method_descriptor")) (hm : MtR X id r) (ho : EV X a ρ M (dS z) M1) (ha : AV X (e :: es) ρ M1 (vs.map D.val) M2)
    (hr : ∀ H Q, Q y H → r (.str z) vs H Q) (h1 : attributeBase a name X.env (eval a X.env) = eval a X.env := by rfl) (h3 : (ap.endLine == pos.line) = true := by decide) (h4 : starEach (e :: es) X.env = (false, eval e X.env) :: starEach es X.env := by rfl)
    (h2 : (((((backTo pos (starEach (e :: es) X.env)).all fun x => !x.fst) && (backToKw pos (keywordEach [] X.env)).all fun x => x.fst.isSome) && decide (((e :: es).length + ([] : List Keyword).length + if ([] : List Keyword).isEmpty = true then 0 else 1) < 30)) = true) := by rfl)
    (h5 : (((backTo pos (starEach es X.env)).any fun x => x.fst) = false) := by rfl) : EV X (.Call (.Attribute a name ap) (e :: es) [] pos) ρ M (.val y) M2 :=
  (pe_bm pa slot hty hm ho ha h1 h2 h3 h4 h5).mono fun σ H Q ⟨G, sa, k⟩ => ⟨G, sa, fun v1 G1 H1 g1 sh1 r1 => by
    rw [r1.of_val]
    refine ⟨(show tyV X.K "str" (.str z) H1 from rfl), G1, ⟨sh1, sa.sl.up g1⟩, fun vs' G2 H2 g2 sh2 r2 => ?_⟩
    rw [RepL.of_vals r2]
    exact hr H2 Q (k _ G2 H2 (g1.trans g2) sh2 (.val _))⟩
theorem drop_while (p : Nat → Bool) : ∀ l : List Nat, l.drop (l.takeWhile p).length = l.dropWhile p
  | [] => rfl
  | x :: l => by
    by_cases h : p x = true
    · rw [List.takeWhile_cons_of_pos h, List.dropWhile_cons_of_pos h]
      exact drop_while p l
    · rw [List.takeWhile_cons_of_neg h, List.dropWhile_cons_of_neg h]
      rfl
theorem lstripS (l m : List Nat) : Txt.lstripChars (S l) (S m) = S (l.dropWhile fun c => m.contains c) := by
  unfold Txt.lstripChars
  rw [PyProof.Rows.stripBy_eq]
  show (⟨(S l).cps.extract _ _⟩ : Str) = ⟨_⟩
  have e1 : (fun c => (S m).cps.contains c) = fun c => m.contains c := by
    funext c
    show m.toArray.contains c = _
    simp
  have e2 : stripLo (S m).cps.contains true (S l) = (l.takeWhile fun c => m.contains c).length := by
    simp only [stripLo, if_true]
    rw [show (S m).cps.contains = fun c => m.contains c from e1, S_list]
  have e3 : ∀ k, stripHi (S m).cps.contains false (S l) k = l.length := fun k => by
    simp only [stripHi, Bool.false_eq_true, if_false]
    exact S_len l
  rw [e2, e3]
  refine congrArg Str.mk ?_
  rw [← drop_while]
  show l.toArray.extract _ l.length = _
  rw [List.extract_toArray]
  simp [List.extract]
  exact List.take_of_length_le (by rw [List.length_drop]; exact Nat.le_refl _)
/-- z.lstrip(chars) -/
theorem ev_lstrip {l m : List Nat} {ap : Pos} (ho : EV X a ρ M (dS (S l)) M1) (ha : EV X e ρ M1 (dS (S m)) M2) (hl : l.length ≤ 1000000) (h1 : attributeBase a "lstrip" X.env (eval a X.env) = eval a X.env := by rfl) (h3 : (ap.endLine == pos.line) = true := by decide) (h4 : starEach [e] X.env = (false, eval e X.env) :: starEach [] X.env := by rfl)
    (h2 : (((((backTo pos (starEach [e] X.env)).all fun x => !x.fst) && (backToKw pos (keywordEach [] X.env)).all fun x => x.fst.isSome) && decide (([e].length + ([] : List Keyword).length + if ([] : List Keyword).isEmpty = true then 0 else 1) < 30)) = true) := by rfl)
    (h5 : (((backTo pos (starEach [] X.env)).any fun x => x.fst) = false) := by rfl) : EV X (.Call (.Attribute a "lstrip" ap) [e] [] pos) ρ M (dS (S (l.dropWhile fun c => m.contains c))) M2 :=
  ev_bmS (vs := [.str (S m)]) PySem.F.plainAttrs_str PySem.F.slot_str_lstrip PySem.F.type_str_lstrip mt_lstripChars ho (av_cons ha av_nil h4) (fun H Q q => ⟨S l, S m, rfl, rfl, by rw [S_len]; exact Nat.le_trans hl (by decide), by rw [lstripS]; exact q⟩) h1 h3 h4 h2 h5
theorem ev_find {z y : Str} {i : Int} {ap : Pos} (ho : EV X a ρ M (dS z) M1) (ha : EV X e ρ M1 (dS y) M2) (hi : Txt.find z y = i) (h1 : attributeBase a "find" X.env (eval a X.env) = eval a X.env := by rfl) (h3 : (ap.endLine == pos.line) = true := by decide) (h4 : starEach [e] X.env = (false, eval e X.env) :: starEach [] X.env := by rfl)
    (h2 : (((((backTo pos (starEach [e] X.env)).all fun x => !x.fst) && (backToKw pos (keywordEach [] X.env)).all fun x => x.fst.isSome) && decide (([e].length + ([] : List Keyword).length + if ([] : List Keyword).isEmpty = true then 0 else 1) < 30)) = true) := by rfl)
    (h5 : (((backTo pos (starEach [] X.env)).any fun x => x.fst) = false) := by rfl) : EV X (.Call (.Attribute a "find" ap) [e] [] pos) ρ M (dI i) M2 :=
  ev_bmS (vs := [.str y]) PySem.F.plainAttrs_str PySem.F.slot_str_find PySem.F.type_str_find mt_find ho (av_cons ha av_nil h4) (fun H Q q => ⟨z, y, rfl, rfl, by rw [hi]; exact q⟩) h1 h3 h4 h2 h5
theorem ev_count {z y : Str} {i : Int} {ap : Pos} (ho : EV X a ρ M (dS z) M1) (ha : EV X e ρ M1 (dS y) M2) (hi : Txt.count z y = i) (h1 : attributeBase a "count" X.env (eval a X.env) = eval a X.env := by rfl) (h3 : (ap.endLine == pos.line) = true := by decide) (h4 : starEach [e] X.env = (false, eval e X.env) :: starEach [] X.env := by rfl)
    (h2 : (((((backTo pos (starEach [e] X.env)).all fun x => !x.fst) && (backToKw pos (keywordEach [] X.env)).all fun x => x.fst.isSome) && decide (([e].length + ([] : List Keyword).length + if ([] : List Keyword).isEmpty = true then 0 else 1) < 30)) = true) := by rfl)
    (h5 : (((backTo pos (starEach [] X.env)).any fun x => x.fst) = false) := by rfl) : EV X (.Call (.Attribute a "count" ap) [e] [] pos) ρ M (dI i) M2 :=
  ev_bmS (vs := [.str y]) PySem.F.plainAttrs_str PySem.F.slot_str_count PySem.F.type_str_count mt_count ho (av_cons ha av_nil h4) (fun H Q q => ⟨z, y, rfl, rfl, by rw [hi]; exact q⟩) h1 h3 h4 h2 h5
theorem JW.str {K : PySem.W.Frag} {l : List Nat} {G : Hp} : JW K (Its (S l)) G (l.map fun c => dS (S [c])) := fun i H e => ⟨fun d h => by
    rw [List.getElem?_map] at h
    cases q : l[i]? with
    | none => rw [q] at h; cases h
    | some c =>
      rw [q] at h
      cases h
      refine ⟨?_, fun x H' ⟨e1, c', e2, e3⟩ => ⟨e1, ?_⟩⟩
      · show i < l.toArray.size
        have := (List.getElem?_eq_some_iff.mp q).1
        simpa using this
      · have e4 : l.toArray[i]? = some c' := e2
        rw [List.getElem?_toArray, q] at e4
        cases e4
        rw [e3]
        exact .val _, fun h => by
    show l.toArray.size ≤ i
    rw [List.length_map] at h
    simpa using h⟩
theorem iv_str {tg : Expr} {l : List Nat} (h : EV X e ρ M (dS (S l)) M1) : IV X tg e ρ M (l.map fun c => dS (S [c])) M1 :=
  (pi_str h).mono fun σ H R ⟨G, sa, k⟩ => ⟨G, sa, fun v G1 H1 g1 sh1 r1 => ⟨S l, r1.of_val, k _ G1 H1 g1 sh1 JW.str⟩⟩
/-- a <= b <= c of ints -/
theorem tv_chain {op op' : CmpOp} {g g' : Int → Int → Bool} {i j k : Int} (ho : OpR X (compareOp op) (rI0 fun i j => .bl (g i j))) (ho' : OpR X (compareOp op') (rI0 fun i j => .bl (g' i j))) (ha : EV X a ρ M (dI i) M1) (hb : EV X b ρ M1 (dI j) M2) (hc : EV X c ρ M2 (dI k) M2) (hm : lastMarks [op, op'] [b, c] = false := by rfl) :
    TV X (.Compare a [op, op'] [b, c] pos) ρ M (g i j && g' j k) M2 :=
  (pt_chain ho ho' ha hb hc hm).mono fun σ H Q ⟨G, sa, kk⟩ => ⟨G, sa, fun v1 G1 H1 g1 sh1 r1 => ⟨G1, ⟨sh1, sa.sl.up g1⟩, fun v2 G2 H2 g2 sh2 r2 => by
    rw [r1.of_val, r2.of_val]
    refine ⟨i, j, rfl, rfl, g i j, rfl, ?_⟩
    cases q : g i j with
    | true =>
      rw [if_pos rfl]
      refine ⟨G2, ⟨sh2, (sa.sl.up g1).up g2⟩, fun v3 G3 H3 g3 sh3 r3 => ?_⟩
      rw [r3.of_val]
      rw [q] at kk
      exact ⟨j, k, rfl, rfl, _, rfl, kk G3 H3 ((g1.trans g2).trans g3) sh3⟩
    | false =>
      rw [if_neg Bool.false_ne_true]
      rw [q] at kk
      exact ⟨_, rfl, kk G2 H2 (g1.trans g2) sh2⟩⟩⟩
theorem ev_chain {op op' : CmpOp} {g g' : Int → Int → Bool} {i j k : Int} (ho : OpR X (compareOp op) (rI0 fun i j => .bl (g i j))) (ho' : OpR X (compareOp op') (rI0 fun i j => .bl (g' i j))) (ha : EV X a ρ M (dI i) M1) (hb : EV X b ρ M1 (dI j) M2) (hc : EV X c ρ M2 (dI k) M2) (hm : lastMarks [op, op'] [b, c] = false := by rfl) :
    EV X (.Compare a [op, op'] [b, c] pos) ρ M (dB (g i j && g' j k)) M2 :=
  (pe_chain ho ho' ha hb hc hm).mono fun σ H Q ⟨G, sa, kk⟩ => ⟨G, sa, fun v1 G1 H1 g1 sh1 r1 => ⟨G1, ⟨sh1, sa.sl.up g1⟩, fun v2 G2 H2 g2 sh2 r2 => by
    rw [r1.of_val, r2.of_val]
    refine ⟨i, j, rfl, rfl, g i j, rfl, ?_⟩
    cases q : g i j with
    | true =>
      rw [if_pos rfl]
      refine ⟨G2, ⟨sh2, (sa.sl.up g1).up g2⟩, fun v3 G3 H3 g3 sh3 r3 => ?_⟩
      rw [r3.of_val]
      rw [q] at kk
      exact ⟨j, k, rfl, rfl, kk _ G3 H3 ((g1.trans g2).trans g3) sh3 (.val _)⟩
    | false =>
      rw [if_neg Bool.false_ne_true]
      rw [q] at kk
      exact kk _ G2 H2 (g1.trans g2) sh2 (.val _)⟩⟩
/-- isinstance(a, (list, tuple)) -/
theorem ev_isi2 {x y : Str} {T1 T2 t : String} {r1 r2 : Bool} {p p2 p3 p4 : Pos} {k1 : Nat} (hm : X.mg "isinstance" = none) (hT1 : X.mg x = none) (hv1 : bootBuiltins x = some (.type T1)) (hT2 : X.mg y = none) (hv2 : bootBuiltins y = some (.type T2)) (ha : EV X a ρ M d M1) (ht : tyD d = some t) (hk1 : kitB t T1 = some r1) (hk2 : kitB t T2 = some r2)
    (hg : Gl X "isinstance" := by rfl) (hg1 : Gl X x := by rfl) (hg2 : Gl X y := by rfl) (hn1 : x ≠ "__name__" := by decide) (hd1 : (x == ("__debug__" : Str)) = false := by decide) (hn2 : y ≠ "__name__" := by decide) (hd2 : (y == ("__debug__" : Str)) = false := by decide)
    (s1 : starEach [a, .Tuple [.Name x p2, .Name y p3] k1 p4] X.env = (false, eval a X.env) :: starEach [.Tuple [.Name x p2, .Name y p3] k1 p4] X.env := by rfl) (s2 : starEach [.Tuple [.Name x p2, .Name y p3] k1 p4] X.env = (false, eval (.Tuple [.Name x p2, .Name y p3] k1 p4) X.env) :: starEach [] X.env := by rfl)
    (s3 : starEach [.Name x p2, .Name y p3] X.env = (false, eval (.Name x p2) X.env) :: starEach [.Name y p3] X.env := by rfl) (s4 : starEach [.Name y p3] X.env = (false, eval (.Name y p3) X.env) :: starEach [] X.env := by rfl)
    (hpl : (backTo pos (starEach [.Tuple [.Name x p2, .Name y p3] k1 p4] X.env)).any (·.1) = false := by rfl) :
    EV X (.Call (.Name "isinstance" p) [a, .Tuple [.Name x p2, .Name y p3] k1 p4] [] pos) ρ M (dB (r1 || r2)) M1 :=
  (pe_callB call_isiT hg hm boot_isinstance (pa_cons ha (pa_cons (pe_tup (pa_cons (pe_bltn (v := .ty T1) hg1 hT1 hv1 rfl hn1 hd1) (pa_cons (pe_bltn (v := .ty T2) hg2 hT2 hv2 rfl hn2 hd2) pa_nil s4) s3)) pa_nil s2) s1) (hpl := hpl) (he := s1)).mono fun σ H Q ⟨G, sa, k⟩ => ⟨G, sa, fun v1 G1 H1 g1 sh1 rr => ⟨by show 2 ≤ sizeLine; decide, fun q hq => by
    obtain ⟨sh2, g2⟩ := sh1.new (o := .tup [.ty T1, .ty T2]) hq
    refine ⟨v1, q, _, .type t, [.type T1, .type T2], r1 || r2, rfl, upd_same, .cons (.ty T1) (.cons (.ty T2) .nil), tyx_of sh2.le (rr.up g2) ht, kitAny_cons (kit_ty hk1) (fun e => ?_) (fun e => ?_), k _ _ _ (g1.trans g2) sh2 (.val _)⟩
    · subst e
      exact kitAny_cons (kit_ty hk2) (fun e => by subst e; exact kitAny_nil) (fun e => by rw [e]; rfl)
    · rw [e]; rfl⟩⟩
/-- code that is not come to -/
theorem sv_never {st : Stmt} (h : False) : SV X st ρ M Ψ := h.elim
end
/-! ### tuples of ints that stand at the top -/
theorem kVals {ns : List Int} {its : List Value} (h : Vals (ns.map V.int) its) : Vals (ns.map V.int) its := h
theorem rep_kT {K : PySem.W.Frag} {G : Hp} {a : Addr} {o : Obj} {its : Array Value} {n : Nat} {ns : List Int} (hk : K.lookup a = some o) (hc : o.cls = .type "tuple") (hd : o.data = .seq its n) (hz : its.size ≤ sizeLine) (hv : Vals (ns.map V.int) its.toList) : Rep K G (.ref a) (.tup (ns.map dI)) := by
  refine .tup (.inr ⟨o, its, n, hk, hc, hd, hz, hv⟩) ?_
  have e := RepL.vals (K := K) (G := G) (ns.map V.int)
  rw [List.map_map] at e
  exact e
/-! ### further rules: in, is not None, truth of a list, += -/
section
variable {X : Cx} {ρ : Sl} {M M1 M2 M3 : Mem} {a b c e : Expr} {es : List Expr} {d d1 d2 : D} {ds : List D} {pos : Pos} {Ψ : Out → Prop}
theorem ev_inT {x : V} {xs : List V} (ha : EV X a ρ M (.val x) M1) (hb : EV X b ρ M1 (.tup (xs.map D.val)) M2) (fx : flatV x = true) (fs : xs.all flatV = true) (hm : behindInMarks .In b = false) : EV X (.Compare a [.In] [b] pos) ρ M (dB (inV x xs)) M2 :=
  (pe_cmpR op_in_seq ha hb hm).mono fun σ H Q ⟨G, sa, k⟩ => ⟨G, sa, fun v1 G1 H1 g1 sh1 r1 => ⟨G1, ⟨sh1, sa.sl.up g1⟩, fun v2 G2 H2 g2 sh2 r2 => by
    rw [r1.of_val]
    cases r2 with
    | tup q r =>
      rw [RepL.of_vals r] at q
      exact ⟨_, xs, rfl, .inr (sqtUp sh2.le q), fx, fs, k _ G2 H2 (g1.trans g2) sh2 (.val _)⟩⟩⟩
theorem tv_lstM {p : Addr} (ha : EV X e ρ M (dP p) M1) (h : M1 p = some (.lst ds)) (he : ∀ whole, isTrue e X.env whole = (do let v ← whole; standAt e.pos; holding [v] (truthy v)) := by intro _; rfl) : TV X e ρ M (!ds.isEmpty) M1 :=
  (pt_truth ha he).mono fun σ H Q ⟨G, sa, k⟩ => ⟨G, sa, fun v1 G1 H1 g1 sh1 r1 => by
    obtain ⟨_, vs, hv, r⟩ := sh1.mem p _ h
    rw [r1.of_val]
    refine ⟨_, .inl ⟨vs, .inl (.inl hv), rfl⟩, ?_⟩
    have e1 : (!vs.isEmpty) = !ds.isEmpty := by
      have := r.len
      cases vs <;> cases ds <;> first | rfl | cases this
    rw [e1]
    exact k G1 H1 g1 sh1⟩
theorem tv_notN {j} {v : V} {p2 : Pos} (ha : EV X a ρ M (.val v) M1) : TV X (.Compare a [.IsNot] [.Constant .none j p2] pos) ρ M (!decide (v = .non)) M1 :=
  (pt_cmp (pc_notN ha)).mono fun σ H Q ⟨G, sa, k⟩ => ⟨G, sa, fun v1 G1 H1 g1 sh1 r1 => by rw [r1.of_val]; exact ⟨_, rfl, k G1 H1 g1 sh1⟩⟩
theorem tv_notND {j} {p2 : Pos} (ha : EV X a ρ M (.tup ds) M1) : TV X (.Compare a [.IsNot] [.Constant .none j p2] pos) ρ M true M1 :=
  (pt_cmp (pc_notN ha)).mono fun σ H Q ⟨G, sa, k⟩ => ⟨G, sa, fun v1 G1 H1 g1 sh1 r1 => by
    cases r1 with
    | tup q r => exact ⟨_, by rw [decide_eq_false (fun h => V.noConfusion h)]; rfl, k G1 H1 g1 sh1⟩⟩
theorem sv_augI (i : Nat) {x : Str} {n m : Int} {pos' : Pos} (hN : X.N.Nodup) (h0 : ρ[i]? = some (some (dI n))) (he : EV X e ρ M (dI m) M1) (hΨ : Ψ (.nx (ρ.set i (some (dI (n + m)))) M1)) (hi : X.N[i]? = some x := by rfl) (hx : L2.Loc X.env.scope x := by first | exact Or.inl rfl | exact Or.inr rfl)
    (hf : X.fn x = true ∨ X.env.scope.names.lookup x = some .local := by first | exact .inl rfl | exact .inr rfl) : SV X (.AugAssign (.Name x pos') .Add e pos) ρ M Ψ :=
  (ps_aug hN hi hx he ip_add hf).mono fun E σ H ⟨G, sa, k⟩ => by
    obtain ⟨v, e1, r⟩ := sa.sl.2 i _ h0
    refine ⟨v, e1, G, sa, fun y G1 H1 g1 sh1 r1 => ?_⟩
    rw [r.of_val, r1.of_val]
    exact ⟨n, m, rfl, rfl, k _ hΨ _ G1 H1 g1 ⟨sh1, (sa.sl.up g1).set i (.val _)⟩⟩
end
/-! ### try with clauses of all forms that the laws have: tuples of classes that do not match, a class as a name -/
inductive HD where
  | skip (cs : List Value)
  | as (c : Value) (i : Nat) (ts : Addr → Value → Option Addr → TS)
def wG (K : PySem.W.Frag) (Wout : WX) (D : Ends) : List HD → WX
  | [] => Wout
  | .skip cs :: r => fun cls d σ H => PySem.W.exmAny K cls cs = some false ∧ wG K Wout D r cls d σ H
  | .as c i ts :: r => fun cls d σ H => ∃ b, PySem.W.exmOne K cls c = some b ∧ (b = true → ∀ a, H a = none → ts a cls d { nx := fun σ' H' => D.nx (σ'.set i none) H', rt := D.rt, bk := fun σ' H' => D.bk (σ'.set i none) H', ct := fun σ' H' => D.ct (σ'.set i none) H' } (σ.set i (some (.ref a))) H) ∧
      (b = false → wG K Wout D r cls d σ H)
inductive HdsG (X : Cx) : List ExceptHandler → List HD → Prop
  | nil : HdsG X [] []
  | skip2 {x y : Str} {c1 c2 : Value} {b₀ : Stmt} {suite : List Stmt} {p1 p2 p3 pos' : Pos} {kk : Nat} {nm : Option Str} {hds : List ExceptHandler} {l : List HD} (h1 : Names X x c1) (h2 : Names X y c2) (r : HdsG X hds l) :
      HdsG X (.ExceptHandler (some (.Tuple [.Name x p1, .Name y p2] kk p3)) nm (b₀ :: suite) pos' :: hds) (.skip [c1, c2] :: l)
  | as {x n : Str} {c : Value} {i : Nat} {ts : Addr → Value → Option Addr → TS} {b₀ : Stmt} {suite : List Stmt} {np pos' : Pos} {hds : List ExceptHandler} {l : List HD} (hc : Names X x c) (hN : X.N.Nodup) (hi : X.N[i]? = some n) (hln : X.env.kindOf n = some .local)
      (hsu : ∀ (a : Addr) (oe : Obj) (cls : Value) (d : Option Addr) (pn : List (Addr × Obj)), Zc cls d oe → (∃ vs, oe.data = .fields vs) → PSs (X.suite a ((a, oe) :: pn)) (b₀ :: suite) (ts a cls d)) (r : HdsG X hds l) :
      HdsG X (.ExceptHandler (some (.Name x np)) (some n) (b₀ :: suite) pos' :: hds) (.as c i ts :: l)
theorem fly_keeps {base h h' : Heap} {l : List Env} {e : Addr} {Z : Obj → Prop} (R : HandSPX.FlyingZ base l e Z h) (k : ∀ b o, h.get? b = some o → h'.get? b = some o) : HandSPX.FlyingZ base l e Z h' := by
  obtain ⟨f1, f2, f3, oe, ws, T, oT, ts, he, hz, hd, h1, hn, hne, hT, hdT, h3⟩ := R
  exact ⟨fun b o q => k b o (f1 b o q), f2, f3.of_keeps fun b o q _ => ⟨o, k b o q, rfl⟩, oe, ws, T, oT, ts, k _ _ he, hz, hd, h1, hn, hne, k _ _ hT, hdT, h3⟩
section
variable {X : Cx} {body : List Stmt} {h₀ : ExceptHandler} {hds : List ExceptHandler} {l : List HD} {pos : Pos} {tb : WX → TS} {Wout : WX}
theorem ps_try_g (hs : X.stack = X.env :: X.outer) (hf : X.env.frame = some X.env.locals) (tk : Takes X Wout)
    (hb : ∀ (W : WX) (pn : List (Addr × Obj)) (xe : Value → Shared → Prop), Takes (X.tr pn xe) W → PassesOwn (model X.prog X.w) X.A X.env xe → PSs (X.tr pn xe) body (tb W))
    (hh : HdsG X (h₀ :: hds) l) : PS X (.Try body (h₀ :: hds) [] [] pos) (fun D σ H => tb (wG X.K Wout D l) D σ H) := by
  refine ⟨fun pins s σ H D I h => ?_⟩
  have ok := I.ok
  have hfr : X.A.frames = some (X.env :: X.outer) := by rw [ok.frames, hs]
  refine wpAny_Try_except ?_
  refine wpAny_mono ((hb (wG X.K Wout D l) (X.pn ++ pins) (fun e s₁ => wpAny (model X.prog X.w) X.A (noteFrame e X.env) (fun _ s₂ => wpAny (model X.prog X.w) X.A (setFlight e none) (fun _ s₃ =>
    wpAny (model X.prog X.w) X.A (handleBy e X.env (h₀ :: hds)) (SP X pins D) X.xe s₃) X.xe s₂) X.xe s₁) (fun u s' xx => ?_) PassesOwn.looking).run [] s σ H D (I.toTry _) h) (fun f s1 hsp => ?_) (fun e s1 he => he)
  · obtain ⟨a, B, sI, pins', σ', H', cls, d, rfl, J', nb, up, sky, na, os, ag, w⟩ := xx
    have J : Inv X pins σ' H' sI := J'.ofTry ok
    have sky' : Sky B (X.env :: X.outer) a (Zc cls d) X.env.locals s'.heap := by rw [← hs]; exact sky
    show wpAny (model X.prog X.w) X.A (noteFrame (.ref a) X.env) _ _ _
    refine Sky.land Zc.steady hfr hf sky' fun h3 fl3 up3 => ?_
    have go : ∀ {hds' : List ExceptHandler} {l' : List HD}, HdsG X hds' l' → wG X.K Wout D l' cls d σ' H' → ∀ h3, HandSPX.FlyingZ B (X.env :: X.outer) a (Zc cls d) h3 → s'.heap.UpToSlots h3 →
        wpAny (model X.prog X.w) X.A (handleBy (.ref a) X.env hds') (SP X pins D) X.xe { s' with heap := h3 } := by
      intro hds' l' hk
      have notFr : ∀ {h : Heap} {o : Obj} {vs : Array Value}, h.FunFrames B (X.env :: X.outer) → h.get? a = some o → o.data = .fields vs → a ∉ frs (X.env :: X.outer) := fun {h o vs} ff e dd hm => by
        obtain ⟨_, o', e', hnf⟩ := ff.mem hm
        rw [e] at e'; cases e'
        exact hnf _ dd
      have pre : ∀ h3, HandSPX.FlyingZ B (X.env :: X.outer) a (Zc cls d) h3 → s'.heap.UpToSlots h3 → ∃ oe3 vs3, h3.get? a = some oe3 ∧ Zc cls d oe3 ∧ oe3.data = .fields vs3 ∧ a ≠ X.env.locals ∧ a ∉ X.fs ∧ Inv X pins σ' H' { s' with heap := h3 } := fun h3 fl3 up3 => by
        have J3 : Inv X pins σ' H' { s' with heap := h3 } := J.landed nb fl3.1 (up.trans up3) os ag
        obtain ⟨oe3, vs3, he3, hz3, hd3⟩ := fl3.there
        have nfr := notFr fl3.2.2.1 he3 hd3
        refine ⟨oe3, vs3, he3, hz3, hd3, fun z => nfr (List.mem_filterMap.mpr ⟨X.env, List.mem_cons_self, by rw [hf, z]⟩), fun hm => ?_, J3⟩
        obtain ⟨e, he, q⟩ := List.mem_filterMap.mp hm
        exact nfr (List.mem_filterMap.mpr ⟨e, List.mem_cons_of_mem _ he, q⟩)
      have test : ∀ {x : Str} {c : Value} {np : Pos}, Names X x c → ∀ h3, HandSPX.FlyingZ B (X.env :: X.outer) a (Zc cls d) h3 → s'.heap.UpToSlots h3 → ∀ {Q : Value → Shared → Prop} {E : Value → Shared → Prop}, Q c { s' with heap := h3 } → wpAny (model X.prog X.w) (X.A.mark (some (.ref a))) (eval (.Name x np) X.env) Q E { s' with heap := h3 } := fun {x c np} hc h3 fl3 up3 {Q E} q => by
        obtain ⟨oe3, vs3, he3, hz3, hd3, nL, nF, J3⟩ := pre h3 fl3 up3
        have S3 := J3.suite he3 hd3 na nL nF
        obtain ⟨hg, hdbg, hm | ⟨hm, hv, hnn⟩⟩ := hc
        · exact ld_glob (X := X.suite a ((a, oe3) :: (X.pn ++ pins))) S3 hg hm q hdbg
        · exact ld_blt (X := X.suite a ((a, oe3) :: (X.pn ++ pins))) S3 hg hm hv q hnn hdbg
      induction hk with
      | nil =>
        intro w h3 fl3 up3
        obtain ⟨oe3, vs3, he3, hz3, hd3, nL, nF, J3⟩ := pre h3 fl3 up3
        refine wpAny_handleBy_nil ?_
        obtain ⟨k1, k2, k3, oe, vs, T, oT, ts', he, hz, hd, h1, hr⟩ := id fl3
        unfold PySem.passOn
        refine wpAny_bind (wpAny_field he hd h1 ?_)
        rw [if_neg (show ¬ ((Value.ref T == Value.none) = true) from by simp)]
        have fin : wpAny (model X.prog X.w) X.A (setFlight (.ref a) X.env.frame) (fun _ s4 => wpAny (model X.prog X.w) X.A (throw (.ref a) : Sem Flow) (SP X pins D) X.xe s4) X.xe { s' with heap := h3 } := by
          rw [hf]
          refine HandSPX.setFlight_upZ fl3 fun h4 hh4 up4 => wpAny_throw (tk _ _ ?_)
          exact ⟨a, B, sI, pins, σ', H', cls, d, rfl, J, nb, (up.trans up3).trans up4, .inr (.inr (by rw [hs]; exact hh4)), na, os, ag, w⟩
        first
          | exact wpAny_bind (wpAny_pure (wpAny_bind fin))
          | exact wpAny_bind fin
      | skip2 h1 h2 r ih =>
        intro w h3 fl3 up3
        obtain ⟨he, w⟩ := w
        obtain ⟨oe3, vs3, he3, hz3, hd3, nL, nF, J3⟩ := pre h3 fl3 up3
        have LT : PySem.W.Looks (model X.prog X.w) h3 (typeOf (.ref a)) cls := fun A Q E s k q => wpAny_typeOf_ref (k _ _ he3) (by rw [hz3.1]; exact q)
        refine wpAny_handleBy_cons (codeAny_handlers_test ?_) (by intro q; cases q)
        refine wpAny_Tuple ?_
        refine wpAny_items_cons (test h1 h3 fl3 up3 ?_)
        refine wpAny_items_cons (test h2 h3 fl3 up3 ?_)
        refine wpAny_items_nil ⟨by size_fits, ?_⟩
        rename_i c1 c2 _ _ _ _ _ _ _ _ _ _
        have kp : ∀ q o, h3.get? q = some o → (h3.push { cls := .type "tuple", data := .seq [c1, c2].toArray }).get? q = some o := fun _ _ z => Heap.get?_push_of_some _ z
        exact (PySem.W.exm_tup2 (M := model X.prog X.w) ((J3.kIn).keeps kp) (LT.keeps kp) (Heap.get?_push_size h3 rfl) he).here (ih w _ (fly_keeps fl3 kp) (up3.trans (Heap.UpToSlots.of_keeps kp)))
      | @as x n c i ts b₀ suite np pos' hds2 l2 hc hN hi hln hsu r ih =>
        intro w h3 fl3 up3
        obtain ⟨b, hb1, hyes, hno⟩ := w
        obtain ⟨oe3, vs3, he3, hz3, hd3, nL, nF, J3⟩ := pre h3 fl3 up3
        have LT : PySem.W.Looks (model X.prog X.w) h3 (typeOf (.ref a)) cls := fun A Q E s k q => wpAny_typeOf_ref (k _ _ he3) (by rw [hz3.1]; exact q)
        refine wpAny_handleBy_cons (codeAny_handlers_test ?_) (by intro q; cases q)
        have LM := PySem.W.exm_one (M := model X.prog X.w) (J3.kIn) LT hb1
        refine test hc h3 fl3 up3 (LM.here ?_)
        cases b with
        | true =>
          refine codeAny_handlers_suite_as ?_
          refine HandSPX.lands_againZ fl3 fun h4 fl4 up4 => ?_
          have J4 : Inv X pins σ' H' { s' with heap := h4 } := J.landed nb fl4.1 ((up.trans up3).trans up4) os ag
          obtain ⟨oe4, vs4, he4, hz4, hd4⟩ := fl4.there
          have S4 := J4.suite he4 hd4 na nL nF
          refine store_ok (X := X.suite a ((a, oe4) :: (X.pn ++ pins))) (v := .ref a) S4 hN hi (.inl hln) rfl (fun s5 S5 => ?_) (.inr hln)
          refine wpAny_mono ((hsu a oe4 cls d (X.pn ++ pins) hz4 ⟨_, hd4⟩).run [] s5 _ H' _ S5 (hyes rfl a na)) (fun f s6 hsp => ?_) (fun _ _ z => False.elim z)
          have end_ : ∀ {σ6 : L2.St} {H6 : Hp} {Q : Shared → Prop}, Inv (X.suite a ((a, oe4) :: (X.pn ++ pins))) [] σ6 H6 s6 → (∀ s7, Inv X pins (σ6.set i none) H6 s7 → Q s7) →
              wpAny (model X.prog X.w) X.A (do bindName X.env n .none; unbindBehindTheSuite X.env n pos') (fun _ s7 => Q s7) X.xe s6 := fun {σ6 H6 Q} S6 hq => gone_ok (S6.unsuite ok) hN hi hln hq
          cases f with
          | next =>
            obtain ⟨σ6, H6, S6, q6⟩ := hsp
            exact end_ S6 fun s7 J7 => ⟨_, _, J7, q6⟩
          | brk =>
            obtain ⟨σ6, H6, S6, q6⟩ := hsp
            exact end_ S6 fun s7 J7 => ⟨_, _, J7, q6⟩
          | cont =>
            obtain ⟨σ6, H6, S6, q6⟩ := hsp
            exact end_ S6 fun s7 J7 => ⟨_, _, J7, q6⟩
          | ret u =>
            obtain ⟨v6, σ6, H6, S6, r6, q6⟩ := hsp
            exact end_ S6 fun s7 J7 => ⟨_, _, _, J7, r6, q6⟩
        | false =>
          show wpAny _ X.A (handleBy (.ref a) X.env hds2) _ _ _
          exact ih (hno rfl) h3 fl3 up3
    exact go hh w h3 fl3 up3
  · cases f with
    | next =>
      obtain ⟨σ', H', J', q⟩ := hsp
      exact wpAny_execs_nil ⟨σ', H', J'.ofTry ok, q⟩
    | brk =>
      obtain ⟨σ', H', J', q⟩ := hsp
      exact ⟨σ', H', J'.ofTry ok, q⟩
    | cont =>
      obtain ⟨σ', H', J', q⟩ := hsp
      exact ⟨σ', H', J'.ofTry ok, q⟩
    | ret u =>
      obtain ⟨v, σ', H', J', r, q⟩ := hsp
      exact ⟨v, σ', H', J'.ofTry ok, r, q⟩
end
/-! ### what raises: an exception of a class of the program, made without a dict -/
def tX (K : PySem.W.Frag) (W : WX) (ρ : Sl) (M : Mem) (cls : Value) (ρ' : Sl) (M' : Mem) : L2.St → Hp → Prop := fun σ H => ∃ G, SA K G H σ ρ M ∧ ∀ G' H' σ', Same G G' → SA K G' H' σ' ρ' M' → W cls none σ' H'
abbrev EX (X : Cx) (W : WX) (e : Expr) (ρ : Sl) (M : Mem) (cls : Value) (M' : Mem) : Prop := PE X e (fun σ H _ => tX X.K W ρ M cls ρ M' σ H)
abbrev SX (X : Cx) (W : WX) (st : Stmt) (ρ : Sl) (M : Mem) (cls : Value) (ρ' : Sl) (M' : Mem) : Prop := PS X st (fun _ σ H => tX X.K W ρ M cls ρ' M' σ H)
abbrev BX (X : Cx) (W : WX) (sts : List Stmt) (ρ : Sl) (M : Mem) (cls : Value) (ρ' : Sl) (M' : Mem) : Prop := PSs X sts (fun _ σ H => tX X.K W ρ M cls ρ' M' σ H)
def spX (K : PySem.W.Frag) (R : List D → Mem → Value → Mem → Prop) : Sp := fun vs H _ E => ∃ G ds M cls M', SH K G H M ∧ RepL K G vs ds ∧ R ds M cls M' ∧ ∀ G' H', Same G G' → SH K G' H' M' → E cls none H'
structure CalX (P : Program) (w : World) (K : PySem.W.Frag) (mg : Str → Option Value) (base : Heap) (k : Nat) (x : Str) (sp : Sp) : Prop where
  ex : ∃ f fd ps, mg x = some (.ref f) ∧ PySem.W.keepIn K (.ref f) = true ∧ Binds K fd ps [] ∧ FnOk P w K mg base (L2.CX P w) k f fd ps sp
section
variable {X : Cx} {W : WX} {ρ ρ1 ρ' : Sl} {M M1 M2 M' : Mem} {a b c e : Expr} {es : List Expr} {d : D} {ds : List D} {pos : Pos} {cls : Value} {st : Stmt} {rest : List Stmt} {Ψ : Out → Prop}
theorem ex_call {k : Nat} {x : Str} {R : List D → Mem → Value → Mem → Prop} {p : Pos} (C : CalX X.prog X.w X.K X.mg X.base k x (spX X.K R)) (tk : Takes X W) (hr : Room k X.A) (ha : AV X (e :: es) ρ M ds M1) (hp : R ds M1 cls M2) (hg : Gl X x := by rfl)
    (hd : (x == ("__debug__" : Str)) = false := by decide) (hst : starEach (e :: es) X.env = (false, eval e X.env) :: starEach es X.env := by rfl) (hpl : (backTo pos (starEach es X.env)).any (·.1) = false := by rfl) : EX X W (.Call (.Name x p) (e :: es) [] pos) ρ M cls M2 := by
  obtain ⟨f, fd, ps, hm, hk, hb, F⟩ := C.ex
  refine (pe_callS (E := WE W) F hr hg hm hk hb (passAt tk) ha (hdb := hd) (he := hst) (hpl := hpl)).mono fun σ H Q ⟨G, sa, k⟩ => ⟨G, sa, fun vs G1 H1 g1 sh1 r1 => ?_⟩
  exact ⟨G1, ds, M1, cls, M2, sh1, r1, hp, fun G' H' g sh => k G' H' σ (g1.trans g) ⟨sh, (sa.sl.up g1).up g⟩⟩
/-- a op b, a raises -/
theorem ex_opL {op : Operator} {r : R2} (ho : OpR X (binaryOp op) r) (ha : EX X W a ρ M cls M') : EX X W (.BinOp a op b pos) ρ M cls M' :=
  (pe_op (tb := fun _ _ _ => False) ho ha ⟨fun _ _ _ _ _ _ h => h.elim⟩).mono fun _ _ _ h => h
/-- f(a), a raises, f a def of the program -/
theorem ex_arg {k : Nat} {x : Str} {sp : Sp} {p : Pos} (C : Cal X.prog X.w X.K X.mg X.base k x sp) (hr : Room k X.A) (ha : EX X W e ρ M cls M') (hg : Gl X x := by rfl)
    (hd : (x == ("__debug__" : Str)) = false := by decide) (hst : starEach [e] X.env = (false, eval e X.env) :: starEach [] X.env := by rfl) (hpl : (backTo pos (starEach [] X.env)).any (·.1) = false := by rfl) : EX X W (.Call (.Name x p) [e] [] pos) ρ M cls M' := by
  obtain ⟨f, fd, ps, hm, hk, hb, F⟩ := C.ex
  exact (pe_call F hr hg hm hk hb .nil pass0 (pa_cons ha pa_nil hst) (hdb := hd) (he := hst) (hpl := hpl)).mono fun σ H Q h => h
theorem sx_set (i : Nat) {x : Str} {pos' : Pos} (hN : X.N.Nodup) (he : EX X W e ρ M cls M') (hi : X.N[i]? = some x := by rfl) (hx : L2.Loc X.env.scope x := by first | exact Or.inl rfl | exact Or.inr rfl) (hs : swapsWith e (some (.Name x pos')) pos.line X.env = pure false := by rfl)
    (hf : X.fn x = true ∨ X.env.scope.names.lookup x = some .local := by first | exact .inl rfl | exact .inr rfl) : SX X W (.Assign [.Name x pos'] e pos) ρ M cls ρ M' :=
  (ps_set hN hi hx he hs hf).mono fun _ _ _ h => h
theorem sx_ret (he : EX X W e ρ M cls M') : SX X W (.Return (some e) pos) ρ M cls ρ M' := (ps_ret he).mono fun _ _ _ h => h
theorem sx_ifT {as bs : List Stmt} (hc : TV X c ρ M true M1) (ha : BX X W as ρ M1 cls ρ' M') : SX X W (.If c as bs pos) ρ M cls ρ' M' :=
  (ps_if (u := fun _ _ _ => False) hc ha ⟨fun _ _ _ _ _ _ h => h.elim⟩).mono fun E σ H ⟨G, sa, k⟩ => ⟨G, sa, fun G1 H1 g1 sh1 => (⟨G1, ⟨sh1, sa.sl.up g1⟩, fun G' H' σ' g q => k G' H' σ' (g1.trans g) q⟩ : tX _ _ _ _ _ _ _ σ H1)⟩
theorem sx_ifF {as bs : List Stmt} (hc : TV X c ρ M false M1) (hb : BX X W bs ρ M1 cls ρ' M') : SX X W (.If c as bs pos) ρ M cls ρ' M' :=
  (ps_if (t := fun _ _ _ => False) hc ⟨fun _ _ _ _ _ _ h => h.elim⟩ hb).mono fun E σ H ⟨G, sa, k⟩ => ⟨G, sa, fun G1 H1 g1 sh1 => (⟨G1, ⟨sh1, sa.sl.up g1⟩, fun G' H' σ' g q => k G' H' σ' (g1.trans g) q⟩ : tX _ _ _ _ _ _ _ σ H1)⟩
theorem bx_head (h : SX X W st ρ M cls ρ' M') : BX X W (st :: rest) ρ M cls ρ' M' :=
  (pss_cons (u := fun _ _ _ => False) h ⟨fun _ _ _ _ _ _ h => h.elim⟩).mono fun _ _ _ h => h
theorem bx_cons (h : SV X st ρ M (fun o => match o with | .nx ρ1 M1 => BX X W rest ρ1 M1 cls ρ' M' | _ => False)) : BX X W (st :: rest) ρ M cls ρ' M' := by
  refine (pss_cons (u := fun E σ H => ∃ ρ1 M1, BX X W rest ρ1 M1 cls ρ' M' ∧ tX X.K W ρ1 M1 cls ρ' M' σ H) h ⟨fun pins s σ H E I ⟨ρ1, M1, hb, q⟩ => hb.run pins s σ H E I q⟩).mono fun E σ H ⟨G, sa, k⟩ => ⟨G, sa, fun o ho => ?_⟩
  cases o with
  | nx ρ1 M1 => exact fun σ1 G1 H1 g sa1 => ⟨ρ1, M1, ho, G1, sa1, fun G' H' σ' g' q => k G' H' σ' (g.trans g') q⟩
  | ret d M1 => exact ho.elim
  | bk ρ1 M1 => exact ho.elim
  | ct ρ1 M1 => exact ho.elim
/-- raise C('m'), C a class of the program without own __init__ -/
theorem sx_raise {x m : Str} {j : Nat} {p p2 pos' : Pos} {C : Addr} {bmB : List Value} {B newId initId : String} (hc : X.calm = true) (tk : Takes X W) (F : ExcBaseFacts B newId initId bmB) (q : PySem.W.excIn X.K C bmB newId = true) (gC : X.mg x = some (.ref C)) (kC : PySem.W.keepIn X.K (.ref C) = true)
    (h1 : PySem.W.subIn X.K (.ref C) (.type "BaseException") = some true) (h2 : PySem.W.typeIn X.K (.ref C) = some (.type "type")) (hg : Gl X x := by rfl) (hdb : (x == ("__debug__" : Str)) = false := by decide) :
    SX X W (.Raise (some (.Call (.Name x p) [.Constant (.str m) j p2] [] pos)) none pos') ρ M (.ref C) ρ M :=
  (L2.ps_raise hc tk (L2.pmk_own F q gC kC (raises_own h1 h2) hg hdb)).mono fun E σ H ⟨G, sa, k⟩ => k G H σ (Same.refl G) sa
/-- a try whose body raises nothing -/
theorem sv_tryThru {body : List Stmt} {h₀ : ExceptHandler} {hs : List ExceptHandler} (hb : BV X.nox body ρ M Ψ) : SV X (.Try body (h₀ :: hs) [] [] pos) ρ M Ψ := ps_try_thru0 hb
/-- a try whose body raises: two clauses, the first a tuple of two other classes, the second one takes it and returns -/
theorem sv_try2 {body suite : List Stmt} {b₀ : Stmt} {x y z n : Str} {p1 p2 p3 p4 p5 p6 : Pos} {kk i : Nat} {nm : Option Str} {c0 : Stmt} {cr : List Stmt} {c1 c2 : Value} {C : Addr} (hs : X.stack = X.env :: X.outer) (hf : X.env.frame = some X.env.locals) (tk : Takes X (fun _ _ _ _ => False))
    (hb : ∀ (W : WX) (pn : List (Addr × Obj)) (xe : Value → Shared → Prop), Takes (X.tr pn xe) W → BX (X.tr pn xe) W body ρ M (.ref C) ρ' M')
    (h1 : Names X x c1) (h2 : Names X y c2) (h3 : Names X z (.ref C)) (hno : PySem.W.exmAny X.K (.ref C) [c1, c2] = some false) (hyes : PySem.W.exmOne X.K (.ref C) (.ref C) = some true) (hN : X.N.Nodup) (hi : X.N[i]? = some n) (hln : X.env.kindOf n = some .local)
    (hsu : ∀ (a : Addr) (oe : Obj) (pn : List (Addr × Obj)), Zc (.ref C) none oe → (∃ vs, oe.data = .fields vs) → BV (X.suite a ((a, oe) :: pn)) (b₀ :: suite) (ρ'.set i (some (dP a))) M' (fun o => match o with | .ret d M2 => Ψ (.ret d M2) | _ => False)) :
    SV X (.Try body [.ExceptHandler (some (.Tuple [.Name x p1, .Name y p2] kk p3)) nm (c0 :: cr) p4, .ExceptHandler (some (.Name z p5)) (some n) (b₀ :: suite) p6] [] [] pos) ρ M Ψ := by
  refine (ps_try_g (tb := fun W _ σ H => tX X.K W ρ M (.ref C) ρ' M' σ H) (Wout := fun _ _ _ _ => False) (l := [.skip [c1, c2], .as (.ref C) i (fun a cls d D σ H => cls = .ref C ∧ d = none ∧ tS X.K (ρ'.set i (some (dP a))) M' (fun o => match o with | .ret d M2 => Ψ (.ret d M2) | _ => False) D σ H)])
    hs hf tk (fun W pn xe tk' _ => hb W pn xe tk') (.skip2 h1 h2 (.as h3 hN hi hln (fun a oe cls d pn hz hd => ⟨fun pins s σ H D I ⟨e1, e2, h⟩ => ?_⟩) .nil))).mono fun E σ H ⟨G, sa, k⟩ => ⟨G, sa, fun G' H' σ' g q => ⟨hno, true, hyes, fun _ a na => ⟨rfl, rfl, G', ⟨q.sh, q.sl.set i (.val _)⟩, fun o ho => ?_⟩, fun h => nomatch h⟩⟩
  · subst e1 e2
    exact (hsu a oe pn hz hd).run pins s σ H D I h
  · cases o with
    | ret d M2 => exact (k _ ho).up g
    | nx _ _ => exact ho.elim
    | bk _ _ => exact ho.elim
    | ct _ _ => exact ho.elim
/-- isinstance(e, c) in an except suite -/
theorem ev_isE {n x : Str} {a C : Addr} {oe : Obj} {pn : List (Addr × Obj)} {cv : Value} {vc : V} {r : Bool} {p p2 p3 : Pos} {i : Nat} (hm : X.mg "isinstance" = none) (EC : ExcC X.K C) (hz : Zc (.ref C) none oe) (hf : ∃ vs, oe.data = .fields vs)
    (hv : ∀ u, RelV vc u → u = cv) (hk : PySem.W.kitOne X.K (.ref C) cv = some r) (ha : AV (X.suite a ((a, oe) :: pn)) [e, .Name x p2] ρ M [dP a, .val vc] M) (hg : Gl (X.suite a ((a, oe) :: pn)) "isinstance" := by rfl)
    (h1 : starEach [e, .Name x p2] X.env = (false, eval e X.env) :: starEach [.Name x p2] X.env := by rfl) (hpl : (backTo pos (starEach [.Name x p2] X.env)).any (·.1) = false := by rfl) :
    EV (X.suite a ((a, oe) :: pn)) (.Call (.Name "isinstance" p) [e, .Name x p2] [] pos) ρ M (dB r) M :=
  (pe_callB (call_isE EC hz hf) hg hm boot_isinstance ha (hpl := hpl) (he := h1)).mono fun σ H Q ⟨G, sa, k⟩ => ⟨G, sa, fun vs G1 H1 g1 sh1 r1 => by
    rw [RepL.of_vals (xs := [.ref a, vc]) r1]
    exact ⟨vc, cv, r, rfl, hv, hk, k _ G1 H1 g1 sh1 (.val _)⟩⟩
end
theorem calX_of {P : Program} {w : World} {K : PySem.W.Frag} {mg : Str → Option Value} {base : Heap} {x qual : Str} {sd : Stmt} {f : Addr} {fd : FuncData} {N ps : List Str} {k : Nat} {R : List D → Mem → Value → Mem → Prop} (F : Fun K x qual sd f fd) (S : FnScope N ps (defScope sd)) (hm : mg x = some (.ref f))
    (hbind : ∀ (kV doc pm : Value) (an : Option Addr) (cdv ct : Value) (us : List Value), us.length = ps.length → bindArgs (PySem.W.fnOf x qual (defArgs sd) (defBody sd) (defScope sd) .none kV doc pm an cdv ct) ⟨us, []⟩ = pure (ps.zip us))
    (len : ∀ ds M cls M', R ds M cls M' → ds.length = ps.length)
    (hb : ∀ (cdv : Value) (A : Around) (outer : List Env) (s : Shared) (H : Hp) (E : XK) (ds : List D) (M : Mem) (cls : Value) (M' : Mem), Room k (A.deeper (envOfC qual (defScope sd) s.heap.objs.size f cdv)) → R ds M cls M' →
      ∀ W, W = (fun cls d _ H' => E cls d H' : WX) → Takes (cxOf (L2.CX P w) P w K mg base N qual (defScope sd) f cdv A outer s H E) W →
      ∃ ρ', BX (cxOf (L2.CX P w) P w K mg base N qual (defScope sd) f cdv A outer s H E) W (defBody sd) (startD N ds) M cls ρ' M') : CalX P w K mg base (k + 1) x (spX K R) :=
  ⟨f, fd, ps, hm, F.kp, F.binds hbind, F.okX S (fun vs H Q E ⟨G, ds, M, cls, M', sh, r, p, q⟩ => by rw [r.len]; exact len _ _ _ _ p) fun cdv A outer s H vs Q E hr ⟨G, ds, M, cls, M', sh, r, p, q⟩ => by
    obtain ⟨ρ', h⟩ := hb cdv A outer s H E ds M cls M' hr p _ rfl (takes_of (E := E) rfl rfl rfl rfl)
    exact ⟨_, h, G, ⟨sh, start_rep r⟩, fun G' H' σ' g sa => q G' H' g sa.sh⟩⟩
section
variable {X : Cx} {ρ : Sl} {M M1 M2 : Mem} {a e : Expr} {pos : Pos}
theorem ev_sindex {z y : Str} {i : Nat} {rest : List Nat} {ap : Pos} (ho : EV X a ρ M (dS z) M1) (ha : EV X e ρ M1 (dS y) M2) (hi : Builtin.Str.occurrences z y 0 z.length 1 = i :: rest) (h1 : attributeBase a "index" X.env (eval a X.env) = eval a X.env := by rfl) (h3 : (ap.endLine == pos.line) = true := by decide) (h4 : starEach [e] X.env = (false, eval e X.env) :: starEach [] X.env := by rfl)
    (h2 : (((((backTo pos (starEach [e] X.env)).all fun x => !x.fst) && (backToKw pos (keywordEach [] X.env)).all fun x => x.fst.isSome) && decide (([e].length + ([] : List Keyword).length + if ([] : List Keyword).isEmpty = true then 0 else 1) < 30)) = true) := by rfl)
    (h5 : (((backTo pos (starEach [] X.env)).any fun x => x.fst) = false) := by rfl) : EV X (.Call (.Attribute a "index" ap) [e] [] pos) ρ M (dI (i : Int)) M2 :=
  ev_bmS (vs := [.str y]) PySem.F.plainAttrs_str PySem.F.slot_str_index PySem.F.type_str_index mt_sindex ho (av_cons ha av_nil h4) (fun H Q q => ⟨z, y, i, rest, rfl, rfl, hi, q⟩) h1 h3 h4 h2 h5
end
end Vt
namespace Vt
open PySem PySem.Spec PyProof.Rows L2
/-! ### defs that run where no guard is up: repr of trees -/
structure FnG (P : Program) (w : World) (K : PySem.W.Frag) (mg : Str → Option Value) (base : Heap) (k : Nat) (f : Addr) (fd : FuncData) (ps : List Str) (sp : Sp) : Prop where
  size : ∀ vs H Q E, sp vs H Q E → vs.length = ps.length
  goes : ∀ (A : Around) (out : List Env) (s : Shared) (H : Hp) (args : Args) (us : List Value) (vs : List V) (Q : VK) (E : XK), A.guards = some [] → Room k A → Env0 P w K mg base A out s H → BindsTo s fd args (ps.zip us) → Vals vs us → sp vs H Q E → codeAny (model P w) A (.call (.ref f) args) (CR CX0 out P w H s Q E) s
def bodyEnds (Q : VK) : Ends := { nx := fun _ H' => Q .non H', rt := Q }
theorem okG {P : Program} {w : World} {K : PySem.W.Frag} {mg : Str → Option Value} {base : Heap} {x qual : Str} {sd : Stmt} {f : Addr} {fd : FuncData} {N ps : List Str} {k : Nat} {sp : Sp} (F : Fun K x qual sd f fd) (S : FnScope N ps (defScope sd)) (size : ∀ vs H Q E, sp vs H Q E → vs.length = ps.length)
    (body : ∀ (cdv : Value) (A : Around) (out : List Env) (s : Shared) (H : Hp) (vs : List V) (Q : VK) (E : XK), (A.deeper (envOfC qual (defScope sd) s.heap.objs.size f cdv)).guards = some [] → Room k (A.deeper (envOfC qual (defScope sd) s.heap.objs.size f cdv)) → sp vs H Q E →
      ∃ t, PSs (cxOf CX0 P w K mg base N qual (defScope sd) f cdv A out s H E).nox (defBody sd) t ∧ t (bodyEnds Q) (L2.start N vs) H) : FnG P w K mg base (k + 1) f fd ps sp := by
  obtain ⟨_, _, _, _, _, _, cdv, _, _, rfl, found, code⟩ := F.ex
  refine ⟨size, fun A out s H args us vs Q E g room env bind rel want => ?_⟩
  have same := size _ _ _ _ want
  have up : ∀ b o, base.get? b = some o → s.heap.get? b = some o := fun b o z => (env.bs b o z).1
  have Kin : K.In s.heap := env.mod.kin.keeps up
  have noL : s.heap.NoLimit := env.mod.nolimit.keeps up
  have kinds : ∀ y ∈ ps.zip us, (defScope sd).names.lookup y.1 = some .local ∨ ((defScope sd).names.lookup y.1 = some .cell ∧ ((cellsFrom (s.heap.objs.size + 1) (defScope sd).names []).lookup y.1).isSome = true) := by
    rintro ⟨n, v⟩ hy
    exact (S.par n (List.of_mem_zip hy).1).imp id fun q => ⟨q, PySem.W.cellsFrom_some _ _ _ (.inl q)⟩
  apply codeAny_call_function room.depth (Kin _ _ found) rfl S.co S.gen rfl (PySem.W.codeRec_of Kin code)
  apply bind
  apply wpAny_newFunctionEnv_cells S.kind kinds
  rintro env1 rfl s1 x
  refine ⟨noL.keeps x.toInCall.keep, codeAny_func ?_⟩
  obtain ⟨t, ht0, atStart⟩ := body cdv A out s H vs Q E g (room.deeper _) want
  have ht := ht0.nox
  have J0 : Inv (cxOf CX0 P w K mg base N qual (defScope sd) f cdv A out s H E) [] (L2.start N vs) H s1 := inv_start S room.hd env same rel x
  refine wpAny_mono (ht.run [] s1 (L2.start N vs) H _ J0 atStart) ?_ (fun _ _ z => z)
  rintro fl s' end_
  match fl, end_ with
  | .ret u, ⟨v, _, H', J, rv, q⟩ => exact ⟨v, H', J.os, J.bare, J.base, J.hok, rv, q⟩
  | .next, ⟨_, H', J, q⟩ => exact ⟨.non, H', J.os, J.bare, J.base, J.hok, rfl, q⟩
  | .brk, ⟨_, _, _, q⟩ => exact q.elim
  | .cont, ⟨_, _, _, q⟩ => exact q.elim
section
variable {X : Cx} {ρ : Sl} {M M1 M2 M3 : Mem} {a b c e : Expr} {es : List Expr} {d d1 d2 : D} {ds : List D} {pos : Pos} {Ψ : Out → Prop}
theorem run_g {k : Nat} {f : Addr} {fd : FuncData} {ps : List Str} {sp : Sp} {pins : List (Addr × Obj)} {σ : L2.St} {H : Hp} {s : Shared} {Q : VK} {us : List Value} {vs : List V} (F : FnG X.prog X.w X.K X.mg X.base k f fd ps sp) (g : X.A.guards = some []) (hr : Room k X.A) (hb : L2.Binds X.K fd ps [])
    (I : Inv X pins σ H s) (r : Vals vs us) (h : sp vs H Q E0) : wpAny (model X.prog X.w) X.A (call (.ref f) us) (EP X pins σ Q) X.xe s := by
  have n : (us ++ []).length = ps.length := by rw [List.append_nil, ← r.length]; exact F.size _ _ _ _ h
  have b := hb s us I.kIn n
  rw [List.append_nil] at b
  refine wpAny_call (codeAny_mono (F.goes X.A X.stack s H ⟨us, []⟩ us vs Q E0 g hr I.env0 b r h) ?_)
  rintro (e | fl) s' hq
  · exact pass0 pins σ H s e s' I hq
  · match fl, hq with
    | .ret u, hq => exact I.after hq
    | .next, hq => exact hq.elim
    | .brk, hq => exact hq.elim
    | .cont, hq => exact hq.elim
structure CalG (P : Program) (w : World) (K : PySem.W.Frag) (mg : Str → Option Value) (base : Heap) (k : Nat) (x : Str) (sp : Sp) : Prop where
  ex : ∃ (f : Addr) (fd : FuncData) (ps : List Str), mg x = some (.ref f) ∧ PySem.W.keepIn K (.ref f) = true ∧ L2.Binds K fd ps [] ∧ FnG P w K mg base k f fd ps sp
theorem pe_callG {k : Nat} {f : Addr} {fd : FuncData} {ps : List Str} {sp : Sp} {x : Str} {p : Pos} {t : TA} (F : FnG X.prog X.w X.K X.mg X.base k f fd ps sp) (g : X.A.guards = some []) (hr : Room k X.A) (hg : Gl X x) (hm : X.mg x = some (.ref f)) (hk : PySem.W.keepIn X.K (.ref f) = true) (hb : L2.Binds X.K fd ps [])
    (ha : PA X (e :: es) t) (hdb : (x == ("__debug__" : Str)) = false) (he : starEach (e :: es) X.env = (false, eval e X.env) :: starEach es X.env) (hpl : (backTo pos (starEach es X.env)).any (·.1) = false) :
    PE X (.Call (.Name x p) (e :: es) [] pos) (fun σ H Q => t σ H fun vs H1 => sp vs H1 Q E0) :=
  ⟨fun pins s σ H Q I h => wpAny_Call_Name_kw (ld_glob I hg hm (PySem.W.callWith_K (h₀ := X.base) I.ok.mod.kin hk (thn (ha.run pos pins s σ H _ I h) fun _ _ ⟨_, _, J, r, q⟩ => ⟨J.kIn, run_g F g hr hb J r q⟩) he hpl) hdb)⟩
theorem ev_callG {k : Nat} {x : Str} {Pr : List D → Mem → D → Mem → Prop} {p : Pos} (C : CalG X.prog X.w X.K X.mg X.base k x (spD X.K Pr)) (g : X.A.guards = some []) (hr : Room k X.A) (ha : AV X (e :: es) ρ M ds M1) (hp : Pr ds M1 d M2) (hg : Gl X x := by rfl)
    (hd : (x == ("__debug__" : Str)) = false := by decide) (hst : starEach (e :: es) X.env = (false, eval e X.env) :: starEach es X.env := by rfl) (hpl : (backTo pos (starEach es X.env)).any (·.1) = false := by rfl) : EV X (.Call (.Name x p) (e :: es) [] pos) ρ M d M2 := by
  obtain ⟨f, fd, ps, hm, hk, hb, F⟩ := C.ex
  exact (pe_callG F g hr hg hm hk hb ha hd hst hpl).mono fun σ H Q ⟨G, sa, k⟩ => ⟨G, sa, fun vs G1 H1 g1 sh1 r1 => ⟨G1, ds, M1, d, M2, sh1, r1, hp, fun v G' H' g2 sh r => k v G' H' (g1.trans g2) sh r⟩⟩
/-- repr(x) of a tree -/
theorem ev_repr {p : Pos} (g : X.A.guards = some []) (hu : X.A.units + 64 < cLine) (hm : X.mg "repr" = none) (ha : EV X e ρ M d M1) (pl : D.plain d = true) (nv : ∀ v, d ≠ .val v) (nd : d.py.hasDict = false) (ss : d.py.showable = true) (dd : d.py.depth < 60) (sz : d.py.shown.length ≤ sizeLine) (hg : Gl X "repr" := by rfl) (hst : starEach [e] X.env = [(false, eval e X.env)] := by rfl) :
    EV X (.Call (.Name "repr" p) [e] [] pos) ρ M (dS d.py.shown) M1 := by
  have cr : CallR X (.builtin "repr") (fun vs H Q => ∃ a, vs = [V.ref a] ∧ Dp X.K H (.ref a) d.py ∧ Q (.str d.py.shown) H) := by
    intro pins s σ H vs us Q I r h
    obtain ⟨a, rfl, dp, q⟩ := h
    obtain ⟨u, rfl, ru⟩ := vals1 r
    obtain rfl : u = Value.ref a := ru
    obtain ⟨as, rd⟩ := Dp.reads I _ _ _ dp rfl
    refine repr_of_reads' rd ss (fun z => by rw [nd] at z; cases z) g (by omega) (fun _ _ z => z) (fun h' u tk hk => ?_) sz
    exact ⟨.str d.py.shown, H, I.kept hk, ⟨_, rfl⟩, q⟩
  refine (pe_callB cr hg hm boot_repr (av_cons ha av_nil hst) (he := hst) (hpl := by rfl)).mono fun σ H Q ⟨G, sa, k⟩ => ⟨G, sa, fun vs G1 H1 g1 sh1 r1 => ?_⟩
  cases r1 with
  | cons h t =>
    cases t
    have dp := dp_of sh1.le _ _ pl h
    cases h with
    | val => exact absurd rfl (nv _)
    | tup q r => exact ⟨_, rfl, dp, k _ G1 H1 g1 sh1 (.val _)⟩
    | lst q r => exact ⟨_, rfl, dp, k _ G1 H1 g1 sh1 (.val _)⟩
    | dic q => cases pl
end
end Vt
namespace Vt
open PySem PySem.Spec PyProof.Rows L2
/-! ### the end of a law whose body asks repr -/
/-- what may be tracked at the entry: the script alone -/
def soleH (K : PySem.W.Frag) (a : Addr) (o : Obj) (xs : List V) : Hp := fun b => if b = a ∧ (K.lookup a).isNone = true then some (.frz o (.lst xs)) else none
theorem soleH_of {K : PySem.W.Frag} {a b : Addr} {o : Obj} {xs : List V} {u : HO} (h : soleH K a o xs b = some u) : b = a ∧ K.lookup a = none ∧ u = .frz o (.lst xs) := by
  unfold soleH at h
  by_cases c : b = a ∧ (K.lookup a).isNone = true
  · rw [if_pos c] at h
    exact ⟨c.1, Option.isNone_iff_eq_none.mp c.2, (Option.some.inj h).symm⟩
  · rw [if_neg c] at h
    cases h
theorem law_runG {P : Program} {w : World} {K : PySem.W.Frag} {mg mb : Str → Option Value} {k : Nat} {fa a : Addr} {fd : FuncData} {x : Str} {s : Shared} {vs : List Value} {ns : List Int}
    (kin : K.In s.heap) (glob : s.heap.Ns mainGlobals mg) (blt : s.heap.Ns builtinsNs mb) (bltE : ∀ z : Str, z ≠ "__name__" → mb z = bootBuiltins z) (noL : s.heap.NoLimit) (gens : s.gens = #[])
    (at_ : s.heap.get? a = some { cls := .type "list", data := .seq vs.toArray }) (are : IntsAre vs ns) (short : ns.length ≤ 63) (room : Room k callerA)
    (F : ∀ base : Heap, K.In base → base.Ns mainGlobals mg → FnG P w K mg base k fa fd [x] (spLaw K)) (binds : ∀ (s : Shared) (u : Value), BindsTo s fd ⟨[u], []⟩ [(x, u)]) :
    codeAny (model P w) callerA (.call (.ref fa) ⟨[.ref a], []⟩) (fun r s' => r = .ok (.ret (.bool true)) ∧ OldK s.heap s'.heap ∧ s'.os = s.os ∧ AllBare s'.gens) s := by
  have rv := vals_ints are
  have size : ns.length ≤ sizeLine := Nat.le_trans short (by decide)
  let o : Obj := { cls := .type "list", data := .seq vs.toArray }
  let H : Hp := soleH K a o (ns.map V.int)
  have only : ∀ {b : Addr} {u : HO}, H b = some u → b = a ∧ K.lookup a = none ∧ u = .frz o (.lst (ns.map V.int)) := fun h => soleH_of h
  have apart : ∀ {b : Addr} {ob : Obj}, s.heap.get? b = some ob → (b = a → K.lookup a = none → False) → (hidT s.heap H).get? b = some ob := fun {b ob} e no => hidT_get e (by
    cases q : H b with
    | none => rfl
    | some u => exact (no (only q).1 (only q).2.1).elim)
  have names : ∀ {b : Addr} {m : Str → Option Value}, s.heap.Ns b m → (hidT s.heap H).Ns b m := by
    rintro b m ⟨ob, es, ep, e, d, r⟩
    refine ⟨ob, es, ep, apart e (fun z _ => ?_), d, r⟩
    rw [z, at_] at e
    cases e
    cases d
  have kin' : K.In (hidT s.heap H) := fun b ob e => apart (kin b ob e) fun z n => by
    rw [z, n] at e
    cases e
  have lst : SqL K H a (ns.map V.int) := by
    cases q : K.lookup a with
    | none => exact .inl (.inr ⟨o, if_pos ⟨rfl, by rw [q]; rfl⟩⟩)
    | some oa =>
      have e := kin a oa q
      rw [at_] at e
      cases e
      refine .inr ⟨_, vs.toArray, _, q, rfl, rfl, rfl, ?_, by simpa using rv⟩
      rw [List.size_toArray, are.length]
      exact size
  have hok : HOk P w H s.heap := fun b u e => by
    obtain ⟨rfl, _, rfl⟩ := only e
    exact ⟨at_, by rw [List.length_map]; exact size, vs, _, rv, at_⟩
  have env : Env0 P w K mg (hidT s.heap H) callerA [] s H :=
    ⟨rfl, ⟨kin', names glob, ⟨mb, names blt, bltE⟩, let ⟨mc, h1, h2⟩ := noL; ⟨mc, names h1, h2⟩⟩, fun b ob e => of_hidT e, Nat.le_of_eq (hidT_size _ _), trivial, fun b hb => absurd hb List.not_mem_nil, hok, .of_eq gens⟩
  refine codeAny_mono ((F _ kin' (names glob)).goes callerA [] s H ⟨[.ref a], []⟩ [.ref a] [.ref a] (fun v _ => v = .bl true) (fun _ _ _ => False) rfl room env (binds s (.ref a)) (.cons rfl .nil) ⟨a, ns, rfl, lst, short, fun _ => rfl⟩) ?_
  rintro (e | fl) s' end_
  · exact (end_ : False).elim
  · match fl, end_ with
    | .next, z => exact z.elim
    | .brk, z => exact z.elim
    | .cont, z => exact z.elim
    | .ret u, ⟨v, H', os, bare, un, hok', ru, q⟩ =>
      have q : v = .bl true := q
      subst q
      obtain rfl : u = Value.bool true := ru
      have old : ∀ b ob, s.heap.get? b = some ob → s'.heap.get? b = some ob := fun b ob e => by
        cases q : H b with
        | none => exact un.keep b ob e q (fun z => absurd z List.not_mem_nil) (fun z => absurd z List.not_mem_nil)
        | some u =>
          obtain ⟨rfl, _, rfl⟩ := only q
          obtain ⟨e1, _⟩ := hok b _ q
          obtain ⟨e2, _⟩ := hok' b _ (un.frzs b o _ q)
          rw [e] at e1
          cases e1
          exact e2
      exact ⟨rfl, ⟨fun b ob e => .inl (old b ob e), fun b ob e => ⟨ob, old b ob e⟩⟩, os, bare⟩
theorem walkG {l : PySem.W.OpenLaw} {q : Program} {loose : List Str} {XP : (Str → Option Value) → Heap → Prop} {YP : World → Heap → Prop} {d : DefRec} {K : Params → PySem.W.Frag} {k : Nat} (hk : Room k callerA) (hn : l.most = some 63) (hdf : d.params.defaults = [])
    (hY : ∀ (w : World) (h : Heap), YP w h → (K w.params).In h)
    (F : ∀ (w : World) (mg : Str → Option Value) (fa : Addr) (h : Heap), (K w.params).In h → h.Ns mainGlobals mg → mg d.name = some (.ref fa) →
      ∃ fd : FuncData, (∀ (s : Shared) (u : Value), BindsTo s fd ⟨[u], []⟩ [("script", u)]) ∧ ∀ base : Heap, (K w.params).In base → base.Ns mainGlobals mg → FnG l.prog w (K w.params) mg base k fa fd ["script"] (spLaw (K w.params))) :
    PySem.W.WalkO q loose XP YP l.row.toRowW d [] (fun f vs => PySem.call f vs) := by
  refine Att.attach_call hn hdf fun w s₀ s₁ mg mb fa o pm cd doc a vs ns G Y ho hd hcd hmg hobj hints hlen hg => ?_
  obtain ⟨fd, hb, hF⟩ := F w mg fa _ (hY w _ Y) G.T.g hmg
  exact law_runG (hY w _ Y) G.T.g G.T.b G.T.builtins G.T.nolimit hg hobj hints hlen hk hF hb
theorem law_ofG {P : Program} {w : World} {K : PySem.W.Frag} {mg : Str → Option Value} {base : Heap} {sd : Stmt} {f : Addr} {fd : FuncData} {N : List Str} {k : Nat} (F : Fun K "law" "law" sd f fd) (S : FnScope N ["script"] (defScope sd))
    (hb : ∀ (cdv : Value) (A : Around) (outer : List Env) (s : Shared) (H : Hp) (E : XK) (ns : List Int), (A.deeper (envOfC "law" (defScope sd) s.heap.objs.size f cdv)).guards = some [] → Room k (A.deeper (envOfC "law" (defScope sd) s.heap.objs.size f cdv)) → ns.length ≤ 63 →
      BV (cxOf CX0 P w K mg base N "law" (defScope sd) f cdv A outer s H E).nox (defBody sd) (startD N [.lst (ns.map dI)]) (fun _ => none) FinL) : FnG P w K mg base (k + 1) f fd ["script"] (spLaw K) := by
  refine okG F S (fun vs H Q E ⟨a, ns, e, _⟩ => by rw [e]; rfl) fun cdv A outer s H vs Q E g hr ⟨a, ns, e, hs, hl, q⟩ => ?_
  subst e
  have rl : ∀ xs : List Int, RepL K H (xs.map V.int) (xs.map dI) := fun xs => by
    have e := RepL.vals (K := K) (G := H) (xs.map V.int)
    rwa [List.map_map] at e
  have r : RepL K H [V.ref a] [.lst (ns.map dI)] := .cons (.lst hs (rl ns)) .nil
  refine ⟨_, hb cdv A outer s H E ns g hr hl, H, ⟨⟨Same.refl _, fun b mo e => nomatch e⟩, start_rep r⟩, fun o ho => ?_⟩
  cases o with
  | ret d M =>
    have ho : d = dB true := ho
    subst ho
    exact fun v G' H' g sh r => by
      rw [r.of_val]
      exact q H'
  | nx ρ M => exact (show False from ho).elim
  | bk _ _ => exact (show False from ho).elim
  | ct _ _ => exact (show False from ho).elim
end Vt
namespace Vt
open PySem PySem.Spec PyProof.Rows L2
/-! ### the relational calculus: what follows is told in the place of the answer -/
def tAW (K : PySem.W.Frag) (ρ : Sl) (M : Mem) (Φ : List D → Mem → Prop) : TA := fun σ H Q => ∃ G, SA K G H σ ρ M ∧ ∀ vs G' H' ds M', Φ ds M' → Same G G' → SH K G' H' M' → RepL K G' vs ds → Q vs H'
def tTW (K : PySem.W.Frag) (ρ : Sl) (M : Mem) (Φ : Bool → Mem → Prop) : TT := fun σ H Q => ∃ G, SA K G H σ ρ M ∧ ∀ b G' H' M', Φ b M' → Same G G' → SH K G' H' M' → Q b H'
abbrev AW (X : Cx) (es : List Expr) (ρ : Sl) (M : Mem) (Φ : List D → Mem → Prop) : Prop := PA X es (tAW X.K ρ M Φ)
abbrev TW (X : Cx) (e : Expr) (ρ : Sl) (M : Mem) (Φ : Bool → Mem → Prop) : Prop := PT X e (tTW X.K ρ M Φ)
abbrev WW (X : Cx) (e : Expr) (ρ : Sl) (M : Mem) (Φ : Bool → Mem → Prop) : Prop := PW X e (tTW X.K ρ M Φ)
def pkE (X : Cx) (e : Expr) (ρ : Sl) : TE := fun σ H Q => ∃ M Φ, EW X e ρ M Φ ∧ tW X.K ρ M Φ σ H Q
theorem pk_e {X : Cx} {e : Expr} {ρ : Sl} : PE X e (pkE X e ρ) := ⟨fun pins s σ H Q I ⟨_, _, h, q⟩ => h.run pins s σ H Q I q⟩
def pkA (X : Cx) (es : List Expr) (ρ : Sl) : TA := fun σ H Q => ∃ M Φ, AW X es ρ M Φ ∧ tAW X.K ρ M Φ σ H Q
theorem pk_a {X : Cx} {es : List Expr} {ρ : Sl} : PA X es (pkA X es ρ) := ⟨fun pos pins s σ H Q I ⟨_, _, h, q⟩ => h.run pos pins s σ H Q I q⟩
def pkT (X : Cx) (e : Expr) (ρ : Sl) : TT := fun σ H Q => ∃ M Φ, TW X e ρ M Φ ∧ tTW X.K ρ M Φ σ H Q
theorem pk_t {X : Cx} {e : Expr} {ρ : Sl} : PT X e (pkT X e ρ) := ⟨fun pins s σ H Q I ⟨_, _, h, q⟩ => h.run pins s σ H Q I q⟩
def pkW (X : Cx) (e : Expr) (ρ : Sl) : TT := fun σ H Q => ∃ M Φ, WW X e ρ M Φ ∧ tTW X.K ρ M Φ σ H Q
theorem pk_w {X : Cx} {e : Expr} {ρ : Sl} : PW X e (pkW X e ρ) := ⟨fun wh pins s σ H Q I ⟨_, _, h, q⟩ => h.run wh pins s σ H Q I q⟩
def pkB (X : Cx) (sts : List Stmt) (ρ : Sl) (Ψ : Out → Prop) : TS := fun E σ H => ∃ M, BV X sts ρ M Ψ ∧ tS X.K ρ M Ψ E σ H
theorem pk_b {X : Cx} {sts : List Stmt} {ρ : Sl} {Ψ : Out → Prop} : PSs X sts (pkB X sts ρ Ψ) := ⟨fun pins s σ H E I ⟨_, h, q⟩ => h.run pins s σ H E I q⟩
section
variable {X : Cx} {ρ : Sl} {M M1 M2 M3 : Mem} {a b c e : Expr} {es : List Expr} {d d1 d2 : D} {ds : List D} {pos : Pos} {Ψ : Out → Prop} {Φ : D → Mem → Prop} {ΦA : List D → Mem → Prop} {ΦT : Bool → Mem → Prop}
theorem aw_av (h : AV X es ρ M ds M1) (q : ΦA ds M1) : AW X es ρ M ΦA := h.mono fun σ H Q ⟨G, sa, k⟩ => ⟨G, sa, fun vs G1 H1 g1 sh1 r1 => k vs G1 H1 ds M1 q g1 sh1 r1⟩
theorem tw_tv {p : Bool} (h : TV X e ρ M p M1) (q : ΦT p M1) : TW X e ρ M ΦT := h.mono fun σ H Q ⟨G, sa, k⟩ => ⟨G, sa, fun G1 H1 g1 sh1 => k p G1 H1 M1 q g1 sh1⟩
theorem ww_wv {p : Bool} (h : WV X e ρ M p M1) (q : ΦT p M1) : WW X e ρ M ΦT := h.mono fun σ H Q ⟨G, sa, k⟩ => ⟨G, sa, fun G1 H1 g1 sh1 => k p G1 H1 M1 q g1 sh1⟩
theorem aw_nil (q : ΦA [] M) : AW X [] ρ M ΦA := aw_av av_nil q
theorem aw_cons (h : EW X e ρ M (fun d M1 => AW X es ρ M1 (fun ds M2 => ΦA (d :: ds) M2))) (hs : starEach (e :: es) X.env = (false, eval e X.env) :: starEach es X.env := by rfl) : AW X (e :: es) ρ M ΦA :=
  (pa_cons h pk_a hs).mono fun σ H Q ⟨G, sa, k⟩ => ⟨G, sa, fun v1 G1 H1 d M1 h g1 sh1 r1 => ⟨M1, _, h, G1, ⟨sh1, sa.sl.up g1⟩, fun vs G2 H2 ds M2 p g2 sh2 r2 => k _ G2 H2 _ M2 p (g1.trans g2) sh2 (.cons (r1.up g2) r2)⟩⟩
theorem ew_op {op : Operator} {r : R2} (ho : OpR X (binaryOp op) r) (h : EW X a ρ M (fun d1 M1 => ∃ x, d1 = .val x ∧ EW X b ρ M1 (fun d2 M2 => ∃ y z, d2 = .val y ∧ RS r x y z ∧ Φ (.val z) M2))) : EW X (.BinOp a op b pos) ρ M Φ :=
  (pe_op ho h pk_e).mono fun σ H Q ⟨G, sa, k⟩ => ⟨G, sa, fun v1 G1 H1 d1 M1 ⟨x, e1, h⟩ g1 sh1 r1 => ⟨M1, _, h, G1, ⟨sh1, sa.sl.up g1⟩, fun v2 G2 H2 d2 M2 ⟨y, z, e2, hr, p⟩ g2 sh2 r2 => by
    subst e1 e2
    rw [r1.of_val, r2.of_val]
    exact hr H2 Q (k _ G2 H2 _ M2 p (g1.trans g2) sh2 (.val _))⟩⟩
theorem ew_un {op : UnaryOp} {r : V → Hp → VK → Prop} (ho : UnR X (unaryOp op) r) (h : EW X a ρ M (fun d1 M1 => ∃ x z, d1 = .val x ∧ RU r x z ∧ Φ (.val z) M1)) : EW X (.UnaryOp op a pos) ρ M Φ :=
  (pe_un ho h).mono fun σ H Q ⟨G, sa, k⟩ => ⟨G, sa, fun v1 G1 H1 d1 M1 ⟨x, z, e1, hr, p⟩ g1 sh1 r1 => by
    subst e1
    rw [r1.of_val]
    exact hr H1 Q (k _ G1 H1 _ M1 p g1 sh1 (.val _))⟩
theorem ew_cmp {op : CmpOp} {r : R2} (ho : OpR X (compareOp op) r) (h : EW X a ρ M (fun d1 M1 => ∃ x, d1 = .val x ∧ EW X b ρ M1 (fun d2 M2 => ∃ y z, d2 = .val y ∧ RS r x y z ∧ Φ (.val z) M2))) (hm : behindInMarks op b = false) : EW X (.Compare a [op] [b] pos) ρ M Φ :=
  (pe_cmpR ho h pk_e hm).mono fun σ H Q ⟨G, sa, k⟩ => ⟨G, sa, fun v1 G1 H1 d1 M1 ⟨x, e1, h⟩ g1 sh1 r1 => ⟨M1, _, h, G1, ⟨sh1, sa.sl.up g1⟩, fun v2 G2 H2 d2 M2 ⟨y, z, e2, hr, p⟩ g2 sh2 r2 => by
    subst e1 e2
    rw [r1.of_val, r2.of_val]
    exact hr H2 Q (k _ G2 H2 _ M2 p (g1.trans g2) sh2 (.val _))⟩⟩
theorem tw_cmp {op : CmpOp} {r : R2} (ho : OpR X (compareOp op) r) (h : EW X a ρ M (fun d1 M1 => ∃ x, d1 = .val x ∧ EW X b ρ M1 (fun d2 M2 => ∃ y z, d2 = .val y ∧ RS r x y (.bl z) ∧ ΦT z M2))) (hm : behindInMarks op b = false) : TW X (.Compare a [op] [b] pos) ρ M ΦT :=
  (pt_cmpR ho h pk_e hm).mono fun σ H Q ⟨G, sa, k⟩ => ⟨G, sa, fun v1 G1 H1 d1 M1 ⟨x, e1, h⟩ g1 sh1 r1 => ⟨M1, _, h, G1, ⟨sh1, sa.sl.up g1⟩, fun v2 G2 H2 d2 M2 ⟨y, z, e2, hr, p⟩ g2 sh2 r2 => by
    subst e1 e2
    rw [r1.of_val, r2.of_val]
    exact hr H2 _ ⟨z, rfl, k z G2 H2 M2 p (g1.trans g2) sh2⟩⟩⟩
theorem tw_val (h : EW X e ρ M (fun d M1 => ∃ p, d = dB p ∧ ΦT p M1)) (he : ∀ whole, isTrue e X.env whole = (do let v ← whole; standAt e.pos; holding [v] (truthy v)) := by intro _; rfl) : TW X e ρ M ΦT :=
  (pt_val h he).mono fun σ H Q ⟨G, sa, k⟩ => ⟨G, sa, fun v1 G1 H1 d M1 ⟨p, e1, q⟩ g1 sh1 r1 => by
    subst e1
    exact ⟨p, r1.of_val, k p G1 H1 M1 q g1 sh1⟩⟩
theorem tw_not (h : TW X e ρ M (fun p M1 => ΦT (!p) M1)) : TW X (.UnaryOp .Not e pos) ρ M ΦT :=
  (pt_not h).mono fun σ H Q ⟨G, sa, k⟩ => ⟨G, sa, fun p G1 H1 M1 q g1 sh1 => k _ G1 H1 M1 q g1 sh1⟩
theorem ww_one_and (h : TW X e ρ M ΦT) : WW X (.BoolOp .And [e] pos) ρ M ΦT := pw_and1 h
theorem ww_one_or (h : TW X e ρ M ΦT) : WW X (.BoolOp .Or [e] pos) ρ M ΦT := pw_or1 h
theorem ww_and {rest : List Expr} (h : TW X a ρ M (fun p M1 => (p = true → WW X (.BoolOp .And (b :: rest) pos) ρ M1 ΦT) ∧ (p = false → ΦT false M1))) : WW X (.BoolOp .And (a :: b :: rest) pos) ρ M ΦT :=
  (pw_and h pk_w).mono fun σ H Q ⟨G, sa, k⟩ => ⟨G, sa, fun p G1 H1 M1 ⟨h1, h2⟩ g1 sh1 => by
    cases p with
    | true => exact (⟨M1, _, h1 rfl, G1, ⟨sh1, sa.sl.up g1⟩, fun p G2 H2 M2 q g2 sh2 => k p G2 H2 M2 q (g1.trans g2) sh2⟩ : pkW X _ ρ σ H1 Q)
    | false => exact (k false G1 H1 M1 (h2 rfl) g1 sh1 : Q false H1)⟩
theorem ww_or {rest : List Expr} (h : TW X a ρ M (fun p M1 => (p = false → WW X (.BoolOp .Or (b :: rest) pos) ρ M1 ΦT) ∧ (p = true → ΦT true M1))) : WW X (.BoolOp .Or (a :: b :: rest) pos) ρ M ΦT :=
  (pw_or h pk_w).mono fun σ H Q ⟨G, sa, k⟩ => ⟨G, sa, fun p G1 H1 M1 ⟨h1, h2⟩ g1 sh1 => by
    cases p with
    | false => exact (⟨M1, _, h1 rfl, G1, ⟨sh1, sa.sl.up g1⟩, fun p G2 H2 M2 q g2 sh2 => k p G2 H2 M2 q (g1.trans g2) sh2⟩ : pkW X _ ρ σ H1 Q)
    | true => exact (k true G1 H1 M1 (h2 rfl) g1 sh1 : Q true H1)⟩
/-- a and b as values: bools -/
theorem ew_andB {rest : List Expr} (h : EW X a ρ M (fun d M1 => ∃ p, d = dB p ∧ (p = true → EW X (.BoolOp .And (b :: rest) pos) ρ M1 Φ) ∧ (p = false → Φ (dB false) M1))) : EW X (.BoolOp .And (a :: b :: rest) pos) ρ M Φ :=
  (pe_and h pk_e).mono fun σ H Q ⟨G, sa, k⟩ => ⟨G, sa, fun v1 G1 H1 d M1 ⟨p, e1, h1, h2⟩ g1 sh1 r1 => by
    subst e1
    refine ⟨p, r1.of_val, ?_⟩
    cases p with
    | true => exact (⟨M1, _, h1 rfl, G1, ⟨sh1, sa.sl.up g1⟩, fun v G2 H2 d2 M2 q g2 sh2 r2 => k v G2 H2 d2 M2 q (g1.trans g2) sh2 r2⟩ : pkE X _ ρ σ H1 Q)
    | false => exact (k _ G1 H1 _ M1 (h2 rfl) g1 sh1 (.val _) : Q (.bl false) H1)⟩
theorem ew_orB {rest : List Expr} (h : EW X a ρ M (fun d M1 => ∃ p, d = dB p ∧ (p = false → EW X (.BoolOp .Or (b :: rest) pos) ρ M1 Φ) ∧ (p = true → Φ (dB true) M1))) : EW X (.BoolOp .Or (a :: b :: rest) pos) ρ M Φ :=
  (pe_or h pk_e).mono fun σ H Q ⟨G, sa, k⟩ => ⟨G, sa, fun v1 G1 H1 d M1 ⟨p, e1, h1, h2⟩ g1 sh1 r1 => by
    subst e1
    refine ⟨p, r1.of_val, ?_⟩
    cases p with
    | false => exact (⟨M1, _, h1 rfl, G1, ⟨sh1, sa.sl.up g1⟩, fun v G2 H2 d2 M2 q g2 sh2 r2 => k v G2 H2 d2 M2 q (g1.trans g2) sh2 r2⟩ : pkE X _ ρ σ H1 Q)
    | true => exact (k _ G1 H1 _ M1 (h2 rfl) g1 sh1 (.val _) : Q (.bl true) H1)⟩
theorem ew_notB (h : EW X e ρ M (fun d M1 => ∃ p, d = dB p ∧ Φ (dB (!p)) M1)) : EW X (.UnaryOp .Not e pos) ρ M Φ :=
  (pe_not h).mono fun σ H Q ⟨G, sa, k⟩ => ⟨G, sa, fun v1 G1 H1 d M1 ⟨p, e1, q⟩ g1 sh1 r1 => by
    subst e1
    exact ⟨p, r1.of_val, k _ G1 H1 _ M1 q g1 sh1 (.val _)⟩⟩
theorem ew_if (h : TW X c ρ M (fun p M1 => (p = true → EW X a ρ M1 Φ) ∧ (p = false → EW X b ρ M1 Φ))) : EW X (.IfExp c a b pos) ρ M Φ :=
  (pe_ifExp h pk_e pk_e).mono fun σ H Q ⟨G, sa, k⟩ => ⟨G, sa, fun p G1 H1 M1 ⟨h1, h2⟩ g1 sh1 => by
    cases p with
    | true => exact (⟨M1, _, h1 rfl, G1, ⟨sh1, sa.sl.up g1⟩, fun v G2 H2 d2 M2 q g2 sh2 r2 => k v G2 H2 d2 M2 q (g1.trans g2) sh2 r2⟩ : pkE X _ ρ σ H1 Q)
    | false => exact (⟨M1, _, h2 rfl, G1, ⟨sh1, sa.sl.up g1⟩, fun v G2 H2 d2 M2 q g2 sh2 r2 => k v G2 H2 d2 M2 q (g1.trans g2) sh2 r2⟩ : pkE X _ ρ σ H1 Q)⟩
theorem ew_tup {x1} (h : AW X es ρ M (fun ds M1 => ds.length ≤ sizeLine ∧ Φ (.tup ds) M1)) : EW X (.Tuple es x1 pos) ρ M Φ :=
  (pe_tup h).mono fun σ H Q ⟨G, sa, k⟩ => ⟨G, sa, fun vs G1 H1 ds M1 ⟨hl, q⟩ g1 sh1 r1 => ⟨by rw [r1.len]; exact hl, fun p hp => by
    obtain ⟨sh2, g2⟩ := sh1.new (o := .tup vs) hp
    exact k _ _ _ _ M1 q (g1.trans g2) sh2 (.tup (.inl (.inl upd_same)) (r1.up g2))⟩⟩
theorem ew_lst (h : AW X es ρ M (fun ds M1 => ds.length ≤ sizeLine ∧ Φ (.lst ds) M1)) : EW X (.List es pos) ρ M Φ :=
  (pe_lst h).mono fun σ H Q ⟨G, sa, k⟩ => ⟨G, sa, fun vs G1 H1 ds M1 ⟨hl, q⟩ g1 sh1 r1 => ⟨by rw [r1.len]; exact hl, fun p hp => by
    obtain ⟨sh2, g2⟩ := sh1.new (o := .lst vs) hp
    exact k _ _ _ _ M1 q (g1.trans g2) sh2 (.lst (.inl (.inl upd_same)) (r1.up g2))⟩⟩
theorem ew_ixQ (h : EW X a ρ M (fun d1 M1 => ∃ q ds, d1 = sq q ds ∧ EW X b ρ M1 (fun d2 M2 => ∃ i d, d2 = dI i ∧ atI ds i = some d ∧ Φ d M2))) (hs : PlainIx b := by (intro _ _; rfl)) : EW X (.Subscript a b pos) ρ M Φ :=
  (pe_ix ix_seq h pk_e hs).mono fun σ H Q ⟨G, sa, k⟩ => ⟨G, sa, fun v1 G1 H1 d1 M1 ⟨q, ds, e1, h2⟩ g1 sh1 r1 => ⟨M1, _, h2, G1, ⟨sh1, sa.sl.up g1⟩, fun v2 G2 H2 d2 M2 ⟨i, d, e2, hat, p⟩ g2 sh2 r2 => by
    subst e1 e2
    cases q with
    | true =>
      cases (show Rep X.K G1 v1 (.lst ds) from r1) with
      | lst q r =>
        obtain ⟨v, e, rv⟩ := atI_up (r.up g2) hat
        exact .inl ⟨_, _, i, v, rfl, r2.of_val, sqlUp sh2.le (sqlUp g2 q), e, k _ G2 H2 _ M2 p (g1.trans g2) sh2 rv⟩
    | false =>
      cases (show Rep X.K G1 v1 (.tup ds) from r1) with
      | tup q r =>
        obtain ⟨v, e, rv⟩ := atI_up (r.up g2) hat
        exact .inr (.inl ⟨_, _, i, v, rfl, r2.of_val, sqtUp sh2.le (sqtUp g2 q), e, k _ G2 H2 _ M2 p (g1.trans g2) sh2 rv⟩)⟩⟩
end
end Vt
namespace Vt
open PySem PySem.Spec PyProof.Rows L2
section
variable {X : Cx} {ρ : Sl} {M M1 M2 M3 : Mem} {a b c e : Expr} {es : List Expr} {d d1 d2 : D} {ds : List D} {pos : Pos} {Ψ : Out → Prop} {Φ : D → Mem → Prop} {ΦA : List D → Mem → Prop} {ΦT : Bool → Mem → Prop}
/-! calls -/
theorem ew_callD {k : Nat} {x : Str} {Pr : List D → Mem → D → Mem → Prop} {p : Pos} (C : Cal X.prog X.w X.K X.mg X.base k x (spD X.K Pr)) (hr : Room k X.A) (h : AW X (e :: es) ρ M (fun ds M1 => ∃ d M2, Pr ds M1 d M2 ∧ Φ d M2)) (hg : Gl X x := by rfl)
    (hd : (x == ("__debug__" : Str)) = false := by decide) (hst : starEach (e :: es) X.env = (false, eval e X.env) :: starEach es X.env := by rfl) (hpl : (backTo pos (starEach es X.env)).any (·.1) = false := by rfl) : EW X (.Call (.Name x p) (e :: es) [] pos) ρ M Φ := by
  obtain ⟨f, fd, ps, hm, hk, hb, F⟩ := C.ex
  refine (pe_call F hr hg hm hk hb .nil pass0 h (hdb := hd) (he := hst) (hpl := hpl)).mono fun σ H Q ⟨G, sa, k⟩ => ⟨G, sa, fun vs G1 H1 ds M1 ⟨d, M2, hp, q⟩ g1 sh1 r1 => ?_⟩
  show spD X.K Pr (vs ++ []) H1 Q E0
  rw [List.append_nil]
  exact ⟨G1, ds, M1, d, M2, sh1, r1, hp, fun v G' H' g sh r => k v G' H' d M2 q (g1.trans g) sh r⟩
theorem ew_callW {k : Nat} {x : Str} {R : List D → Mem → (D → Mem → Prop) → Prop} {p : Pos} (C : Cal X.prog X.w X.K X.mg X.base k x (spW X.K R)) (hr : Room k X.A) (h : AW X (e :: es) ρ M (fun ds M1 => R ds M1 Φ)) (hg : Gl X x := by rfl)
    (hd : (x == ("__debug__" : Str)) = false := by decide) (hst : starEach (e :: es) X.env = (false, eval e X.env) :: starEach es X.env := by rfl) (hpl : (backTo pos (starEach es X.env)).any (·.1) = false := by rfl) : EW X (.Call (.Name x p) (e :: es) [] pos) ρ M Φ := by
  obtain ⟨f, fd, ps, hm, hk, hb, F⟩ := C.ex
  refine (pe_call F hr hg hm hk hb .nil pass0 h (hdb := hd) (he := hst) (hpl := hpl)).mono fun σ H Q ⟨G, sa, k⟩ => ⟨G, sa, fun vs G1 H1 ds M1 hp g1 sh1 r1 => ?_⟩
  show spW X.K R (vs ++ []) H1 Q E0
  rw [List.append_nil]
  exact ⟨G1, ds, M1, Φ, sh1, r1, hp, fun v G' H' d M' q g sh r => k v G' H' d M' q (g1.trans g) sh r⟩
theorem ew_callN {k : Nat} {x : Str} {Pr : List D → Mem → List D → Mem → Prop} {p : Pos} (C : Cal X.prog X.w X.K X.mg X.base k x (spN X.K Pr)) (hr : Room k X.A) (h : AW X (e :: es) ρ M (fun ds M1 => ∃ es' M2, Pr ds M1 es' M2 ∧ ∀ q, M2 q = none → Φ (dP q) (M2.set q (.lst es')))) (hg : Gl X x := by rfl)
    (hd : (x == ("__debug__" : Str)) = false := by decide) (hst : starEach (e :: es) X.env = (false, eval e X.env) :: starEach es X.env := by rfl) (hpl : (backTo pos (starEach es X.env)).any (·.1) = false := by rfl) : EW X (.Call (.Name x p) (e :: es) [] pos) ρ M Φ := by
  obtain ⟨f, fd, ps, hm, hk, hb, F⟩ := C.ex
  refine (pe_call F hr hg hm hk hb .nil pass0 h (hdb := hd) (he := hst) (hpl := hpl)).mono fun σ H Q ⟨G, sa, k⟩ => ⟨G, sa, fun vs G1 H1 ds M1 ⟨es', M2, hp, q⟩ g1 sh1 r1 => ?_⟩
  show spN X.K Pr (vs ++ []) H1 Q E0
  rw [List.append_nil]
  exact ⟨G1, ds, M1, es', M2, sh1, r1, hp, fun p G' H' g mp sh => k _ G' H' _ _ (q p mp) (g1.trans g) sh (.val _)⟩
/-- a new list that is going to be changed -/
theorem ew_lstN (h : AW X es ρ M (fun ds M1 => ds.length ≤ sizeLine ∧ ∀ p, M1 p = none → Φ (dP p) (M1.set p (.lst ds)))) : EW X (.List es pos) ρ M Φ :=
  (pe_lst h).mono fun σ H Q ⟨G, sa, k⟩ => ⟨G, sa, fun vs G1 H1 ds M1 ⟨hl, q⟩ g1 sh1 r1 => ⟨by rw [r1.len]; exact hl, fun p hp => by
    obtain ⟨sh2, mp, gp⟩ := sh1.newM hp r1
    exact k _ _ _ _ _ (q p mp) g1 sh2 (.val _)⟩⟩
/-! built-ins -/
theorem aw_one (h : EW X e ρ M (fun d M1 => ΦA [d] M1)) (hs : starEach [e] X.env = (false, eval e X.env) :: starEach [] X.env := by rfl) : AW X [e] ρ M ΦA := aw_cons (ew_to h fun _ _ q => aw_nil q) hs
theorem ew_intI {p : Pos} (hm : X.mg "int" = none) (h : EW X e ρ M (fun d M1 => ∃ i, d = dI i ∧ Φ (dI i) M1)) (hg : Gl X "int" := by rfl) (hst : starEach [e] X.env = [(false, eval e X.env)] := by rfl) : EW X (.Call (.Name "int" p) [e] [] pos) ρ M Φ :=
  (pe_callTy call_int1 hg hm (by decide +kernel) (aw_one (ΦA := fun ds M1 => ∃ i, ds = [dI i] ∧ Φ (dI i) M1) (ew_to h fun d M1 ⟨i, e, q⟩ => ⟨i, by rw [e], q⟩) hst) (he := hst)).mono fun σ H Q ⟨G, sa, k⟩ => ⟨G, sa, fun vs G1 H1 ds M1 ⟨i, e, q⟩ g1 sh1 r1 => by
    subst e
    rw [RepL.of_vals (xs := [.int i]) r1]
    exact .inl ⟨i, rfl, k _ G1 H1 _ M1 q g1 sh1 (.val _)⟩⟩
theorem ew_lenQ {p : Pos} (hm : X.mg "len" = none) (h : EW X e ρ M (fun d M1 => ∃ q ds, d = sq q ds ∧ Φ (dI ds.length) M1)) (hg : Gl X "len" := by rfl) (hst : starEach [e] X.env = [(false, eval e X.env)] := by rfl) : EW X (.Call (.Name "len" p) [e] [] pos) ρ M Φ :=
  (pe_callB call_len_seq hg hm PySem.boot_len (aw_one (ΦA := fun ds M1 => ∃ q es, ds = [sq q es] ∧ Φ (dI es.length) M1) (ew_to h fun d M1 ⟨i, es, e, q⟩ => ⟨i, es, by rw [e], q⟩) hst) (he := hst)).mono fun σ H Q ⟨G, sa, k⟩ => ⟨G, sa, fun vs G1 H1 ds M1 ⟨q, es, e, p⟩ g1 sh1 r1 => by
    subst e
    cases r1 with
    | cons h t =>
      cases t
      cases q with
      | true =>
        cases (show Rep X.K G1 _ (.lst es) from h) with
        | lst q r => exact ⟨_, _, rfl, .inl (sqlUp sh1.le q), by rw [r.len]; exact k _ G1 H1 _ M1 p g1 sh1 (.val _)⟩
      | false =>
        cases (show Rep X.K G1 _ (.tup es) from h) with
        | tup q r => exact ⟨_, _, rfl, .inr (sqtUp sh1.le q), by rw [r.len]; exact k _ G1 H1 _ M1 p g1 sh1 (.val _)⟩⟩
theorem ew_tupOf {p : Pos} (hm : X.mg "tuple" = none) (h : EW X e ρ M (fun d M1 => ∃ q ds, d = sq q ds ∧ Φ (.tup ds) M1)) (hg : Gl X "tuple" := by rfl) (hst : starEach [e] X.env = [(false, eval e X.env)] := by rfl) : EW X (.Call (.Name "tuple" p) [e] [] pos) ρ M Φ :=
  (pe_callTy call_tuple_of hg hm boot_tuple (aw_one (ΦA := fun ds M1 => ∃ q es, ds = [sq q es] ∧ Φ (.tup es) M1) (ew_to h fun d M1 ⟨i, es, e, q⟩ => ⟨i, es, by rw [e], q⟩) hst) (he := hst)).mono fun σ H Q ⟨G, sa, k⟩ => ⟨G, sa, fun vs' G1 H1 ds M1 ⟨b, es, e, p⟩ g1 sh1 r1 => by
    subst e
    cases r1 with
    | cons h t =>
      cases t
      cases b with
      | true =>
        cases (show Rep X.K G1 _ (.lst es) from h) with
        | lst q r => exact ⟨_, _, rfl, .inl ⟨sqlUp sh1.le q, fun l hl => by
            obtain ⟨sh2, g2⟩ := sh1.new (o := .tup _) hl
            exact k _ _ _ _ M1 p (g1.trans g2) sh2 (.tup (.inl (.inl upd_same)) (r.up g2))⟩⟩
      | false =>
        cases (show Rep X.K G1 _ (.tup es) from h) with
        | tup q r => exact ⟨_, _, rfl, .inr ⟨sqtUp sh1.le q, k _ G1 H1 _ M1 p g1 sh1 (.tup q r)⟩⟩⟩
theorem ew_listL {p : Pos} (hm : X.mg "list" = none) (h : EW X e ρ M (fun d M1 => ∃ q ds, d = sq q ds ∧ Φ (.lst ds) M1)) (hg : Gl X "list" := by rfl) (hst : starEach [e] X.env = [(false, eval e X.env)] := by rfl) : EW X (.Call (.Name "list" p) [e] [] pos) ρ M Φ :=
  (pe_callTy call_list_of hg hm boot_list (aw_one (ΦA := fun ds M1 => ∃ q es, ds = [sq q es] ∧ Φ (.lst es) M1) (ew_to h fun d M1 ⟨i, es, e, q⟩ => ⟨i, es, by rw [e], q⟩) hst) (he := hst)).mono fun σ H Q ⟨G, sa, k⟩ => ⟨G, sa, fun vs' G1 H1 ds M1 ⟨b, es, e, p⟩ g1 sh1 r1 => by
    subst e
    cases r1 with
    | cons h t =>
      cases t
      cases b with
      | true =>
        cases (show Rep X.K G1 _ (.lst es) from h) with
        | lst q r => exact ⟨_, _, rfl, .inl (sqlUp sh1.le q), fun l hl => by
            obtain ⟨sh2, g2⟩ := sh1.new (o := .lst _) hl
            exact k _ _ _ _ M1 p (g1.trans g2) sh2 (.lst (.inl (.inl upd_same)) (r.up g2))⟩
      | false =>
        cases (show Rep X.K G1 _ (.tup es) from h) with
        | tup q r => exact ⟨_, _, rfl, .inr (sqtUp sh1.le q), fun l hl => by
            obtain ⟨sh2, g2⟩ := sh1.new (o := .lst _) hl
            exact k _ _ _ _ M1 p (g1.trans g2) sh2 (.lst (.inl (.inl upd_same)) (r.up g2))⟩⟩
theorem ew_all {p : Pos} (hc : X.calm = true) (hm : X.mg "all" = none) (h : EW X e ρ M (fun d M1 => ∃ bs : List Bool, d = .lst (bs.map dB) ∧ Φ (dB (bs.all id)) M1)) (hg : Gl X "all" := by rfl) (hst : starEach [e] X.env = [(false, eval e X.env)] := by rfl) : EW X (.Call (.Name "all" p) [e] [] pos) ρ M Φ :=
  (pe_callB (cr_all hc) hg hm boot_all (aw_one (ΦA := fun ds M1 => ∃ bs : List Bool, ds = [.lst (bs.map dB)] ∧ Φ (dB (bs.all id)) M1) (ew_to h fun d M1 ⟨bs, e, q⟩ => ⟨bs, by rw [e], q⟩) hst) (he := hst)).mono fun σ H Q ⟨G, sa, k⟩ => ⟨G, sa, fun vs' G1 H1 ds M1 ⟨bs, e, p⟩ g1 sh1 r1 => by
    subst e
    cases r1 with
    | cons h t =>
      cases t
      cases h with
      | lst q r =>
        have e : bs.map dB = (bs.map V.bl).map D.val := by rw [List.map_map] <;> rfl
        rw [e] at r
        rw [RepL.of_vals r] at q
        exact ⟨_, bs, rfl, sqlUp sh1.le q, k _ G1 H1 _ M1 p g1 sh1 (.val _)⟩⟩
end
end Vt
namespace Vt
open PySem PySem.Spec PyProof.Rows L2
/-! statements -/
section
variable {X : Cx} {ρ ρ' : Sl} {M M1 M2 M3 : Mem} {a b c e : Expr} {es : List Expr} {d d1 d2 : D} {ds : List D} {pos : Pos} {Ψ : Out → Prop} {Φ : D → Mem → Prop} {g : TG}
theorem sw_set (i : Nat) {x : Str} {pos' : Pos} (hN : X.N.Nodup) (he : EW X e ρ M (fun d M1 => Ψ (.nx (ρ.set i (some d)) M1))) (hi : X.N[i]? = some x := by rfl) (hx : L2.Loc X.env.scope x := by first | exact Or.inl rfl | exact Or.inr rfl) (hs : swapsWith e (some (.Name x pos')) pos.line X.env = pure false := by rfl)
    (hf : X.fn x = true ∨ X.env.scope.names.lookup x = some .local := by first | exact .inl rfl | exact .inr rfl) : SV X (.Assign [.Name x pos'] e pos) ρ M Ψ := sv_setW i hN he (fun _ _ h => h) hi hx hs hf
theorem sw_ret (he : EW X e ρ M (fun d M1 => Ψ (.ret d M1))) : SV X (.Return (some e) pos) ρ M Ψ := sv_retW he fun _ _ h => h
theorem sw_expr (h : EW X e ρ M (fun _ M1 => Ψ (.nx ρ M1))) (hs : swapsWith e none pos.line X.env = pure false := by rfl) : SV X (.Expr e pos) ρ M Ψ :=
  (ps_expr h hs).mono fun E σ H ⟨G, sa, k⟩ => ⟨G, sa, fun v G1 H1 d M1 q g1 sh1 r1 => k _ q σ G1 H1 g1 ⟨sh1, sa.sl.up g1⟩⟩
theorem sw_if {as bs : List Stmt} (hc : TW X c ρ M (fun p M1 => (p = true → BV X as ρ M1 Ψ) ∧ (p = false → BV X bs ρ M1 Ψ))) : SV X (.If c as bs pos) ρ M Ψ :=
  (ps_if hc pk_b pk_b).mono fun E σ H ⟨G, sa, k⟩ => ⟨G, sa, fun p G1 H1 M1 ⟨h1, h2⟩ g1 sh1 => by
    cases p with
    | true => exact (⟨M1, h1 rfl, G1, ⟨sh1, sa.sl.up g1⟩, fun o ho => (k o ho).up g1⟩ : pkB X as ρ Ψ E σ H1)
    | false => exact (⟨M1, h2 rfl, G1, ⟨sh1, sa.sl.up g1⟩, fun o ho => (k o ho).up g1⟩ : pkB X bs ρ Ψ E σ H1)⟩
theorem sw_asg {tg : Expr} (hg : PG X tg g) (he : EW X e ρ M (fun d M1 => ∃ ρ', TG1 X.K g ρ d ρ' ∧ Ψ (.nx ρ' M1))) (hs : swapsWithSole [tg] e pos.line X.env = pure false := by rfl) (hw : swappedStores [tg] e X.env = pure none := by rfl)
    (h1 : (assignEach [tg] X.env).map (·.2) = [assign tg X.env] := by rfl) : SV X (.Assign [tg] e pos) ρ M Ψ := sv_asgW he hg (fun _ _ h => h) hs hw h1
/-- xs.append(e), xs a list of the memory -/
theorem sw_append {p : Addr} {ap cp : Pos} (ho : EV X a ρ M (dP p) M1) (hm1 : ∃ es, M1 p = some (.lst es)) (ha : EW X e ρ M1 (fun d M2 => ∃ ds, M2 p = some (.lst ds) ∧ ds.length < sizeLine ∧ Ψ (.nx ρ (M2.set p (.lst (ds ++ [d]))))))
    (h1 : attributeBase a "append" X.env (eval a X.env) = eval a X.env := by rfl) (h3 : (ap.endLine == cp.line) = true := by decide) (h4 : starEach [e] X.env = (false, eval e X.env) :: starEach [] X.env := by rfl)
    (h2 : (((((backTo cp (starEach [e] X.env)).all fun x => !x.fst) && (backToKw cp (keywordEach [] X.env)).all fun x => x.fst.isSome) && decide (([e].length + ([] : List Keyword).length + if ([] : List Keyword).isEmpty = true then 0 else 1) < 30)) = true) := by rfl)
    (h5 : (((backTo cp (starEach [] X.env)).any fun x => x.fst) = false) := by rfl)
    (hs : swapsWith (.Call (.Attribute a "append" ap) [e] [] cp) none pos.line X.env = pure false := by rfl) : SV X (.Expr (.Call (.Attribute a "append" ap) [e] [] cp) pos) ρ M Ψ :=
  (ps_expr (pe_bm PySem.F.plainAttrs_list PySem.F.slot_list_append PySem.F.type_list_append mt_append ho (aw_one (ΦA := fun ds' M2 => ∃ d ds, ds' = [d] ∧ M2 p = some (.lst ds) ∧ ds.length < sizeLine ∧ Ψ (.nx ρ (M2.set p (.lst (ds ++ [d]))))) (ew_to ha fun d M2 ⟨ds, q1, q2, q3⟩ => ⟨d, ds, rfl, q1, q2, q3⟩) h4) h1 h2 h3 h4 h5) hs).mono fun E σ H ⟨G, sa, k⟩ => ⟨G, sa, fun v1 G1 H1 g1 sh1 r1 => by
    obtain ⟨es, hes⟩ := hm1
    obtain ⟨_, vs1, hv1, _⟩ := sh1.mem p _ hes
    rw [r1.of_val]
    refine ⟨.inl ⟨rfl, _, .inl (.inl hv1)⟩, G1, ⟨sh1, sa.sl.up g1⟩, fun vs G2 H2 ds' M2 ⟨d, ds, e, hm, hl, hΨ⟩ g2 sh2 r2 => ?_⟩
    subst e
    cases r2 with
    | cons r2 t =>
      cases t
      obtain ⟨_, vs2, hv2, rl⟩ := sh2.mem p _ hm
      exact ⟨p, vs2, _, rfl, rfl, hv2, by rw [rl.len]; exact hl, k _ hΨ σ G2 _ (g1.trans g2) ⟨sh2.put hm (rl.append (.cons r2 .nil)), (sa.sl.up g1).up g2⟩⟩⟩
/-! what is walked -/
/-- what is walked may make new items -/
def JW2 (K : PySem.W.Frag) (J : It) (G : Hp) (ds : List D) : Prop := ∀ (i : Nat) H, Same G H → (∀ d, ds[i]? = some d → J.go i H ∧ ∀ x H', J.yld i H x H' → ∀ G2 M, Same G G2 → SH K G2 H M → ∃ G3, Same G2 G3 ∧ SH K G3 H' M ∧ Rep K G3 x d) ∧ (ds.length ≤ i → J.stop i H)
theorem JW.two {K : PySem.W.Frag} {J : It} {G : Hp} {ds : List D} (h : JW K J G ds) : JW2 K J G ds := fun i H e => ⟨fun d hd => ⟨((h i H e).1 d hd).1, fun x H' y G2 M g2 sh => by
  obtain ⟨e2, r⟩ := ((h i H e).1 d hd).2 x H' y
  subst e2
  exact ⟨G2, Same.refl _, sh, r.up g2⟩⟩, (h i H e).2⟩
def tIW (K : PySem.W.Frag) (ρ : Sl) (M : Mem) (Φ : List D → Mem → Prop) : TI := fun σ H R => ∃ G, SA K G H σ ρ M ∧ ∀ J G' H' ds M1, Φ ds M1 → Same G G' → SH K G' H' M1 → JW2 K J G' ds → R J H'
abbrev IW (X : Cx) (tg iter : Expr) (ρ : Sl) (M : Mem) (Φ : List D → Mem → Prop) : Prop := PI X tg iter (tIW X.K ρ M Φ)
variable {tg iter : Expr} {ΦI : List D → Mem → Prop}
theorem iw_iv (h : IV X tg iter ρ M ds M1) (q : ΦI ds M1) : IW X tg iter ρ M ΦI := h.mono fun σ H R ⟨G, sa, k⟩ => ⟨G, sa, fun J G1 H1 g1 sh1 jw => k J G1 H1 ds M1 q g1 sh1 jw.two⟩
theorem iw_list (h : EW X e ρ M (fun d M1 => ∃ ds, d = .lst ds ∧ ΦI ds M1)) : IW X tg e ρ M ΦI :=
  (pi_list h).mono fun σ H R ⟨G, sa, k⟩ => ⟨G, sa, fun v G1 H1 d M1 ⟨ds, e, p⟩ g1 sh1 r1 => by
    subst e
    cases r1 with
    | lst q r => exact ⟨_, rfl, ⟨_, sqlUp sh1.le q⟩, k _ G1 H1 _ M1 p g1 sh1 (JW.list q r).two⟩⟩
theorem iw_tup (h : EW X e ρ M (fun d M1 => ∃ ds, d = .tup ds ∧ ΦI ds M1)) : IW X tg e ρ M ΦI :=
  (pi_tup h).mono fun σ H R ⟨G, sa, k⟩ => ⟨G, sa, fun v G1 H1 d M1 ⟨ds, e, p⟩ g1 sh1 r1 => by
    subst e
    cases r1 with
    | tup q r => exact ⟨_, rfl, ⟨_, sqtUp sh1.le q⟩, k _ G1 H1 _ M1 p g1 sh1 (JW.tup q r).two⟩⟩
theorem iw_range1 {p : Pos} (hm : X.mg "range" = none) (h : EW X e ρ M (fun d M1 => ∃ j : Int, d = dI j ∧ (-(2 ^ 62) ≤ j ∧ j < 2 ^ 62) ∧ ΦI (rgD 0 j.toNat) M1)) (hg : Gl X "range" := by rfl) (hst : starEach [e] X.env = [(false, eval e X.env)] := by rfl) : IW X tg (.Call (.Name "range" p) [e] [] pos) ρ M ΦI :=
  (pi_range1 hg hm (aw_one (ΦA := fun ds M1 => ∃ j : Int, ds = [dI j] ∧ (-(2 ^ 62) ≤ j ∧ j < 2 ^ 62) ∧ ΦI (rgD 0 j.toNat) M1) (ew_to h fun d M1 ⟨j, e, q1, q2⟩ => ⟨j, by rw [e], q1, q2⟩) hst) hst).mono fun σ H R ⟨G, sa, k⟩ => ⟨G, sa, fun vs G1 H1 ds M1 ⟨j, e, hj, q⟩ g1 sh1 r1 => by
    subst e
    rw [RepL.of_vals (xs := [.int j]) r1]
    exact ⟨j, rfl, hj.1, hj.2, k _ G1 H1 _ M1 q g1 sh1 JW.range.two⟩⟩
/-- for: Iv i is what holds ahead of turn i -/
theorem sw_for {body : List Stmt} (hc : X.calm = true) (hg : PG X tg g)
    (hi : IW X tg iter ρ M (fun ds M1 => ∃ Iv : Nat → Sl → Mem → Prop, Iv 0 ρ M1 ∧ (∀ i d ρ' M', ds[i]? = some d → Iv i ρ' M' → ∃ ρ'', TG1 X.K g ρ' d ρ'' ∧ BV X body ρ'' M' (loopR Iv Ψ i)) ∧ ∀ ρ' M', Iv ds.length ρ' M' → Ψ (.nx ρ' M')))
    (hp : PassesOwn (model X.prog X.w) X.A X.env X.xe := by exact PassesOwn.never) (hs : ∀ x, foldedSetIterable iter X.env x = pure x := by intro _; rfl) : SV X (.For tg iter body [] pos) ρ M Ψ := by
  refine (ps_for (tb := fun E σ H => ∃ ρ M Ψ', BV X body ρ M Ψ' ∧ tS X.K ρ M Ψ' E σ H) hp hc hi hg ⟨fun pins s σ H E I ⟨ρ', M', Ψ', hb, q⟩ => hb.run pins s σ H E I q⟩ hs).mono fun E σ H ⟨G, sa, k⟩ => ⟨G, sa, fun J G1 H1 ds M1 ⟨Iv, iv0, step, done⟩ g1 sh1 jw => ?_⟩
  refine ⟨fun i m σ H => m = ds.length - i ∧ i ≤ ds.length ∧ ∃ G ρ M, Same G1 G ∧ SA X.K G H σ ρ M ∧ Iv i ρ M, ⟨ds.length, by simp, Nat.zero_le _, G1, ρ, M1, Same.refl _, ⟨sh1, sa.sl.up g1⟩, iv0⟩, ?_⟩
  rintro i m σ2 H2 ⟨rfl, hi, G2, ρ2, M2, g2, sa2, iv⟩
  obtain ⟨j1, j2⟩ := jw i H2 (g2.trans sa2.sh.le)
  by_cases hlt : i < ds.length
  · have hd : ds[i]? = some ds[i] := List.getElem?_eq_getElem hlt
    obtain ⟨go, yl⟩ := j1 _ hd
    refine .inr ⟨go, fun σ3 H3 => ∃ G ρ M, Same G1 G ∧ SA X.K G H3 σ3 ρ M ∧ Iv (i + 1) ρ M, fun σ' H' p' => ⟨ds.length - (i + 1), by omega, rfl, hlt, p'⟩, fun x H' y => ?_⟩
    obtain ⟨G3, g3, sh3, rx⟩ := yl x H' y G2 M2 g2 sa2.sh
    have g2 := g2.trans g3
    obtain ⟨ρ3, tg3, bv⟩ := step i _ ρ2 M2 hd iv
    refine tg3 x σ2 G3 H' _ sh3.le (sa2.sl.up g3) rx fun σ3 rs3 => ⟨ρ3, M2, _, bv, G3, ⟨sh3, rs3⟩, fun o ho => ?_⟩
    cases o with
    | nx ρ4 M4 => exact fun σ4 G4 H4 g4 sa4 => ⟨G4, ρ4, M4, g2.trans g4, sa4, ho⟩
    | ct ρ4 M4 => exact fun σ4 G4 H4 g4 sa4 => ⟨G4, ρ4, M4, g2.trans g4, sa4, ho⟩
    | bk ρ4 M4 => exact fun σ4 G4 H4 g4 sa4 => k _ ho σ4 G4 H4 ((g1.trans g2).trans g4) sa4
    | ret d4 M4 => exact fun v G4 H4 g4 sh4 r4 => k _ ho v G4 H4 ((g1.trans g2).trans g4) sh4 r4
  · have e : i = ds.length := by omega
    subst e
    exact .inl ⟨j2 (Nat.le_refl _), k _ (done ρ2 M2 iv) σ2 G2 H2 (g1.trans g2) sa2⟩
/-- [e for x in ..]: Iv i acc is what holds of the memory ahead of turn i (without the list that is being made) -/
def LcI (X : Cx) (g : TG) (own : List (Str × Nat)) (scope : Scope) (elt : Expr) (ρ : Sl) (Φ : D → Mem → Prop) (ds : List D) (M1 : Mem) : Prop :=
  ds.length ≤ sizeLine ∧ ∃ Iv : Nat → List D → Mem → Prop, Iv 0 [] M1 ∧
    (∀ i d acc M, ds[i]? = some d → acc.length = i → Iv i acc M → ∃ ρ', TGb X.K g (own.map (·.2)) (wipeD ρ (own.map (·.2))) d ρ' ∧ ∀ (p : Addr), M p = none → ∀ (s : Shared) (H : Hp) (C : Addr) (cl : List (Str × Addr)) (fp : List Addr),
      EW (X.blk s H scope (compEnvC scope cl C X.env) fp) elt ρ' (M.set p (.lst acc)) (fun d' M' => ∃ M2, M' = M2.set p (.lst acc) ∧ M2 p = none ∧ Iv (i + 1) (acc ++ [d']) M2)) ∧
    ∀ acc M, acc.length = ds.length → Iv ds.length acc M → Φ (.lst acc) M
theorem lcw_read {elt : Expr} {scope : Scope} {own : List (Str × Nat)} (σ : L2.St) (H : Hp) (Q : VK) (hΦ : ∃ G, SA X.K G H σ ρ M ∧ ∀ v G' H' d M', Φ d M' → Same G G' → SH X.K G' H' M' → Rep X.K G' v d → Q v H') :
    tLc (tIW X.K ρ M (LcI X g own scope elt ρ Φ)) g tYes (fun σ H Q => ∃ ρ' M' Φ', (∀ (s : Shared) (H : Hp) (C : Addr) (cl : List (Str × Addr)) (fp : List Addr), EW (X.blk s H scope (compEnvC scope cl C X.env) fp) elt ρ' M' Φ') ∧ tW X.K ρ' M' Φ' σ H Q) (own.map (·.2)) σ H Q := by
  obtain ⟨G, sa, k⟩ := hΦ
  refine ⟨G, sa, fun J G1 H1 ds M1 ⟨hlen, Iv, h0, step, done⟩ g1 sh1 jw => fun p hp => ?_⟩
  obtain ⟨shp, mp, gp⟩ := sh1.newM hp (RepL.nil (K := X.K) (G := G1))
  refine ⟨fun i mm H => mm = ds.length - i ∧ i ≤ ds.length ∧ ∃ G acc M, Same G1 G ∧ acc.length = i ∧ M p = none ∧ Iv i acc M ∧ SH X.K G H (M.set p (.lst acc)), ⟨ds.length, by simp, Nat.zero_le _, G1, [], M1, Same.refl _, rfl, mp, h0, shp⟩, ?_⟩
  rintro i mm H2 ⟨rfl, hi, G2, acc, M2, g2, hacc, hmp, iv, sh2⟩
  obtain ⟨j1, j2⟩ := jw i H2 (g2.trans sh2.le)
  by_cases hlt : i < ds.length
  · have hd : ds[i]? = some ds[i] := List.getElem?_eq_getElem hlt
    obtain ⟨go, yl⟩ := j1 _ hd
    refine .inr ⟨go, fun H3 => ∃ G acc M, Same G1 G ∧ acc.length = i + 1 ∧ M p = none ∧ Iv (i + 1) acc M ∧ SH X.K G H3 (M.set p (.lst acc)), fun H' p' => ⟨ds.length - (i + 1), by omega, rfl, hlt, p'⟩, fun x H' y => ?_⟩
    obtain ⟨G3, g3, sh3, rx⟩ := yl x H' y G2 _ g2 sh2
    have g2 := g2.trans g3
    obtain ⟨ρ3, tg3, ev⟩ := step i _ acc M2 hd hacc iv
    refine tg3 x σ G3 H' _ sh3.le (wipe_rep ((sa.sl.up g1).up g2) _) rx fun σ3 rs3 hw => ⟨hw, ?_⟩
    show ∃ ρ' M' Φ', _ ∧ tW X.K ρ' M' Φ' σ3 H' _
    refine ⟨ρ3, _, _, ev p hmp, G3, ⟨sh3, rs3⟩, fun v G4 H4 d4 M4 ⟨M5, e5, n5, iv5⟩ g4 sh4 r4 => ?_⟩
    subst e5
    obtain ⟨_, vs, hv, rl⟩ := sh4.mem p _ Mem.set_same
    refine ⟨vs, hv, ?_, G4, acc ++ [d4], M5, g2.trans g4, by rw [List.length_append, hacc]; rfl, n5, iv5, ?_⟩
    · rw [rl.len, hacc]
      exact Nat.lt_of_lt_of_le hlt hlen
    · have q := sh4.put (ds := acc ++ [d4]) Mem.set_same (rl.append (.cons r4 .nil))
      rw [Mem.set_set] at q
      exact q
  · have e : i = ds.length := by omega
    subst e
    obtain ⟨vs, sh3, g3, rl⟩ := sh2.freeze hmp
    exact .inl ⟨j2 (Nat.le_refl _), k _ _ H2 _ M2 (done acc M2 hacc iv) ((g1.trans g2).trans g3) sh3 (.lst (.inl (.inl upd_same)) (rl.up g3))⟩
theorem ew_lc {elt : Expr} {scope : Scope} {own : List (Str × Nat)} (hc : X.calm = true) (hN : X.N.Nodup) (ok : BlkOk X.N X.env.scope scope own)
    (hg : ∀ (s : Shared) (H : Hp) (C : Addr) (cl : List (Str × Addr)) (fp : List Addr), PG (X.blk s H scope (compEnvC scope cl C X.env) fp) tg g) (hi : IW X tg iter ρ M (LcI X g own scope elt ρ Φ))
    (hs : ∀ x, foldedSetIterable iter X.env x = pure x := by intro _; rfl) : EW X (.ListComp elt [⟨tg, iter, [], 0⟩] scope pos) ρ M Φ :=
  (pe_lc hc hN hi ok hg (fun _ _ _ _ _ => pts_nil) (fun s H C cl fp => ⟨fun pins s' σ H' Q I ⟨ρ', M', Φ', hb, q⟩ => (hb s H C cl fp).run pins s' σ H' Q I q⟩) hs).mono fun σ H Q h => lcw_read σ H Q h
theorem sw_setLc (i : Nat) {y : Str} {py : Pos} {elt : Expr} {scope : Scope} {own : List (Str × Nat)} {spos : Pos} (hc : X.calm = true) (hN : X.N.Nodup) (ok : BlkOk X.N X.env.scope scope own)
    (hg : ∀ (s : Shared) (H : Hp) (C : Addr) (cl : List (Str × Addr)) (fp : List Addr), PG (X.blk s H scope (compEnvC scope cl C X.env) fp) tg g) (hi : IW X tg iter ρ M (LcI X g own scope elt ρ (fun d M1 => Ψ (.nx (ρ.set i (some d)) M1))))
    (hw : swapsWith (.ListComp elt [⟨tg, iter, [], 0⟩] scope pos) (some (.Name y py)) spos.line X.env = pure true := by rfl) (hy : X.N[i]? = some y := by rfl) (hl : X.env.scope.names.lookup y = some .local := by rfl)
    (hs : ∀ x, foldedSetIterable iter X.env x = pure x := by intro _; rfl) : SV X (.Assign [.Name y py] (.ListComp elt [⟨tg, iter, [], 0⟩] scope pos) spos) ρ M Ψ :=
  (ps_setLc hc hN hy hl hw hi ok hg (fun _ _ _ _ _ => pts_nil) (fun s H C cl fp => ⟨fun pins s' σ H' Q I ⟨ρ', M', Φ', hb, q⟩ => (hb s H C cl fp).run pins s' σ H' Q I q⟩) hs).mono fun E σ H ⟨G, sa, k⟩ =>
    lcw_read (Φ := fun d M1 => Ψ (.nx (ρ.set i (some d)) M1)) σ H _ ⟨G, sa, fun v G1 H1 d M1 q g1 sh1 r1 => k _ q _ G1 H1 g1 ⟨sh1, (sa.sl.up g1).set i r1⟩⟩
end
end Vt
namespace Vt
open PySem PySem.Spec PyProof.Rows L2
section
variable {X : Cx} {ρ : Sl} {M M1 : Mem} {a b c e : Expr} {pos : Pos} {Ψ : Out → Prop}
/-- x, y = a, b -/
theorem sw_par (i j : Nat) {x y : Str} {px py pt pt2 : Pos} {kt k2} (hc : X.calm = true) (hN : X.N.Nodup) (h : AW X [a, b] ρ M (fun ds M1 => ∃ d1 d2, ds = [d1, d2] ∧ Ψ (.nx ((ρ.set i (some d1)).set j (some d2)) M1)))
    (hij : i ≠ j := by decide) (hi : X.N[i]? = some x := by rfl) (hj : X.N[j]? = some y := by rfl) (hx : X.env.scope.names.lookup x = some .local := by rfl) (hy : X.env.scope.names.lookup y = some .local := by rfl)
    (hw : swappedStores [.Tuple [.Name x px, .Name y py] kt pt] (.Tuple [a, b] k2 pt2) X.env = pure (some [x, y]) := by rfl) : SV X (.Assign [.Tuple [.Name x px, .Name y py] kt pt] (.Tuple [a, b] k2 pt2) pos) ρ M Ψ :=
  (ps_par hc hN hi hj hij hx hy h hw).mono fun E σ H ⟨G, sa, k⟩ => ⟨G, sa, fun vs G1 H1 ds M1 ⟨d1, d2, e, q⟩ g1 sh1 r1 => by
    subst e
    match vs, r1 with
    | [v1, v2], .cons r1 (.cons r2 .nil) => exact ⟨v1, v2, rfl, k _ q _ G1 H1 g1 ⟨sh1, ((sa.sl.up g1).set i r1).set j r2⟩⟩⟩
theorem sw_par3 (i j l : Nat) {x y z : Str} {px py pz pt pt2 : Pos} {kt k2} (hc : X.calm = true) (hN : X.N.Nodup) (h : AW X [a, b, c] ρ M (fun ds M1 => ∃ d1 d2 d3, ds = [d1, d2, d3] ∧ Ψ (.nx (((ρ.set i (some d1)).set j (some d2)).set l (some d3)) M1)))
    (hij : i ≠ j := by decide) (hil : i ≠ l := by decide) (hjl : j ≠ l := by decide) (hi : X.N[i]? = some x := by rfl) (hj : X.N[j]? = some y := by rfl) (hl : X.N[l]? = some z := by rfl) (hx : X.env.scope.names.lookup x = some .local := by rfl) (hy : X.env.scope.names.lookup y = some .local := by rfl) (hz : X.env.scope.names.lookup z = some .local := by rfl)
    (hw : swappedStores [.Tuple [.Name x px, .Name y py, .Name z pz] kt pt] (.Tuple [a, b, c] k2 pt2) X.env = pure (some [x, y, z]) := by rfl) : SV X (.Assign [.Tuple [.Name x px, .Name y py, .Name z pz] kt pt] (.Tuple [a, b, c] k2 pt2) pos) ρ M Ψ :=
  (ps_par3 hc hN hi hj hl hij hil hjl hx hy hz h hw).mono fun E σ H ⟨G, sa, k⟩ => ⟨G, sa, fun vs G1 H1 ds M1 ⟨d1, d2, d3, e, q⟩ g1 sh1 r1 => by
    subst e
    match vs, r1 with
    | [v1, v2, v3], .cons r1 (.cons r2 (.cons r3 .nil)) => exact ⟨v1, v2, v3, rfl, k _ q _ G1 H1 g1 ⟨sh1, (((sa.sl.up g1).set i r1).set j r2).set l r3⟩⟩⟩
end
end Vt
namespace Vt
open PySem PySem.Spec PyProof.Rows L2
/-! targets and walks over tuples or lists -/
def gSq (K : PySem.W.Frag) (b : Bool) (n : Nat) (t : TGs) : TG := if b = true then gUnl K n t else gTup K n t
section
variable {X : Cx} {K : PySem.W.Frag} {ρ ρ' ρ'' : Sl} {M M1 : Mem} {e : Expr} {es : List Expr} {d : D} {ds : List D} {pos : Pos} {g : TG} {gs : TGs} {tg : Expr}
theorem pg_sq (b : Bool) {k n : Nat} (hc : X.calm = true) (h : PGs X es gs) (hn : (assignEach es X.env).length = n := by rfl) (hst : (assignEach es X.env).findIdx? (·.1) = none := by rfl) : PG X (.Tuple es k pos) (gSq X.K b n gs) := by
  cases b with
  | true => exact pg_unl hc h hn hst
  | false => exact pg_tup hc h hn hst
theorem tg_sq {b : Bool} {n : Nat} (h : TG2 K gs ρ ds ρ') (hl : ds.length = n := by rfl) : TG1 K (gSq K b n gs) ρ (sq b ds) ρ' := by
  cases b with
  | true => exact tg_lst h hl
  | false => exact tg_tup h hl
theorem iv_sq {b : Bool} (h : EV X e ρ M (sq b ds) M1) : IV X tg e ρ M ds M1 := by
  cases b with
  | true => exact iv_list h
  | false => exact iv_tup h
/-- the same within a comprehension: what is stored in are slots of the block's own, vs -/
def TBs (K : PySem.W.Frag) (gs : TGs) (vs : List Nat) (ρ : Sl) (ds : List D) (ρ' : Sl) : Prop := ∀ xs σ0 σ G H Q, Same G H → RepS K G σ ρ → wipe σ vs = wipe σ0 vs → RepL K G xs ds → (∀ σ', RepS K G σ' ρ' → wipe σ' vs = wipe σ0 vs → Q σ' H) → gs xs σ H Q
def TB (K : PySem.W.Frag) (g : TG) (vs : List Nat) (ρ : Sl) (d : D) (ρ' : Sl) : Prop := ∀ x σ0 σ G H Q, Same G H → RepS K G σ ρ → wipe σ vs = wipe σ0 vs → Rep K G x d → (∀ σ', RepS K G σ' ρ' → wipe σ' vs = wipe σ0 vs → Q σ' H) → g x σ H Q
theorem wipe_set {vs : List Nat} {i : Nat} {x : Option V} (hi : i ∈ vs) : ∀ {σ : L2.St}, wipe (σ.set i x) vs = wipe σ vs := by
  induction vs with
  | nil => cases hi
  | cons v vs ih =>
    intro σ
    show (wipe (σ.set i x) vs).set v none = (wipe σ vs).set v none
    by_cases hv : i ∈ vs
    · rw [ih hv]
    · have e : i = v := by
        rcases List.mem_cons.mp hi with e | e
        · exact e
        · exact absurd e hv
      subst e
      have key : ∀ (ws : List Nat), i ∉ ws → ∀ σ : L2.St, wipe (σ.set i x) ws = (wipe σ ws).set i x := by
        intro ws
        induction ws with
        | nil => intro _ σ; rfl
        | cons w ws ihw =>
          intro hw σ
          show (wipe (σ.set i x) ws).set w none = ((wipe σ ws).set w none).set i x
          rw [ihw (fun z => hw (List.mem_cons_of_mem _ z)), List.set_comm _ _ (fun z => hw (by rw [z]; exact List.mem_cons_self))]
      rw [key vs hv, List.set_set]
theorem wipe_wipe {vs : List Nat} : ∀ {σ : L2.St}, wipe (wipe σ vs) vs = wipe σ vs := by
  have key : ∀ (ws vs : List Nat), (∀ v ∈ vs, v ∈ ws) → ∀ σ : L2.St, wipe (wipe σ vs) ws = wipe σ ws := by
    intro ws vs
    induction vs with
    | nil => intro _ σ; rfl
    | cons v vs ih =>
      intro h σ
      show wipe ((wipe σ vs).set v none) ws = _
      rw [wipe_set (h v List.mem_cons_self), ih (fun u hu => h u (List.mem_cons_of_mem _ hu))]
  exact fun {σ} => key vs vs (fun _ h => h) σ
theorem tb_name {vs : List Nat} {i : Nat} (hi : i ∈ vs := by decide) : TB K (gName i) vs ρ d (ρ.set i (some d)) := fun x σ0 σ G H Q e h hw r k => k _ (h.set i r) (by rw [wipe_set hi]; exact hw)
theorem tbs_nil {vs : List Nat} : TBs K gNil vs ρ [] ρ := fun xs σ0 σ G H Q e h hw r k => by
  cases r
  exact ⟨rfl, k σ h hw⟩
theorem tbs_cons {vs : List Nat} (h1 : TB K g vs ρ d ρ') (h2 : TBs K gs vs ρ' ds ρ'') : TBs K (gCons g gs) vs ρ (d :: ds) ρ'' := fun xs σ0 σ G H Q e h hw r k => by
  cases r with
  | cons r t => exact ⟨_, _, rfl, h1 _ σ0 σ G H _ e h hw r fun σ' h' hw' => h2 _ σ0 σ' G H _ e h' hw' t k⟩
theorem tb_tup {vs : List Nat} {n : Nat} (h : TBs K gs vs ρ ds ρ') (hl : ds.length = n := by rfl) : TB K (gTup K n gs) vs ρ (.tup ds) ρ' := fun x σ0 σ G H Q e h0 hw r k => by
  cases r with
  | tup q r => exact ⟨_, _, rfl, sqtUp e q, r.len.trans hl, h _ σ0 σ G H _ e h0 hw r k⟩
theorem tb_sq {vs : List Nat} {b : Bool} {n : Nat} (h : TBs K gs vs ρ ds ρ') (hl : ds.length = n := by rfl) : TB K (gSq K b n gs) vs ρ (sq b ds) ρ' := by
  cases b with
  | false => exact tb_tup h hl
  | true =>
    intro x σ0 σ G H Q e h0 hw r k
    cases (show Rep K G x (.lst ds) from r) with
    | lst q r => exact ⟨_, _, rfl, sqlUp e q, r.len.trans hl, h _ σ0 σ G H _ e h0 hw r k⟩
theorem tgb_of {vs : List Nat} (h : TB K g vs ρ d ρ') : TGb K g vs ρ d ρ' := fun x σ G H Q e hs r k => h x σ (wipe σ vs) G H Q e hs wipe_wipe r k
end
end Vt
namespace Vt
open PySem PySem.Spec PyProof.Rows L2
/-! ### enumerate of a tuple -/
end Vt
namespace VtEnum
open PySem
open PySem.Sem (wp)
open AutoSeq1 (wpAny_loadPart')
/-- what enumerate(t) makes: the walk of t, and the enumeration -/
def walkO (t : Addr) : Obj := { cls := .type "tuple_iterator", data := .fields #[.ref t, .int 0 0] }
def enumO (it : Addr) (i : Int) (old : Value) : Obj := { cls := .type "enumerate", data := .fields #[.none, .bool false, .ref it, rawInt i, .none, old] }
theorem meets_new (t : Addr) (items : Array Value) (n : Nat) (dd : Option Addr) (sl : Array (Option Value)) :
    Meets (Builtin.«enumerate.__new__» ⟨[.type "enumerate", .ref t], []⟩) (fun _ R s => s.heap.get? t = some { cls := .type "tuple", dict := dd, data := .seq items n, slots := sl } ∧
      R (.ok (.ret (.ref (s.heap.push (walkO t)).objs.size))) { s with heap := (s.heap.push (walkO t)).push (enumO s.heap.objs.size 0 .none) }) :=
  .of_wp fun prog w A R s z => by
    obtain ⟨hp, gens, dr, tk, os⟩ := s
    obtain ⟨ht, z⟩ := z
    have sub := sub_enumerate
    have isT : Heap.IsTuple (Shared.heap ⟨hp, gens, dr, tk, os⟩) t items := ⟨_, ht, rfl, n, rfl⟩
    wp_walk using wpAny_loadPart' ht
    refine wpAny_stack_any fun _ => wpAny_pure ?_
    split
    · rename_i c _ _ _ _ _
      cases (c == Value.type "enumerate") <;>
      · wp_walk using wpAny_loadPart' ht, wpAny_pyIter_tuple isT
        exact ⟨_, rfl, z⟩
    · wp_walk using wpAny_loadPart' ht, wpAny_pyIter_tuple isT
      exact ⟨_, rfl, z⟩
section
variable {prog : Program} {w : World} {A : Around} {E : Value → Shared → Prop} {s : Shared}
theorem call_new {t : Addr} {items : Array Value} {Q : Value → Shared → Prop} (isT : s.heap.IsTuple t items)
    (k : ∀ h', IsEnum h' (s.heap.objs.size + 1) s.heap.objs.size 0 .none → h'.IsTupleIter s.heap.objs.size t 0 → (∀ b o, s.heap.get? b = some o → h'.get? b = some o) → Q (.ref (s.heap.objs.size + 1)) { s with heap := h' }) :
    wpAny (model prog w) A (call (.type "enumerate") [.ref t]) Q E s := by
  obtain ⟨⟨c, dct, dt, sl⟩, ht, hc, n, hd⟩ := isT
  have hc : c = .type "tuple" := hc
  have hd : dt = .seq items n := hd
  subst hc hd
  have sz : (s.heap.push (walkO t)).objs.size = s.heap.objs.size + 1 := Heap.size_push ..
  have e1 : IsEnum ((s.heap.push (walkO t)).push (enumO s.heap.objs.size 0 .none)) (s.heap.objs.size + 1) s.heap.objs.size 0 .none := by
    have q := Heap.get?_push_size (s.heap.push (walkO t)) (o := enumO s.heap.objs.size 0 .none) rfl
    rwa [sz] at q
  refine callType_new F.called_enumerate (by decide) (F.typeCall_enumerate_1 _) (F.newCall_enumerate_1 _) (fun obj => F.args_object_init_2 obj _) F.entry_enumerate_new (meets_new t items n dct sl) ⟨ht, ?_⟩
  show _ ∧ _
  rw [sz]
  exact ⟨⟨_, e1, rfl⟩, k _ e1 ⟨_, Heap.get?_push_of_some _ (Heap.get?_push_size _ rfl), rfl, rfl⟩ fun b o x => Heap.get?_push_of_some _ (Heap.get?_push_of_some _ x)⟩
/-- a turn -/
theorem turn_item {e it t : Addr} {i : Nat} {items : Array Value} {x old : Value} {Q : Value → Shared → Prop} (en : IsEnum s.heap e it i old) (wk : s.heap.IsTupleIter it t i) (tp : s.heap.IsTuple t items) (hx : items[i]? = some x) (apart : e ≠ it)
    (k : ∀ h', IsEnumOut h' e it ((i : Int) + 1) x s.heap.objs.size → h'.IsTupleIter it t (i + 1) → h'.get? s.heap.objs.size = some { cls := .type "tuple", data := .seq #[.int i s.toks, x] } →
      (∀ b o, b ≠ e → b ≠ it → s.heap.get? b = some o → h'.get? b = some o) → Q (.ref s.heap.objs.size) { s with heap := h', toks := s.toks + 1 }) :
    wpAny (model prog w) A (Builtin.«enumerate.__next__» ⟨[.ref e], []⟩) (fun fin s' => ∃ v, fin = .done (.ret v) ∧ Q v s') E s := by
  obtain ⟨h0, gens, dr, tk, os⟩ := s
  have back := apart.symm
  show wpAny _ _ (field (.ref e) 2 >>= _) _ _ _
  apply wpAny_bind
  refine wpAny_field en rfl (x := .ref it) rfl (wpAny_bind (RZ.nextOf_tuple_item wk tp hx fun h1 wk1 (q1 : Heap.SameBut it h0 h1) => ?_))
  have en1 : IsEnum h1 e it i old := (q1.2 e apart).trans en
  show wpAny _ _ (field (.ref e) 3 >>= _) _ _ ⟨h1, gens, dr, tk, os⟩
  refine wpAny_bind (wpAny_field en1 rfl (x := rawInt i) rfl ?_)
  show wpAny _ _ (field (.ref e) 4 >>= _) _ _ ⟨h1, gens, dr, tk, os⟩
  refine wpAny_bind (wpAny_field en1 rfl (x := .none) rfl ?_)
  show wpAny _ _ (mkInt i >>= _) _ _ ⟨h1, gens, dr, tk, os⟩
  refine wpAny_bind (wpAny_mkInt ?_)
  show wpAny _ _ (setField (.ref e) 3 (rawInt ((i : Int) + 1)) >>= _) _ _ ⟨h1, gens, dr, tk + 1, os⟩
  refine wpAny_bind (wpAny_setField_rec en1 (by simp) fun h2 (en2 : IsEnum h2 e it ((i : Int) + 1) old) (q2 : Heap.SameBut e h1 h2) => ?_)
  show wpAny _ _ (setField (.ref e) 4 .none >>= _) _ _ ⟨h2, gens, dr, tk + 1, os⟩
  refine wpAny_bind (wpAny_setField_rec en2 (by simp) fun h3 (en3 : IsEnum h3 e it ((i : Int) + 1) old) (q3 : Heap.SameBut e h2 h3) => ?_)
  show wpAny _ _ (newTuple [.int i tk, x] >>= _) _ _ ⟨h3, gens, dr, tk + 1, os⟩
  refine wpAny_bind (wpAny_newTuple ?_)
  have s3 : h3.objs.size = h0.objs.size := by rw [q3.1, q2.1, q1.1]
  have below : e < h0.objs.size := Heap.lt_size en
  obtain ⟨h4, e4⟩ : ∃ h4, h4 = h3.push { cls := .type "tuple", data := .seq #[.int i tk, x] } := ⟨_, rfl⟩
  have en4 : IsEnum h4 e it ((i : Int) + 1) old := by rw [e4]; exact Heap.get?_push_of_some _ en3
  have new4 : h4.get? h0.objs.size = some { cls := .type "tuple", data := .seq #[.int i tk, x] } := by rw [e4, ← s3]; exact Heap.get?_push_size _ rfl
  have old4 : ∀ b o, b ≠ e → b ≠ it → h0.get? b = some o → h4.get? b = some o := fun b o n1 n2 hb => by
    rw [e4]
    exact Heap.get?_push_of_some _ (q3.extBut b o n1 (q2.extBut b o n1 (q1.extBut b o n2 hb)))
  have wk4 : h4.IsTupleIter it t (i + 1) := by
    obtain ⟨o, ho, r⟩ := (wk1.extBut q2.extBut back).extBut q3.extBut back
    rw [e4]
    exact ⟨o, Heap.get?_push_of_some _ ho, r⟩
  show wpAny _ _ (Builtin.SmallTypes.ownedTupleIsFree (.ref e) >>= _) _ _ ⟨_, gens, dr, tk + 1, os⟩
  rw [← e4, s3]
  clear e4 en3 q3 en2 q2 en1 q1 wk1 s3
  refine wpAny_bind ?_
  unfold Builtin.SmallTypes.ownedTupleIsFree
  refine wpAny_bind (wpAny_field en4 rfl (x := .none) rfl (wpAny_pure ?_))
  simp only [if_true]
  refine wpAny_bind (wpAny_rule (wpAny_bind (wpAny_field en4 rfl (x := old) rfl (wpAny_bind (wpAny_setField_rec en4 (by simp) fun h5 (en5 : IsEnum h5 e it ((i : Int) + 1) x) (q5 : Heap.SameBut e h4 h5) => ?_)))))
  show wpAny _ _ (Builtin.SmallTypes.ownedTupleHandOut (.ref e) (.ref h0.objs.size) >>= _) _ _ ⟨h5, gens, dr, tk + 1, os⟩
  refine wpAny_bind ?_
  unfold Builtin.SmallTypes.ownedTupleHandOut
  refine wpAny_bind (wpAny_setField_rec en5 (by simp) fun h6 (en6 : IsEnumOut h6 e it ((i : Int) + 1) x h0.objs.size) (q6 : Heap.SameBut e h5 h6) => ?_)
  refine wpAny_setField_rec en6 (by simp) fun h7 (en7 : IsEnumOut h7 e it ((i : Int) + 1) x h0.objs.size) (q7 : Heap.SameBut e h6 h7) => ?_
  have on : ∀ b o, b ≠ e → h4.get? b = some o → h7.get? b = some o := fun b o n hb => q7.extBut b o n (q6.extBut b o n (q5.extBut b o n hb))
  refine wpAny_bind (wpAny_letGo (wpAny_pure ⟨_, rfl, k h7 en7 ?_ (on _ _ (Nat.ne_of_gt below) new4) fun b o n1 n2 hb => on b o n1 (old4 b o n1 n2 hb)⟩))
  exact ((wk4.extBut q5.extBut back).extBut q6.extBut back).extBut q7.extBut back
theorem next_item {e it t : Addr} {i : Nat} {items : Array Value} {x old : Value} {Q : Option Value → Shared → Prop} (en : IsEnum s.heap e it i old) (wk : s.heap.IsTupleIter it t i) (tp : s.heap.IsTuple t items) (hx : items[i]? = some x) (apart : e ≠ it)
    (k : ∀ h', IsEnumOut h' e it ((i : Int) + 1) x s.heap.objs.size → h'.IsTupleIter it t (i + 1) → h'.get? s.heap.objs.size = some { cls := .type "tuple", data := .seq #[.int i s.toks, x] } →
      (∀ b o, b ≠ e → b ≠ it → s.heap.get? b = some o → h'.get? b = some o) → Q (some (.ref s.heap.objs.size)) { s with heap := h', toks := s.toks + 1 }) : wpAny (model prog w) A (pyNext (.ref e)) Q E s := by
  have ty : s.TypeIs (.ref e) "enumerate" := ⟨_, en, rfl⟩
  unfold pyNext
  refine wpAny_bind (wpAny_attempt (wpAny_callSpecial?_slot (name := Str.ofString "__next__") ty F.slot_enumerate_next (wpAny_call_entry F.slot_enumerate_next ty F.entry_enumerate_next ?_ (F.args_enumerate_next_1 _))))
  exact turn_item en wk tp hx apart fun h' a b c d => wpAny_pure (k h' a b c d)
theorem next_end {e it t : Addr} {i : Nat} {items : Array Value} {old : Value} {Q : Option Value → Shared → Prop} (hh : A.handled = none) (en : IsEnum s.heap e it i old) (wk : s.heap.IsTupleIter it t i) (tp : s.heap.IsTuple t items) (hx : items[i]? = none)
    (k : ∀ h', Heap.ExtBut it s.heap h' → Q none { s with heap := h' }) : wpAny (model prog w) A (pyNext (.ref e)) Q E s := by
  have ty : s.TypeIs (.ref e) "enumerate" := ⟨_, en, rfl⟩
  unfold pyNext
  refine wpAny_bind (wpAny_attempt (wpAny_callSpecial?_slot (name := Str.ofString "__next__") ty F.slot_enumerate_next (wpAny_call_entry F.slot_enumerate_next ty F.entry_enumerate_next ?_ (F.args_enumerate_next_1 _))))
  show wpAny _ _ (field (.ref e) 2 >>= _) _ _ _
  refine wpAny_bind (wpAny_field en rfl (x := .ref it) rfl (wpAny_bind (RZ.nextOf_tuple_end hh wk tp hx fun h' y ext ⟨o, ho, hc⟩ => ?_)))
  exact wpAny_bind (wpAny_isInstance (T := "StopIteration") (b := true) ⟨o, ho, hc⟩ isSubtype_stop (wpAny_pure (k _ ext)))
end
end VtEnum
namespace Vt
open PySem PySem.Spec PyProof.Rows L2
/-- the tuple at a, its items in new pairs -/
def Ite2 (K : PySem.W.Frag) (a : Addr) : It :=
  ⟨fun i H => ∃ (xs : List V) (x : V), SqT K H a xs ∧ xs[i]? = some x, fun i H v H' => ∃ T x, v = .ref T ∧ H T = none ∧ H' = upd H T (.tup [.int (i : Nat), x]) ∧ ∀ xs, SqT K H a xs → xs[i]? = some x, fun i H => ∃ xs : List V, SqT K H a xs ∧ xs.length ≤ i⟩
theorem turn_enumT {P : Program} {w : World} {K : PySem.W.Frag} {elts : List Expr} {kk : Nat} {tpos : Pos} (a e it : Addr) :
    Turn P w K (.Tuple elts kk tpos) (Ite2 K a) [e, it] e (fun i h => (∃ old, IsEnum h e it ((i : Nat) : Int) old) ∧ h.IsTupleIter it a i ∧ e ≠ it) where
  mem := List.mem_cons_self
  obj := by
    rintro i h ⟨⟨old, en⟩, ⟨o, ho, _, hd⟩, _⟩ b hb
    rcases List.mem_cons.mp hb with rfl | hb
    · exact ⟨_, en, fun v z => nomatch z⟩
    · rw [List.mem_singleton.mp hb]
      exact ⟨o, ho, fun v z => by rw [hd] at z; cases z⟩
  keep := by
    rintro i h h' ⟨⟨old, en⟩, wk, ne⟩ k
    exact ⟨⟨old, k e List.mem_cons_self _ en⟩, wk.at fun o z => k it (List.mem_cons_of_mem _ List.mem_cons_self) o z, ne⟩
  item := by
    intro X hP hw hK hc i pins s σ H E I hf st hg
    subst hP hw hK
    obtain ⟨⟨old, en⟩, wk, ne⟩ := st
    obtain ⟨xs, x, hq, hx⟩ := hg
    obtain ⟨its, rv, p, hz⟩ := I.tuple hq
    obtain ⟨u, hu, ru⟩ := rv.get hx
    have le : e < s.heap.objs.size := Heap.lt_size en
    have li : it < s.heap.objs.size := by obtain ⟨_, z, _⟩ := wk; exact Heap.lt_size z
    refine VtEnum.next_item en wk p (x := u) (by simpa using hu) ne fun h' out wk' hT hk => ⟨_, rfl, wpAny_letOwnedTupleGo_enum (s := { s with heap := h', toks := s.toks + 1 }) out fun h'' en' sb => ?_⟩
    have hT2 : h''.get? s.heap.objs.size = some { cls := .type "tuple", data := .seq #[.int i s.toks, u] } := (sb.2 _ (Nat.ne_of_gt le)).trans hT
    have fresh : ObjOk X.prog X.w (upd H s.heap.objs.size (.tup [.int (i : Nat), x])) h'' s.heap.objs.size (.tup [.int (i : Nat), x]) := ⟨by show 2 ≤ sizeLine; decide, [.int i s.toks, u], .cons ⟨_, rfl⟩ (.cons ru .nil), ⟨_, hT2, rfl, _, rfl⟩⟩
    have two : ∀ b, b ∈ [e, it] → b = e ∨ b = it := fun b hb => by simpa using hb
    have J := I.turnedNew (t' := s.toks + 1) (ch := [e, it]) (fun b ob hb z => (sb.2 b (fun y => hb (by simp [y]))).trans (hk b ob (fun y => hb (by simp [y])) (fun y => hb (by simp [y])) z)) hf (Nat.le_refl _) fresh
    refine ⟨.ref s.heap.objs.size, _, J, rfl, ⟨_, x, rfl, I.hok.fresh (Nat.le_refl _), rfl, fun ys hy => by rw [I.tuple_inj hy hq]; exact hx⟩, ⟨⟨u, ?_⟩, wk'.at fun o z => (sb.2 it ne.symm).trans z, ne⟩, fun b hb => ?_⟩
    · rw [show ((i + 1 : Nat) : Int) = (i : Int) + 1 by omega]
      exact en'
    · have lb : b < s.heap.objs.size := by rcases two b hb with z | z <;> rw [z] <;> assumption
      rw [upd_ne (Nat.ne_of_lt lb)]
      exact (hf b hb).1
  done := by
    intro X hP hw hK hc i pins s σ H E I hf st hg
    subst hP hw hK
    obtain ⟨⟨old, en⟩, wk, ne⟩ := st
    obtain ⟨xs, hq, hx⟩ := hg
    obtain ⟨its, rv, p, hz⟩ := I.tuple hq
    obtain ⟨f0, f1, f2, f3, f4, f5⟩ := hf it (by simp)
    have hl := rv.length
    exact VtEnum.next_end (I.ok.hd hc) en wk p (by simp; omega) fun h' eb => ⟨rfl, I.turned (t' := s.toks) (fun b o hb z => eb b o hb z) f0 f1 f3 f4 f5⟩
  self := fun A i s Q E ⟨⟨_, en⟩, _⟩ h => wpAny_pyIter_enum en h
theorem pi_enumT {X : Cx} {e : Expr} {ta : TA} {p pos tpos : Pos} {elts : List Expr} {kk : Nat} (hg : Gl X "enumerate") (hm : X.mg "enumerate" = none) (ha : PA X [e] ta) (hs : starEach [e] X.env = [(false, eval e X.env)]) :
    PI X (.Tuple elts kk tpos) (.Call (.Name "enumerate" p) [e] [] pos) (fun σ H R => ta σ H fun vs H1 => ∃ a xs, vs = [.ref a] ∧ SqT X.K H1 a xs ∧ R (Ite2 X.K a) H1) := by
  refine ⟨fun pins s σ H R I h => Call_ (ld_blt I hg hm boot_enumerate (PyProof.Rows.callWith_type1 (thn (ha.run pos pins s σ H _ I h) fun us s1 ⟨vs, H1, I1, r1, q1⟩ => ?_) hs rfl))⟩
  obtain ⟨a, xs, rfl, hq, q⟩ := q1
  obtain ⟨u, rfl, ru⟩ := vals1 r1
  obtain rfl : u = Value.ref a := ru
  obtain ⟨its, rv, tp, hz⟩ := I1.tuple hq
  refine VtEnum.call_new tp fun h' en wk hk => wpAny_pyIter_enum en ?_
  have I2 : Inv X pins σ H1 { s1 with heap := h' } := I1.kept (t' := s1.toks) hk
  refine ⟨s1.heap.objs.size + 1, [s1.heap.objs.size + 1, s1.heap.objs.size], _, _, H1, rfl, I2, turn_enumT a (s1.heap.objs.size + 1) s1.heap.objs.size, ⟨⟨.none, en⟩, wk, Nat.succ_ne_self _⟩, fun b hb => ?_, q⟩
  have hle : s1.heap.objs.size ≤ b := by
    rcases List.mem_cons.mp hb with z | hb
    · rw [z]; exact Nat.le_succ _
    · rw [List.mem_singleton.mp hb]; exact Nat.le_refl _
  exact I1.fpOk hle (I1.hok.fresh hle)
end Vt
namespace Vt
open PySem PySem.Spec PyProof.Rows L2
/-! ### more of the relational calculus -/
def enD : Nat → List D → List D
  | _, [] => []
  | k, d :: ds => .tup [dI (k : Int), d] :: enD (k + 1) ds
theorem enD_len : ∀ (ds : List D) (k : Nat), (enD k ds).length = ds.length
  | [], _ => rfl
  | _ :: ds, k => congrArg (· + 1) (enD_len ds (k + 1))
theorem enD_get : ∀ {ds : List D} {k i : Nat} {d : D}, (enD k ds)[i]? = some d → ∃ e, ds[i]? = some e ∧ d = .tup [dI ((k + i : Nat) : Int), e]
  | [], _, _, _, h => by simp [enD] at h
  | e :: ds, k, 0, d, h => ⟨e, rfl, by simpa [enD] using h.symm⟩
  | e :: ds, k, i + 1, d, h => by
    obtain ⟨e', h1, h2⟩ := enD_get (ds := ds) (k := k + 1) (i := i) (by simpa [enD] using h)
    exact ⟨e', by simpa using h1, by rw [h2, show k + 1 + i = k + (i + 1) by omega]⟩
theorem enD_at : ∀ {ds : List D} {k i : Nat} {e : D}, ds[i]? = some e → (enD k ds)[i]? = some (.tup [dI ((k + i : Nat) : Int), e])
  | [], _, _, _, h => by simp at h
  | e :: ds, k, 0, _, h => by
    cases h
    rfl
  | e :: ds, k, i + 1, d, h => by
    have q := enD_at (ds := ds) (k := k + 1) (i := i) (e := d) (by simpa using h)
    rw [show k + 1 + i = k + (i + 1) by omega] at q
    simpa [enD] using q
theorem RepL.rev {K : PySem.W.Frag} {G : Hp} : ∀ {vs : List V} {ds : List D}, RepL K G vs ds → RepL K G vs.reverse ds.reverse
  | _, _, .nil => .nil
  | _, _, .cons h t => by
    rw [List.reverse_cons, List.reverse_cons]
    exact (RepL.rev t).append (.cons h .nil)
theorem RepL.drop {K : PySem.W.Frag} {G : Hp} : ∀ {vs : List V} {ds : List D} (n : Nat), RepL K G vs ds → RepL K G (vs.drop n) (ds.drop n)
  | _, _, 0, h => h
  | _, _, _ + 1, .nil => .nil
  | _, _, n + 1, .cons _ t => RepL.drop n t
theorem RepL.take {K : PySem.W.Frag} {G : Hp} : ∀ {vs : List V} {ds : List D} (n : Nat), RepL K G vs ds → RepL K G (vs.take n) (ds.take n)
  | _, _, 0, _ => .nil
  | _, _, _ + 1, .nil => .nil
  | _, _, n + 1, .cons h t => .cons h (RepL.take n t)
def cutD (ds : List D) (lo hi : Option Int) : List D := (ds.drop (HT.sIx ds.length 0 lo)).take (HT.sIx ds.length ds.length hi - HT.sIx ds.length 0 lo)
theorem cut_rep {K : PySem.W.Frag} {G : Hp} {vs : List V} {ds : List D} {lo hi : Option Int} (r : RepL K G vs ds) : RepL K G (cutV vs lo hi) (cutD ds lo hi) := by
  unfold cutV cutD
  rw [r.len]
  exact (r.drop _).take _
section
variable {X : Cx} {K : PySem.W.Frag} {ρ ρ' : Sl} {M M1 M2 M3 : Mem} {a b c e : Expr} {es : List Expr} {d d1 d2 : D} {ds : List D} {pos : Pos} {Ψ : Out → Prop} {Φ : D → Mem → Prop} {ΦI : List D → Mem → Prop}
theorem pairR {G : Hp} {H : Hp} {M : Mem} {T : Addr} {i : Int} {x : V} {d : D} (sh : SH K G H M) (hT : H T = none) (r : Rep K G x d) : ∃ G3, Same G G3 ∧ SH K G3 (upd H T (.tup [.int i, x])) M ∧ Rep K G3 (.ref T) (.tup [dI i, d]) := by
  obtain ⟨sh2, g2⟩ := sh.new (o := .tup [V.int i, x]) hT
  exact ⟨_, g2, sh2, .tup (.inl (.inl upd_same)) (.cons (.val _) (.cons (r.up g2) .nil))⟩
theorem JW2.enumL {p : Addr} {vs : List V} {G : Hp} (q : SqL K G p vs) (r : RepL K G vs ds) : JW2 K (Ite K p) G (enD 0 ds) := fun i H g => ⟨fun d h => by
    obtain ⟨e, h1, rfl⟩ := enD_get h
    obtain ⟨v, hv, rv⟩ := r.get h1
    refine ⟨⟨vs, v, sqlUp g q, hv⟩, ?_⟩
    rintro x H' ⟨T, y, rfl, hT, rfl, e2⟩ G2 M g2 sh
    have := e2 vs (sqlUp g q)
    rw [hv] at this
    cases this
    rw [Nat.zero_add]
    exact pairR sh hT (rv.up g2), fun h => ⟨vs, sqlUp g q, by rw [r.len]; rw [enD_len] at h; exact h⟩⟩
theorem JW2.enumT {p : Addr} {vs : List V} {G : Hp} (q : SqT K G p vs) (r : RepL K G vs ds) : JW2 K (Ite2 K p) G (enD 0 ds) := fun i H g => ⟨fun d h => by
    obtain ⟨e, h1, rfl⟩ := enD_get h
    obtain ⟨v, hv, rv⟩ := r.get h1
    refine ⟨⟨vs, v, sqtUp g q, hv⟩, ?_⟩
    rintro x H' ⟨T, y, rfl, hT, rfl, e2⟩ G2 M g2 sh
    have := e2 vs (sqtUp g q)
    rw [hv] at this
    cases this
    rw [Nat.zero_add]
    exact pairR sh hT (rv.up g2), fun h => ⟨vs, sqtUp g q, by rw [r.len]; rw [enD_len] at h; exact h⟩⟩
/-- for .. in enumerate(x), x a tree -/
theorem iw_enum (b : Bool) {elts : List Expr} {kk : Nat} {tpos p : Pos} (hm : X.mg "enumerate" = none) (h : EV X e ρ M (sq b ds) M1) (q : ΦI (enD 0 ds) M1) (hg : Gl X "enumerate" := by rfl) (hst : starEach [e] X.env = [(false, eval e X.env)] := by rfl) : IW X (.Tuple elts kk tpos) (.Call (.Name "enumerate" p) [e] [] pos) ρ M ΦI := by
  cases b with
  | true => exact (pi_enum hg hm (av_cons h av_nil hst) hst).mono fun σ H R ⟨G, sa, k⟩ => ⟨G, sa, fun vs G1 H1 g1 sh1 r1 => by
      cases r1 with
      | cons r t =>
        cases t
        cases (show Rep X.K G1 _ (.lst ds) from r) with
        | lst q' r => exact ⟨_, _, rfl, sqlUp sh1.le q', k _ G1 H1 _ M1 q g1 sh1 (JW2.enumL q' r)⟩⟩
  | false => exact (pi_enumT hg hm (av_cons h av_nil hst) hst).mono fun σ H R ⟨G, sa, k⟩ => ⟨G, sa, fun vs G1 H1 g1 sh1 r1 => by
      cases r1 with
      | cons r t =>
        cases t
        cases (show Rep X.K G1 _ (.tup ds) from r) with
        | tup q' r => exact ⟨_, _, rfl, sqtUp sh1.le q', k _ G1 H1 _ M1 q g1 sh1 (JW2.enumT q' r)⟩⟩
/-- xs[::-1], xs a tree or a list of the memory -/
theorem ew_rev {kk : Nat} {p1 p2 p3 : Pos} (h : EW X e ρ M (fun d M1 => ∃ ds, (d = .lst ds ∨ ∃ p, d = dP p ∧ M1 p = some (.lst ds)) ∧ Φ (.lst ds.reverse) M1)) : EW X (.Subscript e (.Slice none none (some (.UnaryOp .USub (.Constant (.int 1) kk p1) p2)) p3) pos) ρ M Φ :=
  (pe_revL h).mono fun σ H Q ⟨G, sa, k⟩ => ⟨G, sa, fun v G1 H1 d M1 ⟨ds, c, q⟩ g1 sh1 r1 => by
    have key : ∃ p vs, v = .ref p ∧ SqL X.K H1 p vs ∧ RepL X.K G1 vs ds := by
      rcases c with rfl | ⟨p, rfl, hp⟩
      · cases r1 with
        | lst q' r => exact ⟨_, _, rfl, sqlUp sh1.le q', r⟩
      · obtain ⟨_, vs, hv, r⟩ := sh1.mem p _ hp
        exact ⟨p, vs, r1.of_val, .inl (.inl hv), r⟩
    obtain ⟨p, vs, rfl, hs, r⟩ := key
    have rr : RepL X.K G1 vs.reverse ds.reverse := r.rev
    refine ⟨p, vs, rfl, hs, fun p' hp' => ?_⟩
    obtain ⟨sh2, g2⟩ := sh1.new (o := .lst vs.reverse) hp'
    exact k _ _ _ _ M1 q (g1.trans g2) sh2 (.lst (.inl (.inl upd_same)) (rr.up g2))⟩
/-- xs[i] = e, any sign -/
theorem sw_setItem {tp : Pos} (he : EW X e ρ M (fun d M1 => ∃ p i ds j, EV X a ρ M1 (dP p) M1 ∧ EV X b ρ M1 (dI i) M1 ∧ M1 p = some (.lst ds) ∧ ixN ds.length i = some j ∧ Ψ (.nx ρ (M1.set p (.lst (ds.set j d))))))
    (ha : ∀ v, assign (.Subscript a b tp) X.env v = (do
      let ov ← holding [v] (eval a X.env)
      let iv ← holding [v, ov] (eval b X.env)
      standAt tp
      holding [v, ov, iv] (setItem ov iv v)
      release [v, ov, iv] []) := by intro _; rfl)
    (hs : swapsWithSole [.Subscript a b tp] e pos.line X.env = pure false := by rfl) (hw : swappedStores [.Subscript a b tp] e X.env = pure none := by rfl)
    (h1 : (assignEach [.Subscript a b tp] X.env).map (·.2) = [assign (.Subscript a b tp) X.env] := by rfl) : SV X (.Assign [.Subscript a b tp] e pos) ρ M Ψ :=
  (ps_asg he (pg_sub (pk_e (ρ := ρ)) (pk_e (ρ := ρ)) set_list ha) hs hw h1).mono fun E σ H ⟨G, sa, k⟩ => ⟨G, sa, fun v G1 H1 d M1 ⟨p, i, ds, j, ho, hi, hm, hj, hΨ⟩ g1 sh1 r1 =>
    ⟨M1, fun d' M' => d' = dP p ∧ M' = M1, ew_ev ho ⟨rfl, rfl⟩, G1, ⟨sh1, sa.sl.up g1⟩, fun v2 G2 H2 d2 M2 ⟨e2, e2'⟩ g2 sh2 r2 => ⟨M1, fun d' M' => d' = dI i ∧ M' = M1, ew_ev hi ⟨rfl, rfl⟩, G2, ⟨by rw [e2'] at sh2; exact sh2, (sa.sl.up g1).up g2⟩, fun v3 G3 H3 d3 M3 ⟨e3, e3'⟩ g3 sh3 r3 => by
      subst e2 e3 e3'
      obtain ⟨_, vs, hv, rl⟩ := sh3.mem p _ hm
      exact ⟨p, vs, i, j, r2.of_val, r3.of_val, hv, by rw [rl.len]; exact hj, k _ hΨ σ G3 _ ((g1.trans g2).trans g3) ⟨sh3.put hm (rl.set ((r1.up g2).up g3) j), ((sa.sl.up g1).up g2).up g3⟩⟩⟩⟩⟩
/-- a tree's truth: a list, a tuple -/
theorem tv_sqT {b : Bool} (ha : EV X e ρ M (sq b ds) M1) (he : ∀ whole, isTrue e X.env whole = (do let v ← whole; standAt e.pos; holding [v] (truthy v)) := by intro _; rfl) : TV X e ρ M (!ds.isEmpty) M1 :=
  (pt_truth ha he).mono fun σ H Q ⟨G, sa, k⟩ => ⟨G, sa, fun v1 G1 H1 g1 sh1 r1 => by
    have emp : ∀ {vs : List V}, RepL X.K G1 vs ds → (!vs.isEmpty) = !ds.isEmpty := fun {vs} r => by
      have := r.len
      cases vs <;> cases ds <;> first | rfl | cases this
    cases b with
    | true =>
      cases (show Rep X.K G1 v1 (.lst ds) from r1) with
      | lst q r => exact ⟨_, .inl ⟨_, sqlUp sh1.le q, rfl⟩, by rw [emp r]; exact k G1 H1 g1 sh1⟩
    | false =>
      cases (show Rep X.K G1 v1 (.tup ds) from r1) with
      | tup q r => exact ⟨_, .inr (.inl ⟨_, sqtUp sh1.le q, rfl⟩), by rw [emp r]; exact k G1 H1 g1 sh1⟩⟩
/-- x[a:b] of a tree -/
theorem ev_sliceQ {b' : Bool} {lo hi : Option Expr} {o1 o2 : Option Int} {p2 : Pos} (ha : EV X a ρ M (sq b' ds) M1) (h1 : OV X lo ρ M1 o1 M2) (h2 : OV X hi ρ M2 o2 M3) : EV X (.Subscript a (.Slice lo hi none p2) pos) ρ M (sq b' (cutD ds o1 o2)) M3 := by
  cases b' with
  | true => exact (pe_slice sl_list ha h1 h2).mono fun σ H Q ⟨G, sa, k⟩ => ⟨G, sa, fun v G1 H1 g1 sh1 r1 => ⟨G1, ⟨sh1, sa.sl.up g1⟩, fun G2 H2 g2 sh2 => ⟨G2, ⟨sh2, (sa.sl.up g1).up g2⟩, fun G3 H3 g3 sh3 => by
      cases (show Rep X.K G1 v (.lst ds) from r1) with
      | lst q r =>
        refine ⟨_, _, rfl, sqlUp sh3.le (sqlUp g3 (sqlUp g2 q)), fun p hp => ?_⟩
        obtain ⟨sh4, g4⟩ := sh3.new (o := .lst _) hp
        exact k _ _ _ (((g1.trans g2).trans g3).trans g4) sh4 (.lst (.inl (.inl upd_same)) (cut_rep (((r.up g2).up g3).up g4)))⟩⟩⟩
  | false => exact (pe_slice sl_tupA ha h1 h2).mono fun σ H Q ⟨G, sa, k⟩ => ⟨G, sa, fun v G1 H1 g1 sh1 r1 => ⟨G1, ⟨sh1, sa.sl.up g1⟩, fun G2 H2 g2 sh2 => ⟨G2, ⟨sh2, (sa.sl.up g1).up g2⟩, fun G3 H3 g3 sh3 => by
      cases (show Rep X.K G1 v (.tup ds) from r1) with
      | tup q r =>
        refine ⟨_, _, rfl, sqtUp sh3.le (sqtUp g3 (sqtUp g2 q)), fun hw => ?_, fun hw p hp => ?_⟩
        · have e : cutD ds o1 o2 = ds := by
            rw [r.len] at hw
            unfold cutD
            rw [hw.1, hw.2, List.drop_zero, Nat.sub_zero, List.take_length]
          rw [e] at k
          exact k _ _ _ ((g1.trans g2).trans g3) sh3 (.tup (sqtUp g3 (sqtUp g2 q)) ((r.up g2).up g3))
        · obtain ⟨sh4, g4⟩ := sh3.new (o := .tup _) hp
          exact k _ _ _ (((g1.trans g2).trans g3).trans g4) sh4 (.tup (.inl (.inl upd_same)) (cut_rep (((r.up g2).up g3).up g4)))⟩⟩⟩
end
end Vt
namespace Vt
open PySem PySem.Spec PyProof.Rows L2
/-! is None of any tree -/
def D.isN : D → Bool
  | .val v => decide (v = .non)
  | .tup _ => false
  | .lst _ => false
  | .dic => false
section
variable {X : Cx} {ρ : Sl} {M M1 : Mem} {a e : Expr} {d : D} {pos : Pos} {Φ : D → Mem → Prop} {ΦT : Bool → Mem → Prop}
theorem isN_of {K : PySem.W.Frag} {G : Hp} {v : V} (r : Rep K G v d) : decide (v = .non) = d.isN := by
  cases r with
  | val v => rfl
  | tup _ _ => rfl
  | lst _ _ => rfl
  | dic _ => rfl
theorem ev_isNn {j} {p2 : Pos} (ha : EV X a ρ M d M1) : EV X (.Compare a [.Is] [.Constant .none j p2] pos) ρ M (dB d.isN) M1 :=
  (pe_cmp (pc_isN ha)).mono fun σ H Q ⟨G, sa, k⟩ => ⟨G, sa, fun v1 G1 H1 g1 sh1 r1 => by have q := k _ G1 H1 g1 sh1 (.val _); rw [← isN_of r1] at q; exact q⟩
theorem tv_isNn {j} {p2 : Pos} (ha : EV X a ρ M d M1) : TV X (.Compare a [.Is] [.Constant .none j p2] pos) ρ M d.isN M1 :=
  (pt_cmp (pc_isN ha)).mono fun σ H Q ⟨G, sa, k⟩ => ⟨G, sa, fun v1 G1 H1 g1 sh1 r1 => by have q := k G1 H1 g1 sh1; rw [← isN_of r1] at q; exact ⟨_, rfl, q⟩⟩
theorem ev_notNn {j} {p2 : Pos} (ha : EV X a ρ M d M1) : EV X (.Compare a [.IsNot] [.Constant .none j p2] pos) ρ M (dB (!d.isN)) M1 :=
  (pe_cmp (pc_notN ha)).mono fun σ H Q ⟨G, sa, k⟩ => ⟨G, sa, fun v1 G1 H1 g1 sh1 r1 => by have q := k _ G1 H1 g1 sh1 (.val _); rw [← isN_of r1] at q; exact q⟩
theorem tv_notNn {j} {p2 : Pos} (ha : EV X a ρ M d M1) : TV X (.Compare a [.IsNot] [.Constant .none j p2] pos) ρ M (!d.isN) M1 :=
  (pt_cmp (pc_notN ha)).mono fun σ H Q ⟨G, sa, k⟩ => ⟨G, sa, fun v1 G1 H1 g1 sh1 r1 => by have q := k G1 H1 g1 sh1; rw [← isN_of r1] at q; exact ⟨_, rfl, q⟩⟩
end
section
variable {X : Cx} {ρ : Sl} {M M1 : Mem} {a b e : Expr} {d : D} {ds : List D} {pos : Pos} {Φ : D → Mem → Prop} {ΦT : Bool → Mem → Prop}
/-- tuple + tuple -/
theorem ew_catT (h : EW X a ρ M (fun d1 M1 => ∃ ds, d1 = .tup ds ∧ EW X b ρ M1 (fun d2 M2 => ∃ es, d2 = .tup es ∧ ds.length + es.length ≤ sizeLine ∧ Φ (.tup (ds ++ es)) M2))) : EW X (.BinOp a .Add b pos) ρ M Φ :=
  (pe_op op_catA h pk_e).mono fun σ H Q ⟨G, sa, k⟩ => ⟨G, sa, fun v1 G1 H1 d1 M1 ⟨ds, e1, h⟩ g1 sh1 r1 => ⟨M1, _, h, G1, ⟨sh1, sa.sl.up g1⟩, fun v2 G2 H2 d2 M2 ⟨es, e2, hl, q⟩ g2 sh2 r2 => by
    subst e1 e2
    cases r1 with
    | tup q1 r =>
      cases r2 with
      | tup q2 r2 =>
        have rr := r.up g2
        refine ⟨_, _, _, _, rfl, rfl, sqtUp sh2.le (sqtUp g2 q1), sqtUp sh2.le q2, by rw [r.len, r2.len]; exact hl, fun e => ?_, fun _ e => ?_, fun _ _ p hp => ?_⟩
        · subst e
          cases rr
          exact k _ G2 H2 _ M2 q (g1.trans g2) sh2 (.tup q2 r2)
        · subst e
          cases r2
          rw [List.append_nil] at q
          exact k _ G2 H2 _ M2 q (g1.trans g2) sh2 (.tup (sqtUp g2 q1) rr)
        · obtain ⟨sh3, g3⟩ := sh2.new (o := .tup _) hp
          exact k _ _ _ _ M2 q ((g1.trans g2).trans g3) sh3 (.tup (.inl (.inl upd_same)) ((rr.append r2).up g3))⟩⟩
theorem atI_last {α : Type} {xs : List α} {x : α} (h : xs.getLast? = some x) : atI xs (-1) = some x := by
  rw [List.getLast?_eq_getElem?] at h
  have hl : 0 < xs.length := by
    rcases Nat.eq_zero_or_pos xs.length with e | e
    · rw [List.getElem?_eq_none (by omega)] at h
      cases h
    · exact e
  unfold atI ixN
  rw [if_neg (by omega), if_pos (by omega)]
  show xs[((-1 : Int) + xs.length).toNat]? = _
  rw [show ((-1 : Int) + (xs.length : Nat)).toNat = xs.length - 1 by omega]
  exact h
theorem ixN_last {n : Nat} (h : 0 < n) : ixN n (-1) = some (n - 1) := by
  unfold ixN
  rw [if_neg (by omega), if_pos (by omega), show ((-1 : Int) + n).toNat = n - 1 by omega]
end
end Vt
namespace Vt
open PySem PySem.Spec PyProof.Rows L2
/-! ### answers and errors: what an expression, a statement tells or raises -/
inductive Res where
  | ok (d : D)
  | ex (cls : Value) (dd : Option Addr)
inductive OutX where
  | o (o : Out)
  | ex (cls : Value) (dd : Option Addr) (ρ : Sl) (M : Mem)
def tU (K : PySem.W.Frag) (W : WX) (ρ : Sl) (M : Mem) (Φ : Res → Mem → Prop) : TE := fun σ H Q => ∃ G, SA K G H σ ρ M ∧ (∀ v G' H' d M', Φ (.ok d) M' → Same G G' → SH K G' H' M' → Rep K G' v d → Q v H') ∧
  ∀ cls dd G' H' M', Φ (.ex cls dd) M' → Same G G' → SH K G' H' M' → W cls dd σ H'
abbrev EU (X : Cx) (W : WX) (e : Expr) (ρ : Sl) (M : Mem) (Φ : Res → Mem → Prop) : Prop := PE X e (tU X.K W ρ M Φ)
def okX (K : PySem.W.Frag) (W : WX) (G0 : Hp) (E : Ends) : OutX → Prop
  | .o o => okE K G0 E o
  | .ex cls dd ρ M => ∀ σ G H, Same G0 G → SA K G H σ ρ M → W cls dd σ H
theorem okX.up {K : PySem.W.Frag} {W : WX} {G0 G1 : Hp} {E : Ends} {o : OutX} (e : Same G0 G1) (h : okX K W G0 E o) : okX K W G1 E o := by
  cases o with
  | o o => exact okE.up e h
  | ex cls dd ρ M => exact fun σ G H g => h σ G H (e.trans g)
def tSU (K : PySem.W.Frag) (W : WX) (ρ : Sl) (M : Mem) (Ψ : OutX → Prop) : TS := fun E σ H => ∃ G, SA K G H σ ρ M ∧ ∀ o, Ψ o → okX K W G E o
abbrev SU (X : Cx) (W : WX) (st : Stmt) (ρ : Sl) (M : Mem) (Ψ : OutX → Prop) : Prop := PS X st (tSU X.K W ρ M Ψ)
abbrev BU (X : Cx) (W : WX) (sts : List Stmt) (ρ : Sl) (M : Mem) (Ψ : OutX → Prop) : Prop := PSs X sts (tSU X.K W ρ M Ψ)
def pkU (X : Cx) (W : WX) (sts : List Stmt) (ρ : Sl) (Ψ : OutX → Prop) : TS := fun E σ H => ∃ M, BU X W sts ρ M Ψ ∧ tSU X.K W ρ M Ψ E σ H
theorem pk_u {X : Cx} {W : WX} {sts : List Stmt} {ρ : Sl} {Ψ : OutX → Prop} : PSs X sts (pkU X W sts ρ Ψ) := ⟨fun pins s σ H E I ⟨_, h, q⟩ => h.run pins s σ H E I q⟩
/-- a promise of a def that tells or raises -/
def spU (K : PySem.W.Frag) (R : List D → Mem → (Res → Mem → Prop) → Prop) : Sp := fun vs H Q E => ∃ G ds M Φ, SH K G H M ∧ RepL K G vs ds ∧ R ds M Φ ∧ (∀ v G' H' d M', Φ (.ok d) M' → Same G G' → SH K G' H' M' → Rep K G' v d → Q v H') ∧
  ∀ cls dd G' H' M', Φ (.ex cls dd) M' → Same G G' → SH K G' H' M' → E cls dd H'
section
variable {X : Cx} {W : WX} {ρ ρ1 ρ' : Sl} {M M1 M2 M' : Mem} {a b c e : Expr} {es : List Expr} {d : D} {ds : List D} {pos : Pos} {cls : Value} {st : Stmt} {rest : List Stmt} {Ψ : OutX → Prop} {Φ : Res → Mem → Prop}
theorem eu_ew {Φ' : D → Mem → Prop} (h : EW X e ρ M Φ') (q : ∀ d M, Φ' d M → Φ (.ok d) M) : EU X W e ρ M Φ := h.mono fun σ H Q ⟨G, sa, k, _⟩ => ⟨G, sa, fun v G1 H1 d M1 p => k v G1 H1 d M1 (q _ _ p)⟩
theorem eu_ev (h : EV X e ρ M d M1) (q : Φ (.ok d) M1) : EU X W e ρ M Φ := h.mono fun σ H Q ⟨G, sa, k, _⟩ => ⟨G, sa, fun v G1 H1 g1 sh1 r1 => k v G1 H1 d M1 q g1 sh1 r1⟩
theorem eu_call {k : Nat} {x : Str} {R : List D → Mem → (Res → Mem → Prop) → Prop} {p : Pos} (C : CalX X.prog X.w X.K X.mg X.base k x (spU X.K R)) (tk : Takes X W) (hr : Room k X.A) (h : AW X (e :: es) ρ M (fun ds M1 => R ds M1 Φ)) (hg : Gl X x := by rfl)
    (hd : (x == ("__debug__" : Str)) = false := by decide) (hst : starEach (e :: es) X.env = (false, eval e X.env) :: starEach es X.env := by rfl) (hpl : (backTo pos (starEach es X.env)).any (·.1) = false := by rfl) : EU X W (.Call (.Name x p) (e :: es) [] pos) ρ M Φ := by
  obtain ⟨f, fd, ps, hm, hk, hb, F⟩ := C.ex
  refine (pe_callS (E := WE W) F hr hg hm hk hb (passAt tk) h (hdb := hd) (he := hst) (hpl := hpl)).mono fun σ H Q ⟨G, sa, k1, k2⟩ => ⟨G, sa, fun vs G1 H1 ds M1 hp g1 sh1 r1 => ?_⟩
  exact ⟨G1, ds, M1, Φ, sh1, r1, hp, fun v G' H' d M' q g sh r => k1 v G' H' d M' q (g1.trans g) sh r, fun cls dd G' H' M' q g sh => k2 cls dd G' H' M' q (g1.trans g) sh⟩
theorem su_sv {Ψ' : Out → Prop} (h : SV X st ρ M Ψ') (q : ∀ o, Ψ' o → Ψ (.o o)) : SU X W st ρ M Ψ := h.mono fun E σ H ⟨G, sa, k⟩ => ⟨G, sa, fun o ho => k _ (q o ho)⟩
theorem bu_bv {Ψ' : Out → Prop} (h : BV X rest ρ M Ψ') (q : ∀ o, Ψ' o → Ψ (.o o)) : BU X W rest ρ M Ψ := h.mono fun E σ H ⟨G, sa, k⟩ => ⟨G, sa, fun o ho => k _ (q o ho)⟩
theorem su_to {Ψ' : OutX → Prop} (h : SU X W st ρ M Ψ') (q : ∀ o, Ψ' o → Ψ o) : SU X W st ρ M Ψ := h.mono fun E σ H ⟨G, sa, k⟩ => ⟨G, sa, fun o ho => k _ (q o ho)⟩
def thenU (X : Cx) (W : WX) (rest : List Stmt) (Ψ : OutX → Prop) : OutX → Prop
  | .o (.nx ρ M) => BU X W rest ρ M Ψ
  | o => Ψ o
theorem bu_nil (h : Ψ (.o (.nx ρ M))) : BU X W [] ρ M Ψ := pss_nil.mono fun E σ H ⟨G, sa, k⟩ => k _ h σ G H (Same.refl G) sa
theorem bu_cons (h : SU X W st ρ M (thenU X W rest Ψ)) : BU X W (st :: rest) ρ M Ψ := by
  refine (pss_cons (u := fun E σ H => ∃ ρ', pkU X W rest ρ' Ψ E σ H) h ⟨fun pins s σ H E I ⟨_, _, hb, q⟩ => hb.run pins s σ H E I q⟩).mono fun E σ H ⟨G, sa, k⟩ => ⟨G, sa, fun o ho => ?_⟩
  cases o with
  | ex cls dd ρ' M' => exact k _ ho
  | o o =>
    cases o with
    | nx ρ' M' => exact fun σ' G' H' g sa' => ⟨ρ', M', ho, G', sa', fun o' ho' => (k o' ho').up g⟩
    | ret d M' => exact k _ ho
    | bk ρ' M' => exact k _ ho
    | ct ρ' M' => exact k _ ho
theorem bu_one (h : SU X W st ρ M Ψ) : BU X W [st] ρ M Ψ := pss_one h
/-- a statement that raises nothing, ahead of others -/
theorem bu_sv (h : SV X st ρ M (fun o => match o with | .nx ρ' M' => BU X W rest ρ' M' Ψ | o => Ψ (.o o))) : BU X W (st :: rest) ρ M Ψ := bu_cons (su_sv h fun o ho => by
  cases o with
  | nx ρ' M' => exact ho
  | ret d M' => exact ho
  | bk ρ' M' => exact ho
  | ct ρ' M' => exact ho)
theorem su_if {as bs : List Stmt} (hc : TW X c ρ M (fun p M1 => (p = true → BU X W as ρ M1 Ψ) ∧ (p = false → BU X W bs ρ M1 Ψ))) : SU X W (.If c as bs pos) ρ M Ψ :=
  (ps_if hc pk_u pk_u).mono fun E σ H ⟨G, sa, k⟩ => ⟨G, sa, fun p G1 H1 M1 ⟨h1, h2⟩ g1 sh1 => by
    cases p with
    | true => exact (⟨M1, h1 rfl, G1, ⟨sh1, sa.sl.up g1⟩, fun o ho => (k o ho).up g1⟩ : pkU X W as ρ Ψ E σ H1)
    | false => exact (⟨M1, h2 rfl, G1, ⟨sh1, sa.sl.up g1⟩, fun o ho => (k o ho).up g1⟩ : pkU X W bs ρ Ψ E σ H1)⟩
theorem su_set (i : Nat) {x : Str} {pos' : Pos} (hN : X.N.Nodup) (he : EU X W e ρ M (fun r M1 => match r with | .ok d => Ψ (.o (.nx (ρ.set i (some d)) M1)) | .ex cls dd => Ψ (.ex cls dd ρ M1))) (hi : X.N[i]? = some x := by rfl) (hx : L2.Loc X.env.scope x := by first | exact Or.inl rfl | exact Or.inr rfl)
    (hs : swapsWith e (some (.Name x pos')) pos.line X.env = pure false := by rfl) (hf : X.fn x = true ∨ X.env.scope.names.lookup x = some .local := by first | exact .inl rfl | exact .inr rfl) : SU X W (.Assign [.Name x pos'] e pos) ρ M Ψ :=
  (ps_set hN hi hx he hs hf).mono fun E σ H ⟨G, sa, k⟩ => ⟨G, sa, fun v G1 H1 d M1 q g1 sh1 r1 => k _ q _ G1 H1 g1 ⟨sh1, (sa.sl.up g1).set i r1⟩, fun cls dd G1 H1 M1 q g1 sh1 => k _ q σ G1 H1 g1 ⟨sh1, sa.sl.up g1⟩⟩
theorem su_ret (he : EU X W e ρ M (fun r M1 => match r with | .ok d => Ψ (.o (.ret d M1)) | .ex cls dd => Ψ (.ex cls dd ρ M1))) : SU X W (.Return (some e) pos) ρ M Ψ :=
  (ps_ret he).mono fun E σ H ⟨G, sa, k⟩ => ⟨G, sa, fun v G1 H1 d M1 q g1 sh1 r1 => k _ q v G1 H1 g1 sh1 r1, fun cls dd G1 H1 M1 q g1 sh1 => k _ q σ G1 H1 g1 ⟨sh1, sa.sl.up g1⟩⟩
def loopU (Inv : Nat → Sl → Mem → Prop) (Ψ : OutX → Prop) (i : Nat) : OutX → Prop
  | .o (.nx ρ M) => Inv (i + 1) ρ M
  | .o (.ct ρ M) => Inv (i + 1) ρ M
  | .o (.bk ρ M) => Ψ (.o (.nx ρ M))
  | .o (.ret d M) => Ψ (.o (.ret d M))
  | .ex cls dd ρ M => Ψ (.ex cls dd ρ M)
theorem su_for {tg iter : Expr} {g : TG} {body : List Stmt} (hc : X.calm = true) (hg : PG X tg g)
    (hi : IW X tg iter ρ M (fun ds M1 => ∃ Iv : Nat → Sl → Mem → Prop, Iv 0 ρ M1 ∧ (∀ i d ρ' M', ds[i]? = some d → Iv i ρ' M' → ∃ ρ'', TG1 X.K g ρ' d ρ'' ∧ BU X W body ρ'' M' (loopU Iv Ψ i)) ∧ ∀ ρ' M', Iv ds.length ρ' M' → Ψ (.o (.nx ρ' M'))))
    (hp : PassesOwn (model X.prog X.w) X.A X.env X.xe) (hs : ∀ x, foldedSetIterable iter X.env x = pure x := by intro _; rfl) : SU X W (.For tg iter body [] pos) ρ M Ψ := by
  refine (ps_for (tb := fun E σ H => ∃ ρ Ψ', pkU X W body ρ Ψ' E σ H) hp hc hi hg ⟨fun pins s σ H E I ⟨_, _, _, hb, q⟩ => hb.run pins s σ H E I q⟩ hs).mono fun E σ H ⟨G, sa, k⟩ => ⟨G, sa, fun J G1 H1 ds M1 ⟨Iv, iv0, step, done⟩ g1 sh1 jw => ?_⟩
  refine ⟨fun i m σ H => m = ds.length - i ∧ i ≤ ds.length ∧ ∃ G ρ M, Same G1 G ∧ SA X.K G H σ ρ M ∧ Iv i ρ M, ⟨_, (Nat.sub_zero _).symm, Nat.zero_le _, G1, ρ, M1, Same.refl _, ⟨sh1, sa.sl.up g1⟩, iv0⟩, ?_⟩
  rintro i m σ2 H2 ⟨rfl, hi, G2, ρ2, M2, g2, sa2, iv⟩
  obtain ⟨j1, j2⟩ := jw i H2 (g2.trans sa2.sh.le)
  rcases Nat.lt_or_ge i ds.length with hlt | hge
  · obtain ⟨go, yl⟩ := j1 _ (List.getElem?_eq_getElem hlt)
    refine .inr ⟨go, fun σ3 H3 => ∃ G ρ M, Same G1 G ∧ SA X.K G H3 σ3 ρ M ∧ Iv (i + 1) ρ M, fun σ' H' p' => ⟨_, by omega, rfl, hlt, p'⟩, fun x H' y => ?_⟩
    obtain ⟨G3, g3, sh3, rx⟩ := yl x H' y G2 M2 g2 sa2.sh
    have g13 := g2.trans g3
    obtain ⟨ρ3, tg3, bv⟩ := step i _ ρ2 M2 (List.getElem?_eq_getElem hlt) iv
    refine tg3 x σ2 G3 H' _ sh3.le (sa2.sl.up g3) rx fun σ3 rs3 => ⟨ρ3, _, M2, bv, G3, ⟨sh3, rs3⟩, fun o ho => ?_⟩
    cases o with
    | ex cls dd ρ4 M4 => exact fun σ4 G4 H4 g4 sa4 => k _ ho σ4 G4 H4 ((g1.trans g13).trans g4) sa4
    | o o =>
      cases o with
      | nx ρ4 M4 => exact fun σ4 G4 H4 g4 sa4 => ⟨G4, ρ4, M4, g13.trans g4, sa4, ho⟩
      | ct ρ4 M4 => exact fun σ4 G4 H4 g4 sa4 => ⟨G4, ρ4, M4, g13.trans g4, sa4, ho⟩
      | bk ρ4 M4 => exact fun σ4 G4 H4 g4 sa4 => k _ ho σ4 G4 H4 ((g1.trans g13).trans g4) sa4
      | ret d4 M4 => exact fun v G4 H4 g4 sh4 r4 => k _ ho v G4 H4 ((g1.trans g13).trans g4) sh4 r4
  · obtain rfl : i = ds.length := by omega
    exact .inl ⟨j2 (Nat.le_refl _), k _ (done ρ2 M2 iv) σ2 G2 H2 (g1.trans g2) sa2⟩
end
def FinU (Φ : Res → Mem → Prop) : OutX → Prop
  | .o (.ret d M'') => ∃ M', Φ (.ok d) M' ∧ Mle M' M''
  | .o (.nx _ M'') => ∃ M', Φ (.ok dN) M' ∧ Mle M' M''
  | .ex cls dd _ M'' => ∃ M', Φ (.ex cls dd) M' ∧ Mle M' M''
  | _ => False
theorem calU_of {P : Program} {w : World} {K : PySem.W.Frag} {mg : Str → Option Value} {base : Heap} {x qual : Str} {sd : Stmt} {f : Addr} {fd : FuncData} {N ps : List Str} {k : Nat} {R : List D → Mem → (Res → Mem → Prop) → Prop} (F : Fun K x qual sd f fd) (S : FnScope N ps (defScope sd)) (hm : mg x = some (.ref f))
    (hbind : ∀ (kV doc pm : Value) (an : Option Addr) (cdv ct : Value) (us : List Value), us.length = ps.length → bindArgs (PySem.W.fnOf x qual (defArgs sd) (defBody sd) (defScope sd) .none kV doc pm an cdv ct) ⟨us, []⟩ = pure (ps.zip us))
    (len : ∀ ds M Φ, R ds M Φ → ds.length = ps.length)
    (hb : ∀ (cdv : Value) (A : Around) (outer : List Env) (s : Shared) (H : Hp) (E : XK) (ds : List D) (M : Mem) (Φ : Res → Mem → Prop), Room k (A.deeper (envOfC qual (defScope sd) s.heap.objs.size f cdv)) → R ds M Φ →
      ∀ W, Takes (cxOf (L2.CX P w) P w K mg base N qual (defScope sd) f cdv A outer s H E) W → PassesOwn (model P w) (cxOf (L2.CX P w) P w K mg base N qual (defScope sd) f cdv A outer s H E).A (cxOf (L2.CX P w) P w K mg base N qual (defScope sd) f cdv A outer s H E).env (cxOf (L2.CX P w) P w K mg base N qual (defScope sd) f cdv A outer s H E).xe →
      BU (cxOf (L2.CX P w) P w K mg base N qual (defScope sd) f cdv A outer s H E) W (defBody sd) (startD N ds) M (FinU Φ)) : CalX P w K mg base (k + 1) x (spU K R) :=
  ⟨f, fd, ps, hm, F.kp, F.binds hbind, F.okX S (fun vs H Q E ⟨G, ds, M, Φ, sh, r, p, q⟩ => by rw [r.len]; exact len _ _ _ p) fun cdv A outer s H vs Q E hr ⟨G, ds, M, Φ, sh, r, p, q1, q2⟩ => by
    refine ⟨_, hb cdv A outer s H E ds M Φ hr p (fun cls d _ H' => E cls d H') (takes_of (E := E) rfl rfl rfl rfl) (passes_of rfl), G, ⟨sh, start_rep r⟩, fun o ho => ?_⟩
    cases o with
    | ex cls dd ρ' M'' =>
      obtain ⟨M', hp, hm⟩ := ho
      exact fun σ' G' H' g sa' => q2 cls dd G' H' M' hp g (sa'.sh.weak hm)
    | o o =>
      cases o with
      | ret d' M'' =>
        obtain ⟨M', hp, hm⟩ := ho
        exact fun v G' H' g sh' r' => q1 v G' H' d' M' hp g (sh'.weak hm) r'
      | nx ρ' M'' =>
        obtain ⟨M', hp, hm⟩ := ho
        exact fun σ' G' H' g sa' => q1 _ G' H' dN M' hp g (sa'.sh.weak hm) (.val _)
      | bk ρ' M'' => exact ho.elim
      | ct ρ' M'' => exact ho.elim⟩
/-! ### defs as values -/
structure CalF (P : Program) (w : World) (K : PySem.W.Frag) (mg : Str → Option Value) (base : Heap) (k : Nat) (f : Addr) (sp : Sp) : Prop where
  ex : ∃ fd ps, PySem.W.keepIn K (.ref f) = true ∧ Binds K fd ps [] ∧ FnOk P w K mg base CX0 k f fd ps sp
theorem Cal.val {P : Program} {w : World} {K : PySem.W.Frag} {mg : Str → Option Value} {base : Heap} {k : Nat} {x : Str} {sp : Sp} (C : Cal P w K mg base k x sp) : ∃ f, mg x = some (.ref f) ∧ CalF P w K mg base k f sp :=
  let ⟨f, fd, ps, a, b, c, F⟩ := C.ex
  ⟨f, a, fd, ps, b, c, F⟩
section
variable {X : Cx} {ρ : Sl} {M M1 M2 : Mem} {e : Expr} {es : List Expr} {d : D} {ds : List D} {pos : Pos} {Φ : D → Mem → Prop}
/-- the name of a def, as a value -/
theorem ev_def {x : Str} {f : Addr} (hm : X.mg x = some (.ref f)) (hg : Gl X x := by rfl) (hd : (x == ("__debug__" : Str)) = false := by decide) : EV X (.Name x pos) ρ M (dP f) M :=
  ⟨fun pins s σ H Q I ⟨G, sa, k⟩ => ld_glob I hg hm ⟨.ref f, H, I, rfl, k _ G H (Same.refl G) sa.sh (.val _)⟩ hd⟩
theorem ev_callL {k : Nat} {x : Str} {f : Addr} {Pr : List D → Mem → D → Mem → Prop} {p : Pos} (i : Nat) (C : CalF X.prog X.w X.K X.mg X.base k f (spD X.K Pr)) (hr : Room k X.A) (hρ : ρ[i]? = some (some (dP f))) (ha : AV X (e :: es) ρ M ds M1) (hp : Pr ds M1 d M2) (hN : X.N[i]? = some x := by rfl) (hv : Vis X.env.scope x := by first | exact Or.inl rfl | exact Or.inr (Or.inl rfl) | exact Or.inr (Or.inr rfl))
    (hd : (x == ("__debug__" : Str)) = false := by decide) (hcd : (x == ("__classdict__" : Str)) = false := by decide) (hst : starEach (e :: es) X.env = (false, eval e X.env) :: starEach es X.env := by rfl) (hpl : (backTo pos (starEach es X.env)).any (·.1) = false := by rfl) : EV X (.Call (.Name x p) (e :: es) [] pos) ρ M d M2 := by
  obtain ⟨fd, ps, hk, hb, F⟩ := C.ex
  refine (pe_callL (i := i) (E := E0) F hr hN hv hk hb .nil (fun _ _ _ _ _ _ _ z => z.elim) ha hd hcd hst hpl).mono fun σ H Q ⟨G, sa, k⟩ => ?_
  obtain ⟨v, e1, r⟩ := sa.sl.2 i _ hρ
  rw [r.of_val] at e1
  refine ⟨e1, G, sa, fun vs G1 H1 g1 sh1 r1 => ?_⟩
  show spD X.K Pr (vs ++ []) H1 Q E0
  rw [List.append_nil]
  exact ⟨G1, ds, M1, d, M2, sh1, r1, hp, fun v G' H' g sh r => k v G' H' (g1.trans g) sh r⟩
end
end Vt
namespace Vt
open PySem PySem.Spec PyProof.Rows L2
/-! ### errors of the program with fields: made, raised, read -/
/-- what is known of the class at S whose __init__ is that of ValueError -/
structure BaseE (K : PySem.W.Frag) (S : Addr) : Prop where
  ga : PySem.W.specialIn K (.ref S) "__getattribute__" = some (some (.builtin "type.__getattribute__"))
  rd : PySem.W.readsIn K S (.type "type") = true
  ini : PySem.W.findCls K (.ref S) (.type "type") "__init__" = some (.val (.builtin "ValueError.__init__"))
theorem pe_seinit {X : Cx} {e : Expr} {es : List Expr} {p1 p2 pos : Pos} {ta : TA} {pl : Sem Bool} {S : Addr} (hg : Gl X "ScoreError") (hm : X.mg "ScoreError" = some (.ref S)) (B : BaseE X.K S) (ha : PA X (e :: es) ta)
    (hc : eval (.Call (.Attribute (.Name "ScoreError" p1) "__init__" p2) (e :: es) [] pos) X.env = (do
      let b ← eval (.Name "ScoreError" p1) X.env
      standAt p2.atName
      let (g, l) ← holding [b] (getMethod b "__init__" pl)
      callWith pos g l (backTo pos (starEach (e :: es) X.env)) (backToKw pos (keywordEach [] X.env))) := by rfl)
    (he : starEach (e :: es) X.env = (false, eval e X.env) :: starEach es X.env := by rfl) (hpl : (backTo pos (starEach es X.env)).any (·.1) = false := by rfl) :
    PE X (.Call (.Attribute (.Name "ScoreError" p1) "__init__" p2) (e :: es) [] pos) (tVeI X.K ta) := ⟨fun pins s σ H Q I h => by
  have run {s1 : Shared} (J : Inv X pins σ H s1) : wpAny (model X.prog X.w) X.A (callWith pos (Value.builtin "ValueError.__init__") [] (backTo pos (starEach (e :: es) X.env)) []) (fun u s2 => ∃ v H2, Inv X pins σ H2 s2 ∧ RelV v u ∧ Q v H2) X.xe s1 := by
    refine PyProof.Rows.callWith_method1 (thn (ha.run pos pins _ σ H _ J h) fun us s2 made => ?_) he hpl
    obtain ⟨vs, H2, I2, r, a, C, ws, rfl, short, T, at_, q⟩ := made
    cases r with
    | cons r1 r2 =>
      cases r1
      exact oinit_ok T I2 at_ (Nat.le_trans (Nat.le_of_eq (Paired.length r2).symm) (Nat.le_trans short (by decide))) fun s3 J3 => ⟨V.non, H2, J3, rfl, q⟩
  exact PySem.W.methodCall_KW (ld_glob I hg hm (PySem.W.method_cls I.kIn B.ga (PySem.W.cls_value I.kIn B.rd B.ini rfl (run (I.tok _)))) (by decide)) hc⟩
/-- what C(..) leaves: the fields' names, latest first, each with the place of its argument (behind self) -/
def spI (C : Addr) (fl : List (Str × Nat)) (pre : List V → Prop) : Sp := fun vs H Q _ => ∃ a args, vs = .ref a :: args ∧ H a = some (exo a C none) ∧ pre args ∧ ∀ dx, H dx = none → dx ≠ a → Q .non (upd (upd H dx (exd dx (fl.map fun p => (p.1, args.getD p.2 .non)))) a (exo a C (some dx)))
structure ErrC (P : Program) (w : World) (K : PySem.W.Frag) (mg : Str → Option Value) (base : Heap) (x : Str) (C : Addr) (fl : List (Str × Nat)) (pre : List V → Prop) : Prop where
  ok : OexC K C
  mgC : mg x = some (.ref C)
  ini : ∃ fI fd ps, PySem.W.findIn K (.ref C) "__init__" = some (some (.ref fI)) ∧ PySem.W.typeIn K (.ref fI) = some (.type "function") ∧ Binds K fd ps [] ∧ FnOk P w K mg base CX0 1 fI fd ps (spI C fl pre)
theorem exo_ne {a C dx : Addr} {fs : List (Str × V)} : exo a C none ≠ exd dx fs ∨ True := .inr trivial
/-- two fields stored -/
theorem upd_two {H : Hp} {a dx : Addr} {A A2 B B2 : HO} (n : dx ≠ a) : upd (upd (upd (upd H dx A) a B) dx A2) a B2 = upd (upd H dx A2) a B2 := by
  funext b
  by_cases ha : b = a
  · subst ha
    rw [upd_same, upd_same]
  · rw [upd_ne ha, upd_ne ha]
    by_cases hd : b = dx
    · subst hd
      rw [upd_same, upd_same]
    · rw [upd_ne hd, upd_ne ha, upd_ne hd, upd_ne hd]
/-- the second field behind the first -/
theorem upd_once {H : Hp} {a dx : Addr} {A A2 B : HO} (n : dx ≠ a) (hB : (upd (upd H dx A) a B) a = some B) : upd (upd (upd H dx A) a B) dx A2 = upd (upd H dx A2) a B := by
  funext b
  by_cases hd : b = dx
  · subst hd
    rw [upd_same, upd_ne n, upd_same]
  · rw [upd_ne hd]
    by_cases ha : b = a
    · subst ha
      rw [upd_same, upd_same]
    · rw [upd_ne ha, upd_ne ha, upd_ne hd, upd_ne hd]
theorem SH.newX {K : PySem.W.Frag} {G H : Hp} {M : Mem} {p : Addr} {o : HO} {mo : MO} (s : SH K G H M) (hp : H p = none) (r : AtM K G (upd H p o) p mo) : SH K G (upd H p o) (M.set p mo) ∧ M p = none := by
  have gp : G p = none := by
    cases e : G p with
    | none => rfl
    | some u =>
      have := s.le p u e
      rw [hp] at this
      cases this
  have mp : M p = none := by
    cases e : M p with
    | none => rfl
    | some mo =>
      obtain ⟨u, hu⟩ := (s.mem p mo e).2.some
      rw [hp] at hu
      cases hu
  refine ⟨⟨fun b u e => ?_, fun b mo' e => ?_⟩, mp⟩
  · rw [upd_ne (ne_of_none e gp)]
    exact s.le b u e
  · by_cases hb : b = p
    · subst hb
      rw [Mem.set_same] at e
      cases e
      exact ⟨gp, r⟩
    · rw [Mem.set_ne hb] at e
      exact ⟨(s.mem b mo' e).1, (s.mem b mo' e).2.up (Same.refl G) (upd_ne hb)⟩
theorem RepL.getD {K : PySem.W.Frag} {G : Hp} : ∀ {vs : List V} {ds : List D}, RepL K G vs ds → ∀ i, Rep K G (vs.getD i .non) (ds.getD i dN)
  | _, _, .nil, i => by
    rw [List.getD_eq_getElem?_getD, List.getD_eq_getElem?_getD, List.getElem?_nil, List.getElem?_nil]
    exact .val _
  | _, _, .cons r _, 0 => r
  | _, _, .cons _ t, i + 1 => RepL.getD t i
theorem repF_of {K : PySem.W.Frag} {G : Hp} {vs : List V} {ds : List D} (r : RepL K G vs ds) : ∀ fl : List (Str × Nat), RepF K G (fl.map fun p => (p.1, vs.getD p.2 .non)) (fl.map fun p => (p.1, ds.getD p.2 dN))
  | [] => .nil
  | (n, i) :: fl => .cons (r.getD i) (repF_of r fl)
section
variable {X : Cx} {W : WX} {ρ : Sl} {M M1 : Mem} {e : Expr} {es : List Expr} {pos pos' p : Pos} {Ψ : OutX → Prop}
theorem su_raiseF {x : Str} {C : Addr} {fl : List (Str × Nat)} {pre : List V → Prop} (hc : X.calm = true) (tk : Takes X W) (B : ErrC X.prog X.w X.K X.mg X.base x C fl pre) (hr : Room 2 X.A)
    (h : AW X (e :: es) ρ M (fun ds M1 => ds.length ≤ 1000 ∧ (∀ G vs, RepL X.K G vs ds → pre vs) ∧ ∀ dx, M1 dx = none → Ψ (.ex (.ref C) (some dx) ρ (M1.set dx (.xd (fl.map fun q => (q.1, ds.getD q.2 dN)))))))
    (hg : Gl X x := by rfl) (hdb : (x == ("__debug__" : Str)) = false := by decide) (he : starEach (e :: es) X.env = (false, eval e X.env) :: starEach es X.env := by rfl) (hpl : (backTo pos (starEach es X.env)).any (·.1) = false := by rfl) :
    SU X W (.Raise (some (.Call (.Name x p) (e :: es) [] pos)) none pos') ρ M Ψ := by
  obtain ⟨fI, fd, ps, i1, i2, i3, F⟩ := B.ini
  refine (L2.ps_raise hc tk (pmk_oex (dvs := []) B.ok i1 i2 F hr i3 .nil pass0 hg B.mgC h hdb he hpl)).mono fun E σ H ⟨G, sa, k⟩ => ⟨G, sa, fun vs G1 H1 ds M1 ⟨hl, hpre, q⟩ g1 sh1 r1 => ⟨by rw [r1.len]; exact hl, fun a ha => ?_⟩⟩
  show spI C fl pre (.ref a :: (vs ++ [])) _ _ _
  rw [List.append_nil]
  refine ⟨a, vs, rfl, upd_same, hpre _ _ r1, fun dx hdx hne => ⟨rfl, dx, _, upd_same, by rw [upd_ne hne]; exact upd_same, by rw [upd_ne hne] at hdx; exact hdx, ?_⟩⟩
  have hd1 : H1 dx = none := by rw [upd_ne hne] at hdx; exact hdx
  have eH : upd (L2.del (upd (upd (upd H1 a (exo a C none)) dx (exd dx (fl.map fun p => (p.1, vs.getD p.2 .non)))) a (exo a C (some dx))) a) dx (.xd (fl.map fun p => (p.1, vs.getD p.2 .non))) = upd H1 dx (.xd (fl.map fun p => (p.1, vs.getD p.2 .non))) := by
    funext b
    by_cases hb : b = dx
    · subst hb
      rw [upd_same, upd_same]
    · rw [upd_ne hb, upd_ne hb]
      by_cases hba : b = a
      · subst hba
        rw [del_same, ha]
      · rw [del_ne hba, upd_ne hba, upd_ne hb, upd_ne hba]
  rw [eH]
  obtain ⟨sh2, m0⟩ := sh1.newX (o := .xd (fl.map fun p => (p.1, vs.getD p.2 .non))) (mo := .xd (fl.map fun p => (p.1, ds.getD p.2 dN))) hd1 ⟨_, upd_same, repF_of r1 fl⟩
  exact k _ (q dx m0) σ G1 _ g1 ⟨sh2, sa.sl.up g1⟩
/-- e.f in the suite of an except -/
theorem ev_xfld {a C : Addr} {oe : Obj} {dd : Addr} {pn : List (Addr × Obj)} {n : Str} {d : D} {fs : List (Str × D)} (T : XfC X.K C) (hno : PySem.W.findIn X.K (.ref C) n = some none) (hz : Zc (.ref C) (some dd) oe) (hf : ∃ vs, oe.data = .fields vs)
    (he : EV (X.suite a ((a, oe) :: pn)) e ρ M (dP a) M) (hm : M dd = some (.xd fs)) (hl : fs.lookup n = some d) (hb : attributeBase e n X.env (eval e X.env) = eval e X.env := by rfl) : EV (X.suite a ((a, oe) :: pn)) (.Attribute e n pos) ρ M d M :=
  (pe_xf T hno hz hf he hb).mono fun σ H Q ⟨G, sa, k⟩ => ⟨G, sa, fun v G1 H1 g1 sh1 r1 => by
    obtain ⟨_, fv, hv, r⟩ := sh1.mem dd _ hm
    obtain ⟨u, e1, ru⟩ := r.get hl
    exact ⟨r1.of_val, rfl, dd, fv, u, rfl, hv, e1, k u G1 H1 g1 sh1 ru⟩⟩
theorem call_isF {a D : Addr} {oe : Obj} {dd : Option Addr} {pn : List (Addr × Obj)} (C : ExcC X.K D) (hcl : (PySem.W.clsIn X.K D).isSome = true) (hz : Zc (.ref D) dd oe) (hf : ∃ vs, oe.data = .fields vs) (hd : ∀ x, dd = some x → ∃ fs, M x = some (.xd fs)) :
    ∀ {ρ : Sl} {a1 : Expr} {e1 : Expr} {cv : Value} {vc : V} {r : Bool} {p pos : Pos}, (∀ u, RelV vc u → u = cv) → PySem.W.kitOne X.K (.ref D) cv = some r → X.mg "isinstance" = none → AV (X.suite a ((a, oe) :: pn)) [a1, e1] ρ M [dP a, .val vc] M → (hg : Gl (X.suite a ((a, oe) :: pn)) "isinstance") →
      (h1 : starEach [a1, e1] X.env = (false, eval a1 X.env) :: starEach [e1] X.env) → (hpl : (backTo pos (starEach [e1] X.env)).any (·.1) = false) → EV (X.suite a ((a, oe) :: pn)) (.Call (.Name "isinstance" p) [a1, e1] [] pos) ρ M (dB r) M := by
  intro ρ a1 e1 cv vc r p pos hcv hk hm ha hg h1 hpl
  refine (pe_callB (r := fun xs H Q => (∀ x, dd = some x → ∃ fs, H x = some (.xd fs)) ∧ xs = [.ref a, vc] ∧ Q (.bl r) H) ?_ hg hm boot_isinstance ha (hpl := hpl) (he := h1)).mono fun σ H Q ⟨G, sa, k⟩ => ⟨G, sa, fun vs G1 H1 g1 sh1 r1 => ?_⟩
  · intro pins s σ H xs us Q I rr h
    obtain ⟨hx, rfl, q⟩ := h
    cases rr with
    | cons rx rr =>
      cases rr with
      | cons rt rr =>
        cases rr
        cases rx
        obtain rfl := hcv _ rt
        obtain ⟨there, _⟩ := I.pin (a, oe) (List.mem_append.mpr (Or.inl List.mem_cons_self))
        obtain ⟨flds, isF⟩ := hf
        have at_ : ∃ od, PySem.W.InstAt s.heap a oe D od := by
          obtain ⟨z1, z2⟩ := hz
          have nc : PySem.W.notCls oe = true := by unfold PySem.W.notCls; rw [isF] <;> rfl
          cases dd with
          | none => exact ⟨none, there, z1, nc, by rw [z2]; trivial⟩
          | some x =>
            obtain ⟨fs, hfs⟩ := hx x rfl
            obtain ⟨mA, hns, _⟩ := (I.hok x _ hfs : ObjOk X.prog X.w H s.heap x (.xd fs))
            obtain ⟨ob, here, _⟩ := lookIn_ns hns
            exact ⟨some ob, there, z1, nc, by rw [z2]; exact here⟩
        obtain ⟨od, J⟩ := at_
        exact PySem.W.kia_one (PySem.W.kitx_exc (od := od) hcl C.hg C.hk C.hs C.ha C.hn C.ht C.hm) I.kIn J hk (fun z => nomatch z) fun tk => ⟨V.bl r, H, I.kept (t' := tk) fun _ _ z => z, rfl, q⟩
  · refine ⟨fun x hx => ?_, RepL.of_vals (xs := [.ref a, vc]) r1, k _ G1 H1 g1 sh1 (.val _)⟩
    obtain ⟨fs, hfs⟩ := hd x hx
    obtain ⟨_, fv, hv, _⟩ := sh1.mem x _ hfs
    exact ⟨fv, hv⟩
/-- isinstance(e, c) in the suite of an except, e with fields -/
theorem ev_isF {n x : Str} {a C : Addr} {oe : Obj} {dd : Option Addr} {pn : List (Addr × Obj)} {cv : Value} {vc : V} {r : Bool} {p2 p3 : Pos} {i : Nat} (hm : X.mg "isinstance" = none) (EC : ExcC X.K C) (hcl : (PySem.W.clsIn X.K C).isSome = true) (hz : Zc (.ref C) dd oe) (hf : ∃ vs, oe.data = .fields vs) (hd : ∀ x, dd = some x → ∃ fs, M x = some (.xd fs))
    (hv : ∀ u, RelV vc u → u = cv) (hk : PySem.W.kitOne X.K (.ref C) cv = some r) (ha : AV (X.suite a ((a, oe) :: pn)) [e, .Name x p2] ρ M [dP a, .val vc] M) (hg : Gl (X.suite a ((a, oe) :: pn)) "isinstance" := by rfl)
    (h1 : starEach [e, .Name x p2] X.env = (false, eval e X.env) :: starEach [.Name x p2] X.env := by rfl) (hpl : (backTo pos (starEach [.Name x p2] X.env)).any (·.1) = false := by rfl) :
    EV (X.suite a ((a, oe) :: pn)) (.Call (.Name "isinstance" p) [e, .Name x p2] [] pos) ρ M (dB r) M := call_isF EC hcl hz hf hd hv hk hm ha hg h1 hpl
end
end Vt
namespace Vt
open PySem PySem.Spec PyProof.Rows L2
/-! ### try around what tells or raises -/
def suiteR (i : Nat) (Ψ : Out → Prop) : Out → Prop
  | .ret d M => Ψ (.ret d M)
  | .nx ρ M => Ψ (.nx (ρ.set i none) M)
  | _ => False
section
variable {X : Cx} {ρ : Sl} {M : Mem} {pos : Pos} {Ψ : Out → Prop}
def tryR (X : Cx) (c1 c2 : Value) (C : Addr) (i : Nat) (suite : List Stmt) (Ψ : Out → Prop) : OutX → Prop
  | .o o => Ψ o
  | .ex cls dd ρ' M' => cls = .ref C ∧ ∀ (a : Addr) (oe : Obj) (pn : List (Addr × Obj)), Zc (.ref C) dd oe → (∃ vs, oe.data = .fields vs) → BV (X.suite a ((a, oe) :: pn)) suite (ρ'.set i (some (dP a))) M' (suiteR i Ψ)
theorem sv_tryU {body suite : List Stmt} {b₀ : Stmt} {x y z n : Str} {p1 p2 p3 p4 p5 p6 : Pos} {kk i : Nat} {nm : Option Str} {c0 : Stmt} {cr : List Stmt} {c1 c2 : Value} {C : Addr} (hs : X.stack = X.env :: X.outer) (hf : X.env.frame = some X.env.locals) (tk : Takes X (fun _ _ _ _ => False))
    (h1 : Names X x c1) (h2 : Names X y c2) (h3 : Names X z (.ref C)) (hno : PySem.W.exmAny X.K (.ref C) [c1, c2] = some false) (hyes : PySem.W.exmOne X.K (.ref C) (.ref C) = some true) (hN : X.N.Nodup) (hi : X.N[i]? = some n) (hln : X.env.kindOf n = some .local)
    (hb : ∀ (W : WX) (pn : List (Addr × Obj)) (xe : Value → Shared → Prop), Takes (X.tr pn xe) W → PassesOwn (model X.prog X.w) X.A X.env xe → BU (X.tr pn xe) W body ρ M (tryR X c1 c2 C i (b₀ :: suite) Ψ)) :
    SV X (.Try body [.ExceptHandler (some (.Tuple [.Name x p1, .Name y p2] kk p3)) nm (c0 :: cr) p4, .ExceptHandler (some (.Name z p5)) (some n) (b₀ :: suite) p6] [] [] pos) ρ M Ψ := by
  refine (ps_try_g (tb := fun W => tSU X.K W ρ M (tryR X c1 c2 C i (b₀ :: suite) Ψ)) (Wout := fun _ _ _ _ => False)
    (l := [.skip [c1, c2], .as (.ref C) i (fun a cls d D σ H => ∃ (ρ' : Sl) (M' : Mem), cls = .ref C ∧ (∀ (oe : Obj) (pn : List (Addr × Obj)), Zc (.ref C) d oe → (∃ vs, oe.data = .fields vs) → BV (X.suite a ((a, oe) :: pn)) (b₀ :: suite) (ρ'.set i (some (dP a))) M' (suiteR i Ψ)) ∧ tS X.K (ρ'.set i (some (dP a))) M' (suiteR i Ψ) D σ H)])
    hs hf tk (fun W pn xe tk' po => hb W pn xe tk' po) (.skip2 h1 h2 (.as h3 hN hi hln (fun a oe cls d pn hz hd => ⟨fun pins s σ H D I ⟨ρ', M', e1, run, q⟩ => ?_⟩) .nil))).mono fun E σ H ⟨G, sa, k⟩ => ⟨G, sa, fun o ho => ?_⟩
  · subst e1
    exact (run oe pn hz hd).run pins s σ H D I q
  · cases o with
    | o o => exact k o ho
    | ex cls dd ρ' M' =>
      obtain ⟨rfl, run⟩ := ho
      refine fun σ' G' H' g sa' => ⟨hno, true, hyes, fun _ a na => ⟨ρ', M', rfl, run a, G', ⟨sa'.sh, sa'.sl.set i (.val _)⟩, fun o ho => ?_⟩, fun h => nomatch h⟩
      cases o with
      | ret d M2 => exact (k _ ho).up g
      | nx ρ2 M2 => exact fun σ2 G2 H2 g2 sa2 => (k _ ho).up g _ G2 H2 g2 ⟨sa2.sh, sa2.sl.none i⟩
      | bk ρ2 M2 => exact ho.elim
      | ct ρ2 M2 => exact ho.elim
end
end Vt
namespace Vt
open PySem PySem.Spec PyProof.Rows L2
/-! ### targets that take tuples and lists -/
def gAny (K : PySem.W.Frag) (n : Nat) (gs : TGs) : TG := fun v σ H Q => gTup K n gs v σ H Q ∨ gUnl K n gs v σ H Q
section
variable {X : Cx} {K : PySem.W.Frag} {ρ ρ' : Sl} {es : List Expr} {ds : List D} {pos : Pos} {gs : TGs}
theorem pg_any {k n : Nat} (hc : X.calm = true) (h : PGs X es gs) (hn : (assignEach es X.env).length = n := by rfl) (hst : (assignEach es X.env).findIdx? (·.1) = none := by rfl) : PG X (.Tuple es k pos) (gAny X.K n gs) :=
  ⟨fun pins s σ H v u Q I r hw => hw.elim ((pg_tup hc h hn hst).run pins s σ H v u Q I r) ((pg_unl hc h hn hst).run pins s σ H v u Q I r)⟩
theorem tg_any {b : Bool} {n : Nat} (h : TG2 K gs ρ ds ρ') (hl : ds.length = n := by rfl) : TG1 K (gAny K n gs) ρ (sq b ds) ρ' := fun v σ G H Q e h0 r k => by
  cases b with
  | true => exact .inr (tg_lst h hl v σ G H Q e h0 r k)
  | false => exact .inl (tg_tup h hl v σ G H Q e h0 r k)
theorem tb_any {vs : List Nat} {b : Bool} {n : Nat} (h : TBs K gs vs ρ ds ρ') (hl : ds.length = n := by rfl) : TB K (gAny K n gs) vs ρ (sq b ds) ρ' := fun x σ0 σ G H Q e h0 hw r k => by
  cases b with
  | true => exact .inr (tb_sq (b := true) h hl x σ0 σ G H Q e h0 hw r k)
  | false => exact .inl (tb_sq (b := false) h hl x σ0 σ G H Q e h0 hw r k)
end
end Vt
namespace Vt
open PySem PySem.Spec PyProof.Rows L2
/-! ### more of lists and tuples -/
theorem tup_mul_one (l : Addr) (xs : Array Value) (n : Nat) (dd : Option Addr) (sl : Array (Option Value)) (u : Tok) :
    Meets (Builtin.«tuple.__mul__» ⟨[.ref l, .int 1 u], []⟩) (fun _ R s => s.heap.get? l = some { cls := .type "tuple", dict := dd, data := .seq xs n, slots := sl } ∧ R (.ok (.ret (.ref l))) s) :=
  .of_wp fun prog w A R s h => by
    obtain ⟨hp, g, d, tk, os⟩ := s
    obtain ⟨hl, h⟩ := h
    have f1 := AutoSeq1.idx_int
    have e1 : (xs.isEmpty || (1 : Int) == 1) = true := by cases xs.isEmpty <;> rfl
    wp_walk using wpAny_loadPart' hl
    repeat (first
      | (refine wpAny_ite_false (by decide) ?_; wp_walk using wpAny_loadPart' hl)
      | (refine wpAny_ite_true (by rw [e1]) ?_; wp_walk using wpAny_loadPart' hl)
      | (refine wpAny_ite_true (by decide) ?_; wp_walk using wpAny_loadPart' hl))
    exact ⟨_, rfl, h⟩
theorem tup_mul_none (l : Addr) (xs : Array Value) (n : Nat) (dd : Option Addr) (sl : Array (Option Value)) (k : Int) (u : Tok) (hk : k ≤ 0) (hk2 : -(2 ^ 63) ≤ k) (hx : xs.isEmpty = false) :
    Meets (Builtin.«tuple.__mul__» ⟨[.ref l, .int k u], []⟩) (fun _ R s => s.heap.get? l = some { cls := .type "tuple", dict := dd, data := .seq xs n, slots := sl } ∧
      R (.ok (.ret (Value.ref s.heap.objs.size))) { s with heap := s.heap.push { cls := Value.type "tuple", data := Data.seq #[] }, toks := s.toks }) :=
  .of_wp fun prog w A R s h => by
    obtain ⟨hp, g, d, tk, os⟩ := s
    obtain ⟨hl, h⟩ := h
    have f1 := AutoSeq1.idx_int
    have e0 : (decide (k < -(2 ^ 63)) || decide (k ≥ 2 ^ 63)) = false := by rw [decide_eq_false (by omega), decide_eq_false (by omega)]; rfl
    have e1 : (xs.isEmpty || k == 1) = false := by rw [hx, Bool.false_or]; exact beq_eq_false_iff_ne.mpr (by omega)
    have e2 : (decide (k ≤ 0) || xs.isEmpty) = true := by rw [decide_eq_true hk]; rfl
    wp_walk using wpAny_loadPart' hl
    repeat (first
      | (refine wpAny_ite_false (decide_eq_false (by rw [e0]; exact Bool.false_ne_true)) ?_; wp_walk using wpAny_loadPart' hl)
      | (refine wpAny_ite_false (decide_eq_false (by rw [e1]; exact Bool.false_ne_true)) ?_; wp_walk using wpAny_loadPart' hl)
      | (refine wpAny_ite_true (decide_eq_true (by rw [e2])) ?_; wp_walk using wpAny_loadPart' hl))
    exact ⟨_, rfl, h⟩
/-- (x, ..) * k for k up to 1 -/
def rRep1 (K : PySem.W.Frag) : R2 := fun x y H Q => ∃ l k xs, x = .ref l ∧ y = .int k ∧ SqT K H l xs ∧ xs ≠ [] ∧ ((k = 1 ∧ Q (.ref l) H) ∨ (-1000 ≤ k ∧ k ≤ 0 ∧ ∀ p, H p = none → Q (.ref p) (upd H p (.tup []))))
theorem op_rep1 {X : Cx} : OpR X (binaryOp .Mult) (rRep1 X.K) := fun pins s σ H x y v u Q I rx ry h => by
  obtain ⟨l, k, xs, rfl, rfl, hT, ne, q⟩ := h
  cases rx
  obtain ⟨t, rfl⟩ := ry
  obtain ⟨its, r, ⟨⟨c, dd, data, sl⟩, ho, hc, n, hd⟩, _⟩ := I.tuple hT
  dsimp only at hc hd
  subst hc hd
  have hi : its.toArray.isEmpty = false := by
    cases r with
    | nil => exact absurd rfl ne
    | cons _ _ => rfl
  rcases q with ⟨rfl, q⟩ | ⟨k0, k1, q⟩
  · exact wpAny_binaryOp_repeat_ref (T := "tuple") (U := "int") (by decide) ⟨_, ho, rfl⟩ (fun s' => typeIs_int s' 1 t) noFill_tuple_mul F.fills_int_mul F.slot_int_rmul repeat_tuple F.slot_int_index.lookup
      (call_meets F.slot_int_rmul (typeIs_int s 1 t) F.entry_int_rmul (F.args_int_rmul_2 _ _) (int_rmul_tuple 1 t l its.toArray n dd sl)
        ⟨ho, rfl, ⟨_, ho, rfl⟩, call_meets F.slot_tuple_mul ⟨_, ho, rfl⟩ F.entry_tuple_mul (F.args_tuple_mul_2 _ _) (tup_mul_one l its.toArray n dd sl t) ⟨ho, .ref l, H, I, rfl, q⟩⟩)
  · refine wpAny_binaryOp_repeat_ref (T := "tuple") (U := "int") (by decide) ⟨_, ho, rfl⟩ (fun s' => typeIs_int s' k t) noFill_tuple_mul F.fills_int_mul F.slot_int_rmul repeat_tuple F.slot_int_index.lookup
      (call_meets F.slot_int_rmul (typeIs_int s k t) F.entry_int_rmul (F.args_int_rmul_2 _ _) (int_rmul_tuple k t l its.toArray n dd sl)
        ⟨ho, rfl, ⟨_, ho, rfl⟩, call_meets F.slot_tuple_mul ⟨_, ho, rfl⟩ F.entry_tuple_mul (F.args_tuple_mul_2 _ _) (tup_mul_none l its.toArray n dd sl k t k1 (by omega) hi) ⟨ho, ?_⟩⟩)
    have new := I.laid (t' := s.toks) (a := s.heap.objs.size) (h' := s.heap.push { cls := Value.type "tuple", data := Data.seq #[] }) (o := .tup ([] : List V)) (fun b ob q => Heap.get?_push_of_some _ q) (Nat.le_refl _) ⟨Nat.zero_le _, [], .nil, IsTup.new _ _⟩
    exact ⟨.ref s.heap.objs.size, _, new, rfl, q _ (I.hok.fresh (Nat.le_refl _))⟩
section
variable {X : Cx} {ρ : Sl} {M M1 M2 : Mem} {a b e : Expr} {d : D} {ds es : List D} {pos : Pos} {Φ : D → Mem → Prop}
theorem rep_flat {K : PySem.W.Frag} {G : Hp} {vs : List V} {ds : List D} (r : RepL K G vs ds) : ∀ n, RepL K G (List.replicate n vs).flatten (List.replicate n ds).flatten
  | 0 => .nil
  | n + 1 => r.append (rep_flat r n)
theorem ev_mulT {k : Int} (ha : EV X a ρ M (.tup ds) M1) (hb : EV X b ρ M1 (dI k) M2) (hne : ds ≠ []) (hk : -1000 ≤ k ∧ k ≤ 1000) (hl : ds.length ≤ 1000) : EV X (.BinOp a .Mult b pos) ρ M (.tup (List.replicate k.toNat ds).flatten) M2 := by
  have ne {G : Hp} {vs : List V} (r : RepL X.K G vs ds) : vs ≠ [] := fun e => by
    rw [e] at r
    cases r
    exact hne rfl
  by_cases h2 : 2 ≤ k
  · exact (pe_op op_repT ha hb).mono fun σ H Q ⟨G, sa, kk⟩ => ⟨G, sa, fun v1 G1 H1 g1 sh1 r1 => ⟨G1, ⟨sh1, sa.sl.up g1⟩, fun v2 G2 H2 g2 sh2 r2 => by
      cases r1 with
      | tup q r =>
        refine ⟨_, k, _, rfl, r2.of_val, sqtUp sh2.le (sqtUp g2 q), ne r, h2, hk.2, by rw [r.len]; exact hl, fun p hp => ?_⟩
        obtain ⟨sh3, g3⟩ := sh2.new (o := .tup (List.replicate k.toNat _).flatten) hp
        exact kk _ _ _ ((g1.trans g2).trans g3) sh3 (.tup (.inl (.inl upd_same)) (rep_flat ((r.up g2).up g3) _))⟩⟩
  · refine (pe_op op_rep1 ha hb).mono fun σ H Q ⟨G, sa, kk⟩ => ⟨G, sa, fun v1 G1 H1 g1 sh1 r1 => ⟨G1, ⟨sh1, sa.sl.up g1⟩, fun v2 G2 H2 g2 sh2 r2 => ?_⟩⟩
    cases r1 with
    | tup q r =>
      by_cases h1 : k = 1
      · subst h1
        refine ⟨_, 1, _, rfl, r2.of_val, sqtUp sh2.le (sqtUp g2 q), ne r, .inl ⟨rfl, kk _ _ _ (g1.trans g2) sh2 ?_⟩⟩
        show Rep _ _ _ (.tup (ds ++ []))
        rw [List.append_nil]
        exact .tup (sqtUp g2 q) (r.up g2)
      · refine ⟨_, k, _, rfl, r2.of_val, sqtUp sh2.le (sqtUp g2 q), ne r, .inr ⟨hk.1, by omega, fun p hp => ?_⟩⟩
        obtain ⟨sh3, g3⟩ := sh2.new (o := .tup ([] : List V)) hp
        rw [show k.toNat = 0 by omega] at kk
        exact kk _ _ _ ((g1.trans g2).trans g3) sh3 (.tup (.inl (.inl upd_same)) .nil)
end
section
variable {X : Cx} {ρ : Sl} {M M1 : Mem} {d : D} {ds : List D} {pos : Pos} {Ψ : Out → Prop} {Φ : D → Mem → Prop} {tg iter : Expr} {g : TG}
/-- [e for x in ..], the list is going to be changed -/
def LcN (X : Cx) (g : TG) (own : List (Str × Nat)) (scope : Scope) (elt : Expr) (ρ : Sl) (Φ : D → Mem → Prop) (ds : List D) (M1 : Mem) : Prop :=
  ds.length ≤ sizeLine ∧ ∃ Iv : Nat → List D → Mem → Prop, Iv 0 [] M1 ∧
    (∀ i d acc M, ds[i]? = some d → acc.length = i → Iv i acc M → ∃ ρ', TGb X.K g (own.map (·.2)) (wipeD ρ (own.map (·.2))) d ρ' ∧ ∀ (p : Addr), M p = none → ∀ (s : Shared) (H : Hp) (C : Addr) (cl : List (Str × Addr)) (fp : List Addr),
      EW (X.blk s H scope (compEnvC scope cl C X.env) fp) elt ρ' (M.set p (.lst acc)) (fun d' M' => ∃ M2, M' = M2.set p (.lst acc) ∧ M2 p = none ∧ Iv (i + 1) (acc ++ [d']) M2)) ∧
    ∀ acc M, acc.length = ds.length → Iv ds.length acc M → ∀ p, M p = none → Φ (dP p) (M.set p (.lst acc))
theorem lcw_readN {elt : Expr} {scope : Scope} {own : List (Str × Nat)} (σ : L2.St) (H : Hp) (Q : VK) (hΦ : ∃ G, SA X.K G H σ ρ M ∧ ∀ v G' H' d M', Φ d M' → Same G G' → SH X.K G' H' M' → Rep X.K G' v d → Q v H') :
    tLc (tIW X.K ρ M (LcN X g own scope elt ρ Φ)) g tYes (fun σ H Q => ∃ ρ' M' Φ', (∀ (s : Shared) (H : Hp) (C : Addr) (cl : List (Str × Addr)) (fp : List Addr), EW (X.blk s H scope (compEnvC scope cl C X.env) fp) elt ρ' M' Φ') ∧ tW X.K ρ' M' Φ' σ H Q) (own.map (·.2)) σ H Q := by
  obtain ⟨G, sa, k⟩ := hΦ
  refine ⟨G, sa, fun J G1 H1 ds M1 ⟨hlen, Iv, h0, step, done⟩ g1 sh1 jw => fun p hp => ?_⟩
  obtain ⟨shp, mp, gp⟩ := sh1.newM hp (RepL.nil (K := X.K) (G := G1))
  refine ⟨fun i mm H => mm = ds.length - i ∧ i ≤ ds.length ∧ ∃ G acc M, Same G1 G ∧ acc.length = i ∧ M p = none ∧ Iv i acc M ∧ SH X.K G H (M.set p (.lst acc)), ⟨ds.length, by simp, Nat.zero_le _, G1, [], M1, Same.refl _, rfl, mp, h0, shp⟩, ?_⟩
  rintro i mm H2 ⟨rfl, hi, G2, acc, M2, g2, hacc, hmp, iv, sh2⟩
  obtain ⟨j1, j2⟩ := jw i H2 (g2.trans sh2.le)
  by_cases hlt : i < ds.length
  · have hd : ds[i]? = some ds[i] := List.getElem?_eq_getElem hlt
    obtain ⟨go, yl⟩ := j1 _ hd
    refine .inr ⟨go, fun H3 => ∃ G acc M, Same G1 G ∧ acc.length = i + 1 ∧ M p = none ∧ Iv (i + 1) acc M ∧ SH X.K G H3 (M.set p (.lst acc)), fun H' p' => ⟨ds.length - (i + 1), by omega, rfl, hlt, p'⟩, fun x H' y => ?_⟩
    obtain ⟨G3, g3, sh3, rx⟩ := yl x H' y G2 _ g2 sh2
    have g2 := g2.trans g3
    obtain ⟨ρ3, tg3, ev⟩ := step i _ acc M2 hd hacc iv
    refine tg3 x σ G3 H' _ sh3.le (wipe_rep ((sa.sl.up g1).up g2) _) rx fun σ3 rs3 hw => ⟨hw, ?_⟩
    show ∃ ρ' M' Φ', _ ∧ tW X.K ρ' M' Φ' σ3 H' _
    refine ⟨ρ3, _, _, ev p hmp, G3, ⟨sh3, rs3⟩, fun v G4 H4 d4 M4 ⟨M5, e5, n5, iv5⟩ g4 sh4 r4 => ?_⟩
    subst e5
    obtain ⟨_, vs, hv, rl⟩ := sh4.mem p _ Mem.set_same
    refine ⟨vs, hv, ?_, G4, acc ++ [d4], M5, g2.trans g4, by rw [List.length_append, hacc]; rfl, n5, iv5, ?_⟩
    · rw [rl.len, hacc]
      exact Nat.lt_of_lt_of_le hlt hlen
    · have q := sh4.put (ds := acc ++ [d4]) Mem.set_same (rl.append (.cons r4 .nil))
      rw [Mem.set_set] at q
      exact q
  · have e : i = ds.length := by omega
    subst e
    exact .inl ⟨j2 (Nat.le_refl _), k _ _ H2 _ _ (done acc M2 hacc iv p hmp) (g1.trans g2) sh2 (.val _)⟩
theorem ew_lcN {elt : Expr} {scope : Scope} {own : List (Str × Nat)} (hc : X.calm = true) (hN : X.N.Nodup) (ok : BlkOk X.N X.env.scope scope own)
    (hg : ∀ (s : Shared) (H : Hp) (C : Addr) (cl : List (Str × Addr)) (fp : List Addr), PG (X.blk s H scope (compEnvC scope cl C X.env) fp) tg g) (hi : IW X tg iter ρ M (LcN X g own scope elt ρ Φ))
    (hs : ∀ x, foldedSetIterable iter X.env x = pure x := by intro _; rfl) : EW X (.ListComp elt [⟨tg, iter, [], 0⟩] scope pos) ρ M Φ :=
  (pe_lc hc hN hi ok hg (fun _ _ _ _ _ => pts_nil) (fun s H C cl fp => ⟨fun pins s' σ H' Q I ⟨ρ', M', Φ', hb, q⟩ => (hb s H C cl fp).run pins s' σ H' Q I q⟩) hs).mono fun σ H Q h => lcw_readN σ H Q h
end
section
variable {X : Cx} {ρ : Sl} {M M1 M2 : Mem} {a b e : Expr} {d : D} {ds es : List D} {pos : Pos} {Φ : D → Mem → Prop} {Ψ : Out → Prop}
/-- xs + ys, both new lists -/
theorem ew_catL (h : EW X a ρ M (fun d1 M1 => ∃ p ds, d1 = dP p ∧ M1 p = some (.lst ds) ∧ EW X b ρ M1 (fun d2 M2 => ∃ q es, d2 = dP q ∧ M2 p = some (.lst ds) ∧ M2 q = some (.lst es) ∧ ds.length + es.length ≤ sizeLine ∧ Φ (.lst (ds ++ es)) M2))) : EW X (.BinOp a .Add b pos) ρ M Φ :=
  (pe_op op_cat h pk_e).mono fun σ H Q ⟨G, sa, k⟩ => ⟨G, sa, fun v1 G1 H1 d1 M1 ⟨p, ds, e1, m1, h2⟩ g1 sh1 r1 => ⟨M1, _, h2, G1, ⟨sh1, sa.sl.up g1⟩, fun v2 G2 H2 d2 M2 ⟨q, es, e2, m1', m2, hl, hp⟩ g2 sh2 r2 => by
    subst e1 e2
    obtain ⟨_, vs, hv, r⟩ := sh2.mem p _ m1'
    obtain ⟨_, ws, hw, s⟩ := sh2.mem q _ m2
    refine ⟨p, q, vs, ws, r1.of_val, r2.of_val, hv, hw, by rw [r.len, s.len]; exact hl, fun l hl => ?_⟩
    obtain ⟨sh3, g3⟩ := sh2.new (o := .lst (vs ++ ws)) hl
    exact k _ _ _ _ _ hp ((g1.trans g2).trans g3) sh3 (.lst (.inl (.inl upd_same)) ((r.append s).up g3))⟩⟩
end
end Vt
namespace Vt
open PySem PySem.Spec PyProof.Rows L2
/-! ### lists that are going to be changed; min, in, dict -/
section
variable {X : Cx} {ρ : Sl} {M M1 M2 : Mem} {a b e : Expr} {d : D} {ds es : List D} {pos : Pos} {Φ : D → Mem → Prop} {Ψ : Out → Prop}
theorem ew_listN {p : Pos} (hm : X.mg "list" = none) (h : EW X e ρ M (fun d M1 => ∃ q ds, d = sq q ds ∧ ∀ l, M1 l = none → Φ (dP l) (M1.set l (.lst ds)))) (hg : Gl X "list" := by rfl) (hst : starEach [e] X.env = [(false, eval e X.env)] := by rfl) : EW X (.Call (.Name "list" p) [e] [] pos) ρ M Φ :=
  (pe_callTy call_list_of hg hm boot_list (aw_one (ΦA := fun ds M1 => ∃ q es, ds = [sq q es] ∧ ∀ l, M1 l = none → Φ (dP l) (M1.set l (.lst es))) (ew_to h fun d M1 ⟨i, es, e, q⟩ => ⟨i, es, by rw [e], q⟩) hst) (he := hst)).mono fun σ H Q ⟨G, sa, k⟩ => ⟨G, sa, fun vs' G1 H1 ds M1 ⟨b, es, e, p⟩ g1 sh1 r1 => by
    subst e
    cases r1 with
    | cons h t =>
      cases t
      cases b with
      | true =>
        cases (show Rep X.K G1 _ (.lst es) from h) with
        | lst q r =>
          refine ⟨_, _, rfl, .inl (sqlUp sh1.le q), fun l hl => ?_⟩
          obtain ⟨sh2, m2, _⟩ := sh1.newM hl r
          exact k _ _ _ _ _ (p l m2) g1 sh2 (.val _)
      | false =>
        cases (show Rep X.K G1 _ (.tup es) from h) with
        | tup q r =>
          refine ⟨_, _, rfl, .inr (sqtUp sh1.le q), fun l hl => ?_⟩
          obtain ⟨sh2, m2, _⟩ := sh1.newM hl r
          exact k _ _ _ _ _ (p l m2) g1 sh2 (.val _)⟩
/-- xs[i] = e, i drawn behind e -/
theorem sw_setItemW {tp : Pos} (he : EW X e ρ M (fun d M1 => ∃ p, EV X a ρ M1 (dP p) M1 ∧ EW X b ρ M1 (fun d2 M2 => ∃ i ds j, d2 = dI i ∧ M2 p = some (.lst ds) ∧ ixN ds.length i = some j ∧ Ψ (.nx ρ (M2.set p (.lst (ds.set j d)))))))
    (ha : ∀ v, assign (.Subscript a b tp) X.env v = (do
      let ov ← holding [v] (eval a X.env)
      let iv ← holding [v, ov] (eval b X.env)
      standAt tp
      holding [v, ov, iv] (setItem ov iv v)
      release [v, ov, iv] []) := by intro _; rfl)
    (hs : swapsWithSole [.Subscript a b tp] e pos.line X.env = pure false := by rfl) (hw : swappedStores [.Subscript a b tp] e X.env = pure none := by rfl)
    (h1 : (assignEach [.Subscript a b tp] X.env).map (·.2) = [assign (.Subscript a b tp) X.env] := by rfl) : SV X (.Assign [.Subscript a b tp] e pos) ρ M Ψ :=
  (ps_asg he (pg_sub (pk_e (ρ := ρ)) (pk_e (ρ := ρ)) set_list ha) hs hw h1).mono fun E σ H ⟨G, sa, k⟩ => ⟨G, sa, fun v G1 H1 d M1 ⟨p, ho, hi⟩ g1 sh1 r1 =>
    ⟨M1, fun d' M' => d' = dP p ∧ M' = M1, ew_ev ho ⟨rfl, rfl⟩, G1, ⟨sh1, sa.sl.up g1⟩, fun v2 G2 H2 d2 M2 ⟨e2, e2'⟩ g2 sh2 r2 => ⟨M1, _, hi, G2, ⟨by rw [e2'] at sh2; exact sh2, (sa.sl.up g1).up g2⟩, fun v3 G3 H3 d3 M3 ⟨i, ds, j, e3, hm, hj, hΨ⟩ g3 sh3 r3 => by
      subst e2 e3
      obtain ⟨_, vs, hv, rl⟩ := sh3.mem p _ hm
      exact ⟨p, vs, i, j, r2.of_val, r3.of_val, hv, by rw [rl.len]; exact hj, k _ hΨ σ G3 _ ((g1.trans g2).trans g3) ⟨sh3.put hm (rl.set ((r1.up g2).up g3) j), ((sa.sl.up g1).up g2).up g3⟩⟩⟩⟩⟩
/-- x in xs, xs a list of ints of the memory -/
theorem any_eqI (x : Int) : ∀ xs : List Int, inV (.int x) (xs.map V.int) = decide (x ∈ xs)
  | [] => rfl
  | y :: ys => by
    have ih := any_eqI x ys
    show (eqV (.int y) (.int x) || inV (.int x) (ys.map V.int)) = _
    rw [ih]
    have e : eqV (.int y) (.int x) = decide (y = x) := rfl
    rw [e]
    by_cases h : y = x
    · subst h
      simp
    · have h2 : ¬ x = y := fun q => h q.symm
      simp [h, h2]
theorem flat_ints (xs : List Int) : (xs.map V.int).all flatV = true := by
  induction xs with
  | nil => rfl
  | cons x xs ih => rw [List.map_cons, List.all_cons, ih]; rfl
theorem tv_inM {x : Int} {xs : List Int} {p : Addr} (ha : EV X a ρ M (dI x) M1) (hb : EV X b ρ M1 (dP p) M2) (hm2 : M2 p = some (.lst (xs.map dI))) (hm : behindInMarks .In b = false) : TV X (.Compare a [.In] [b] pos) ρ M (decide (x ∈ xs)) M2 :=
  (pt_cmpR op_in_seq ha hb hm).mono fun σ H Q ⟨G, sa, k⟩ => ⟨G, sa, fun v1 G1 H1 g1 sh1 r1 => ⟨G1, ⟨sh1, sa.sl.up g1⟩, fun v2 G2 H2 g2 sh2 r2 => by
    obtain ⟨_, vs, hv, r⟩ := sh2.mem p _ hm2
    have ev : vs = xs.map V.int := RepL.of_vals (xs := xs.map V.int) (by rw [List.map_map]; exact r)
    subst ev
    refine ⟨p, xs.map V.int, r2.of_val, .inl (.inl (.inl hv)), by rw [r1.of_val]; rfl, flat_ints xs, ?_⟩
    rw [r1.of_val]
    exact ⟨_, congrArg V.bl (any_eqI x xs), k G2 H2 (g1.trans g2) sh2⟩⟩⟩
/-- min(xs), xs a list of ints of the memory -/
theorem ev_minM {xs : List Int} {m : Int} {p : Addr} {np : Pos} (hc : X.calm = true) (hm : X.mg "min" = none) (ha : EV X e ρ M (dP p) M1) (hm2 : M1 p = some (.lst (xs.map dI))) (h0 : m ∈ xs) (h1 : ∀ y ∈ xs, m ≤ y) (hg : Gl X "min" := by rfl) (hst : starEach [e] X.env = [(false, eval e X.env)] := by rfl) : EV X (.Call (.Name "min" np) [e] [] pos) ρ M (dI m) M1 :=
  (pe_callB (cr_min hc) hg hm boot_min (av_cons ha av_nil hst) (he := hst)).mono fun σ H Q ⟨G, sa, k⟩ => ⟨G, sa, fun vs' G1 H1 g1 sh1 r1 => by
    obtain ⟨_, vs, hv, r⟩ := sh1.mem p _ hm2
    have ev : vs = xs.map V.int := RepL.of_vals (xs := xs.map V.int) (by rw [List.map_map]; exact r)
    subst ev
    refine ⟨p, xs, RepL.of_vals (xs := [.ref p]) r1, .inl (.inl hv), List.length_pos_of_mem h0, fun m' i1 i2 => ?_⟩
    have := h1 m' i1
    have := i2 m h0
    obtain rfl : m' = m := by omega
    exact k _ G1 H1 g1 sh1 (.val _)⟩
/-- dict(pairs) -/
theorem pairs_rep {K : PySem.W.Frag} {G H : Hp} (le : Same G H) : ∀ {vs : List V} {kds : List (Int × D)}, RepL K G vs (kds.map fun p => .tup [dI p.1, p.2]) → ∃ (ps : List Addr) (kvs : List (Key × V)), vs = ps.map V.ref ∧ Paired (fun p kv => SqT K H p [kV kv.1, kv.2]) ps kvs
  | [], [], _ => ⟨[], [], rfl, .nil⟩
  | [], _ :: _, r => by cases r
  | _ :: _, [], r => by cases r
  | v :: vs, (k, d) :: kds, r => by
    cases r with
    | cons r t =>
      obtain ⟨ps, kvs, rfl, h⟩ := pairs_rep le (vs := vs) (kds := kds) t
      cases r with
      | tup q r =>
        cases r with
        | cons r1 r2 =>
          cases r2 with
          | cons r2 r3 =>
            cases r3
            rw [r1.of_val] at q
            exact ⟨_ :: ps, (.inl k, _) :: kvs, rfl, .cons (sqtUp le q) h⟩
theorem ew_dict {p : Pos} (hc : X.calm = true) (hm : X.mg "dict" = none) (h : EW X e ρ M (fun d M1 => ∃ kds : List (Int × D), d = .lst (kds.map fun p => .tup [dI p.1, p.2]) ∧ Φ .dic M1)) (hg : Gl X "dict" := by rfl) (hst : starEach [e] X.env = [(false, eval e X.env)] := by rfl) : EW X (.Call (.Name "dict" p) [e] [] pos) ρ M Φ :=
  (pe_callTy (call_dictP hc) hg hm PyProof.Rows.boot_dict (aw_one (ΦA := fun ds M1 => ∃ kds : List (Int × D), ds = [.lst (kds.map fun p => .tup [dI p.1, p.2])] ∧ Φ .dic M1) (ew_to h fun d M1 ⟨kds, e, q⟩ => ⟨kds, by rw [e], q⟩) hst) (he := hst)).mono fun σ H Q ⟨G, sa, k⟩ => ⟨G, sa, fun vs' G1 H1 ds M1 ⟨kds, e, p⟩ g1 sh1 r1 => by
    subst e
    cases r1 with
    | cons h t =>
      cases t
      cases h with
      | lst q r =>
        obtain ⟨ps, kvs, rfl, pr⟩ := pairs_rep sh1.le r
        refine ⟨_, ps, kvs, rfl, sqlUp sh1.le q, pr, fun l hl => ?_⟩
        obtain ⟨sh2, g2⟩ := sh1.new (o := .dK (mergeK [] kvs)) hl
        exact k _ _ _ _ _ p (g1.trans g2) sh2 (.dic upd_same)⟩
end
end Vt
namespace Vt
open PySem PySem.Spec PyProof.Rows L2
section
variable {X : Cx} {ρ : Sl} {M M1 : Mem} {e : Expr} {ds : List D} {pos : Pos}
/-- tuple(xs), xs a list of the memory -/
theorem ev_tupM {q : Addr} {p : Pos} (hm : X.mg "tuple" = none) (ha : EV X e ρ M (dP q) M1) (hq : M1 q = some (.lst ds)) (hg : Gl X "tuple" := by rfl) (hst : starEach [e] X.env = [(false, eval e X.env)] := by rfl) : EV X (.Call (.Name "tuple" p) [e] [] pos) ρ M (.tup ds) M1 :=
  (pe_callTy call_tuple_of hg hm boot_tuple (av_cons ha av_nil hst) (he := hst)).mono fun σ H Q ⟨G, sa, k⟩ => ⟨G, sa, fun vs' G1 H1 g1 sh1 r1 => by
    obtain ⟨_, vs, hv, r⟩ := sh1.mem q _ hq
    have e1 := RepL.of_vals (xs := [.ref q]) r1
    exact ⟨q, vs, e1, .inl ⟨.inl (.inl hv), fun l hl => by
      obtain ⟨sh2, g2⟩ := sh1.new (o := .tup vs) hl
      exact k _ _ _ (g1.trans g2) sh2 (.tup (.inl (.inl upd_same)) (r.up g2))⟩⟩⟩
end
section
variable {X : Cx} {ρ : Sl} {M M1 M2 : Mem} {a b e : Expr} {d : D} {ds es : List D} {pos : Pos} {Φ : D → Mem → Prop} {Ψ : Out → Prop}
theorem tv_ninM {x : Int} {xs : List Int} {p : Addr} (ha : EV X a ρ M (dI x) M1) (hb : EV X b ρ M1 (dP p) M2) (hm2 : M2 p = some (.lst (xs.map dI))) (hm : behindInMarks .NotIn b = false) : TV X (.Compare a [.NotIn] [b] pos) ρ M (!decide (x ∈ xs)) M2 :=
  (pt_cmpR op_notIn_seq ha hb hm).mono fun σ H Q ⟨G, sa, k⟩ => ⟨G, sa, fun v1 G1 H1 g1 sh1 r1 => ⟨G1, ⟨sh1, sa.sl.up g1⟩, fun v2 G2 H2 g2 sh2 r2 => by
    obtain ⟨_, vs, hv, r⟩ := sh2.mem p _ hm2
    have ev : vs = xs.map V.int := RepL.of_vals (xs := xs.map V.int) (by rw [List.map_map]; exact r)
    subst ev
    refine ⟨p, xs.map V.int, r2.of_val, .inl (.inl (.inl hv)), by rw [r1.of_val]; rfl, flat_ints xs, ?_⟩
    rw [r1.of_val]
    exact ⟨_, congrArg V.bl (congrArg (!·) (any_eqI x xs)), k G2 H2 (g1.trans g2) sh2⟩⟩⟩
end
end Vt
namespace Vt
open PySem PySem.Spec PyProof.Rows L2
/-! ### dicts of the module, zip, comprehensions with if, int of a bool, lists times a number, in -/
section
variable {X : Cx} {K : PySem.W.Frag} {ρ ρ' : Sl} {M M1 M2 M3 : Mem} {a b c e : Expr} {es : List Expr} {d d1 d2 : D} {ds : List D} {pos : Pos} {Ψ : Out → Prop} {Φ : D → Mem → Prop} {ΦI : List D → Mem → Prop}
/-- a written dict of the module with texts as keys, read -/
theorem ev_ixK {p : Addr} {z : Str} {v : V} (ha : EV X a ρ M (dP p) M1) (hb : EV X b ρ M1 (dS z) M2) (hk : KDct X.K X.w p z v) (hr : ∀ G, Rep X.K G v d) (hs : NoSl b) : EV X (.Subscript a b pos) ρ M d M2 :=
  (pe_ix ix_kdict ha hb hs).mono fun σ H Q ⟨G, sa, k⟩ => ⟨G, sa, fun v1 G1 H1 g1 sh1 r1 => ⟨G1, ⟨sh1, sa.sl.up g1⟩, fun v2 G2 H2 g2 sh2 r2 =>
    ⟨p, z, v, r1.of_val, r2.of_val, hk, k _ G2 H2 (g1.trans g2) sh2 (hr G2)⟩⟩⟩
theorem KDict.ct {w : World} {a : Addr} {z : Str} {u : Value} {v : V} {es : Array DictEntry} {n : Nat} (D : KDict K w a es n) (e : PySem.W.nsIn K a z = some (some u)) (r : L2.RelV v u) : KDct K w a z v := ⟨es, n, u, D.at_, D.lit, e, r⟩
/-- a written tuple of texts -/
theorem rep_kS {G : Hp} {a : Addr} {o : Obj} {its : Array Value} {n : Nat} {zs : List Str} (hk : K.lookup a = some o) (hc : o.cls = .type "tuple") (hd : o.data = .seq its n) (hz : its.size ≤ sizeLine) (hv : Vals (zs.map V.str) its.toList) : Rep K G (.ref a) (.tup (zs.map dS)) := by
  refine .tup (.inr ⟨o, its, n, hk, hc, hd, hz, hv⟩) ?_
  have e := RepL.vals (K := K) (G := G) (zs.map V.str)
  rw [List.map_map] at e
  exact e
/-- zip of two tuples -/
def zipD : List D → List D → List D
  | d :: ds, e :: es => .tup [d, e] :: zipD ds es
  | _, _ => []
theorem zipD_get : ∀ {ds es : List D} {i : Nat} {d : D}, (zipD ds es)[i]? = some d → ∃ x y, ds[i]? = some x ∧ es[i]? = some y ∧ d = .tup [x, y]
  | [], _, _, _, h => by simp [zipD] at h
  | _ :: _, [], _, _, h => by simp [zipD] at h
  | x :: ds, y :: es, 0, d, h => ⟨x, y, rfl, rfl, by simpa [zipD] using h.symm⟩
  | x :: ds, y :: es, i + 1, d, h => by
    obtain ⟨x', y', h1, h2, h3⟩ := zipD_get (ds := ds) (es := es) (i := i) (by simpa [zipD] using h)
    exact ⟨x', y', by simpa using h1, by simpa using h2, h3⟩
theorem zipD_len : ∀ (ds es : List D), (zipD ds es).length = min ds.length es.length
  | [], _ => by simp [zipD]
  | _ :: _, [] => by simp [zipD]
  | _ :: ds, _ :: es => by
    have := zipD_len ds es
    simp only [zipD, List.length_cons, this]
    omega
theorem pairDT {G : Hp} {H : Hp} {M : Mem} {T : Addr} {x y : V} {d e : D} (sh : SH K G H M) (hT : H T = none) (r : Rep K G x d) (r2 : Rep K G y e) : ∃ G3, Same G G3 ∧ SH K G3 (upd H T (.tup [x, y])) M ∧ Rep K G3 (.ref T) (.tup [d, e]) := by
  obtain ⟨sh2, g2⟩ := sh.new (o := .tup [x, y]) hT
  exact ⟨_, g2, sh2, .tup (.inl (.inl upd_same)) (.cons (r.up g2) (.cons (r2.up g2) .nil))⟩
theorem JW2.zipT {p q : Addr} {vs us : List V} {es : List D} {G : Hp} (hp : SqT K G p vs) (hq : SqT K G q us) (r : RepL K G vs ds) (r2 : RepL K G us es) : JW2 K (RZ.ItzT K p q) G (zipD ds es) := fun i H g => ⟨fun d h => by
    obtain ⟨x, y, h1, h2, rfl⟩ := zipD_get h
    obtain ⟨v, hv, rv⟩ := r.get h1
    obtain ⟨u, hu, ru⟩ := r2.get h2
    refine ⟨⟨vs, us, v, u, sqtUp g hp, sqtUp g hq, hv, hu⟩, ?_⟩
    rintro x H' ⟨T, x1, y1, rfl, hT, rfl, e1, e2⟩ G2 M g2 sh
    have f1 := e1 vs (sqtUp g hp)
    have f2 := e2 us (sqtUp g hq)
    rw [hv] at f1
    rw [hu] at f2
    cases f1
    cases f2
    exact pairDT sh hT (rv.up g2) (ru.up g2), fun h => ⟨vs, us, sqtUp g hp, sqtUp g hq, by rw [r.len, r2.len]; rw [zipD_len] at h; omega⟩⟩
theorem iw_zipT {elts : List Expr} {kk : Nat} {tpos p : Pos} {es' : List D} (hm : X.mg "zip" = none) (h : AV X [a, b] ρ M [.tup ds, .tup es'] M1) (q : ΦI (zipD ds es') M1) (hg : Gl X "zip" := by rfl) (hst : starEach [a, b] X.env = (false, eval a X.env) :: starEach [b] X.env := by rfl)
    (hpl : (backTo pos (starEach [b] X.env)).any (·.1) = false := by rfl) : IW X (.Tuple elts kk tpos) (.Call (.Name "zip" p) [a, b] [] pos) ρ M ΦI :=
  (RZ.pi_zipA hg hm h hst hpl).mono fun σ H R ⟨G, sa, k⟩ => ⟨G, sa, fun vs G1 H1 g1 sh1 r1 => by
    cases r1 with
    | cons r t =>
      cases t with
      | cons r2 t =>
        cases t
        cases r with
        | tup q1 r =>
          cases r2 with
          | tup q2 r2 => exact ⟨_, _, _, _, rfl, .inr ⟨sqtUp sh1.le q1, sqtUp sh1.le q2, k _ G1 H1 _ M1 q g1 sh1 (JW2.zipT q1 q2 r r2)⟩⟩⟩
/-- int of a bool -/
theorem ev_intB {z : Bool} {p : Pos} (hm : X.mg "int" = none) (ha : EV X e ρ M (dB z) M1) (hg : Gl X "int" := by rfl) (hst : starEach [e] X.env = [(false, eval e X.env)] := by rfl) : EV X (.Call (.Name "int" p) [e] [] pos) ρ M (dI (if z then 1 else 0)) M1 :=
  (pe_callTy call_int1 hg hm (by decide +kernel) (av_cons ha av_nil hst) (he := hst)).mono fun σ H Q ⟨G, sa, k⟩ => ⟨G, sa, fun vs' G1 H1 g1 sh1 r1 => by
    rw [RepL.of_vals (xs := [.bl z]) r1]
    exact .inr ⟨z, rfl, k _ G1 H1 g1 sh1 (.val _)⟩⟩
/-- a new list times a number -/
theorem ew_mulN (h : EW X a ρ M (fun d1 M1 => ∃ p ds, d1 = dP p ∧ M1 p = some (.lst ds) ∧ EW X b ρ M1 (fun d2 M2 => ∃ k : Int, d2 = dI k ∧ M2 p = some (.lst ds) ∧ -(2 ^ 63) ≤ k ∧ k < 2 ^ 63 ∧ ds.length * k.toNat ≤ sizeLine ∧
    ∀ l, M2 l = none → Φ (dP l) (M2.set l (.lst (List.replicate k.toNat ds).flatten))))) : EW X (.BinOp a .Mult b pos) ρ M Φ :=
  (pe_op op_rep h pk_e).mono fun σ H Q ⟨G, sa, kk⟩ => ⟨G, sa, fun v1 G1 H1 d1 M1 ⟨p, ds, e1, m1, h2⟩ g1 sh1 r1 => ⟨M1, _, h2, G1, ⟨sh1, sa.sl.up g1⟩, fun v2 G2 H2 d2 M2 ⟨k, e2, m1', hk1, hk2, hl, hp⟩ g2 sh2 r2 => by
    subst e1 e2
    obtain ⟨_, vs, hv, r⟩ := sh2.mem p _ m1'
    refine ⟨p, k, vs, r1.of_val, r2.of_val, hv, hk1, hk2, by rw [r.len]; exact hl, fun l hl => ?_⟩
    obtain ⟨sh3, m3, _⟩ := sh2.newM hl (rep_flat r k.toNat)
    exact kk _ _ _ _ _ (hp l m3) (g1.trans g2) sh3 (.val _)⟩⟩
/-- max, min of two -/
theorem ev_max2 {i j : Int} {p : Pos} (hc : X.calm = true) (hm : X.mg "max" = none) (ha : AV X [a, b] ρ M [dI i, dI j] M1) (hg : Gl X "max" := by rfl) (hst : starEach [a, b] X.env = (false, eval a X.env) :: starEach [b] X.env := by rfl) (hpl : (backTo pos (starEach [b] X.env)).any (·.1) = false := by rfl) : EV X (.Call (.Name "max" p) [a, b] [] pos) ρ M (dI (if j > i then j else i)) M1 :=
  (pe_callB (call_max2 hc) hg hm boot_max ha (he := hst) (hpl := hpl)).mono fun σ H Q ⟨G, sa, k⟩ => ⟨G, sa, fun vs' G1 H1 g1 sh1 r1 => by
    rw [RepL.of_vals (xs := [.int i, .int j]) r1]
    exact ⟨i, j, rfl, k _ G1 H1 g1 sh1 (.val _)⟩⟩
theorem ev_min2 {i j : Int} {p : Pos} (hc : X.calm = true) (hm : X.mg "min" = none) (ha : AV X [a, b] ρ M [dI i, dI j] M1) (hg : Gl X "min" := by rfl) (hst : starEach [a, b] X.env = (false, eval a X.env) :: starEach [b] X.env := by rfl) (hpl : (backTo pos (starEach [b] X.env)).any (·.1) = false := by rfl) : EV X (.Call (.Name "min" p) [a, b] [] pos) ρ M (dI (if j < i then j else i)) M1 :=
  (pe_callB (call_min2 hc) hg hm boot_min ha (he := hst) (hpl := hpl)).mono fun σ H Q ⟨G, sa, k⟩ => ⟨G, sa, fun vs' G1 H1 g1 sh1 r1 => by
    rw [RepL.of_vals (xs := [.int i, .int j]) r1]
    exact ⟨i, j, rfl, k _ G1 H1 g1 sh1 (.val _)⟩⟩
theorem ew_min2 {p : Pos} (hc : X.calm = true) (hm : X.mg "min" = none) (h : AW X [a, b] ρ M (fun ds M1 => ∃ i j : Int, ds = [dI i, dI j] ∧ Φ (dI (if j < i then j else i)) M1)) (hg : Gl X "min" := by rfl) (hst : starEach [a, b] X.env = (false, eval a X.env) :: starEach [b] X.env := by rfl) (hpl : (backTo pos (starEach [b] X.env)).any (·.1) = false := by rfl) : EW X (.Call (.Name "min" p) [a, b] [] pos) ρ M Φ :=
  (pe_callB (call_min2 hc) hg hm boot_min h (he := hst) (hpl := hpl)).mono fun σ H Q ⟨G, sa, k⟩ => ⟨G, sa, fun vs' G1 H1 ds M1 ⟨i, j, e, q⟩ g1 sh1 r1 => by
    subst e
    rw [RepL.of_vals (xs := [.int i, .int j]) r1]
    exact ⟨i, j, rfl, k _ G1 H1 _ M1 q g1 sh1 (.val _)⟩⟩
theorem ew_max2 {p : Pos} (hc : X.calm = true) (hm : X.mg "max" = none) (h : AW X [a, b] ρ M (fun ds M1 => ∃ i j : Int, ds = [dI i, dI j] ∧ Φ (dI (if j > i then j else i)) M1)) (hg : Gl X "max" := by rfl) (hst : starEach [a, b] X.env = (false, eval a X.env) :: starEach [b] X.env := by rfl) (hpl : (backTo pos (starEach [b] X.env)).any (·.1) = false := by rfl) : EW X (.Call (.Name "max" p) [a, b] [] pos) ρ M Φ :=
  (pe_callB (call_max2 hc) hg hm boot_max h (he := hst) (hpl := hpl)).mono fun σ H Q ⟨G, sa, k⟩ => ⟨G, sa, fun vs' G1 H1 ds M1 ⟨i, j, e, q⟩ g1 sh1 r1 => by
    subst e
    rw [RepL.of_vals (xs := [.int i, .int j]) r1]
    exact ⟨i, j, rfl, k _ G1 H1 _ M1 q g1 sh1 (.val _)⟩⟩
/-- x in a tree of plain things -/
theorem op_inT {X : Cx} (hu : X.A.units + 65 < cLine) : OpR X (compareOp .In) (fun x y H Q => ∃ d ds, Dp X.K H x d ∧ Dp X.K H y (.tuple ds) ∧ SeqAt.shaped d = true ∧ SeqAt.shaped (.tuple ds) = true ∧ Q (.bl (ds.any fun z => PyData.eqv z d)) H) := fun pins s σ H x y v u Q I rx ry ⟨d, ds, hd, he, sd, se, q⟩ => by
  obtain ⟨as, r1⟩ := Dp.reads I d x v hd rx
  obtain ⟨bs, r2⟩ := Dp.reads I (.tuple ds) y u he ry
  exact SeqAt.in_tuple_reads r2 r1 (SeqAt.canLay_of_shaped se) (SeqAt.canLay_of_shaped sd) (room_in_shaped sd hu) ⟨.bl _, H, I, rfl, q⟩
theorem ev_inD {d : D} (hu : X.A.units + 65 < cLine) (ha : EV X a ρ M d M1) (hb : EV X b ρ M1 (.tup ds) M2) (pd : d.plain = true) (pds : D.plainL ds = true) (s1 : SeqAt.shaped d.py = true) (s2 : SeqAt.shaped (.tuple (D.pyL ds)) = true) (hm : behindInMarks .In b = false) :
    EV X (.Compare a [.In] [b] pos) ρ M (dB ((D.pyL ds).any fun z => PyData.eqv z d.py)) M2 :=
  (pe_cmpR (op_inT hu) ha hb hm).mono fun σ H Q ⟨G, sa, k⟩ => ⟨G, sa, fun v1 G1 H1 g1 sh1 r1 => ⟨G1, ⟨sh1, sa.sl.up g1⟩, fun v2 G2 H2 g2 sh2 r2 =>
    ⟨_, _, dp_of sh2.le _ _ pd (r1.up g2), dp_of sh2.le _ (.tup ds) pds r2, s1, s2, k _ G2 H2 (g1.trans g2) sh2 (.val _)⟩⟩⟩
end
section
variable {X : Cx} {ρ : Sl} {M M1 : Mem} {d : D} {ds : List D} {pos : Pos} {Ψ : Out → Prop} {Φ : D → Mem → Prop} {tg iter : Expr} {g : TG}
/-- [e for x in .. if c], the list is going to be changed -/
def LcF (X : Cx) (g : TG) (own : List (Str × Nat)) (scope : Scope) (elt cnd : Expr) (ρ : Sl) (Φ : D → Mem → Prop) (ds : List D) (M1 : Mem) : Prop :=
  ds.length ≤ sizeLine ∧ ∃ Iv : Nat → List D → Mem → Prop, Iv 0 [] M1 ∧
    (∀ i d acc M, ds[i]? = some d → acc.length ≤ i → Iv i acc M → ∃ ρ', TGb X.K g (own.map (·.2)) (wipeD ρ (own.map (·.2))) d ρ' ∧ ∀ (p : Addr), M p = none → ∀ (s : Shared) (H : Hp) (C : Addr) (cl : List (Str × Addr)) (fp : List Addr),
      TW (X.blk s H scope (compEnvC scope cl C X.env) fp) cnd ρ' (M.set p (.lst acc)) (fun b M' => ∃ M2, M' = M2.set p (.lst acc) ∧ M2 p = none ∧ (b = false → Iv (i + 1) acc M2) ∧ (b = true → ∀ (s : Shared) (H : Hp) (C : Addr) (cl : List (Str × Addr)) (fp : List Addr),
        EW (X.blk s H scope (compEnvC scope cl C X.env) fp) elt ρ' (M2.set p (.lst acc)) (fun d' M' => ∃ M3, M' = M3.set p (.lst acc) ∧ M3 p = none ∧ Iv (i + 1) (acc ++ [d']) M3)))) ∧
    ∀ acc M, acc.length ≤ ds.length → Iv ds.length acc M → ∀ p, M p = none → Φ (dP p) (M.set p (.lst acc))
theorem lcf_read {elt cnd : Expr} {scope : Scope} {own : List (Str × Nat)} (σ : L2.St) (H : Hp) (Q : VK) (hΦ : ∃ G, SA X.K G H σ ρ M ∧ ∀ v G' H' d M', Φ d M' → Same G G' → SH X.K G' H' M' → Rep X.K G' v d → Q v H') :
    tLc (tIW X.K ρ M (LcF X g own scope elt cnd ρ Φ)) g (fun σ H Q => ∃ ρ' M' Φ', (∀ (s : Shared) (H : Hp) (C : Addr) (cl : List (Str × Addr)) (fp : List Addr), TW (X.blk s H scope (compEnvC scope cl C X.env) fp) cnd ρ' M' Φ') ∧ tTW X.K ρ' M' Φ' σ H Q)
      (fun σ H Q => ∃ ρ' M' Φ', (∀ (s : Shared) (H : Hp) (C : Addr) (cl : List (Str × Addr)) (fp : List Addr), EW (X.blk s H scope (compEnvC scope cl C X.env) fp) elt ρ' M' Φ') ∧ tW X.K ρ' M' Φ' σ H Q) (own.map (·.2)) σ H Q := by
  obtain ⟨G, sa, k⟩ := hΦ
  refine ⟨G, sa, fun J G1 H1 ds M1 ⟨hlen, Iv, h0, step, done⟩ g1 sh1 jw => fun p hp => ?_⟩
  obtain ⟨shp, mp, gp⟩ := sh1.newM hp (RepL.nil (K := X.K) (G := G1))
  refine ⟨fun i mm H => mm = ds.length - i ∧ i ≤ ds.length ∧ ∃ G acc M, Same G1 G ∧ acc.length ≤ i ∧ M p = none ∧ Iv i acc M ∧ SH X.K G H (M.set p (.lst acc)), ⟨ds.length, by simp, Nat.zero_le _, G1, [], M1, Same.refl _, Nat.zero_le _, mp, h0, shp⟩, ?_⟩
  rintro i mm H2 ⟨rfl, hi, G2, acc, M2, g2, hacc, hmp, iv, sh2⟩
  obtain ⟨j1, j2⟩ := jw i H2 (g2.trans sh2.le)
  by_cases hlt : i < ds.length
  · have hd : ds[i]? = some ds[i] := List.getElem?_eq_getElem hlt
    obtain ⟨go, yl⟩ := j1 _ hd
    refine .inr ⟨go, fun H3 => ∃ G acc M, Same G1 G ∧ acc.length ≤ i + 1 ∧ M p = none ∧ Iv (i + 1) acc M ∧ SH X.K G H3 (M.set p (.lst acc)), fun H' p' => ⟨ds.length - (i + 1), by omega, rfl, hlt, p'⟩, fun x H' y => ?_⟩
    obtain ⟨G3, g3, sh3, rx⟩ := yl x H' y G2 _ g2 sh2
    have g2 := g2.trans g3
    obtain ⟨ρ3, tg3, ev⟩ := step i _ acc M2 hd hacc iv
    refine tg3 x σ G3 H' _ sh3.le (wipe_rep ((sa.sl.up g1).up g2) _) rx fun σ3 rs3 hw => ⟨hw, ?_⟩
    show ∃ ρ' M' Φ', _ ∧ tTW X.K ρ' M' Φ' σ3 H' _
    refine ⟨ρ3, _, _, ev p hmp, G3, ⟨sh3, rs3⟩, fun bb G4 H4 M4 ⟨M5, e5, n5, hf, ht⟩ g4 sh4 => ?_⟩
    subst e5
    cases bb with
    | false => exact ⟨G4, acc, M5, g2.trans g4, Nat.le_succ_of_le hacc, n5, hf rfl, sh4⟩
    | true =>
      show ∃ ρ' M' Φ', _ ∧ tW X.K ρ' M' Φ' σ3 H4 _
      refine ⟨ρ3, _, _, ht rfl, G4, ⟨sh4, rs3.up g4⟩, fun v G5 H5 d5 M6 ⟨M7, e7, n7, iv7⟩ g5 sh5 r5 => ?_⟩
      subst e7
      obtain ⟨_, vs, hv, rl⟩ := sh5.mem p _ Mem.set_same
      refine ⟨vs, hv, ?_, G5, acc ++ [d5], M7, (g2.trans g4).trans g5, by rw [List.length_append]; exact Nat.succ_le_succ hacc, n7, iv7, ?_⟩
      · rw [rl.len]
        exact Nat.lt_of_le_of_lt hacc (Nat.lt_of_lt_of_le hlt hlen)
      · have q := sh5.put (ds := acc ++ [d5]) Mem.set_same (rl.append (.cons r5 .nil))
        rw [Mem.set_set] at q
        exact q
  · have e : i = ds.length := by omega
    subst e
    exact .inl ⟨j2 (Nat.le_refl _), k _ _ H2 _ _ (done acc M2 hacc iv p hmp) (g1.trans g2) sh2 (.val _)⟩
theorem ew_lcF {elt cnd : Expr} {scope : Scope} {own : List (Str × Nat)} (hc : X.calm = true) (hN : X.N.Nodup) (ok : BlkOk X.N X.env.scope scope own)
    (hg : ∀ (s : Shared) (H : Hp) (C : Addr) (cl : List (Str × Addr)) (fp : List Addr), PG (X.blk s H scope (compEnvC scope cl C X.env) fp) tg g) (hi : IW X tg iter ρ M (LcF X g own scope elt cnd ρ Φ))
    (hs : ∀ x, foldedSetIterable iter X.env x = pure x := by intro _; rfl) : EW X (.ListComp elt [⟨tg, iter, [cnd], 0⟩] scope pos) ρ M Φ :=
  (pe_lc hc hN hi ok hg (fun s H C cl fp => pts_one ⟨fun pins s' σ H' Q I ⟨ρ', M', Φ', hb, q⟩ => (hb s H C cl fp).run pins s' σ H' Q I q⟩) (fun s H C cl fp => ⟨fun pins s' σ H' Q I ⟨ρ', M', Φ', hb, q⟩ => (hb s H C cl fp).run pins s' σ H' Q I q⟩) hs).mono fun σ H Q h => lcf_read σ H Q h
/-- a new list is changed no more -/
theorem ew_frz {e : Expr} (h : EW X e ρ M (fun d M1 => ∃ p ds M2, d = dP p ∧ M1 = M2.set p (.lst ds) ∧ M2 p = none ∧ Φ (.lst ds) M2)) : EW X e ρ M Φ := h.mono fun σ H Q ⟨G, sa, k⟩ => ⟨G, sa, fun v G1 H1 d M1 ⟨p, ds, M2, e1, e2, hm, q⟩ g1 sh1 r1 => by
  subst e1 e2
  obtain ⟨vs, sh3, g3, rl⟩ := sh1.freeze hm
  rw [r1.of_val]
  exact k _ _ _ _ _ q (g1.trans g3) sh3 (.lst (.inl (.inl upd_same)) (rl.up g3))⟩
end
end Vt
namespace Vt
open PySem PySem.Spec PyProof.Rows L2
/-! ### instances of the program's classes -/
def putD (f : Str) (d : D) : List (Str × D) → List (Str × D)
  | [] => [(f, d)]
  | (g, x) :: r => if g = f then (g, d) :: r else (g, x) :: putD f d r
theorem RepF.put {K : PySem.W.Frag} {G : Hp} {f : Str} {v : V} {d : D} (r : Rep K G v d) : ∀ {fv : List (Str × V)} {fs : List (Str × D)}, RepF K G fv fs → RepF K G (putF f v fv) (putD f d fs)
  | [], [], _ => RepF.cons r RepF.nil
  | [], _ :: _, h => by have := h.ks; cases this
  | _ :: _, [], h => by have := h.ks; cases this
  | (k1, v1) :: fv, (k2, d2) :: fs, ⟨ks, vs⟩ => by
    rw [List.map_cons, List.map_cons] at ks vs
    obtain ⟨e1, e2⟩ := List.cons.inj ks
    obtain rfl : k1 = k2 := e1
    cases vs with
    | cons r1 t =>
      unfold putF putD
      split
      · exact RepF.cons r ⟨e2, t⟩
      · exact RepF.cons r1 (RepF.put r ⟨e2, t⟩)
theorem RepF.len {κ : Type} {K : PySem.W.Frag} {G : Hp} {fv : List (κ × V)} {fs : List (κ × D)} (h : RepF K G fv fs) : fv.length = fs.length := by
  have := congrArg List.length h.ks
  rw [List.length_map, List.length_map] at this
  exact this
theorem SH.putI {K : PySem.W.Frag} {G H : Hp} {M : Mem} {p C dx : Addr} {mo : MO} {fv : List (Str × V)} {fs : List (Str × D)} (s : SH K G H M) (hm : M p = some mo) (r : RepF K G fv fs) : SH K G (upd H p (.ins C dx fv)) (M.set p (.ins C fs)) := by
  obtain ⟨gp, _⟩ := s.mem p mo hm
  refine ⟨fun b u e => ?_, fun b mo e => ?_⟩
  · rw [upd_ne (ne_of_none e gp)]; exact s.le b u e
  · by_cases hb : b = p
    · subst hb
      rw [Mem.set_same] at e
      cases e
      exact ⟨gp, dx, fv, upd_same, r⟩
    · rw [Mem.set_ne hb] at e
      obtain ⟨g0, at0⟩ := s.mem b mo e
      exact ⟨g0, at0.up (Same.refl G) (upd_ne hb)⟩
theorem SH.newI {K : PySem.W.Frag} {G H : Hp} {M : Mem} {x dx C : Addr} (s : SH K G H M) (hx : H x = none) (hd : H dx = none) (_ne : dx ≠ x) : SH K G (upd (upd H dx (.own x)) x (.ins C dx [])) (M.set x (.ins C [])) ∧ M x = none := by
  have gn : ∀ {b}, H b = none → G b = none := fun {b} h => by
    cases e : G b with
    | none => rfl
    | some u => rw [s.le b u e] at h; cases h
  refine ⟨⟨fun b u e => ?_, fun b mo e => ?_⟩, ?_⟩
  · rw [upd_ne (ne_of_none e (gn hx)), upd_ne (ne_of_none e (gn hd))]; exact s.le b u e
  · by_cases hb : b = x
    · subst hb
      rw [Mem.set_same] at e
      cases e
      exact ⟨gn hx, dx, [], upd_same, RepF.nil⟩
    · rw [Mem.set_ne hb] at e
      obtain ⟨g0, at0⟩ := s.mem b mo e
      obtain ⟨u, hu⟩ := at0.some
      exact ⟨g0, at0.up (Same.refl G) (by rw [upd_ne hb, upd_ne (ne_of_none hu hd)])⟩
  · cases e : M x with
    | none => rfl
    | some mo =>
      obtain ⟨_, at0⟩ := s.mem x mo e
      obtain ⟨u, hu⟩ := at0.some
      rw [hx] at hu; cases hu
section
variable {X : Cx} {W : WX} {ρ : Sl} {M M1 M2 : Mem} {a b e o value : Expr} {es : List Expr} {d : D} {ds : List D} {pos pos' : Pos} {Ψ : Out → Prop} {Φ : D → Mem → Prop} {f : Str} {C p : Addr} {fs : List (Str × D)}
/-- o.f -/
theorem ev_fld (ha : EV X e ρ M (dP p) M1) (hm : M1 p = some (.ins C fs)) (c : Cls X.K C) (n : NoAttr X.K C f) (hl : fs.lookup f = some d) (hb : attributeBase e f X.env (eval e X.env) = eval e X.env := by rfl) : EV X (.Attribute e f pos) ρ M d M1 :=
  (pe_fld ha hb).mono fun σ H Q ⟨G, sa, k⟩ => ⟨G, sa, fun v1 G1 H1 g1 sh1 r1 => by
    obtain ⟨_, dx, fv, hv, rf⟩ := sh1.mem p _ hm
    obtain ⟨v, hl2, rv⟩ := rf.get hl
    exact ⟨p, C, dx, fv, v, r1.of_val, hv, c, n, hl2, k v G1 H1 g1 sh1 rv⟩⟩
theorem ew_fld (ha : EW X e ρ M (fun d1 M1 => ∃ p fs d, d1 = dP p ∧ M1 p = some (.ins C fs) ∧ fs.lookup f = some d ∧ Φ d M1)) (c : Cls X.K C) (n : NoAttr X.K C f) (hb : attributeBase e f X.env (eval e X.env) = eval e X.env := by rfl) : EW X (.Attribute e f pos) ρ M Φ :=
  (pe_fld ha hb).mono fun σ H Q ⟨G, sa, k⟩ => ⟨G, sa, fun v1 G1 H1 d1 M1 ⟨p, fs, d, e1, hm, hl, q⟩ g1 sh1 r1 => by
    subst e1
    obtain ⟨_, dx, fv, hv, rf⟩ := sh1.mem p _ hm
    obtain ⟨v, hl2, rv⟩ := rf.get hl
    exact ⟨p, C, dx, fv, v, r1.of_val, hv, c, n, hl2, k v G1 H1 d M1 q g1 sh1 rv⟩⟩
/-- o.f = value -/
theorem sw_fld (hv : EW X value ρ M (fun d M1 => EV X o ρ M1 (dP p) M1 ∧ ∃ fs, M1 p = some (.ins C fs) ∧ fs.length < 1000 ∧ Ψ (.nx ρ (M1.set p (.ins C (putD f d fs)))))) (c : Cls X.K C) (n : NoAttr X.K C f)
    (hs : swapsWith value (some (.Attribute o f pos')) pos.line X.env = pure false := by rfl) : SV X (.Assign [.Attribute o f pos'] value pos) ρ M Ψ :=
  (ps_fld (ta := fun σ H Q => ∃ M1, EV X o ρ M1 (dP p) M1 ∧ tE X.K ρ M1 (dP p) M1 σ H Q) ⟨fun pins s σ H Q I ⟨M1, h, q⟩ => h.run pins s σ H Q I q⟩ hv hs).mono fun E σ H ⟨G, sa, k⟩ => ⟨G, sa, fun v1 G1 H1 d M1 ⟨ho, fs, hm, hl, q⟩ g1 sh1 r1 => ⟨M1, ho, G1, ⟨sh1, sa.sl.up g1⟩, fun v2 G2 H2 g2 sh2 r2 => by
    obtain ⟨_, dx, fv, hv, rf⟩ := sh2.mem p _ hm
    refine ⟨p, C, dx, fv, r2.of_val, hv, c, n, by rw [rf.len]; exact hl, ?_⟩
    exact k _ q σ G2 _ (g1.trans g2) ⟨sh2.putI hm (rf.put (r1.up g2)), (sa.sl.up g1).up g2⟩⟩⟩
end
/-! making one -/
structure MkC (P : Program) (w : World) (K : PySem.W.Frag) (mg : Str → Option Value) (base : Heap) (k : Nat) (x : Str) (C : Addr) (sp : Sp) : Prop where
  ex : ∃ f fd ps, mg x = some (.ref C) ∧ Mk K C f ∧ Binds K fd ps [] ∧ FnOk P w K mg base (L2.CX P w) k f fd ps sp
section
variable {X : Cx} {W : WX} {ρ : Sl} {M : Mem} {e : Expr} {es : List Expr} {pos p1 : Pos} {Φ : Res → Mem → Prop} {x : Str} {C : Addr} {k : Nat}
theorem run_makeW {CX : CXT} {pins : List (Addr × Obj)} {σ : L2.St} {H : Hp} {s : Shared} {Q : VK} {us : List Value} {vs : List V} {E : XK} {f : Addr} {fd : FuncData} {ps : List Str} {sp : Sp} (mk : Mk X.K C f) (Fi : FnOk X.prog X.w X.K X.mg X.base CX k f fd ps sp) (rm : Room (k + 1) X.A) (bi : Binds X.K fd ps [])
    (pa : PassesAt CX X σ E) (J : Inv X pins σ H s) (rv : Vals vs us) (hs : ∀ y dy, H y = none → H dy = none → dy ≠ y → sp (.ref y :: vs) (upd (upd H dy (.own y)) y (.ins C dy [])) (fun v H2 => v = .non ∧ Q (.ref y) H2) E) :
    wpAny (model X.prog X.w) X.A (call (.ref C) us) (EP X pins σ Q) X.xe s := by
  have want := hs (s.heap.objs.size + 1) s.heap.objs.size (J.hok.fresh (Nat.le_succ _)) (J.hok.fresh (Nat.le_refl _)) (Nat.ne_of_lt (Nat.lt_succ_self _))
  have J2 := Inv.made (C := C) J
  have vals : Vals (V.ref (s.heap.objs.size + 1) :: vs) (Value.ref (s.heap.objs.size + 1) :: us) := .cons rfl rv
  have many : (Value.ref (s.heap.objs.size + 1) :: us ++ []).length = ps.length := by
    rw [List.append_nil, ← vals.length]
    exact Fi.len _ _ _ _ want
  have bnd := bi _ (Value.ref (s.heap.objs.size + 1) :: us) J2.kIn many
  rw [List.append_nil] at bnd
  have go := Fi.run _ X.stack _ _ ⟨Value.ref (s.heap.objs.size + 1) :: us, []⟩ (Value.ref (s.heap.objs.size + 1) :: us) _ _ E (rm.make C us []) (J2.env0.make C us []) bnd vals want
  refine wpAny_call (make_map (f := f) J.kIn mk.makes mk.init (beq_iff_eq.mp mk.fn) (codeAny_mono go fun out t ht => ?_))
  match out, ht with
  | .error z, ht => exact pa pins _ _ z t J2 ht
  | .ok (.ret z), ht =>
    obtain ⟨v, H', J3, r3, ev, q3⟩ := J2.after ht
    subst ev
    exact ⟨r3, ⟨V.ref (s.heap.objs.size + 1), H', J3, rfl, q3⟩⟩
  | .ok .next, ht => exact False.elim ht
  | .ok .brk, ht => exact False.elim ht
  | .ok .cont, ht => exact False.elim ht
/-- C(..): its __init__ may raise -/
theorem eu_make {R : List D → Mem → (Res → Mem → Prop) → Prop} (B : MkC X.prog X.w X.K X.mg X.base k x C (spU X.K R)) (tk : Takes X W) (hr : Room (k + 1) X.A)
    (h : AW X (e :: es) ρ M (fun ds M1 => ∀ y, M1 y = none → R (dP y :: ds) (M1.set y (.ins C [])) (fun r M2 => match r with | .ok d => d = dN ∧ Φ (.ok (dP y)) M2 | .ex c dd => Φ (.ex c dd) M2)))
    (hg : Gl X x := by rfl) (hdb : (x == ("__debug__" : Str)) = false := by decide) (he : starEach (e :: es) X.env = (false, eval e X.env) :: starEach es X.env := by rfl) (hpl : (backTo pos (starEach es X.env)).any (·.1) = false := by rfl) : EU X W (.Call (.Name x p1) (e :: es) [] pos) ρ M Φ := by
  obtain ⟨f, fd, ps, hm, mk, bi, Fi⟩ := B.ex
  refine ⟨fun pins s σ H Q I ⟨G, sa, k1, k2⟩ => ?_⟩
  refine wpAny_Call_Name_kw (ld_glob I hg hm ?_ hdb)
  refine PySem.W.callWith_K (h₀ := X.base) I.ok.mod.kin mk.kp (thn (h.run pos pins s σ H (fun vs H1 => ∀ y dy, H1 y = none → H1 dy = none → dy ≠ y → spU X.K R (.ref y :: vs) (upd (upd H1 dy (.own y)) y (.ins C dy [])) (fun v H2 => v = .non ∧ Q (.ref y) H2) (WE W σ)) I ⟨G, sa, fun vs G1 H1 ds M1 hR g1 sh1 r1 y dy hy hdy ne => ?_⟩) fun us s1 ⟨vs, H1, I1, r, q⟩ => ⟨I1.kIn, run_makeW mk Fi hr bi (passAt tk σ) I1 r q⟩) he hpl
  obtain ⟨shn, my⟩ := sh1.newI (C := C) hy hdy ne
  exact ⟨G1, dP y :: ds, _, _, shn, .cons (.val _) r1, hR y my, fun v G' H' d M' hq g sh rr => by
      obtain ⟨rfl, hq⟩ := hq
      exact ⟨rr.of_val, k1 _ G' H' _ M' hq (g1.trans g) sh (.val _)⟩, fun cls dd G' H' M' hq g sh => k2 cls dd G' H' M' hq (g1.trans g) sh⟩
/-- a promise of a def that may raise, from its body, wherever its name stands -/
theorem fnU_of {P : Program} {w : World} {K : PySem.W.Frag} {mg : Str → Option Value} {base : Heap} {x qual : Str} {sd : Stmt} {f : Addr} {fd : FuncData} {N ps : List Str} {k : Nat} {R : List D → Mem → (Res → Mem → Prop) → Prop} (F : Fun K x qual sd f fd) (S : FnScope N ps (defScope sd)) (len : ∀ ds M Φ, R ds M Φ → ds.length = ps.length)
    (hb : ∀ (cdv : Value) (A : Around) (outer : List Env) (s : Shared) (H : Hp) (E : XK) (ds : List D) (M : Mem) (Φ : Res → Mem → Prop), Room k (A.deeper (envOfC qual (defScope sd) s.heap.objs.size f cdv)) → R ds M Φ →
      ∀ W, Takes (cxOf (L2.CX P w) P w K mg base N qual (defScope sd) f cdv A outer s H E) W → PassesOwn (model P w) (cxOf (L2.CX P w) P w K mg base N qual (defScope sd) f cdv A outer s H E).A (cxOf (L2.CX P w) P w K mg base N qual (defScope sd) f cdv A outer s H E).env (cxOf (L2.CX P w) P w K mg base N qual (defScope sd) f cdv A outer s H E).xe →
      BU (cxOf (L2.CX P w) P w K mg base N qual (defScope sd) f cdv A outer s H E) W (defBody sd) (startD N ds) M (FinU Φ)) : FnOk P w K mg base (L2.CX P w) (k + 1) f fd ps (spU K R) :=
  F.okX S (fun vs H Q E ⟨G, ds, M, Φ, sh, r, p, q⟩ => by rw [r.len]; exact len _ _ _ p) fun cdv A outer s H vs Q E hr ⟨G, ds, M, Φ, sh, r, p, q1, q2⟩ => by
    refine ⟨_, hb cdv A outer s H E ds M Φ hr p (fun cls d _ H' => E cls d H') (takes_of (E := E) rfl rfl rfl rfl) (passes_of rfl), G, ⟨sh, start_rep r⟩, fun o ho => ?_⟩
    cases o with
    | ex cls dd ρ' M'' =>
      obtain ⟨M', hp, hm⟩ := ho
      exact fun σ' G' H' g sa' => q2 cls dd G' H' M' hp g (sa'.sh.weak hm)
    | o o =>
      cases o with
      | ret d' M'' =>
        obtain ⟨M', hp, hm⟩ := ho
        exact fun v G' H' g sh' r' => q1 v G' H' d' M' hp g (sh'.weak hm) r'
      | nx ρ' M'' =>
        obtain ⟨M', hp, hm⟩ := ho
        exact fun σ' G' H' g sa' => q1 _ G' H' dN M' hp g (sa'.sh.weak hm) (.val _)
      | bk ρ' M'' => exact ho.elim
      | ct ρ' M'' => exact ho.elim
end
end Vt
namespace Vt
open PySem PySem.Spec PyProof.Rows L2
/-! ### what may raise within larger things -/
section
variable {X : Cx} {W : WX} {ρ : Sl} {M M1 : Mem} {a b e o value : Expr} {d d1 : D} {pos pos' : Pos} {Ψ : OutX → Prop} {Φ : Res → Mem → Prop} {f : Str} {C p : Addr}
theorem ev_dict0 : EV X (.Dict [] [] pos) ρ M .dic M := pe_dnewK.mono fun σ H Q ⟨G, sa, k⟩ p hp => by
  obtain ⟨sh2, g2⟩ := sa.sh.new (o := .dK []) hp
  exact k _ _ _ g2 sh2 (.dic upd_same)
theorem eu_fld (ha : EU X W e ρ M (fun r M1 => match r with | .ok d1 => ∃ p fs d, d1 = dP p ∧ M1 p = some (.ins C fs) ∧ fs.lookup f = some d ∧ Φ (.ok d) M1 | .ex c dd => Φ (.ex c dd) M1)) (c : Cls X.K C) (n : NoAttr X.K C f) (hb : attributeBase e f X.env (eval e X.env) = eval e X.env := by rfl) : EU X W (.Attribute e f pos) ρ M Φ :=
  (pe_fld ha hb).mono fun σ H Q ⟨G, sa, k1, k2⟩ => ⟨G, sa, fun v1 G1 H1 d1 M1 ⟨p, fs, d, e1, hm, hl, q⟩ g1 sh1 r1 => by
    subst e1
    obtain ⟨_, dx, fv, hv, rf⟩ := sh1.mem p _ hm
    obtain ⟨v, hl2, rv⟩ := rf.get hl
    exact ⟨p, C, dx, fv, v, r1.of_val, hv, c, n, hl2, k1 v G1 H1 d M1 q g1 sh1 rv⟩, fun cls dd G1 H1 M1 q g1 sh1 => k2 cls dd G1 H1 M1 q g1 sh1⟩
theorem eu_lenT {np : Pos} (hm : X.mg "len" = none) (h : EU X W e ρ M (fun r M1 => match r with | .ok d => ∃ ds, d = .tup ds ∧ Φ (.ok (dI ds.length)) M1 | .ex c dd => Φ (.ex c dd) M1)) (hg : Gl X "len" := by rfl) (hst : starEach [e] X.env = [(false, eval e X.env)] := by rfl) : EU X W (.Call (.Name "len" np) [e] [] pos) ρ M Φ :=
  (pe_callB call_len_seq hg hm PySem.boot_len (pa_cons h pa_nil hst) (he := hst)).mono fun σ H Q ⟨G, sa, k1, k2⟩ => ⟨G, sa, fun v1 G1 H1 d M1 ⟨ds, e1, q⟩ g1 sh1 r1 => by
    subst e1
    cases r1 with
    | tup q1 r => exact ⟨_, _, rfl, .inr (sqtUp sh1.le q1), by rw [r.len]; exact k1 _ G1 H1 _ M1 q g1 sh1 (.val _)⟩, fun cls dd G1 H1 M1 q g1 sh1 => k2 cls dd G1 H1 M1 q g1 sh1⟩
theorem eu_tup2 {kk : Nat} (ha : EV X a ρ M d1 M1) (hb : EU X W b ρ M1 (fun r M2 => match r with | .ok d2 => Φ (.ok (.tup [d1, d2])) M2 | .ex c dd => Φ (.ex c dd) M2))
    (hs : starEach [a, b] X.env = (false, eval a X.env) :: starEach [b] X.env := by rfl) (hs2 : starEach [b] X.env = (false, eval b X.env) :: starEach [] X.env := by rfl) : EU X W (.Tuple [a, b] kk pos) ρ M Φ :=
  (pe_tup (pa_cons ha (pa_cons hb pa_nil hs2) hs)).mono fun σ H Q ⟨G, sa, k1, k2⟩ => ⟨G, sa, fun v1 G1 H1 g1 sh1 r1 => ⟨G1, ⟨sh1, sa.sl.up g1⟩, fun v2 G2 H2 d2 M2 q g2 sh2 r2 => ⟨by (simp only [List.length_cons, List.length_nil]; decide), fun p hp => by
    obtain ⟨sh3, g3⟩ := sh2.new (o := .tup [v1, v2]) hp
    exact k1 _ _ _ _ _ q ((g1.trans g2).trans g3) sh3 (.tup (.inl (.inl upd_same)) (.cons ((r1.up g2).up g3) (.cons (r2.up g3) .nil)))⟩, fun cls dd G2 H2 M2 q g2 sh2 => k2 cls dd G2 H2 M2 q (g1.trans g2) sh2⟩⟩
/-- o.f = value, the value may raise -/
theorem su_fld (hv : EU X W value ρ M (fun r M1 => match r with | .ok d => EV X o ρ M1 (dP p) M1 ∧ ∃ fs, M1 p = some (.ins C fs) ∧ fs.length < 1000 ∧ Ψ (.o (.nx ρ (M1.set p (.ins C (putD f d fs))))) | .ex c dd => Ψ (.ex c dd ρ M1))) (c : Cls X.K C) (n : NoAttr X.K C f)
    (hs : swapsWith value (some (.Attribute o f pos')) pos.line X.env = pure false := by rfl) : SU X W (.Assign [.Attribute o f pos'] value pos) ρ M Ψ :=
  (ps_fld (ta := fun σ H Q => ∃ M1, EV X o ρ M1 (dP p) M1 ∧ tE X.K ρ M1 (dP p) M1 σ H Q) ⟨fun pins s σ H Q I ⟨M1, h, q⟩ => h.run pins s σ H Q I q⟩ hv hs).mono fun E σ H ⟨G, sa, k⟩ => ⟨G, sa, fun v1 G1 H1 d M1 ⟨ho, fs, hm, hl, q⟩ g1 sh1 r1 => ⟨M1, ho, G1, ⟨sh1, sa.sl.up g1⟩, fun v2 G2 H2 g2 sh2 r2 => by
    obtain ⟨_, dx, fv, hv, rf⟩ := sh2.mem p _ hm
    refine ⟨p, C, dx, fv, r2.of_val, hv, c, n, by rw [rf.len]; exact hl, ?_⟩
    exact k _ q σ G2 _ (g1.trans g2) ⟨sh2.putI hm (rf.put (r1.up g2)), (sa.sl.up g1).up g2⟩⟩, fun cls dd G1 H1 M1 q g1 sh1 => k _ q σ G1 H1 g1 ⟨sh1, sa.sl.up g1⟩⟩
end
section
variable {X : Cx} {ρ : Sl} {M : Mem} {pos : Pos} {Ψ : Out → Prop}
def tryR1 (X : Cx) (C : Addr) (i : Nat) (suite : List Stmt) (Ψ : Out → Prop) : OutX → Prop
  | .o o => Ψ o
  | .ex cls dd ρ' M' => cls = .ref C ∧ ∀ (a : Addr) (oe : Obj) (pn : List (Addr × Obj)), Zc (.ref C) dd oe → (∃ vs, oe.data = .fields vs) → BV (X.suite a ((a, oe) :: pn)) suite (ρ'.set i (some (dP a))) M' (suiteR i Ψ)
/-- try: .. except C as e: .. -/
theorem sv_tryU1 {body suite : List Stmt} {b₀ : Stmt} {z n : Str} {p5 p6 : Pos} {i : Nat} {C : Addr} (hs : X.stack = X.env :: X.outer) (hf : X.env.frame = some X.env.locals) (tk : Takes X (fun _ _ _ _ => False))
    (h3 : Names X z (.ref C)) (hyes : PySem.W.exmOne X.K (.ref C) (.ref C) = some true) (hN : X.N.Nodup) (hi : X.N[i]? = some n) (hln : X.env.kindOf n = some .local)
    (hb : ∀ (W : WX) (pn : List (Addr × Obj)) (xe : Value → Shared → Prop), Takes (X.tr pn xe) W → PassesOwn (model X.prog X.w) X.A X.env xe → BU (X.tr pn xe) W body ρ M (tryR1 X C i (b₀ :: suite) Ψ)) :
    SV X (.Try body [.ExceptHandler (some (.Name z p5)) (some n) (b₀ :: suite) p6] [] [] pos) ρ M Ψ := by
  refine (ps_try_g (tb := fun W => tSU X.K W ρ M (tryR1 X C i (b₀ :: suite) Ψ)) (Wout := fun _ _ _ _ => False)
    (l := [.as (.ref C) i (fun a cls d D σ H => ∃ (ρ' : Sl) (M' : Mem), cls = .ref C ∧ (∀ (oe : Obj) (pn : List (Addr × Obj)), Zc (.ref C) d oe → (∃ vs, oe.data = .fields vs) → BV (X.suite a ((a, oe) :: pn)) (b₀ :: suite) (ρ'.set i (some (dP a))) M' (suiteR i Ψ)) ∧ tS X.K (ρ'.set i (some (dP a))) M' (suiteR i Ψ) D σ H)])
    hs hf tk (fun W pn xe tk' po => hb W pn xe tk' po) (.as h3 hN hi hln (fun a oe cls d pn hz hd => ⟨fun pins s σ H D I ⟨ρ', M', e1, run, q⟩ => ?_⟩) .nil)).mono fun E σ H ⟨G, sa, k⟩ => ⟨G, sa, fun o ho => ?_⟩
  · subst e1
    exact (run oe pn hz hd).run pins s σ H D I q
  · cases o with
    | o o => exact k o ho
    | ex cls dd ρ' M' =>
      obtain ⟨rfl, run⟩ := ho
      refine fun σ' G' H' g sa' => ⟨true, hyes, fun _ a na => ⟨ρ', M', rfl, run a, G', ⟨sa'.sh, sa'.sl.set i (.val _)⟩, fun o ho => ?_⟩, fun h => nomatch h⟩
      cases o with
      | ret d M2 => exact (k _ ho).up g
      | nx ρ2 M2 => exact fun σ2 G2 H2 g2 sa2 => (k _ ho).up g _ G2 H2 g2 ⟨sa2.sh, sa2.sl.none i⟩
      | bk ρ2 M2 => exact ho.elim
      | ct ρ2 M2 => exact ho.elim
end
end Vt
set_option Elab.async false
set_option linter.all false
set_option maxRecDepth 100000
set_option maxHeartbeats 2000000
namespace Vt
open PySem PySem.Spec PyProof.Rows L2
def top (i : Nat) : Stmt := PySem.Challenge.pw_counterheld_k27_wrong_books.main.body.getD i (.Pass ⟨0, 0, 0, 0⟩)
abbrev s_p_wall : Stmt := top 1
theorem sc_p_wall : FnScope ["k"] ["k"] (defScope s_p_wall) := ⟨rfl, rfl, rfl, by decide +kernel, rfl, by decide +kernel, by decide +kernel⟩
abbrev s_p_is_less : Stmt := top 5
theorem sc_p_is_less : FnScope ["one", "other"] ["one", "other"] (defScope s_p_is_less) := ⟨rfl, rfl, rfl, by decide +kernel, rfl, by decide +kernel, by decide +kernel⟩
abbrev s_p_is_row : Stmt := top 8
theorem sc_p_is_row : FnScope ["thing"] ["thing"] (defScope s_p_is_row) := ⟨rfl, rfl, rfl, by decide +kernel, rfl, by decide +kernel, by decide +kernel⟩
abbrev s_p_is_pair : Stmt := top 9
theorem sc_p_is_pair : FnScope ["thing"] ["thing"] (defScope s_p_is_pair) := ⟨rfl, rfl, rfl, by decide +kernel, rfl, by decide +kernel, by decide +kernel⟩
abbrev s_p_is_number : Stmt := top 10
theorem sc_p_is_number : FnScope ["thing"] ["thing"] (defScope s_p_is_number) := ⟨rfl, rfl, rfl, by decide +kernel, rfl, by decide +kernel, by decide +kernel⟩
abbrev s_p_is_whole : Stmt := top 11
theorem sc_p_is_whole : FnScope ["thing", "low", "high"] ["thing", "low", "high"] (defScope s_p_is_whole) := ⟨rfl, rfl, rfl, by decide +kernel, rfl, by decide +kernel, by decide +kernel⟩
abbrev s_p_is_tone : Stmt := top 12
theorem sc_p_is_tone : FnScope ["thing", "number"] ["thing"] (defScope s_p_is_tone) := ⟨rfl, rfl, rfl, by decide +kernel, rfl, by decide +kernel, by decide +kernel⟩
abbrev s_p_is_fraction : Stmt := top 13
theorem sc_p_is_fraction : FnScope ["thing", "number"] ["thing"] (defScope s_p_is_fraction) := ⟨rfl, rfl, rfl, by decide +kernel, rfl, by decide +kernel, by decide +kernel⟩
abbrev s_p_tuple_of : Stmt := top 17
theorem sc_p_tuple_of : FnScope ["tone", "f", "o"] ["tone"] (defScope s_p_tuple_of) := ⟨rfl, rfl, rfl, by decide +kernel, rfl, by decide +kernel, by decide +kernel⟩
abbrev s_p_is_test : Stmt := top 23
theorem sc_p_is_test : FnScope ["thing", "form", "kind", "part", "check"] ["thing"] (defScope s_p_is_test) := ⟨rfl, rfl, rfl, by decide +kernel, rfl, by decide +kernel, by decide +kernel⟩
abbrev s_p_is_accent : Stmt := top 24
theorem sc_p_is_accent : FnScope ["thing"] ["thing"] (defScope s_p_is_accent) := ⟨rfl, rfl, rfl, by decide +kernel, rfl, by decide +kernel, by decide +kernel⟩
abbrev s_p_is_voice : Stmt := top 25
theorem sc_p_is_voice : FnScope ["thing"] ["thing"] (defScope s_p_is_voice) := ⟨rfl, rfl, rfl, by decide +kernel, rfl, by decide +kernel, by decide +kernel⟩
abbrev s_p_is_height : Stmt := top 26
theorem sc_p_is_height : FnScope ["thing"] ["thing"] (defScope s_p_is_height) := ⟨rfl, rfl, rfl, by decide +kernel, rfl, by decide +kernel, by decide +kernel⟩
abbrev s_p_is_times : Stmt := top 27
theorem sc_p_is_times : FnScope ["thing"] ["thing"] (defScope s_p_is_times) := ⟨rfl, rfl, rfl, by decide +kernel, rfl, by decide +kernel, by decide +kernel⟩
abbrev s_p_are_intervals : Stmt := top 28
theorem sc_p_are_intervals : FnScope ["thing", "interval"] ["thing"] (defScope s_p_are_intervals) := ⟨rfl, rfl, rfl, by decide +kernel, rfl, by decide +kernel, by decide +kernel⟩
abbrev s_p_are_numbers : Stmt := top 29
theorem sc_p_are_numbers : FnScope ["thing", "number"] ["thing"] (defScope s_p_are_numbers) := ⟨rfl, rfl, rfl, by decide +kernel, rfl, by decide +kernel, by decide +kernel⟩
abbrev s_p_tuples_of_test : Stmt := top 31
theorem sc_p_tuples_of_test : FnScope ["test", "word", "interval"] ["test"] (defScope s_p_tuples_of_test) := ⟨rfl, rfl, rfl, by decide +kernel, rfl, by decide +kernel, by decide +kernel⟩
abbrev s_p_bits_of : Stmt := top 34
theorem sc_p_bits_of : FnScope ["numbers", "told", "number"] ["numbers"] (defScope s_p_bits_of) := ⟨rfl, rfl, rfl, by decide +kernel, rfl, by decide +kernel, by decide +kernel⟩
abbrev s_p_checked_tests : Stmt := top 42
theorem sc_p_checked_tests : FnScope ["tests", "number", "test"] ["tests"] (defScope s_p_checked_tests) := ⟨rfl, rfl, rfl, by decide +kernel, rfl, by decide +kernel, by decide +kernel⟩
abbrev s_p_checked_states : Stmt := top 43
theorem sc_p_checked_states : FnScope ["states", "tests", "number", "state", "choice"] ["states", "tests"] (defScope s_p_checked_states) := ⟨rfl, rfl, rfl, by decide +kernel, rfl, by decide +kernel, by decide +kernel⟩
abbrev s_p_is_state : Stmt := top 44
theorem sc_p_is_state : FnScope ["thing", "tests", "states", "choice"] ["thing", "tests", "states"] (defScope s_p_is_state) := ⟨rfl, rfl, rfl, by decide +kernel, rfl, by decide +kernel, by decide +kernel⟩
abbrev s_p_is_choice : Stmt := top 45
theorem sc_p_is_choice : FnScope ["thing", "tests", "states", "wanted", "unwanted", "following", "broken"] ["thing", "tests", "states"] (defScope s_p_is_choice) := ⟨rfl, rfl, rfl, by decide +kernel, rfl, by decide +kernel, by decide +kernel⟩
abbrev s_p_are_tests : Stmt := top 46
theorem sc_p_are_tests : FnScope ["thing", "tests", "number"] ["thing", "tests"] (defScope s_p_are_tests) := ⟨rfl, rfl, rfl, by decide +kernel, rfl, by decide +kernel, by decide +kernel⟩
abbrev s_p_choice_as_tuples : Stmt := top 47
theorem sc_p_choice_as_tuples : FnScope ["choice", "wanted", "unwanted", "following", "broken"] ["choice"] (defScope s_p_choice_as_tuples) := ⟨rfl, rfl, rfl, by decide +kernel, rfl, by decide +kernel, by decide +kernel⟩
abbrev s_pool : Stmt := top 49
theorem sc_pool : FnScope ["script", "cell"] ["script"] (defScope s_pool) := ⟨rfl, rfl, rfl, by decide +kernel, rfl, by decide +kernel, by decide +kernel⟩
abbrev s_take : Stmt := top 50
theorem sc_take : FnScope ["pool", "many", "digit", "cell", "mixed"] ["pool", "many"] (defScope s_take) := ⟨rfl, rfl, rfl, by decide +kernel, rfl, by decide +kernel, by decide +kernel⟩
abbrev s_pick : Stmt := top 51
theorem sc_pick : FnScope ["pool", "rows"] ["pool", "rows"] (defScope s_pick) := ⟨rfl, rfl, rfl, by decide +kernel, rfl, by decide +kernel, by decide +kernel⟩
abbrev s_is_integer : Stmt := top 52
theorem sc_is_integer : FnScope ["actual"] ["actual"] (defScope s_is_integer) := ⟨rfl, rfl, rfl, by decide +kernel, rfl, by decide +kernel, by decide +kernel⟩
abbrev s_same : Stmt := top 53
theorem sc_same : FnScope ["actual", "due", "k"] ["actual", "due"] (defScope s_same) := ⟨rfl, rfl, rfl, by decide +kernel, rfl, by decide +kernel, by decide +kernel⟩
abbrev s_lowest : Stmt := top 54
theorem sc_lowest : FnScope ["n", "d", "one", "other", "turn"] ["n", "d"] (defScope s_lowest) := ⟨rfl, rfl, rfl, by decide +kernel, rfl, by decide +kernel, by decide +kernel⟩
abbrev s_sum : Stmt := top 55
theorem sc_sum : FnScope ["one", "other"] ["one", "other"] (defScope s_sum) := ⟨rfl, rfl, rfl, by decide +kernel, rfl, by decide +kernel, by decide +kernel⟩
abbrev s_interval : Stmt := top 56
theorem sc_interval : FnScope ["pool"] ["pool"] (defScope s_interval) := ⟨rfl, rfl, rfl, by decide +kernel, rfl, by decide +kernel, by decide +kernel⟩
abbrev s_test : Stmt := top 57
theorem sc_test : FnScope ["pool", "voices", "word", "voice", "second", "k", "low", "high"] ["pool", "voices"] (defScope s_test) := ⟨rfl, rfl, rfl, by decide +kernel, rfl, by decide +kernel, by decide +kernel⟩
abbrev s_numbers : Stmt := top 58
theorem sc_numbers : FnScope ["pool", "many", "k"] ["pool", "many"] (defScope s_numbers) := ⟨rfl, rfl, rfl, by decide +kernel, rfl, by decide +kernel, by decide +kernel⟩
abbrev s_tests : Stmt := top 59
theorem sc_tests : FnScope ["pool", "voices", "most", "k"] ["pool", "voices", "most"] (defScope s_tests) := ⟨rfl, rfl, rfl, by decide +kernel, rfl, by decide +kernel, by decide +kernel⟩
abbrev s_book : Stmt := top 60
theorem sc_book : FnScope ["pool", "voices", "most", "states", "tests", "many", "found", "k", "rows", "turn", "breaks"] ["pool", "voices", "most", "states"] (defScope s_book) := ⟨rfl, rfl, rfl, by decide +kernel, rfl, by decide +kernel, by decide +kernel⟩
abbrev s_told : Stmt := top 61
theorem sc_told : FnScope ["tests", "states", "wrong"] ["tests", "states"] (defScope s_told) := ⟨rfl, rfl, rfl, by decide +kernel, rfl, by decide +kernel, by decide +kernel⟩
abbrev s_wrong_test : Stmt := top 62
theorem sc_wrong_test : FnScope ["pool", "rows"] ["pool"] (defScope s_wrong_test) := ⟨rfl, rfl, rfl, by decide +kernel, rfl, by decide +kernel, by decide +kernel⟩
abbrev s_wrong_state : Stmt := top 63
theorem sc_wrong_state : FnScope ["pool", "tests", "states", "row", "rows"] ["pool", "tests", "states"] (defScope s_wrong_state) := ⟨rfl, rfl, rfl, by decide +kernel, rfl, by decide +kernel, by decide +kernel⟩
abbrev s_changed : Stmt := top 64
theorem sc_changed : FnScope ["row", "at", "thing"] ["row", "at", "thing"] (defScope s_changed) := ⟨rfl, rfl, rfl, by decide +kernel, rfl, by decide +kernel, by decide +kernel⟩
abbrev s_law : Stmt := top 65
theorem sc_law : FnScope ["script", "pool", "turn", "tests", "states", "number", "bad", "at", "wrong", "row", "full", "some", "more", "due"] ["script"] (defScope s_law) := ⟨rfl, rfl, rfl, by decide +kernel, rfl, by decide +kernel, by decide +kernel⟩
abbrev s_Steps_init : Stmt := L2.inClass (top 33) 0
theorem sc_Steps_init : FnScope ["self", "tests", "states", "row", "state"] ["self", "tests", "states"] (defScope s_Steps_init) := ⟨rfl, rfl, rfl, by decide +kernel, rfl, by decide +kernel, by decide +kernel⟩
abbrev s_Steps_held : Stmt := L2.inClass (top 33) 1
theorem sc_Steps_held : FnScope ["self", "one", "other"] ["self", "one", "other"] (defScope s_Steps_held) := ⟨rfl, rfl, rfl, by decide +kernel, rfl, by decide +kernel, by decide +kernel⟩
abbrev s_Steps_choice : Stmt := L2.inClass (top 33) 2
theorem sc_Steps_choice : FnScope ["self", "state", "bits", "number", "wanted", "unwanted", "_"] ["self", "state", "bits"] (defScope s_Steps_choice) := ⟨rfl, rfl, rfl, by decide +kernel, rfl, by decide +kernel, by decide +kernel⟩
abbrev s_Steps_step : Stmt := L2.inClass (top 33) 3
theorem sc_Steps_step : FnScope ["self", "one", "other"] ["self", "one", "other"] (defScope s_Steps_step) := ⟨rfl, rfl, rfl, by decide +kernel, rfl, by decide +kernel, by decide +kernel⟩
abbrev s_Steps_row : Stmt := L2.inClass (top 33) 4
theorem sc_Steps_row : FnScope ["self", "bits"] ["self", "bits"] (defScope s_Steps_row) := ⟨rfl, rfl, rfl, by decide +kernel, rfl, by decide +kernel, by decide +kernel⟩
abbrev s_Steps_through : Stmt := L2.inClass (top 33) 5
theorem sc_Steps_through : FnScope ["self", "table", "step"] ["self", "table", "step"] (defScope s_Steps_through) := ⟨rfl, rfl, rfl, by decide +kernel, rfl, by decide +kernel, by decide +kernel⟩
abbrev s_Steps_no_move : Stmt := L2.inClass (top 33) 6
theorem sc_Steps_no_move : FnScope ["self"] ["self"] (defScope s_Steps_no_move) := ⟨rfl, rfl, rfl, by decide +kernel, rfl, by decide +kernel, by decide +kernel⟩
abbrev s_Steps_table : Stmt := L2.inClass (top 33) 7
theorem sc_Steps_table : FnScope ["self", "columns"] ["self", "columns"] (defScope s_Steps_table) := ⟨rfl, rfl, rfl, by decide +kernel, rfl, by decide +kernel, by decide +kernel⟩
abbrev s_BadBook_init : Stmt := L2.inClass (top 40) 0
theorem sc_BadBook_init : FnScope ["self", "part", "number"] ["self", "part", "number"] (defScope s_BadBook_init) := ⟨rfl, rfl, rfl, by decide +kernel, rfl, by decide +kernel, by decide +kernel⟩
abbrev s_Book_init : Stmt := L2.inClass (top 41) 0
theorem sc_Book_init : FnScope ["self", "tests", "states"] ["self", "tests", "states"] (defScope s_Book_init) := ⟨rfl, rfl, rfl, by decide +kernel, rfl, by decide +kernel, by decide +kernel⟩
/-! ### the draws -/
structure Pool where
  cells : List Int
  at_ : Int
  rest : Int
  seed : Int
def Pool.mo (p : Pool) : MO := .lst [.lst (p.cells.map dI), dI p.at_, dI p.rest, dI p.seed]
structure Pool.Ok (p : Pool) : Prop where
  a0 : 0 ≤ p.at_
  s0 : 0 ≤ p.seed
  s1 : p.seed < 2147483648
def Pool.cell (p : Pool) : Int := if p.at_ < p.cells.length then p.cells.getD p.at_.toNat 0 else 0
def Pool.seed2 (p : Pool) : Int := (p.seed * 48271 + p.cell * 69621 + (p.at_ + 1) * 613) % 2147483647
def Pool.take (p : Pool) (many : Int) : Int × Pool :=
  if 0 < p.rest then (p.rest % many, { p with rest := p.rest / many })
  else if 1000000000000000000 ≤ p.cell then (p.cell / 2 % many, { p with at_ := p.at_ + 1, rest := p.cell / 2 / many })
  else ((p.seed2 * p.seed2 + p.seed2 * 7919 + 104729) % 1000000007 / 3 % many, { p with at_ := p.at_ + 1, seed := p.seed2 })
theorem Pool.take_lo (p : Pool) {many : Int} (h : 0 < many) : 0 ≤ (p.take many).1 := by
  unfold Pool.take
  split
  · exact Int.emod_nonneg _ (by omega)
  · split <;> exact Int.emod_nonneg _ (by omega)
theorem Pool.take_hi (p : Pool) {many : Int} (h : 0 < many) : (p.take many).1 < many := by
  unfold Pool.take
  split
  · exact Int.emod_lt_of_pos _ h
  · split <;> exact Int.emod_lt_of_pos _ h
theorem Pool.Ok.take {p : Pool} (ok : p.Ok) (many : Int) : (p.take many).2.Ok := by
  obtain ⟨a0, s0, s1⟩ := ok
  unfold Pool.take
  split
  · exact ⟨a0, s0, s1⟩
  · split
    · exact ⟨by show 0 ≤ p.at_ + 1; omega, s0, s1⟩
    · refine ⟨by show 0 ≤ p.at_ + 1; omega, ?_, ?_⟩
      · exact Int.emod_nonneg _ (by decide)
      · have := Int.emod_lt_of_pos (p.seed * 48271 + p.cell * 69621 + (p.at_ + 1) * 613) (show (0 : Int) < 2147483647 by decide)
        show p.seed2 < 2147483648
        unfold Pool.seed2
        omega
/-- what stands behind the top of built-ins -/
structure Bt (mg : Str → Option Value) : Prop where
  len : mg "len" = none
  int : mg "int" = none
  isinstance : mg "isinstance" = none
  range : mg "range" = none
  list : mg "list" = none
  tuple : mg "tuple" = none
  all : mg "all" = none
  bool : mg "bool" = none
  str : mg "str" = none
def PrTake (ds : List D) (M : Mem) (d : D) (M' : Mem) : Prop := ∃ a M0 p many, ds = [dP a, dI many] ∧ M = Mem.set M0 a (Pool.mo p) ∧ p.Ok ∧ 0 < many ∧ many < 1073741824 ∧ d = dI (p.take many).1 ∧ M' = M0.set a (p.take many).2.mo
/-- where digits are left -/
def PrTake0 (ds : List D) (M : Mem) (d : D) (M' : Mem) : Prop := ∃ a M0 p many, ds = [dP a, dI many] ∧ M = Mem.set M0 a (Pool.mo p) ∧ 0 < p.rest ∧ 0 < many ∧ many < 1073741824 ∧ d = dI (p.rest % many) ∧ M' = M0.set a ({ p with rest := p.rest / many } : Pool).mo
section
variable {X : Cx} {ρ : Sl} {M M0 M1 M2 M3 : Mem} {a b c e : Expr} {es : List Expr} {d d1 d2 : D} {ds : List D} {pos : Pos} {Ψ : Out → Prop}
/-- xs[i] = e, the list on top of the memory -/
theorem sv_setTop {p : Addr} {i : Nat} {tp : Pos} (he : EV X e ρ M d M1) (ho : EV X a ρ M1 (dP p) M2) (hi : EV X b ρ M2 (dI i) (M0.set p (.lst ds))) (hlt : i < ds.length) (hΨ : Ψ (.nx ρ (M0.set p (.lst (ds.set i d)))))
    (ha : ∀ v, assign (.Subscript a b tp) X.env v = (do
      let ov ← holding [v] (eval a X.env)
      let iv ← holding [v, ov] (eval b X.env)
      standAt tp
      holding [v, ov, iv] (setItem ov iv v)
      release [v, ov, iv] []) := by intro _; rfl)
    (hs : swapsWithSole [.Subscript a b tp] e pos.line X.env = pure false := by rfl) (hw : swappedStores [.Subscript a b tp] e X.env = pure none := by rfl)
    (h1 : (assignEach [.Subscript a b tp] X.env).map (·.2) = [assign (.Subscript a b tp) X.env] := by rfl) : SV X (.Assign [.Subscript a b tp] e pos) ρ M Ψ :=
  sv_setItem he ho hi Mem.set_same hlt (by rw [Mem.set_set]; exact hΨ) ha hs hw h1
end
section
variable {P : Program} {w : World} {K : PySem.W.Frag} {mg : Str → Option Value} {base : Heap} {f : Addr} {fd : FuncData}
theorem c_take0 (F : Fun K "_law_take" "_law_take" s_take f fd) (hm : mg "_law_take" = some (.ref f)) (T : Bt mg) : Cal P w K mg base 1 "_law_take" (spD K PrTake0) := by
  refine cal_of F sc_take hm (fun _ _ _ _ _ _ us hl => match us, hl with | [_, _], _ => rfl) (fun ds M d M' h => ?_) fun cdv A outer s H E ds M d M' hr h => ?_
  · obtain ⟨a, M0, p, many, rfl, _⟩ := h
    rfl
  · obtain ⟨a, M0, p, many, rfl, rfl, h0, h1, h2, rfl, rfl⟩ := h
    show BV _ _ [some (dP a), some (dI many), none, none, none] _ _
    refine bv_cons (sv_if (tv_cmpR op_gt (ev_ixM (ev_var 0 rfl) ev_int Mem.set_same rfl) ev_int rs_I0 (nomark _)) (fun h => ?_) (fun h => ?_))
    · refine bv_cons (sv_set 2 sc_take.nd (ev_op op_mod (ev_intI T.int (ev_ixM (ev_var 0 rfl) ev_int Mem.set_same rfl)) (ev_var 1 rfl) (rs_I h1)) ?_)
      refine bv_cons (sv_setTop (i := 2) (ev_op op_fdiv (ev_ixM (ev_var 0 rfl) ev_int Mem.set_same rfl) (ev_var 1 rfl) (rs_I ⟨h1, h2⟩)) (ev_var 0 rfl) ev_int (by simp) ?_)
      exact bv_one (sv_ret (ev_var 2 rfl) ⟨rfl, Mle.refl _⟩)
    · exact absurd h0 (of_decide_eq_false h)
theorem c_take (F : Fun K "_law_take" "_law_take" s_take f fd) (hm : mg "_law_take" = some (.ref f)) (T : Bt mg) : Cal P w K mg base 2 "_law_take" (spD K PrTake) := by
  have c_take := c_take0 (P := P) (w := w) (base := base) F hm T
  refine cal_of F sc_take hm (fun _ _ _ _ _ _ us hl => match us, hl with | [_, _], _ => rfl) (fun ds M d M' h => ?_) fun cdv A outer s H E ds M d M' hr h => ?_
  · obtain ⟨a, M0, p, many, rfl, _⟩ := h
    rfl
  · obtain ⟨a, M0, p, many, rfl, rfl, ok, h1, h2, rfl, rfl⟩ := h
    show BV _ _ [some (dP a), some (dI many), none, none, none] _ _
    refine bv_cons (sv_if (tv_cmpR op_gt (ev_ixM (ev_var 0 rfl) ev_int Mem.set_same rfl) ev_int rs_I0 (nomark _)) (fun h => ?_) (fun h => ?_))
    · refine bv_cons (sv_set 2 sc_take.nd (ev_op op_mod (ev_intI T.int (ev_ixM (ev_var 0 rfl) ev_int Mem.set_same rfl)) (ev_var 1 rfl) (rs_I h1)) ?_)
      refine bv_cons (sv_setTop (i := 2) (ev_op op_fdiv (ev_ixM (ev_var 0 rfl) ev_int Mem.set_same rfl) (ev_var 1 rfl) (rs_I ⟨h1, h2⟩)) (ev_var 0 rfl) ev_int (by simp) ?_)
      have e : p.take many = (p.rest % many, { p with rest := p.rest / many }) := if_pos (of_decide_eq_true h)
      rw [e]
      exact bv_one (sv_ret (ev_var 2 rfl) ⟨rfl, Mle.refl _⟩)
    · have hr0 : ¬ 0 < p.rest := of_decide_eq_false h
      refine bv_nil ?_
      refine bv_cons (sv_set 3 sc_take.nd ev_int ?_)
      have rest : BV (cxOf CX0 P w K mg base ["pool", "many", "digit", "cell", "mixed"] "_law_take" (defScope s_take) f cdv A outer s H E).nox ((defBody s_take).drop 3) [some (dP a), some (dI many), none, some (dI p.cell), none] (M0.set a p.mo) (Fin (dI (p.take many).1) (M0.set a (p.take many).2.mo)) := by
        refine bv_cons (sv_setTop (i := 1) (ev_op op_add (ev_ixM (ev_var 0 rfl) ev_int Mem.set_same rfl) ev_int rs_I0) (ev_var 0 rfl) ev_int (by simp) ?_)
        refine bv_cons (sv_if (tv_cmpR op_ge (ev_var 3 rfl) (ev_op op_pow ev_int ev_int (rs_I ⟨by decide, by decide, by decide⟩)) rs_I0 (nomark _)) (fun h => ?_) (fun h => ?_))
        · have hc : 1000000000000000000 ≤ p.cell := of_decide_eq_true h
          refine bv_cons (sv_setTop (i := 2) (ev_op op_fdiv (ev_var 3 rfl) ev_int (rs_I ⟨by decide, by decide⟩)) (ev_var 0 rfl) ev_int (by simp) ?_)
          have e : p.take many = (p.cell / 2 % many, { p with at_ := p.at_ + 1, rest := p.cell / 2 / many }) := (if_neg hr0).trans (if_pos hc)
          rw [e]
          refine bv_one (sv_ret (ev_call c_take (hr.mono (by decide)) (av_cons (ev_var 0 rfl) (av_cons (ev_var 1 rfl) av_nil)) ⟨a, M0, { p with at_ := p.at_ + 1, rest := p.cell / 2 }, many, rfl, rfl, ?_, h1, h2, rfl, rfl⟩) ⟨rfl, Mle.refl _⟩)
          show 0 < p.cell / 2
          omega
        · have hc : ¬ 1000000000000000000 ≤ p.cell := of_decide_eq_false h
          refine bv_nil ?_
          refine bv_cons (sv_setTop (i := 3) (ev_op op_mod (ev_intI T.int (ev_op op_add (ev_op op_add (ev_op op_mul (ev_ixM (ev_var 0 rfl) ev_int Mem.set_same rfl) ev_int (rs_I (cm_r (by decide) (by decide)))) (ev_op op_mul (ev_var 3 rfl) ev_int (rs_I (cm_r (by decide) (by decide)))) rs_I0) (ev_op op_mul (ev_ixM (ev_var 0 rfl) ev_int Mem.set_same rfl) ev_int (rs_I (cm_r (by decide) (by decide)))) rs_I0)) ev_int (rs_I (by decide))) (ev_var 0 rfl) ev_int (by simp) ?_)
          have ok2 : 0 ≤ p.seed2 ∧ p.seed2 < 2147483647 := ⟨Int.emod_nonneg _ (by decide), Int.emod_lt_of_pos _ (by decide)⟩
          have e : p.take many = ((p.seed2 * p.seed2 + p.seed2 * 7919 + 104729) % 1000000007 / 3 % many, { p with at_ := p.at_ + 1, seed := p.seed2 }) := (if_neg hr0).trans (if_neg hc)
          rw [e]
          refine bv_cons (sv_set 4 sc_take.nd (ev_op op_mod (ev_intI T.int (ev_op op_add (ev_op op_add (ev_op op_mul (ev_ixM (ev_var 0 rfl) ev_int Mem.set_same rfl) (ev_ixM (ev_var 0 rfl) ev_int Mem.set_same rfl) (rs_I ?_)) (ev_op op_mul (ev_ixM (ev_var 0 rfl) ev_int Mem.set_same rfl) ev_int (rs_I (cm_r (by decide) (by decide)))) rs_I0) ev_int rs_I0)) ev_int (rs_I (by decide))) ?_)
          · refine cm_l (i := p.seed2) ?_ ?_ <;> omega
          exact bv_one (sv_ret (ev_op op_mod (ev_intI T.int (ev_op op_fdiv (ev_var 4 rfl) ev_int (rs_I ⟨by decide, by decide⟩))) (ev_var 1 rfl) (rs_I h1)) ⟨rfl, Mle.refl _⟩)
      refine bv_cons (sv_if (tv_cmpR op_lt (ev_ixM (ev_var 0 rfl) ev_int Mem.set_same rfl) (ev_lenL T.len (ev_ixM (ev_var 0 rfl) ev_int Mem.set_same rfl)) rs_I0 (nomark _)) (fun h => ?_) (fun h => ?_))
      · have hlt : p.at_ < p.cells.length := by
          have q := of_decide_eq_true h
          rw [List.length_map] at q
          exact q
        have hc : atI (p.cells.map dI) p.at_ = some (dI p.cell) := by
          have a0 := ok.a0
          unfold atI ixN Pool.cell
          rw [if_pos a0, List.length_map, if_pos hlt, if_pos hlt]
          show (p.cells.map dI)[p.at_.toNat]? = _
          rw [List.getElem?_map, List.getD_eq_getElem?_getD]
          have hn : p.at_.toNat < p.cells.length := by omega
          rw [List.getElem?_eq_getElem hn]
          rfl
        exact bv_one (sv_set 3 sc_take.nd (ev_ixL (ev_ixM (ev_var 0 rfl) ev_int Mem.set_same rfl) (ev_ixM (ev_var 0 rfl) ev_int Mem.set_same rfl) hc) rest)
      · have hlt : ¬ p.at_ < p.cells.length := by
          have q := of_decide_eq_false h
          rw [List.length_map] at q
          exact q
        have e : p.cell = 0 := if_neg hlt
        rw [e] at rest
        exact bv_nil rest
end
def conv (n : Int) : Int := if 0 ≤ n then 2 * n else -2 * n - 1
def convD : D → D
  | .val (.int n) => dI (conv n)
  | d => d
def Pool.new (ns : List Int) : Pool := ⟨ns.map conv, 0, 0, 17⟩
theorem Pool.new_ok (ns : List Int) : (Pool.new ns).Ok := ⟨by show (0 : Int) ≤ 0; decide, by show (0 : Int) ≤ 17; decide, by show (17 : Int) < 2147483648; decide⟩
def PrPool (ds : List D) (M : Mem) (es : List D) (M' : Mem) : Prop := ∃ ns : List Int, ds = [.lst (ns.map dI)] ∧ ns.length ≤ 1000 ∧ M' = M ∧ Pool.mo (Pool.new ns) = .lst es
section
variable {P : Program} {w : World} {K : PySem.W.Frag} {mg : Str → Option Value} {base : Heap} {f : Addr} {fd : FuncData}
theorem c_pool (F : Fun K "_law_pool" "_law_pool" s_pool f fd) (hm : mg "_law_pool" = some (.ref f)) : Cal P w K mg base 1 "_law_pool" (spN K PrPool) := by
  refine calN_of F sc_pool hm (fun _ _ _ _ _ _ us hl => match us, hl with | [_], _ => rfl) (fun ds M d M' h => ?_) fun cdv A outer s H E ds M es M' hr h => ?_
  · obtain ⟨ns, rfl, _⟩ := h
    rfl
  · obtain ⟨ns, rfl, hl, rfl, he⟩ := h
    show BV _ _ [some (.lst (ns.map dI)), none] _ _
    have e2 : (ns.map dI).map convD = (ns.map conv).map dI := by
      rw [List.map_map, List.map_map]
      rfl
    have e : es = [.lst ((ns.map dI).map convD), dI 0, dI 0, dI 17] := by
      rw [e2]
      injection he with he
      rw [← he]
      rfl
    subst e
    refine bv_one (sv_retNew (en_lst (av_cons (ev_lcM (own := [("cell", 1)]) (g := gName 1) rfl sc_pool.nd (iv_list (ev_var 0 rfl)) (blkOk_by (N := ["script", "cell"]) (sc := defScope s_pool) (by decide +kernel)) (fun _ _ _ _ _ => pg_name (i := 1) sc_pool.nd rfl (Or.inl rfl)) convD ?_ (fun i d h => ?_)) (av_cons ev_int (av_cons ev_int (av_cons ev_int av_nil))))) (fun p hp => ⟨p, rfl, hp, Mle.refl _⟩))
    · rw [List.length_map]
      exact Nat.le_trans hl (by decide)
    · refine ⟨_, tgb_name, fun M2 s H C cl fp => ?_⟩
      rw [List.getElem?_map] at h
      cases q : ns[i]? with
      | none => rw [q] at h; cases h
      | some n =>
        rw [q] at h
        cases h
        refine ev_to (ev_ifB (tv_cmpR op_ge (ev_var 1 rfl) ev_int rs_I0 (nomark _)) (ev_op op_mul ev_int (ev_var 1 rfl) (rs_I (cm_l (by decide) (by decide)))) (ev_op op_sub (ev_op op_mul (ev_un un_neg ev_int ru_neg) (ev_var 1 rfl) (rs_I (cm_l (by decide) (by decide)))) ev_int rs_I0)) ?_
        show (if decide (0 ≤ n) = true then dI (2 * n) else dI (-2 * n - 1)) = dI (if 0 ≤ n then 2 * n else -2 * n - 1)
        by_cases c : 0 ≤ n
        · rw [if_pos (decide_eq_true c), if_pos c]
        · rw [if_neg (by rw [decide_eq_false c]; decide), if_neg c]
end
def PrPick (ds : List D) (M : Mem) (d : D) (M' : Mem) : Prop := ∃ a M0 p b es, ds = [dP a, sq b es] ∧ M = Mem.set M0 a (Pool.mo p) ∧ p.Ok ∧ 0 < es.length ∧ es.length < 1073741824 ∧ es[(p.take es.length).1.toNat]? = some d ∧ M' = M0.set a (p.take es.length).2.mo
def PrIsInt (ds : List D) (M : Mem) (d : D) (M' : Mem) : Prop := ∃ i : Int, ds = [dI i] ∧ d = dB true ∧ M' = M
/-- trees that _law_same goes through -/
def okD : Nat → D → Prop
  | _, .val v => v = .non ∨ (∃ b, v = .bl b) ∨ (∃ i, v = .int i) ∨ ∃ z, v = .str z
  | n + 1, .tup ds => ds.length ≤ 1000000 ∧ ∀ d ∈ ds, okD n d
  | n + 1, .lst ds => ds.length ≤ 1000000 ∧ ∀ d ∈ ds, okD n d
  | 0, _ => False
  | _ + 1, .dic => False
def PrSame (n : Nat) (ds : List D) (M : Mem) (d : D) (M' : Mem) : Prop := ∃ t, ds = [t, t] ∧ okD n t ∧ d = dB true ∧ M' = M
theorem atI_nat {ds : List D} {i : Int} {d : D} {k : Nat} (h : ds[k]? = some d) (e : i = (k : Int)) : atI ds i = some d := by
  subst e
  have hk : k < ds.length := (List.getElem?_eq_some_iff.mp h).1
  unfold atI ixN
  rw [if_pos (by omega), if_pos (by omega)]
  exact h
section
variable {P : Program} {w : World} {K : PySem.W.Frag} {mg : Str → Option Value} {base : Heap} {f : Addr} {fd : FuncData}
theorem c_pick (F : Fun K "_law_pick" "_law_pick" s_pick f fd) (hm : mg "_law_pick" = some (.ref f)) (T : Bt mg) (c_take : Cal P w K mg base 2 "_law_take" (spD K PrTake)) : Cal P w K mg base 3 "_law_pick" (spD K PrPick) := by
  refine cal_of F sc_pick hm (fun _ _ _ _ _ _ us hl => match us, hl with | [_, _], _ => rfl) (fun ds M d M' h => ?_) fun cdv A outer s H E ds M d M' hr h => ?_
  · obtain ⟨a, M0, p, b, es, rfl, _⟩ := h
    rfl
  · obtain ⟨a, M0, p, b, es, rfl, rfl, ok, h1, h2, h3, rfl⟩ := h
    show BV _ _ [some (dP a), some (sq b es)] _ _
    have h1' : (0 : Int) < es.length := by omega
    refine bv_one (sv_ret (ev_ixQ (ev_var 1 rfl) (ev_call c_take (hr.mono (by decide)) (av_cons (ev_var 0 rfl) (av_cons (ev_lenQ T.len (ev_var 1 rfl)) av_nil)) ⟨a, M0, p, es.length, rfl, rfl, ok, h1', by omega, rfl, rfl⟩) (atI_nat h3 ?_)) ⟨rfl, Mle.refl _⟩)
    have := p.take_lo h1'
    omega
theorem c_is_integer (F : Fun K "_law_is_integer" "_law_is_integer" s_is_integer f fd) (hm : mg "_law_is_integer" = some (.ref f)) (T : Bt mg) : Cal P w K mg base 1 "_law_is_integer" (spD K PrIsInt) := by
  refine cal_of F sc_is_integer hm (fun _ _ _ _ _ _ us hl => match us, hl with | [_], _ => rfl) (fun ds M d M' h => ?_) fun cdv A outer s H E ds M d M' hr h => ?_
  · obtain ⟨i, rfl, _⟩ := h
    rfl
  · obtain ⟨i, rfl, rfl, rfl⟩ := h
    show BV _ _ [some (dI i)] _ _
    exact bv_one (sv_ret (ev_andB (ev_isi (r := true) T.isinstance T.int boot_int (ev_var 0 rfl) rfl (by decide +kernel)) (fun h => (ev_one (b := true) (ev_notB (ev_isi (r := false) T.isinstance T.bool boot_bool (ev_var 0 rfl) rfl (by decide +kernel)))))) ⟨rfl, Mle.refl _⟩)
theorem all_true (n : Nat) : ((List.range n).map fun _ => true).all id = true := by
  rw [List.all_map]
  exact List.all_eq_true.mpr fun _ _ => rfl
theorem same_val (T : Bt mg) (c_is_integer : Cal P w K mg base 1 "_law_is_integer" (spD K PrIsInt)) {cdv : Value} {A : Around} {outer : List Env} {s : Shared} {H : Hp} {E : XK} {M' : Mem} {v : V} {n : Nat}
    (hr : Room 1 (A.deeper (envOfC "_law_same" (defScope s_same) s.heap.objs.size f cdv))) (ok : okD n (.val v)) :
    BV (cxOf CX0 P w K mg base ["actual", "due", "k"] "_law_same" (defScope s_same) f cdv A outer s H E).nox (defBody s_same) [some (.val v), some (.val v), none] M' (Fin (dB true) M') := by
  have ok : v = .non ∨ (∃ b, v = .bl b) ∨ (∃ i, v = .int i) ∨ ∃ z, v = .str z := by
    cases n <;> exact ok
  rcases ok with rfl | ⟨b, rfl⟩ | ⟨i, rfl⟩ | ⟨z, rfl⟩
  · refine bv_cons (sv_if (tv_val (ev_isi (r := false) T.isinstance T.tuple boot_tuple (ev_var 1 rfl) rfl (by decide +kernel))) (fun h => nomatch h) (fun _ => bv_nil ?_))
    refine bv_cons (sv_if (tv_val (ev_isi (r := false) T.isinstance T.list boot_list (ev_var 1 rfl) rfl (by decide +kernel))) (fun h => nomatch h) (fun _ => bv_nil ?_))
    refine bv_cons (sv_if (tv_isN (ev_var 1 rfl)) (fun h => ?_) (fun h => nomatch h))
    exact bv_one (sv_ret (ev_isN (ev_var 0 rfl)) ⟨rfl, Mle.refl _⟩)
  · refine bv_cons (sv_if (tv_val (ev_isi (r := false) T.isinstance T.tuple boot_tuple (ev_var 1 rfl) rfl (by decide +kernel))) (fun h => nomatch h) (fun _ => bv_nil ?_))
    refine bv_cons (sv_if (tv_val (ev_isi (r := false) T.isinstance T.list boot_list (ev_var 1 rfl) rfl (by decide +kernel))) (fun h => nomatch h) (fun _ => bv_nil ?_))
    refine bv_cons (sv_if (tv_isN (ev_var 1 rfl)) (fun h => nomatch h) (fun _ => bv_nil ?_))
    refine bv_cons (sv_if (tv_val (ev_isi (r := true) T.isinstance T.bool boot_bool (ev_var 1 rfl) rfl (by decide +kernel))) (fun h => ?_) (fun h => nomatch h))
    refine bv_one (sv_ret (ev_andB (ev_isi (r := true) T.isinstance T.bool boot_bool (ev_var 0 rfl) rfl (by decide +kernel)) (fun h => (ev_one (b := true) (ev_cmpR op_eq (ev_var 0 rfl) (ev_var 1 rfl) rs_eqB (nomark _))))) ⟨?_, Mle.refl _⟩)
    rw [decide_eq_true rfl]
    rfl
  · refine bv_cons (sv_if (tv_val (ev_isi (r := false) T.isinstance T.tuple boot_tuple (ev_var 1 rfl) rfl (by decide +kernel))) (fun h => nomatch h) (fun _ => bv_nil ?_))
    refine bv_cons (sv_if (tv_val (ev_isi (r := false) T.isinstance T.list boot_list (ev_var 1 rfl) rfl (by decide +kernel))) (fun h => nomatch h) (fun _ => bv_nil ?_))
    refine bv_cons (sv_if (tv_isN (ev_var 1 rfl)) (fun h => nomatch h) (fun _ => bv_nil ?_))
    refine bv_cons (sv_if (tv_val (ev_isi (r := false) T.isinstance T.bool boot_bool (ev_var 1 rfl) rfl (by decide +kernel))) (fun h => nomatch h) (fun _ => bv_nil ?_))
    refine bv_cons (sv_if (tv_val (ev_isi (r := false) T.isinstance T.str boot_str (ev_var 1 rfl) rfl (by decide +kernel))) (fun h => nomatch h) (fun _ => bv_nil ?_))
    refine bv_one (sv_ret (ev_andB (p := true) (ev_call c_is_integer (hr.mono (by decide)) (av_cons (ev_var 0 rfl) av_nil) ⟨i, rfl, rfl, rfl⟩) (fun h => (ev_one (b := true) (ev_cmpR op_eq (ev_var 0 rfl) (ev_var 1 rfl) rs_eqI (nomark _))))) ⟨?_, Mle.refl _⟩)
    rw [decide_eq_true rfl]
    rfl
  · refine bv_cons (sv_if (tv_val (ev_isi (r := false) T.isinstance T.tuple boot_tuple (ev_var 1 rfl) rfl (by decide +kernel))) (fun h => nomatch h) (fun _ => bv_nil ?_))
    refine bv_cons (sv_if (tv_val (ev_isi (r := false) T.isinstance T.list boot_list (ev_var 1 rfl) rfl (by decide +kernel))) (fun h => nomatch h) (fun _ => bv_nil ?_))
    refine bv_cons (sv_if (tv_isN (ev_var 1 rfl)) (fun h => nomatch h) (fun _ => bv_nil ?_))
    refine bv_cons (sv_if (tv_val (ev_isi (r := false) T.isinstance T.bool boot_bool (ev_var 1 rfl) rfl (by decide +kernel))) (fun h => nomatch h) (fun _ => bv_nil ?_))
    refine bv_cons (sv_if (tv_val (ev_isi (r := true) T.isinstance T.str boot_str (ev_var 1 rfl) rfl (by decide +kernel))) (fun h => ?_) (fun h => nomatch h))
    refine bv_one (sv_ret (ev_andB (ev_isi (r := true) T.isinstance T.str boot_str (ev_var 0 rfl) rfl (by decide +kernel)) (fun h => (ev_one (b := true) (ev_cmpR op_eq (ev_var 0 rfl) (ev_var 1 rfl) rs_eqS (nomark _))))) ⟨?_, Mle.refl _⟩)
    rw [decide_eq_true rfl]
    rfl
theorem c_same (F : Fun K "_law_same" "_law_same" s_same f fd) (hm : mg "_law_same" = some (.ref f)) (T : Bt mg) (c_is_integer : Cal P w K mg base 1 "_law_is_integer" (spD K PrIsInt)) : ∀ n, Cal P w K mg base (n + 2) "_law_same" (spD K (PrSame n)) := by
  intro n
  induction n with
  | zero =>
    refine cal_of F sc_same hm (fun _ _ _ _ _ _ us hl => match us, hl with | [_, _], _ => rfl) (fun ds M d M' h => ?_) fun cdv A outer s H E ds M d M' hr h => ?_
    · obtain ⟨t, rfl, _⟩ := h
      rfl
    · obtain ⟨t, rfl, ok, rfl, rfl⟩ := h
      show BV _ _ [some t, some t, none] _ _
      cases t with
      | tup ds => exact ok.elim
      | lst ds => exact ok.elim
      | dic => exact ok.elim
      | val v => exact same_val T c_is_integer (hr.mono (by decide)) ok
  | succ n ih =>
    refine cal_of F sc_same hm (fun _ _ _ _ _ _ us hl => match us, hl with | [_, _], _ => rfl) (fun ds M d M' h => ?_) fun cdv A outer s H E ds M d M' hr h => ?_
    · obtain ⟨t, rfl, _⟩ := h
      rfl
    · obtain ⟨t, rfl, ok, rfl, rfl⟩ := h
      show BV _ _ [some t, some t, none] _ _
      have hr0 : Room (n + 2) (A.deeper (envOfC "_law_same" (defScope s_same) s.heap.objs.size f cdv)) := hr
      cases t with
      | tup ds =>
        obtain ⟨hl, hd⟩ := ok
        refine bv_cons (sv_if (tv_val (ev_isi (r := true) T.isinstance T.tuple boot_tuple (ev_var 1 rfl) rfl (by decide +kernel))) (fun _ => ?_) (fun h => nomatch h))
        refine bv_cons (sv_if (PW.pt (wv_or (tv_not (tv_val (ev_isi (r := true) T.isinstance T.tuple boot_tuple (ev_var 0 rfl) rfl (by decide +kernel)))) (fun h => (wv_one_or (tv_cmpR op_ne (ev_lenT T.len (ev_var 0 rfl)) (ev_lenT T.len (ev_var 1 rfl)) rs_neI (nomark _)))))) (fun h => ?_) (fun h => bv_nil ?_))
        · rw [decide_eq_true rfl] at h
          cases h
        · refine bv_one (sv_ret (ev_all (bs := (List.range (rgD 0 ((ds.length : Int)).toNat).length).map fun _ => true) rfl T.all (ev_to (ev_lc (own := [("k", 2)]) (g := gName 2) rfl sc_same.nd (iv_range1 T.range (ev_lenT T.len (ev_var 1 rfl)) (by omega)) (blkOk_by (N := ["actual", "due", "k"]) (sc := defScope s_same) (by decide +kernel)) (fun _ _ _ _ _ => pg_name (i := 2) sc_same.nd rfl (Or.inl rfl)) (fun _ => dB true) (fun _ => M') rfl (fun _ _ h => h) (by rw [rgD_len]; exact Nat.le_trans (by omega : _ ≤ 1000000) (by decide)) (fun i d h => ?_)) (by rw [List.map_map] <;> rfl))) ⟨by rw [all_true], Mle.refl _⟩)
          obtain ⟨hi, rfl⟩ := rgD_get h
          refine ⟨_, tgb_name, fun p acc hp s H C cl fp => ?_⟩
          have hi2 : i < ds.length := by omega
          have hg : ds[i]? = some ds[i] := List.getElem?_eq_getElem hi2
          exact ev_call ih hr0 (av_cons (ev_ixT (ev_var 0 rfl) (ev_var 2 rfl) (atI_nat hg (by omega))) (av_cons (ev_ixT (ev_var 1 rfl) (ev_var 2 rfl) (atI_nat hg (by omega))) av_nil)) ⟨ds[i], rfl, hd _ (List.getElem_mem hi2), rfl, rfl⟩
      | lst ds =>
        obtain ⟨hl, hd⟩ := ok
        refine bv_cons (sv_if (tv_val (ev_isi (r := false) T.isinstance T.tuple boot_tuple (ev_var 1 rfl) rfl (by decide +kernel))) (fun h => nomatch h) (fun _ => bv_nil ?_))
        refine bv_cons (sv_if (tv_val (ev_isi (r := true) T.isinstance T.list boot_list (ev_var 1 rfl) rfl (by decide +kernel))) (fun _ => ?_) (fun h => nomatch h))
        refine bv_cons (sv_if (PW.pt (wv_or (tv_not (tv_val (ev_isi (r := true) T.isinstance T.list boot_list (ev_var 0 rfl) rfl (by decide +kernel)))) (fun h => (wv_one_or (tv_cmpR op_ne (ev_lenL T.len (ev_var 0 rfl)) (ev_lenL T.len (ev_var 1 rfl)) rs_neI (nomark _)))))) (fun h => ?_) (fun h => bv_nil ?_))
        · rw [decide_eq_true rfl] at h
          cases h
        · refine bv_one (sv_ret (ev_all (bs := (List.range (rgD 0 ((ds.length : Int)).toNat).length).map fun _ => true) rfl T.all (ev_to (ev_lc (own := [("k", 2)]) (g := gName 2) rfl sc_same.nd (iv_range1 T.range (ev_lenL T.len (ev_var 1 rfl)) (by omega)) (blkOk_by (N := ["actual", "due", "k"]) (sc := defScope s_same) (by decide +kernel)) (fun _ _ _ _ _ => pg_name (i := 2) sc_same.nd rfl (Or.inl rfl)) (fun _ => dB true) (fun _ => M') rfl (fun _ _ h => h) (by rw [rgD_len]; exact Nat.le_trans (by omega : _ ≤ 1000000) (by decide)) (fun i d h => ?_)) (by rw [List.map_map] <;> rfl))) ⟨by rw [all_true], Mle.refl _⟩)
          obtain ⟨hi, rfl⟩ := rgD_get h
          refine ⟨_, tgb_name, fun p acc hp s H C cl fp => ?_⟩
          have hi2 : i < ds.length := by omega
          have hg : ds[i]? = some ds[i] := List.getElem?_eq_getElem hi2
          exact ev_call ih hr0 (av_cons (ev_ixL (ev_var 0 rfl) (ev_var 2 rfl) (atI_nat hg (by omega))) (av_cons (ev_ixL (ev_var 1 rfl) (ev_var 2 rfl) (atI_nat hg (by omega))) av_nil)) ⟨ds[i], rfl, hd _ (List.getElem_mem hi2), rfl, rfl⟩
      | val v => exact same_val T c_is_integer (hr.mono (by omega)) ok
      | dic => exact ok.elim
end
/-! frames of the memory: but for what stands at a, what stood stands -/
def Fr1 (a : Addr) (M M' : Mem) : Prop := ∀ b, b ≠ a → ∀ o, M b = some o → M' b = some o
theorem Fr1.refl (a : Addr) (M : Mem) : Fr1 a M M := fun _ _ _ h => h
theorem Fr1.trans {a : Addr} {M M1 M2 : Mem} (h : Fr1 a M M1) (k : Fr1 a M1 M2) : Fr1 a M M2 := fun b n o e => k b n o (h b n o e)
theorem Fr1.set {a : Addr} {M M1 : Mem} {o : MO} (h : Fr1 a M M1) : Fr1 a M (M1.set a o) := fun b n u e => by rw [Mem.set_ne n]; exact h b n u e
/-- what is new may change -/
theorem Fr1.new {a l : Addr} {M M1 : Mem} {o : MO} (h : Fr1 a M M1) (hl : M l = none) : Fr1 a M (M1.set l o) := fun b n u e => by
  rw [Mem.set_ne (fun q => by rw [q, hl] at e; cases e)]
  exact h b n u e
theorem Fr1.up {a : Addr} {M M1 M2 : Mem} (h : Fr1 a M M1) (k : Mle M1 M2) : Fr1 a M M2 := fun b n u e => k b u (h b n u e)
theorem mem_eta {M : Mem} {a : Addr} {o : MO} (h : M a = some o) : M.set a o = M := by
  funext b
  unfold Mem.set
  split
  · rename_i e
    rw [e, h]
  · rfl
theorem Fr1.fin {a : Addr} {M M1 : Mem} {o : MO} (h : Fr1 a M M1) (e : M1 a = some o) : Mle (M.set a o) M1 := fun b u q => by
  by_cases n : b = a
  · subst n
    rw [Mem.set_same] at q
    cases q
    exact e
  · rw [Mem.set_ne n] at q
    exact h b n u q
section
variable {X : Cx} {ρ : Sl} {M : Mem} {st : Stmt} {Ψ : Out → Prop}
/-- behind a statement with several ways: J holds on each -/
def joinR (J : Sl → Mem → Prop) (Ψ : Out → Prop) : Out → Prop
  | .nx ρ M => J ρ M
  | .ct ρ M => Ψ (.ct ρ M)
  | .bk ρ M => Ψ (.bk ρ M)
  | .ret d M => Ψ (.ret d M)
theorem sv_join (J : Sl → Mem → Prop) (h : SV X st ρ M (joinR J Ψ)) (k : ∀ ρ M, J ρ M → Ψ (.nx ρ M)) : SV X st ρ M Ψ := sv_to h fun o ho => by
  cases o with
  | nx ρ M => exact k ρ M ho
  | ct ρ M => exact ho
  | bk ρ M => exact ho
  | ret d M => exact ho
end
theorem hu64 {k : Nat} {A : Around} (h : Room k A) : A.units + 64 < cLine := by have := h.un; omega
/-! draws -/
/-- a def that draws from the pool at a: good answers g with their trees -/
def Draw (M : Mem) (a : Addr) (Φ : D → Mem → Prop) (d : D) : Prop := ∀ p' : Pool, p'.Ok → ∀ M', Fr1 a M M' → M' a = some p'.mo → Φ d M'
def R_take (ds : List D) (M : Mem) (Φ : D → Mem → Prop) : Prop := ∃ a p many, ds = [dP a, dI many] ∧ M a = some (Pool.mo p) ∧ p.Ok ∧ 0 < many ∧ many < 1073741824 ∧ ∀ n : Int, 0 ≤ n → n < many → Draw M a Φ (dI n)
def R_pick (ds : List D) (M : Mem) (Φ : D → Mem → Prop) : Prop := ∃ a p b es, ds = [dP a, sq b es] ∧ M a = some (Pool.mo p) ∧ p.Ok ∧ 0 < es.length ∧ es.length < 1073741824 ∧ ∀ d ∈ es, Draw M a Φ d
theorem Cal.spW_of {P : Program} {w : World} {K : PySem.W.Frag} {mg : Str → Option Value} {base : Heap} {k : Nat} {x : Str} {Pr : List D → Mem → D → Mem → Prop} {R : List D → Mem → (D → Mem → Prop) → Prop} (C : Cal P w K mg base k x (spD K Pr)) (h : ∀ ds M Φ, R ds M Φ → ∃ d M', Pr ds M d M' ∧ Φ d M') : Cal P w K mg base k x (spW K R) :=
  C.imp fun vs H Q E ⟨G, ds, M, Φ, sh, r, q, k⟩ =>
    let ⟨d, M', p, f⟩ := h ds M Φ q
    ⟨G, ds, M, d, M', sh, r, p, fun v G' H' g sh' r' => k v G' H' d M' f g sh' r'⟩
section
variable {P : Program} {w : World} {K : PySem.W.Frag} {mg : Str → Option Value} {base : Heap} {f : Addr} {fd : FuncData}
theorem w_take (C : Cal P w K mg base 2 "_law_take" (spD K PrTake)) : Cal P w K mg base 2 "_law_take" (spW K R_take) := C.spW_of fun ds M Φ ⟨a, p, many, e, hA, ok, h0, h1, hΦ⟩ =>
  ⟨_, _, ⟨a, M, p, many, e, (mem_eta hA).symm, ok, h0, h1, rfl, rfl⟩, hΦ _ (p.take_lo h0) (p.take_hi h0) _ (ok.take many) _ (Fr1.refl _ _).set Mem.set_same⟩
theorem w_pick (C : Cal P w K mg base 3 "_law_pick" (spD K PrPick)) : Cal P w K mg base 3 "_law_pick" (spW K R_pick) := C.spW_of fun ds M Φ ⟨a, p, b, es, e, hA, ok, h0, h1, hΦ⟩ => by
  have h0' : (0 : Int) < es.length := by omega
  have t1 := p.take_lo h0'
  have t2 := p.take_hi h0'
  have hlt : (p.take es.length).1.toNat < es.length := by omega
  exact ⟨_, _, ⟨a, M, p, b, es, e, (mem_eta hA).symm, ok, h0, h1, List.getElem?_eq_getElem hlt, rfl⟩, hΦ _ (List.getElem_mem hlt) _ (ok.take _) _ (Fr1.refl _ _).set Mem.set_same⟩
end
/-! the list that a comprehension makes, out of the memory -/
def Mem.del (M : Mem) (p : Addr) : Mem := fun b => if b = p then none else M b
theorem Mem.del_same {M : Mem} {p : Addr} : M.del p p = none := if_pos rfl
theorem Mem.del_ne {M : Mem} {p b : Addr} (h : b ≠ p) : M.del p b = M b := if_neg h
theorem mem_ne {M : Mem} {a p : Addr} {o : MO} (h : M a = some o) (hp : M p = none) : a ≠ p := fun q => by rw [q, hp] at h; cases h
theorem Mem.set_at {M : Mem} {a p : Addr} {o u : MO} (h : M a = some o) (hp : M p = none) : M.set p u a = some o := by rw [Mem.set_ne (mem_ne h hp)]; exact h
/-- behind an element: the list is as it was -/
theorem lc_back {a p : Addr} {M M' : Mem} {o u : MO} (h : M a = some o) (hp : M p = none) (fr : Fr1 a (M.set p u) M') : M' = (M'.del p).set p u ∧ M'.del p p = none ∧ Fr1 a M (M'.del p) ∧ ∀ q, M' a = some q → M'.del p a = some q := by
  have np : p ≠ a := (mem_ne h hp).symm
  have e : M' p = some u := fr p np u Mem.set_same
  refine ⟨?_, Mem.del_same, fun b n v q => ?_, fun q e => ?_⟩
  · funext b
    unfold Mem.set Mem.del
    by_cases hb : b = p
    · rw [if_pos hb, hb]
      exact e
    · rw [if_neg hb, if_neg hb]
  · have nb : b ≠ p := mem_ne q hp
    rw [Mem.del_ne nb]
    exact fr b n v (by rw [Mem.set_ne nb]; exact q)
  · rw [Mem.del_ne (mem_ne h hp)]
    exact e
/-! great ints -/
def CDivS (_ j : Int) : Prop := j ≠ 0 ∧ j.natAbs.log2 < 9000
def Bd (k : Nat) (i : Int) : Prop := i.natAbs < 2 ^ k
theorem Bd.mono {k l : Nat} {i : Int} (h : Bd k i) (e : k ≤ l) : Bd l i := Nat.lt_of_lt_of_le h (Nat.pow_le_pow_right (by decide) e)
theorem Bd.mul {k l : Nat} {i j : Int} (h : Bd k i) (e : Bd l j) : Bd (k + l) (i * j) := wide_lt h e
theorem Bd.add {k : Nat} {i j : Int} (h : Bd k i) (e : Bd k j) : Bd (k + 1) (i + j) := by
  unfold Bd at *
  rw [Nat.pow_succ]
  omega
theorem Bd.sub {k : Nat} {i j : Int} (h : Bd k i) (e : Bd k j) : Bd (k + 1) (i - j) := by
  unfold Bd at *
  rw [Nat.pow_succ]
  omega
theorem Bd.neg {k : Nat} {i : Int} (h : Bd k i) : Bd k (-i) := by
  unfold Bd at *
  omega
theorem Bd.le {k : Nat} {i j : Int} (h : Bd k i) (e : j.natAbs ≤ i.natAbs) : Bd k j := Nat.lt_of_le_of_lt e h
theorem Bd.of {k : Nat} {i m : Int} (h : -m ≤ i ∧ i ≤ m) (e : m.natAbs < 2 ^ k) : Bd k i := by
  unfold Bd
  omega
theorem Bd.cm {k l : Nat} {i j : Int} (h : Bd k i) (e : Bd l j) (hk : 0 < k := by decide) (hl : 0 < l := by decide) (hs : k + l ≤ 1000000 := by decide) : CMulW i j := wide_mul h e hk hl hs
theorem Bd.cd {l : Nat} {i j : Int} (e : Bd l j) (h : 0 < j) (hl : 0 < l := by decide) (hs : l ≤ 9000 := by decide) : CDivW i j := wide_div h e hl hs
section
variable {X : Cx} {ρ : Sl} {M M1 M2 : Mem} {a b e : Expr} {es : List Expr} {pos : Pos}
theorem op_fdivS : OpR X (binaryOp .FloorDiv) (rI CDivS fun i j => .int (i.fdiv j)) := opI fun _ _ _ _ _ _ _ hc q => floordiv_int hc.1 q (.inl (PyProof.noPylong_of_log2 hc.2))
/-- f(x, y), f a module's name of a built-in function of two ints -/
theorem ev_bf2 {x : Str} {id : String} {p : Pos} {i j : Int} {z : V} {r : List V → Hp → VK → Prop} (hc : CallR X (.builtin id) r) (hm : X.mg x = some (.builtin id)) (ha : EV X a ρ M (dI i) M1) (hb : EV X b ρ M1 (dI j) M2) (hr : ∀ H Q, Q z H → r [.int i, .int j] H Q) (hg : Gl X x := by rfl)
    (hd : (x == ("__debug__" : Str)) = false := by decide) (hst : starEach [a, b] X.env = (false, eval a X.env) :: starEach [b] X.env := by rfl) (hst2 : starEach [b] X.env = [(false, eval b X.env)] := by rfl) (hpl : (backTo pos (starEach [b] X.env)).any (·.1) = false := by rfl) : EV X (.Call (.Name x p) [a, b] [] pos) ρ M (.val z) M2 :=
  (pe_callBfun hc hg hm (av_cons ha (av_cons hb av_nil hst2) hst) (hdb := hd) (he := hst) (hpl := hpl)).mono fun σ H Q ⟨G, sa, k⟩ => ⟨G, sa, fun vs G1 H1 g1 sh1 r1 => by
    rw [RepL.of_vals (xs := [.int i, .int j]) r1]
    exact hr _ _ (k _ G1 H1 g1 sh1 (.val _))⟩
def rLcm : List V → Hp → VK → Prop := fun vs H Q => ∃ a b : Int, vs = [.int a, .int b] ∧ (a.natAbs < 2 ^ 64 ∧ b.natAbs < 2 ^ 64) ∧ Q (.int ((Nat.lcm a.natAbs b.natAbs : Nat) : Int)) H
theorem cr_lcm : CallR X (.builtin "math.lcm") rLcm := by
  intro pins s σ H vs us Q I r h
  obtain ⟨a, b, rfl, ⟨ha, hb⟩, q⟩ := h
  obtain ⟨t, u, rfl⟩ := Vals.int2 r
  have e : (Nat.lcm 1 a.natAbs).lcm b.natAbs = Nat.lcm a.natAbs b.natAbs := by rw [Nat.lcm_one_left]
  have hz : Nat.lcm a.natAbs b.natAbs < 2 ^ 128 := Nat.lt_of_le_of_lt (show a.natAbs * b.natAbs / _ ≤ _ from Nat.div_le_self _ _) (Nat.lt_of_lt_of_eq (Nat.mul_lt_mul'' ha hb) (by decide))
  refine PySem.W.mg_lcm ha hb ?_ ⟨.int _, H, I.tok _, ⟨_, rfl⟩, ?_⟩
  · rw [e, Int.natAbs_natCast]
    exact Nat.lt_trans (PySem.Flt.log2_lt_of (by decide) hz) (by decide)
  · rw [e]
    exact q
end
/-! ### fractions in lowest terms -/
def gz (n d : Int) : Int := ((Nat.gcd n.natAbs d.natAbs : Nat) : Int)
def low (n d : Int) : Int × Int := (n / gz n d, d / gz n d)
def frD (p : Int × Int) : D := .tup [dI p.1, dI p.2]
def frac (n d : Int) : Int × Int := (n.fdiv (if d < 0 then -gz n d else gz n d), d.fdiv (if d < 0 then -gz n d else gz n d))
theorem gz_pos {n d : Int} (h : d ≠ 0) : 0 < gz n d := by
  have := Nat.gcd_pos_of_pos_right n.natAbs (Int.natAbs_pos.mpr h)
  unfold gz
  omega
theorem gz_dl (n d : Int) : gz n d ∣ n := by
  unfold gz
  exact Int.ofNat_dvd_left.mpr (Nat.gcd_dvd_left _ _)
theorem gz_dr (n d : Int) : gz n d ∣ d := by
  unfold gz
  exact Int.ofNat_dvd_left.mpr (Nat.gcd_dvd_right _ _)
theorem gz_neg (n d : Int) : gz (-n) (-d) = gz n d := by
  unfold gz
  rw [Int.natAbs_neg, Int.natAbs_neg]
theorem fdiv_neg_ex {n g : Int} (hg : 0 < g) (h : g ∣ n) : n.fdiv (-g) = -n / g := by
  obtain ⟨q, rfl⟩ := h
  have e1 : g * q = -g * -q := by rw [Int.neg_mul_neg]
  have e2 : -(g * q) = g * -q := by rw [Int.mul_neg]
  rw [e2, Int.mul_ediv_cancel_left _ (by omega), e1, Int.mul_fdiv_cancel_left _ (by omega)]
theorem frac_pos {n d : Int} (h : 0 < d) : frac n d = low n d := by
  have g := gz_pos (n := n) (show d ≠ 0 by omega)
  unfold frac low
  rw [if_neg (by omega), Int.fdiv_eq_ediv_of_nonneg _ (by omega), Int.fdiv_eq_ediv_of_nonneg _ (by omega)]
theorem frac_neg {n d : Int} (h : d < 0) : frac n d = low (-n) (-d) := by
  have g := gz_pos (n := n) (show d ≠ 0 by omega)
  unfold frac low
  rw [if_pos h, gz_neg, fdiv_neg_ex g (gz_dl n d), fdiv_neg_ex g (gz_dr n d)]
theorem gz_mul {n d c : Int} (hc : 0 < c) : gz (n * c) (d * c) = gz n d * c := by
  unfold gz
  rw [Int.natAbs_mul, Int.natAbs_mul, Nat.gcd_mul_right, Int.natCast_mul]
  congr 1
  omega
theorem low_mul {n d c : Int} (hd : d ≠ 0) (hc : 0 < c) : low (n * c) (d * c) = low n d := by
  have g := gz_pos (n := n) hd
  unfold low
  rw [gz_mul hc, Int.mul_ediv_mul_of_pos_left _ _ hc, Int.mul_ediv_mul_of_pos_left _ _ hc]
theorem low_cross {n d n' d' : Int} (hd : 0 < d) (hd' : 0 < d') (h : n * d' = n' * d) : low n d = low n' d' := by
  rw [← low_mul (show d ≠ 0 by omega) hd', ← low_mul (n := n') (show d' ≠ 0 by omega) hd, h, Int.mul_comm d d']
theorem low_den {n d : Int} (hd : 0 < d) : 0 < (low n d).2 := by
  have g := gz_pos (n := n) (show d ≠ 0 by omega)
  exact Int.ediv_pos_of_pos_of_dvd hd (by omega) (gz_dr n d)
theorem low_eq {n d : Int} (hd : 0 < d) : (low n d).1 * d = n * (low n d).2 := by
  have g := gz_pos (n := n) (show d ≠ 0 by omega)
  obtain ⟨a, ha⟩ := gz_dl n d
  obtain ⟨b, hb⟩ := gz_dr n d
  show n / gz n d * d = n * (d / gz n d)
  have e1 : n / gz n d = a := by
    rw [Int.ediv_eq_iff_eq_mul_right (by omega) (gz_dl n d)]
    exact ha
  have e2 : d / gz n d = b := by
    rw [Int.ediv_eq_iff_eq_mul_right (by omega) (gz_dr n d)]
    exact hb
  rw [e1, e2]
  calc a * d = a * (gz n d * b) := by rw [← hb]
    _ = gz n d * a * b := by rw [← Int.mul_assoc, Int.mul_comm a]
    _ = n * b := by rw [← ha]
theorem low_bd1 {n d : Int} {k : Nat} (h : Bd k n) : Bd k (low n d).1 := h.le (by
  show (n / gz n d).natAbs ≤ n.natAbs
  exact Int.natAbs_ediv_le_natAbs _ _)
theorem low_bd2 {n d : Int} {k : Nat} (h : Bd k d) : Bd k (low n d).2 := h.le (by
  show (d / gz n d).natAbs ≤ d.natAbs
  exact Int.natAbs_ediv_le_natAbs _ _)
theorem low_num {n d : Int} (hn : 0 < n) (hd : 0 < d) : 0 < (low n d).1 := by
  have g := gz_pos (n := n) (show d ≠ 0 by omega)
  exact Int.ediv_pos_of_pos_of_dvd hn (by omega) (gz_dl n d)
theorem low_dvd (n d : Int) : (low n d).2 ∣ d := by
  obtain ⟨b, hb⟩ := gz_dr n d
  by_cases h : gz n d = 0
  · rw [hb, h, Int.zero_mul]
    exact ⟨0, by rw [Int.mul_zero]⟩
  · refine ⟨gz n d, ?_⟩
    show d = d / gz n d * gz n d
    rw [Int.ediv_mul_cancel (gz_dr n d)]
/-! Euclid's steps -/
structure Euc (P g i x y : Nat) : Prop where
  gc : Nat.gcd x y = g
  pr : x * y * 2 ^ (i - 1) ≤ P
  le : 1 ≤ i → y ≤ x
theorem Euc.step {P g i x y : Nat} (h : Euc P g i x y) (hy : 0 < y) : Euc P g (i + 1) y (x % y) := by
  refine ⟨?_, ?_, fun _ => Nat.le_of_lt (Nat.mod_lt _ hy)⟩
  · rw [← h.gc, Nat.gcd_comm x y, Nat.gcd_rec y x, Nat.gcd_comm]
  · rw [Nat.add_sub_cancel]
    cases i with
    | zero =>
      refine Nat.le_trans ?_ h.pr
      rw [Nat.mul_comm x y]
      exact Nat.mul_le_mul_right _ (Nat.mul_le_mul_left _ (Nat.mod_le _ _))
    | succ i =>
      have hle := h.le (by omega)
      have key : y * (x % y) * 2 ≤ x * y := by
        have r1 := Nat.mod_lt x hy
        have r2 := Nat.div_add_mod x y
        have q1 : 1 ≤ x / y := (Nat.le_div_iff_mul_le hy).mpr (by omega)
        have q2 : y * 1 ≤ y * (x / y) := Nat.mul_le_mul_left _ q1
        have : x % y * 2 ≤ x := by omega
        rw [Nat.mul_assoc, Nat.mul_comm x y]
        exact Nat.mul_le_mul_left _ this
      have p := h.pr
      rw [Nat.add_sub_cancel] at p
      calc y * (x % y) * 2 ^ (i + 1) = y * (x % y) * 2 * 2 ^ i := by rw [Nat.pow_succ, Nat.mul_comm (2 ^ i) 2, Nat.mul_assoc (y * (x % y)) 2]
        _ ≤ x * y * 2 ^ i := Nat.mul_le_mul_right _ key
        _ ≤ P := p
theorem Euc.end_ {P g k x y : Nat} (h : Euc P g (k + 1) x y) (hP : P < 2 ^ k) : y = 0 := by
  have p := h.pr
  rw [Nat.add_sub_cancel] at p
  have l := h.le (by omega)
  rcases Nat.eq_zero_or_pos y with e | e
  · exact e
  · exfalso
    have : 1 ≤ x * y := Nat.mul_pos (by omega) e
    have := Nat.mul_le_mul_right (2 ^ k) this
    omega
theorem mod_int {x y : Nat} : (x : Int) - (y : Int) * ((x : Int) / (y : Int)) = ((x % y : Nat) : Int) := by
  rw [Int.natCast_emod, Int.emod_def]
def PrLow (ds : List D) (M : Mem) (d : D) (M' : Mem) : Prop := ∃ n k : Int, ds = [dI n, dI k] ∧ 0 < k ∧ Bd 900 n ∧ Bd 900 k ∧ d = frD (low n k) ∧ M' = M
section
variable {P : Program} {w : World} {K : PySem.W.Frag} {mg : Str → Option Value} {base : Heap} {f : Addr} {fd : FuncData}
theorem c_lowest (F : Fun K "_law_lowest" "_law_lowest" s_lowest f fd) (hm : mg "_law_lowest" = some (.ref f)) (T : Bt mg) (ha : mg "abs" = none) : Cal P w K mg base 1 "_law_lowest" (spD K PrLow) := by
  refine cal_of F sc_lowest hm (fun _ _ _ _ _ _ us hl => match us, hl with | [_, _], _ => rfl) (fun ds M d M' h => ?_) fun cdv A outer s H E ds M d M' hr h => ?_
  · obtain ⟨n, k, rfl, _⟩ := h
    rfl
  · obtain ⟨n, k, rfl, h0, hn, hk, rfl, rfl⟩ := h
    show BV _ _ [some (dI n), some (dI k), none, none, none] _ _
    refine bv_cons (sw_par 2 3 rfl sc_lowest.nd (aw_av (av_cons (ev_abs ha (ev_var 0 rfl)) (av_cons (ev_var 1 rfl) av_nil)) ⟨_, _, rfl, ?_⟩))
    have eabs : (if n < 0 then -n else n) = ((n.natAbs : Nat) : Int) := by split <;> omega
    have ek : k = ((k.natAbs : Nat) : Int) := by omega
    rw [eabs]
    refine bv_cons (sv_join (fun ρ M => ∃ x y t, ρ = [some (dI n), some (dI k), some (dI x), some y, t] ∧ M = M' ∧ x = gz n k) ?_ ?_)
    · refine sw_for rfl (pg_name (i := 4) sc_lowest.nd rfl (.inl rfl)) (iw_iv (iv_range1 T.range ev_int (by decide)) ⟨fun i ρ M => ∃ (x y : Nat) (t : Option D), ρ = [some (dI n), some (dI k), some (dI x), some (dI y), t] ∧ M = M' ∧ Bd 900 x ∧ Bd 900 y ∧ Euc (n.natAbs * k.natAbs) (Nat.gcd n.natAbs k.natAbs) i x y, ?_, fun i d ρ' M1 hd iv => ?_, fun ρ' M1 iv => ?_⟩)
      · refine ⟨n.natAbs, k.natAbs, none, by rw [← ek]; rfl, rfl, ?_, ?_, rfl, ?_, fun h => by omega⟩
        · exact hn.le (by omega)
        · exact hk.le (by omega)
        · show n.natAbs * k.natAbs * 2 ^ 0 ≤ _
          omega
      · obtain ⟨x, y, t, rfl, rfl, bx, hy, eu⟩ := iv
        refine ⟨_, tg_name, ?_⟩
        refine bv_cons (sv_if (tv_cmpR op_eq (ev_var 3 rfl) ev_int rs_eqI (nomark _)) (fun h => ?_) (fun h => bv_nil ?_))
        · have y0 : y = 0 := by have := of_decide_eq_true h; omega
          subst y0
          refine bv_one (sv_break ⟨_, _, _, rfl, rfl, ?_⟩)
          have := eu.gc
          rw [Nat.gcd_zero_right] at this
          rw [this]
          rfl
        · have y0 : 0 < y := by have := of_decide_eq_false h; omega
          have q0 : Bd 900 ((x : Int) / (y : Int)) := bx.le (Int.natAbs_ediv_le_natAbs _ _)
          refine bv_one (sw_par 2 3 rfl sc_lowest.nd (aw_av (av_cons (ev_var 3 rfl) (av_cons (ev_op op_sub (ev_var 2 rfl) (ev_op op_mulW (ev_var 3 rfl) (ev_intI T.int (ev_op op_fdivW (ev_var 2 rfl) (ev_var 3 rfl) (rs_I (hy.cd (by omega))))) (rs_I (hy.cm q0))) rs_I0) av_nil)) ⟨_, _, rfl, ?_⟩))
          rw [mod_int]
          refine ⟨y, x % y, _, rfl, rfl, hy, ?_, eu.step y0⟩
          refine hy.le ?_
          have := Nat.mod_lt x y0
          omega
      · obtain ⟨x, y, t, rfl, rfl, bx, hy, eu⟩ := iv
        rw [rgD_len] at eu
        have y0 := Euc.end_ (k := 1999) eu (by
          refine Nat.lt_of_lt_of_le (Nat.mul_lt_mul'' hn hk) ?_
          rw [← Nat.pow_add]
          exact Nat.pow_le_pow_right (by decide) (by decide))
        subst y0
        refine ⟨_, _, _, rfl, rfl, ?_⟩
        have := eu.gc
        rw [Nat.gcd_zero_right] at this
        rw [this]
        rfl
    · rintro ρ M ⟨x, y, t, rfl, rfl, rfl⟩
      have g0 := gz_pos (n := n) (show k ≠ 0 by omega)
      have gb : Bd 900 (gz n k) := by
        refine hk.le ?_
        have := Nat.gcd_le_right n.natAbs (show 0 < k.natAbs by omega)
        unfold gz
        omega
      exact bv_one (sv_ret (ev_tup (av_cons (ev_op op_fdivW (ev_var 0 rfl) (ev_var 2 rfl) (rs_I (gb.cd g0))) (av_cons (ev_op op_fdivW (ev_var 1 rfl) (ev_var 2 rfl) (rs_I (gb.cd g0))) av_nil))) ⟨rfl, Mle.refl _⟩)
theorem low_at {n k : Int} (h : 0 < k) (hn : Bd 900 n) (hk : Bd 900 k) {M : Mem} : PrLow [dI n, dI k] M (frD (low n k)) M := ⟨n, k, rfl, h, hn, hk, rfl, rfl⟩
end
section
variable {X : Cx} {ρ : Sl} {M M1 M2 M3 : Mem} {pos : Pos} {x : Str}
theorem ev_gI {i : Int} (h : ∃ t, X.mg x = some (.int i t)) (hg : Gl X x := by rfl) (hd : (x == ("__debug__" : Str)) = false := by decide) : EV X (.Name x pos) ρ M (dI i) M := by
  obtain ⟨t, h⟩ := h
  exact ev_glob hg h ⟨t, rfl⟩ hd
theorem ev_gS {z : Str} (h : ∃ t, X.mg x = some (.str z t)) (hg : Gl X x := by rfl) (hd : (x == ("__debug__" : Str)) = false := by decide) : EV X (.Name x pos) ρ M (dS z) M := by
  obtain ⟨t, h⟩ := h
  exact ev_glob hg h ⟨t, rfl⟩ hd
end
theorem dropAt {α : Type} {cs : List α} {k : Nat} {c : α} (h : cs[k]? = some c) : cs.drop k = c :: cs.drop (k + 1) := by
  obtain ⟨hk, e⟩ := List.getElem?_eq_some_iff.mp h
  rw [← e]
  exact List.drop_eq_getElem_cons hk
theorem ev_bty {X : Cx} {ρ : Sl} {M : Mem} {x : Str} {T : String} {p : Pos} (hm : X.mg x = none) (hv : bootBuiltins x = some (.type T)) (hg : Gl X x := by rfl) (hn : x ≠ "__name__" := by decide) (hd : (x == ("__debug__" : Str)) = false := by decide) : EV X (.Name x p) ρ M (.val (.ty T)) M :=
  ⟨fun pins s σ H Q I ⟨G, sa, k⟩ => ld_blt I hg hm hv ⟨.ty T, H, I, rfl, k _ G H (Same.refl G) sa.sh (.val _)⟩ hn hd⟩
/-! ### kinds of things -/
def kD : Nat → D → Prop
  | _, .val v => v = .non ∨ (∃ b, v = .bl b) ∨ (∃ i, v = .int i) ∨ ∃ z, v = .str z
  | _, .dic => True
  | n + 1, .tup ds => ds.length ≤ 1000000 ∧ ∀ d ∈ ds, kD n d
  | n + 1, .lst ds => ds.length ≤ 1000000 ∧ ∀ d ∈ ds, kD n d
  | 0, .tup _ => False
  | 0, .lst _ => False
def rowD : D → Bool
  | .tup _ => true
  | .lst _ => true
  | _ => false
def partsD : D → List D
  | .tup ds => ds
  | .lst ds => ds
  | _ => []
def partD (d : D) (i : Nat) : D := (partsD d).getD i dN
def numD : D → Bool
  | .val (.int _) => true
  | _ => false
def boolD : D → Bool
  | .val (.bl _) => true
  | _ => false
def wholeD (lo hi : Int) : D → Bool
  | .val (.int i) => decide (lo ≤ i) && decide (i ≤ hi)
  | _ => false
def intD : D → Int
  | .val (.int i) => i
  | _ => 0
def pairD (d : D) : Bool := rowD d && decide ((partsD d).length = 2)
def toneD (d : D) : Bool := pairD d && (partsD d).all (wholeD (-1000) 1000)
def shortD (d : D) : Bool := (pairD d && (partsD d).all (wholeD 1 1000)) && decide (((Nat.gcd (intD (partD d 0)).natAbs (intD (partD d 1)).natAbs : Nat) : Int) = 1)
theorem rowD_sq {d : D} (h : rowD d = true) : ∃ b ds, d = sq b ds ∧ partsD d = ds := by
  cases d with
  | tup ds => exact ⟨false, ds, rfl, rfl⟩
  | lst ds => exact ⟨true, ds, rfl, rfl⟩
  | val v => cases h
  | dic => cases h
theorem rowD_of {b : Bool} {ds : List D} : rowD (sq b ds) = true := by cases b <;> rfl
theorem partsD_of {b : Bool} {ds : List D} : partsD (sq b ds) = ds := by cases b <;> rfl
theorem kD_sq {n : Nat} {b : Bool} {ds : List D} (h : kD (n + 1) (sq b ds)) : ds.length ≤ 1000000 ∧ ∀ d ∈ ds, kD n d := by cases b <;> exact h
theorem kD_sq0 {n : Nat} {b : Bool} {ds : List D} (h : kD n (sq b ds)) : ∃ m, n = m + 1 ∧ ds.length ≤ 1000000 ∧ ∀ d ∈ ds, kD m d := by
  cases n with
  | zero => cases b <;> exact h.elim
  | succ m => exact ⟨m, rfl, kD_sq h⟩
theorem kD_mk {n : Nat} {b : Bool} {ds : List D} (hl : ds.length ≤ 1000000) (h : ∀ d ∈ ds, kD n d) : kD (n + 1) (sq b ds) := by cases b <;> exact ⟨hl, h⟩
theorem kD_int {n : Nat} (i : Int) : kD n (dI i) := by cases n <;> exact .inr (.inr (.inl ⟨i, rfl⟩))
theorem kD_bool {n : Nat} (b : Bool) : kD n (dB b) := by cases n <;> exact .inr (.inl ⟨b, rfl⟩)
theorem kD_str {n : Nat} (z : Str) : kD n (dS z) := by cases n <;> exact .inr (.inr (.inr ⟨z, rfl⟩))
theorem kD_none {n : Nat} : kD n dN := by cases n <;> exact .inl rfl
theorem kD_dic {n : Nat} : kD n .dic := by cases n <;> trivial
theorem kD_val {n : Nat} {v : V} (h : kD n (.val v)) : v = .non ∨ (∃ b, v = .bl b) ∨ (∃ i, v = .int i) ∨ ∃ z, v = .str z := by cases n <;> exact h
theorem kD_up : ∀ {n : Nat} {d : D}, kD n d → kD (n + 1) d
  | n, .val v, h => by cases n <;> exact h
  | n, .dic, _ => kD_dic
  | 0, .tup _, h => h.elim
  | 0, .lst _, h => h.elim
  | n + 1, .tup _, h => ⟨h.1, fun d hd => kD_up (h.2 d hd)⟩
  | n + 1, .lst _, h => ⟨h.1, fun d hd => kD_up (h.2 d hd)⟩
theorem kD_le {n m : Nat} {d : D} (h : kD n d) (hm : n ≤ m) : kD m d := by
  induction hm with
  | refl => exact h
  | step _ ih => exact kD_up ih
theorem kD_ty {n : Nat} {d : D} (h : kD n d) : ∃ t, tyD d = some t ∧ (t = "NoneType" ∨ t = "bool" ∨ t = "int" ∨ t = "str" ∨ t = "tuple" ∨ t = "list" ∨ t = "dict") := by
  cases d with
  | val v =>
    rcases kD_val h with rfl | ⟨b, rfl⟩ | ⟨i, rfl⟩ | ⟨z, rfl⟩
    · exact ⟨_, rfl, .inl rfl⟩
    · exact ⟨_, rfl, .inr (.inl rfl)⟩
    · exact ⟨_, rfl, .inr (.inr (.inl rfl))⟩
    · exact ⟨_, rfl, .inr (.inr (.inr (.inl rfl)))⟩
  | tup ds => exact ⟨_, rfl, .inr (.inr (.inr (.inr (.inl rfl))))⟩
  | lst ds => exact ⟨_, rfl, .inr (.inr (.inr (.inr (.inr (.inl rfl)))))⟩
  | dic => exact ⟨_, rfl, .inr (.inr (.inr (.inr (.inr (.inr rfl)))))⟩
theorem getD_at {ds : List D} {i : Nat} (h : i < ds.length) : ds[i]? = some (ds.getD i dN) := by
  rw [List.getD_eq_getElem?_getD, List.getElem?_eq_getElem h]
  rfl
theorem two_of {ds : List D} (h : ds.length = 2) : ds = [ds.getD 0 dN, ds.getD 1 dN] := by
  match ds, h with
  | [_, _], _ => rfl
theorem three_of {ds : List D} (h : ds.length = 3) : ds = [ds.getD 0 dN, ds.getD 1 dN, ds.getD 2 dN] := by
  match ds, h with
  | [_, _, _], _ => rfl
theorem whole_int {lo hi : Int} {d : D} (h : wholeD lo hi d = true) : ∃ i, d = dI i ∧ lo ≤ i ∧ i ≤ hi := by
  cases d with
  | val v =>
    cases v with
    | int i =>
      have := (Bool.and_eq_true_iff.mp h)
      exact ⟨i, rfl, of_decide_eq_true this.1, of_decide_eq_true this.2⟩
    | _ => cases h
  | _ => cases h
section
variable {P : Program} {w : World} {K : PySem.W.Frag} {mg : Str → Option Value} {base : Heap} {f : Addr} {fd : FuncData}
def PrRow (ds : List D) (M : Mem) (d : D) (M' : Mem) : Prop := ∃ t n, ds = [t] ∧ kD n t ∧ d = dB (rowD t) ∧ M' = M
theorem c_p_is_row (F : Fun K "is_row" "is_row" s_p_is_row f fd) (hm : mg "is_row" = some (.ref f)) (T : Bt mg) : Cal P w K mg base 1 "is_row" (spD K PrRow) := by
  refine cal_of F sc_p_is_row hm (fun _ _ _ _ _ _ us hl => match us, hl with | [_], _ => rfl) (fun ds M d M' h => ?_) fun cdv A outer s H E ds M d M' hr h => ?_
  · obtain ⟨t, n, rfl, _⟩ := h
    rfl
  · obtain ⟨t, n, rfl, hk, rfl, rfl⟩ := h
    show BV _ _ [some t] _ _
    cases t with
    | val v =>
      rcases kD_val hk with rfl | ⟨b, rfl⟩ | ⟨i, rfl⟩ | ⟨z, rfl⟩
      all_goals exact bv_one (sv_ret (ev_isi2 (r1 := false) (r2 := false) T.isinstance T.list boot_list T.tuple boot_tuple (ev_var 0 rfl) rfl (by decide +kernel) (by decide +kernel)) ⟨rfl, Mle.refl _⟩)
    | tup ds => exact bv_one (sv_ret (ev_isi2 (r1 := false) (r2 := true) T.isinstance T.list boot_list T.tuple boot_tuple (ev_var 0 rfl) rfl (by decide +kernel) (by decide +kernel)) ⟨rfl, Mle.refl _⟩)
    | lst ds => exact bv_one (sv_ret (ev_isi2 (r1 := true) (r2 := false) T.isinstance T.list boot_list T.tuple boot_tuple (ev_var 0 rfl) rfl (by decide +kernel) (by decide +kernel)) ⟨rfl, Mle.refl _⟩)
    | dic => exact bv_one (sv_ret (ev_isi2 (r1 := false) (r2 := false) T.isinstance T.list boot_list T.tuple boot_tuple (ev_var 0 rfl) rfl (by decide +kernel) (by decide +kernel)) ⟨rfl, Mle.refl _⟩)
theorem ev_lenS2 {X : Cx} {ρ : Sl} {M M1 : Mem} {e : Expr} {b : Bool} {ds : List D} {p pos : Pos} (hm : X.mg "len" = none) (ha : EV X e ρ M (sq b ds) M1) (hg : Gl X "len" := by rfl) (hst : starEach [e] X.env = [(false, eval e X.env)] := by rfl) : EV X (.Call (.Name "len" p) [e] [] pos) ρ M (dI ds.length) M1 := by
  cases b with
  | true => exact ev_lenL hm ha hg hst
  | false => exact ev_lenT hm ha hg hst
def PrPair (ds : List D) (M : Mem) (d : D) (M' : Mem) : Prop := ∃ t n, ds = [t] ∧ kD n t ∧ d = dB (pairD t) ∧ M' = M
theorem c_p_is_pair (F : Fun K "is_pair" "is_pair" s_p_is_pair f fd) (hm : mg "is_pair" = some (.ref f)) (T : Bt mg) (c_p_is_row : Cal P w K mg base 1 "is_row" (spD K PrRow)) : Cal P w K mg base 2 "is_pair" (spD K PrPair) := by
  refine cal_of F sc_p_is_pair hm (fun _ _ _ _ _ _ us hl => match us, hl with | [_], _ => rfl) (fun ds M d M' h => ?_) fun cdv A outer s H E ds M d M' hr h => ?_
  · obtain ⟨t, n, rfl, _⟩ := h
    rfl
  · obtain ⟨t, n, rfl, hk, rfl, rfl⟩ := h
    show BV _ _ [some t] _ _
    refine bv_one (sv_ret (ev_andB (p := rowD t) (q := decide (((partsD t).length : Int) = 2)) (ev_call c_p_is_row (hr.mono (by decide)) (av_cons (ev_var 0 rfl) av_nil) ⟨t, n, rfl, hk, rfl, rfl⟩) (fun h => ?_)) ⟨?_, Mle.refl _⟩)
    · obtain ⟨b, ds, rfl, e⟩ := rowD_sq h
      rw [e]
      exact ev_one (b := true) (ev_cmpR op_eq (ev_lenS2 T.len (ev_var 0 rfl)) ev_int rs_eqI (nomark _))
    · unfold pairD
      rw [show decide (((partsD t).length : Int) = 2) = decide ((partsD t).length = 2) from decide_eq_decide.mpr ⟨fun h => by omega, fun h => by omega⟩]
def PrNum (ds : List D) (M : Mem) (d : D) (M' : Mem) : Prop := ∃ t n, ds = [t] ∧ kD n t ∧ d = dB (numD t) ∧ M' = M
theorem c_p_is_number (F : Fun K "is_number" "is_number" s_p_is_number f fd) (hm : mg "is_number" = some (.ref f)) (T : Bt mg) : Cal P w K mg base 1 "is_number" (spD K PrNum) := by
  refine cal_of F sc_p_is_number hm (fun _ _ _ _ _ _ us hl => match us, hl with | [_], _ => rfl) (fun ds M d M' h => ?_) fun cdv A outer s H E ds M d M' hr h => ?_
  · obtain ⟨t, n, rfl, _⟩ := h
    rfl
  · obtain ⟨t, n, rfl, hk, rfl, rfl⟩ := h
    show BV _ _ [some t] _ _
    cases t with
    | val v =>
      rcases kD_val hk with rfl | ⟨b, rfl⟩ | ⟨i, rfl⟩ | ⟨z, rfl⟩
      · exact bv_one (sv_ret (ev_andB (p := false) (q := false) (ev_isi T.isinstance T.int boot_int (ev_var 0 rfl) rfl (by decide +kernel)) (fun h => nomatch h)) ⟨rfl, Mle.refl _⟩)
      · exact bv_one (sv_ret (ev_andB (p := true) (q := false) (ev_isi T.isinstance T.int boot_int (ev_var 0 rfl) rfl (by decide +kernel)) (fun h => ev_one (b := true) (ev_notB (p := true) (ev_isi T.isinstance T.bool boot_bool (ev_var 0 rfl) rfl (by decide +kernel))))) ⟨rfl, Mle.refl _⟩)
      · exact bv_one (sv_ret (ev_andB (p := true) (q := true) (ev_isi T.isinstance T.int boot_int (ev_var 0 rfl) rfl (by decide +kernel)) (fun h => ev_one (b := true) (ev_notB (p := false) (ev_isi T.isinstance T.bool boot_bool (ev_var 0 rfl) rfl (by decide +kernel))))) ⟨rfl, Mle.refl _⟩)
      · exact bv_one (sv_ret (ev_andB (p := false) (q := false) (ev_isi T.isinstance T.int boot_int (ev_var 0 rfl) rfl (by decide +kernel)) (fun h => nomatch h)) ⟨rfl, Mle.refl _⟩)
    | tup ds => exact bv_one (sv_ret (ev_andB (p := false) (q := false) (ev_isi T.isinstance T.int boot_int (ev_var 0 rfl) rfl (by decide +kernel)) (fun h => nomatch h)) ⟨rfl, Mle.refl _⟩)
    | lst ds => exact bv_one (sv_ret (ev_andB (p := false) (q := false) (ev_isi T.isinstance T.int boot_int (ev_var 0 rfl) rfl (by decide +kernel)) (fun h => nomatch h)) ⟨rfl, Mle.refl _⟩)
    | dic => exact bv_one (sv_ret (ev_andB (p := false) (q := false) (ev_isi T.isinstance T.int boot_int (ev_var 0 rfl) rfl (by decide +kernel)) (fun h => nomatch h)) ⟨rfl, Mle.refl _⟩)
def PrWhole (ds : List D) (M : Mem) (d : D) (M' : Mem) : Prop := ∃ t n lo hi, ds = [t, dI lo, dI hi] ∧ kD n t ∧ d = dB (wholeD lo hi t) ∧ M' = M
theorem c_p_is_whole (F : Fun K "is_whole" "is_whole" s_p_is_whole f fd) (hm : mg "is_whole" = some (.ref f)) (c_p_is_number : Cal P w K mg base 1 "is_number" (spD K PrNum)) : Cal P w K mg base 2 "is_whole" (spD K PrWhole) := by
  refine cal_of F sc_p_is_whole hm (fun _ _ _ _ _ _ us hl => match us, hl with | [_, _, _], _ => rfl) (fun ds M d M' h => ?_) fun cdv A outer s H E ds M d M' hr h => ?_
  · obtain ⟨t, n, lo, hi, rfl, _⟩ := h
    rfl
  · obtain ⟨t, n, lo, hi, rfl, hk, rfl, rfl⟩ := h
    show BV _ _ [some t, some (dI lo), some (dI hi)] _ _
    refine bv_one (sv_ret (ev_andB (p := numD t) (q := wholeD lo hi t) (ev_call c_p_is_number (hr.mono (by decide)) (av_cons (ev_var 0 rfl) av_nil) ⟨t, n, rfl, hk, rfl, rfl⟩) (fun h => ?_)) ⟨?_, Mle.refl _⟩)
    · cases t with
      | val v =>
        cases v with
        | int i => exact ev_one (b := true) (ev_chain op_le op_le (ev_var 1 rfl) (ev_var 0 rfl) (ev_var 2 rfl))
        | _ => cases h
      | _ => cases h
    · cases t with
      | val v =>
        cases v with
        | int i => rfl
        | _ => rfl
      | _ => rfl
theorem all_of {ds : List D} {g : D → Bool} : (ds.map g).all id = ds.all g := by
  induction ds with
  | nil => rfl
  | cons d ds ih =>
    rw [List.map_cons, List.all_cons, List.all_cons, ih]
    rfl
def PrToneK (ds : List D) (M : Mem) (d : D) (M' : Mem) : Prop := ∃ t n, ds = [t] ∧ kD n t ∧ d = dB (toneD t) ∧ M' = M
theorem c_p_is_tone (F : Fun K "is_tone" "is_tone" s_p_is_tone f fd) (hm : mg "is_tone" = some (.ref f)) (T : Bt mg) (hF : ∃ t, mg "FAR" = some (.int 1000 t)) (c_p_is_pair : Cal P w K mg base 2 "is_pair" (spD K PrPair)) (c_p_is_whole : Cal P w K mg base 2 "is_whole" (spD K PrWhole)) : Cal P w K mg base 3 "is_tone" (spD K PrToneK) := by
  refine cal_of F sc_p_is_tone hm (fun _ _ _ _ _ _ us hl => match us, hl with | [_], _ => rfl) (fun ds M d M' h => ?_) fun cdv A outer s H E ds M d M' hr h => ?_
  · obtain ⟨t, n, rfl, _⟩ := h
    rfl
  · obtain ⟨t, n, rfl, hk, rfl, rfl⟩ := h
    show BV _ _ [some t, none] _ _
    refine bv_one (sv_ret (ev_andB (p := pairD t) (q := (partsD t).all (wholeD (-1000) 1000)) (ev_call c_p_is_pair (hr.mono (by decide)) (av_cons (ev_var 0 rfl) av_nil) ⟨t, n, rfl, hk, rfl, rfl⟩) (fun h => ?_)) ⟨rfl, Mle.refl _⟩)
    obtain ⟨h1, h2⟩ := Bool.and_eq_true_iff.mp h
    obtain ⟨b, ds, rfl, e⟩ := rowD_sq h1
    obtain ⟨m, _, hl, hd⟩ := kD_sq0 hk
    rw [e, ← all_of]
    refine ev_one (b := true) (ev_all rfl T.all (ev_to (ev_lcM (own := [("number", 1)]) (g := gName 1) rfl sc_p_is_tone.nd (iv_sq (ev_var 0 rfl)) (blkOk_by (N := ["thing", "number"]) (sc := defScope s_p_is_tone) (by decide +kernel)) (fun _ _ _ _ _ => (pg_name (i := 1) sc_p_is_tone.nd rfl (.inl rfl))) (fun d => dB (wholeD (-1000) 1000 d)) (Nat.le_trans hl (by decide)) (fun i d h => ?_)) (by rw [List.map_map] <;> rfl)))
    exact ⟨_, tgb_name, fun M2 s H C cl fp => ev_call c_p_is_whole (hr.mono (by decide)) (av_cons (ev_var 1 rfl) (av_cons (ev_un un_neg (ev_gI hF) ru_neg) (av_cons (ev_gI hF) av_nil))) ⟨d, m, _, _, rfl, hd d (List.mem_of_getElem? h), rfl, rfl⟩⟩
end
theorem nf_ {b : Bool} (h : (!b) = false) : b = true := by cases b <;> first | rfl | cases h
theorem nt_ {b : Bool} (h : (!b) = true) : b = false := by cases b <;> first | rfl | cases h
theorem isN_val {d : D} (h : d.isN = true) : d = dN := by
  cases d with
  | val v => rw [show v = .non from of_decide_eq_true h]
  | tup ds => cases h
  | lst ds => cases h
  | dic => cases h
theorem pair_sq {t : D} (h : pairD t = true) : ∃ b x y, t = sq b [x, y] ∧ partD t 0 = x ∧ partD t 1 = y := by
  obtain ⟨h1, h2⟩ := Bool.and_eq_true_iff.mp h
  obtain ⟨b, ds, rfl, e⟩ := rowD_sq h1
  rw [e] at h2
  have l := two_of (of_decide_eq_true h2)
  refine ⟨b, ds.getD 0 dN, ds.getD 1 dN, by rw [← l], ?_, ?_⟩
  · unfold partD
    rw [e]
  · unfold partD
    rw [e]
def lenD (d : D) : Nat := (partsD d).length
abbrev Tn := Int × Int
structure Red (p : Tn) : Prop where
  d0 : 0 < p.2
  one : gz p.1 p.2 = 1
theorem Red.low {p : Tn} (h : Red p) : Vt.low p.1 p.2 = p := by
  unfold Vt.low
  rw [h.one, Int.ediv_one, Int.ediv_one]
theorem low_red {n d : Int} (h : 0 < d) : Red (low n d) := by
  refine ⟨low_den h, ?_⟩
  have g := gz_pos (n := n) (show d ≠ 0 by omega)
  obtain ⟨a, ha⟩ := gz_dl n d
  obtain ⟨b, hb⟩ := gz_dr n d
  have e1 : n / gz n d = a := by
    rw [Int.ediv_eq_iff_eq_mul_right (by omega) (gz_dl n d)]
    exact ha
  have e2 : d / gz n d = b := by
    rw [Int.ediv_eq_iff_eq_mul_right (by omega) (gz_dr n d)]
    exact hb
  show gz (n / gz n d) (d / gz n d) = 1
  rw [e1, e2]
  have k : gz (a * gz n d) (b * gz n d) = gz a b * gz n d := gz_mul g
  rw [Int.mul_comm a, Int.mul_comm b, ← ha, ← hb] at k
  have k2 : (gz a b - 1) * gz n d = 0 := by rw [Int.sub_mul, ← k, Int.one_mul, Int.sub_self]
  rcases Int.mul_eq_zero.mp k2 with z | z
  · omega
  · omega
theorem low_le {n d : Int} (hd : 0 < d) (hn : 0 < n) : (low n d).1 ≤ n ∧ (low n d).2 ≤ d := by
  have g := gz_pos (n := n) (show d ≠ 0 by omega)
  exact ⟨Int.ediv_le_self _ (by omega), Int.ediv_le_self _ (by omega)⟩
theorem bd_small {i : Int} {k : Nat} (h : 0 ≤ i ∧ i ≤ 100000) (hk : 20 ≤ k) : Bd k i := (Bd.of (m := 100000) (k := 20) (by omega) (by decide)).mono hk
/-- trees of tuples that end in plain values -/
def tupD : Nat → D → Prop
  | _, .val v => v = .non ∨ (∃ b, v = .bl b) ∨ (∃ i, v = .int i) ∨ ∃ z, v = .str z
  | n + 1, .tup ds => ds.length ≤ 1000000 ∧ ∀ d ∈ ds, tupD n d
  | _, _ => False
section
variable {P : Program} {w : World} {K : PySem.W.Frag} {mg : Str → Option Value} {base : Heap} {f : Addr} {fd : FuncData}
def addF (p q : Tn) : Tn := low (p.1 * q.2 + q.1 * p.2) (p.2 * q.2)
def R_interval (ds : List D) (M : Mem) (Φ : D → Mem → Prop) : Prop := ∃ a p, ds = [dP a] ∧ M a = some (Pool.mo p) ∧ p.Ok ∧ ∀ t : Tn, (-100 ≤ t.1 ∧ t.1 ≤ 100) → (-100 ≤ t.2 ∧ t.2 ≤ 100) → Draw M a Φ (frD t)
theorem c_interval (F : Fun K "_law_interval" "_law_interval" s_interval f fd) (hm : mg "_law_interval" = some (.ref f)) (T : Bt mg) (c_take : Cal P w K mg base 2 "_law_take" (spW K R_take)) : Cal P w K mg base 3 "_law_interval" (spW K R_interval) := by
  refine calW_of F sc_interval hm (fun _ _ _ _ _ _ us hl => match us, hl with | [_], _ => rfl) (fun ds M Φ h => ?_) fun cdv A outer s H E ds M Φ hr h => ?_
  · obtain ⟨a, p, rfl, _⟩ := h
    rfl
  · obtain ⟨a, p, rfl, hA, ok, hΦ⟩ := h
    show BV _ _ [some (dP a)] _ _
    refine bv_cons (sw_if ?_)
    refine tw_cmp op_eq ?_ (nomark _)
    refine ew_callW c_take (hr.mono (by decide)) (aw_av (av_cons (ev_var 0 rfl) (av_cons ev_int av_nil)) ⟨a, p, _, rfl, hA, ok, by decide, by decide, fun n1 lo1 hi1 p1 ok1 M1 fr1 hA1 => ⟨_, rfl, ?_⟩⟩)
    refine ew_ev ev_int ⟨_, _, rfl, rs_eqI, ⟨fun h => ?_, fun h => bv_nil ?_⟩⟩
    · refine bv_one (sw_ret ?_)
      refine ew_tup ?_
      refine aw_cons ?_
      refine ew_op op_sub ?_
      refine ew_callW c_take (hr.mono (by decide)) (aw_av (av_cons (ev_var 0 rfl) (av_cons ev_int av_nil)) ⟨a, p1, _, rfl, hA1, ok1, by decide, by decide, fun n2 lo2 hi2 p2 ok2 M2 fr2 hA2 => ⟨_, rfl, ?_⟩⟩)
      refine ew_ev ev_int ⟨_, _, rfl, rs_I0, ?_⟩
      refine aw_cons ?_
      refine ew_op op_sub ?_
      refine ew_callW c_take (hr.mono (by decide)) (aw_av (av_cons (ev_var 0 rfl) (av_cons ev_int av_nil)) ⟨a, p2, _, rfl, hA2, ok2, by decide, by decide, fun n3 lo3 hi3 p3 ok3 M3 fr3 hA3 => ⟨_, rfl, ?_⟩⟩)
      refine ew_ev ev_int ⟨_, _, rfl, rs_I0, ?_⟩
      exact aw_nil ⟨by (simp only [List.length_cons, List.length_nil]; decide), _, hΦ (_, _) (by show -100 ≤ n2 - 100 ∧ n2 - 100 ≤ 100; omega) (by show -100 ≤ n3 - 100 ∧ n3 - 100 ≤ 100; omega) p3 ok3 _ ((fr1.trans fr2).trans fr3) hA3, Mle.refl _⟩
    · refine bv_one (sw_ret ?_)
      refine ew_tup ?_
      refine aw_cons ?_
      refine ew_op op_sub ?_
      refine ew_callW c_take (hr.mono (by decide)) (aw_av (av_cons (ev_var 0 rfl) (av_cons ev_int av_nil)) ⟨a, p1, _, rfl, hA1, ok1, by decide, by decide, fun n2 lo2 hi2 p2 ok2 M2 fr2 hA2 => ⟨_, rfl, ?_⟩⟩)
      refine ew_ev ev_int ⟨_, _, rfl, rs_I0, ?_⟩
      refine aw_cons ?_
      refine ew_op op_sub ?_
      refine ew_callW c_take (hr.mono (by decide)) (aw_av (av_cons (ev_var 0 rfl) (av_cons ev_int av_nil)) ⟨a, p2, _, rfl, hA2, ok2, by decide, by decide, fun n3 lo3 hi3 p3 ok3 M3 fr3 hA3 => ⟨_, rfl, ?_⟩⟩)
      refine ew_ev ev_int ⟨_, _, rfl, rs_I0, ?_⟩
      exact aw_nil ⟨by (simp only [List.length_cons, List.length_nil]; decide), _, hΦ (_, _) (by show -100 ≤ n2 - 4 ∧ n2 - 4 ≤ 100; omega) (by show -100 ≤ n3 - 4 ∧ n3 - 4 ≤ 100; omega) p3 ok3 _ ((fr1.trans fr2).trans fr3) hA3, Mle.refl _⟩
structure FrOk (k l : Nat) (p : Tn) : Prop where
  d0 : 0 < p.2
  nb : Bd k p.1
  db : Bd l p.2
def PrSum (ds : List D) (M : Mem) (d : D) (M' : Mem) : Prop := ∃ p q : Tn, ds = [frD p, frD q] ∧ FrOk 800 800 p ∧ FrOk 60 60 q ∧ d = frD (addF p q) ∧ M' = M
theorem addF_bd {p q : Tn} (hp : FrOk 800 800 p) (hq : FrOk 60 60 q) : Bd 900 (p.1 * q.2 + q.1 * p.2) ∧ Bd 900 (p.2 * q.2) :=
  ⟨((hp.nb.mul hq.db).add ((hq.nb.mul hp.db).mono (by decide))).mono (by decide), (hp.db.mul hq.db).mono (by decide)⟩
theorem c_sum (F : Fun K "_law_sum" "_law_sum" s_sum f fd) (hm : mg "_law_sum" = some (.ref f)) (T : Bt mg) (c_lowest : Cal P w K mg base 1 "_law_lowest" (spD K PrLow)) : Cal P w K mg base 2 "_law_sum" (spD K PrSum) := by
  refine cal_of F sc_sum hm (fun _ _ _ _ _ _ us hl => match us, hl with | [_, _], _ => rfl) (fun ds M d M' h => ?_) fun cdv A outer s H E ds M d M' hr h => ?_
  · obtain ⟨p, q, rfl, _⟩ := h
    rfl
  · obtain ⟨p, q, rfl, hp, hq, rfl, rfl⟩ := h
    show BV _ _ [some (frD p), some (frD q)] _ _
    exact bv_one (sv_ret (ev_call c_lowest (hr.mono (by decide)) (av_cons (ev_op op_add (ev_op op_mulW (ev_ixT (ev_var 0 rfl) ev_int rfl) (ev_ixT (ev_var 1 rfl) ev_int rfl) (rs_I (hp.nb.cm hq.db))) (ev_op op_mulW (ev_ixT (ev_var 1 rfl) ev_int rfl) (ev_ixT (ev_var 0 rfl) ev_int rfl) (rs_I (hq.nb.cm hp.db))) rs_I0) (av_cons (ev_op op_mulW (ev_ixT (ev_var 0 rfl) ev_int rfl) (ev_ixT (ev_var 1 rfl) ev_int rfl) (rs_I (hp.db.cm hq.db))) av_nil)) (low_at (Int.mul_pos hp.d0 hq.d0) (addF_bd hp hq).1 (addF_bd hp hq).2)) ⟨rfl, Mle.refl _⟩)
def PrTupOf (ds : List D) (M : Mem) (d : D) (M' : Mem) : Prop := ∃ b x y, ds = [sq b [x, y]] ∧ d = .tup [x, y] ∧ M' = M
theorem c_p_tuple_of (F : Fun K "tuple_of" "tuple_of" s_p_tuple_of f fd) (hm : mg "tuple_of" = some (.ref f)) : Cal P w K mg base 1 "tuple_of" (spD K PrTupOf) := by
  refine cal_of F sc_p_tuple_of hm (fun _ _ _ _ _ _ us hl => match us, hl with | [_], _ => rfl) (fun ds M d M' h => ?_) fun cdv A outer s H E ds M d M' hr h => ?_
  · obtain ⟨b, x, y, rfl, _⟩ := h
    rfl
  · obtain ⟨b, x, y, rfl, rfl, rfl⟩ := h
    show BV _ _ [some (sq b [x, y]), none, none] _ _
    refine bv_cons (sw_asg (pg_sq b rfl (pgs_cons (pg_name (i := 1) sc_p_tuple_of.nd rfl (.inl rfl)) (pgs_cons (pg_name (i := 2) sc_p_tuple_of.nd rfl (.inl rfl)) pgs_nil))) ?_)
    refine ew_ev (ev_var 0 rfl) ⟨_, tg_sq (tg_cons tg_name (tg_cons tg_name (tg_nil))), ?_⟩
    exact bv_one (sv_ret (ev_tup (av_cons (ev_var 1 rfl) (av_cons (ev_var 2 rfl) av_nil))) ⟨rfl, Mle.refl _⟩)
end
/-! ### tests -/
inductive Tst where
  | acc (a : Int) | beg (v : Nat) | sil (v : Nat) | loo (v : Nat) | leap (v : Nat) (lo hi : Int) | by_ (v : Nat) (ivs : List Tn)
  | apart (v s : Nat) (lo hi : Int) | cls (v s : Nat) (ns : List Int) | along (v s : Nat) | lasts (l h : Tn)
abbrev nD (n : Nat) : D := dI (n : Int)
def wordT : Tst → Str
  | .acc _ => "accent" | .beg _ => "begins" | .sil _ => "silent" | .loo _ => "loose" | .leap _ _ _ => "leap" | .by_ _ _ => "by"
  | .apart _ _ _ _ => "apart" | .cls _ _ _ => "class" | .along _ _ => "along" | .lasts _ _ => "lasts"
def formT : Tst → List Str
  | .acc _ => ["accent"] | .beg _ => ["voice"] | .sil _ => ["voice"] | .loo _ => ["voice"] | .leap _ _ _ => ["voice", "height", "height"] | .by_ _ _ => ["voice", "intervals"]
  | .apart _ _ _ _ => ["voice", "voice", "height", "height"] | .cls _ _ _ => ["voice", "voice", "numbers"] | .along _ _ => ["voice", "voice"] | .lasts _ _ => ["times", "times"]
def argsT : Tst → List D
  | .acc a => [dI a] | .beg v => [nD v] | .sil v => [nD v] | .loo v => [nD v] | .leap v lo hi => [nD v, dI lo, dI hi] | .by_ v ivs => [nD v, .tup (ivs.map frD)]
  | .apart v s lo hi => [nD v, nD s, dI lo, dI hi] | .cls v s ns => [nD v, nD s, .tup (ns.map dI)] | .along v s => [nD v, nD s] | .lasts l h => [frD l, frD h]
def tstD (t : Tst) : D := .tup (dS (wordT t) :: argsT t)
/-- small enough for products -/
structure TstOk (t : Tst) : Prop where
  bd : ∀ l h, t = .lasts l h → (Bd 40 l.1 ∧ Bd 40 l.2) ∧ Bd 40 h.1 ∧ Bd 40 h.2
  iv : ∀ v ivs, t = .by_ v ivs → ivs.length ≤ 1000
  ns : ∀ v s ns, t = .cls v s ns → ns.length ≤ 1000
def frQ (b : Bool) (t : Tn) : D := sq b [dI t.1, dI t.2]
def argsQ (b : Bool) : Tst → List D
  | .acc a => [dI a] | .beg v => [nD v] | .sil v => [nD v] | .loo v => [nD v] | .leap v lo hi => [nD v, dI lo, dI hi] | .by_ v ivs => [nD v, sq b (ivs.map (frQ b))]
  | .apart v s lo hi => [nD v, nD s, dI lo, dI hi] | .cls v s ns => [nD v, nD s, sq b (ns.map dI)] | .along v s => [nD v, nD s] | .lasts l h => [frQ b l, frQ b h]
def tstQ (b : Bool) (t : Tst) : D := sq b (dS (wordT t) :: argsQ b t)
theorem nD_inj {v u : Nat} (h : nD v = nD u) : v = u := by
  injection h with h
  injection h with h
  omega
section
variable {P : Program} {w : World} {K : PySem.W.Frag} {mg : Str → Option Value} {base : Heap} {f : Addr} {fd : FuncData}
def PrToT (ds : List D) (M : Mem) (d : D) (M' : Mem) : Prop := ∃ t b, ds = [tstQ b t] ∧ TstOk t ∧ d = tstD t ∧ M' = M
theorem c_p_tuples_of_test (F : Fun K "tuples_of_test" "tuples_of_test" s_p_tuples_of_test f fd) (hm : mg "tuples_of_test" = some (.ref f)) (T : Bt mg) (c_p_tuple_of : Cal P w K mg base 1 "tuple_of" (spD K PrTupOf)) : Cal P w K mg base 2 "tuples_of_test" (spD K PrToT) := by
  refine cal_of F sc_p_tuples_of_test hm (fun _ _ _ _ _ _ us hl => match us, hl with | [_], _ => rfl) (fun ds M d M' h => ?_) fun cdv A outer s H E ds M d M' hr h => ?_
  · obtain ⟨t, b, rfl, _⟩ := h
    rfl
  · obtain ⟨t, b, rfl, to, rfl, rfl⟩ := h
    show BV _ _ [some (tstQ b t), none, none] _ _
    refine bv_cons (sv_set 1 sc_p_tuples_of_test.nd (ev_ixQ (b' := b) (ds := dS (wordT t) :: argsQ b t) (ev_var 0 rfl) ev_int (atI_nat (k := 0) rfl rfl)) ?_)
    show BV _ _ [some (tstQ b t), some (dS (wordT t)), none] _ _
    refine bv_cons (sv_if (tv_cmpR op_eq (ev_var 1 rfl) ev_str rs_eqS (nomark _)) (fun h1 => ?_) (fun h1 => bv_nil ?_))
    · obtain ⟨v, ivs, rfl⟩ : ∃ v ivs, t = .by_ v ivs := by
        have h1 := of_decide_eq_true h1
        cases t <;> first | exact ⟨_, _, rfl⟩ | (exfalso; revert h1; simp only [wordT]; decide +kernel)
      refine bv_one (sv_ret (ev_tup (av_cons (ev_var 1 rfl) (av_cons (ev_ixQ (b' := b) (ds := dS (wordT (.by_ v ivs)) :: argsQ b (.by_ v ivs)) (ev_var 0 rfl) ev_int rfl) (av_cons (ev_tupOf (b := true) T.tuple (ev_lcM (own := [("interval", 2)]) (g := gName 2) rfl sc_p_tuples_of_test.nd (iv_sq (b := b) (ds := ivs.map (frQ b)) (ev_ixQ (b' := b) (ds := dS (wordT (.by_ v ivs)) :: argsQ b (.by_ v ivs)) (ev_var 0 rfl) ev_int rfl)) (blkOk_by (N := ["test", "word", "interval"]) (sc := defScope s_p_tuples_of_test) (by decide +kernel)) (fun _ _ _ _ _ => (pg_name (i := 2) sc_p_tuples_of_test.nd rfl (.inl rfl))) (fun d => .tup (partsD d)) (by rw [List.length_map]; exact Nat.le_trans (to.iv v ivs rfl) (by decide)) (fun i d h => ?_))) av_nil)))) ⟨?_, Mle.refl _⟩)
      · rw [List.getElem?_map, Option.map_eq_some_iff] at h
        obtain ⟨x, _, rfl⟩ := h
        refine ⟨_, tgb_name, fun M2 s H C cl fp => ?_⟩
        exact ev_to (ev_call c_p_tuple_of (hr.mono (by decide)) (av_cons (ev_var 2 rfl) av_nil) ⟨b, dI x.1, dI x.2, rfl, rfl, rfl⟩) (by unfold frQ; rw [partsD_of])
      · rw [List.map_map]
        have e : (ivs.map ((fun d => D.tup (partsD d)) ∘ frQ b)) = ivs.map frD := List.map_congr_left fun x _ => by
          show D.tup (partsD (sq b [dI x.1, dI x.2])) = _
          rw [partsD_of]
          rfl
        rw [e]
        rfl
    · refine bv_cons (sv_if (tv_cmpR op_eq (ev_var 1 rfl) ev_str rs_eqS (nomark _)) (fun h2 => ?_) (fun h2 => bv_nil ?_))
      · obtain ⟨v, x, ns, rfl⟩ : ∃ v x ns, t = .cls v x ns := by
          have h2 := of_decide_eq_true h2
          cases t <;> first | exact ⟨_, _, _, rfl⟩ | (exfalso; revert h2; simp only [wordT]; decide +kernel)
        exact bv_one (sv_ret (ev_tup (av_cons (ev_var 1 rfl) (av_cons (ev_ixQ (b' := b) (ds := dS (wordT (.cls v x ns)) :: argsQ b (.cls v x ns)) (ev_var 0 rfl) ev_int rfl) (av_cons (ev_ixQ (b' := b) (ds := dS (wordT (.cls v x ns)) :: argsQ b (.cls v x ns)) (ev_var 0 rfl) ev_int rfl) (av_cons (ev_tupOf (b := b) (ds := ns.map dI) T.tuple (ev_ixQ (b' := b) (ds := dS (wordT (.cls v x ns)) :: argsQ b (.cls v x ns)) (ev_var 0 rfl) ev_int rfl)) av_nil))))) ⟨rfl, Mle.refl _⟩)
      · refine bv_cons (sv_if (tv_cmpR op_eq (ev_var 1 rfl) ev_str rs_eqS (nomark _)) (fun h3 => ?_) (fun h3 => bv_nil ?_))
        · obtain ⟨l, x, rfl⟩ : ∃ l x, t = .lasts l x := by
            have h3 := of_decide_eq_true h3
            cases t <;> first | exact ⟨_, _, rfl⟩ | (exfalso; revert h3; simp only [wordT]; decide +kernel)
          exact bv_one (sv_ret (ev_tup (av_cons (ev_var 1 rfl) (av_cons (ev_call c_p_tuple_of (hr.mono (by decide)) (av_cons (ev_ixQ (b' := b) (ds := dS (wordT (.lasts l x)) :: argsQ b (.lasts l x)) (ev_var 0 rfl) ev_int rfl) av_nil) ⟨b, dI l.1, dI l.2, rfl, rfl, rfl⟩) (av_cons (ev_call c_p_tuple_of (hr.mono (by decide)) (av_cons (ev_ixQ (b' := b) (ds := dS (wordT (.lasts l x)) :: argsQ b (.lasts l x)) (ev_var 0 rfl) ev_int rfl) av_nil) ⟨b, dI x.1, dI x.2, rfl, rfl, rfl⟩) av_nil)))) ⟨rfl, Mle.refl _⟩)
        · have e : argsQ b t = argsT t := by
            have h1 := of_decide_eq_false h1
            have h2 := of_decide_eq_false h2
            have h3 := of_decide_eq_false h3
            cases t <;> first | rfl | exact absurd rfl h1 | exact absurd rfl h2 | exact absurd rfl h3
          exact bv_one (sv_ret (ev_tupOf (b := b) (ds := dS (wordT t) :: argsQ b t) T.tuple (ev_var 0 rfl)) ⟨by rw [e]; rfl, Mle.refl _⟩)
end
/-! ### what is a test -/
inductive Kd where
  | acc | voi | hei | tim | ivs | num
  deriving DecidableEq
def kdS : Kd → Str
  | .acc => "accent" | .voi => "voice" | .hei => "height" | .tim => "times" | .ivs => "intervals" | .num => "numbers"
def fracD (d : D) : Bool := (pairD d && (partsD d).all numD) && (decide (intD (partD d 1) ≥ 1) && decide (gz (intD (partD d 0)) (intD (partD d 1)) = 1))
def timesD (d : D) : Bool := fracD d && (decide (intD (partD d 0) ≥ 0) && !decide (1000 * intD (partD d 1) < intD (partD d 0) * 1))
def listedD (q : D → Bool) (d : D) : Bool := rowD d && (decide ((lenD d : Int) ≤ 12) && (partsD d).all q)
def kdD : Kd → D → Bool
  | .acc => wholeD 0 9 | .voi => wholeD 0 3 | .hei => wholeD (-200) 200 | .tim => timesD | .ivs => listedD toneD | .num => listedD (wholeD 0 11)
section
variable {P : Program} {w : World} {K : PySem.W.Frag} {mg : Str → Option Value} {base : Heap} {f : Addr} {fd : FuncData}
def PrFracK (ds : List D) (M : Mem) (d : D) (M' : Mem) : Prop := ∃ t n, ds = [t] ∧ kD n t ∧ d = dB (fracD t) ∧ M' = M
theorem num_int {d : D} (h : numD d = true) : d = dI (intD d) := by
  cases d with
  | val v => cases v <;> first | rfl | cases h
  | _ => cases h
theorem c_p_is_fraction (F : Fun K "is_fraction" "is_fraction" s_p_is_fraction f fd) (hm : mg "is_fraction" = some (.ref f)) (T : Bt mg) (hg : mg "gcd" = some (.builtin "math.gcd")) (c_p_is_pair : Cal P w K mg base 2 "is_pair" (spD K PrPair)) (c_p_is_number : Cal P w K mg base 1 "is_number" (spD K PrNum)) : Cal P w K mg base 3 "is_fraction" (spD K PrFracK) := by
  refine cal_of F sc_p_is_fraction hm (fun _ _ _ _ _ _ us hl => match us, hl with | [_], _ => rfl) (fun ds M d M' h => ?_) fun cdv A outer s H E ds M d M' hr h => ?_
  · obtain ⟨t, n, rfl, _⟩ := h
    rfl
  · obtain ⟨t, n, rfl, hk, rfl, rfl⟩ := h
    show BV _ _ [some t, none] _ _
    refine bv_cons (sv_if (p := !pairD t || !(partsD t).all numD) (M1 := M') (PW.pt (wv_or (tv_not (tv_val (ev_call c_p_is_pair (hr.mono (by decide)) (av_cons (ev_var 0 rfl) av_nil) ⟨t, n, rfl, hk, rfl, rfl⟩))) (fun h => wv_one_or (tv_not (tv_val ?_))))) (fun h => ?_) (fun h => bv_nil ?_))
    · obtain ⟨h1, h2⟩ := Bool.and_eq_true_iff.mp (nf_ h)
      obtain ⟨b, ds, rfl, e⟩ := rowD_sq h1
      obtain ⟨m, _, hl, hd⟩ := kD_sq0 hk
      rw [e, ← all_of]
      refine ev_all rfl T.all (ev_to (ev_lcM (own := [("number", 1)]) (g := gName 1) rfl sc_p_is_fraction.nd (iv_sq (ev_var 0 rfl)) (blkOk_by (N := ["thing", "number"]) (sc := defScope s_p_is_fraction) (by decide +kernel)) (fun _ _ _ _ _ => (pg_name (i := 1) sc_p_is_fraction.nd rfl (.inl rfl))) (fun d => dB (numD d)) (Nat.le_trans hl (by decide)) (fun i d h => ?_)) (by rw [List.map_map]; rfl))
      exact ⟨_, tgb_name, fun M2 s H C cl fp => ev_call c_p_is_number (hr.mono (by decide)) (av_cons (ev_var 1 rfl) av_nil) ⟨d, m, rfl, hd d (List.mem_of_getElem? h), rfl, rfl⟩⟩
    · refine bv_one (sv_ret ev_bl ⟨?_, Mle.refl _⟩)
      have e : (pairD t && (partsD t).all numD) = false := by
        cases h1 : pairD t with
        | false => rfl
        | true =>
          rw [h1] at h
          cases h2 : (partsD t).all numD with
          | false => rfl
          | true => rw [h2] at h; cases h
      unfold fracD
      rw [e]
      rfl
    · have hp : pairD t = true := by
        cases h1 : pairD t with
        | true => rfl
        | false => rw [h1] at h; cases h
      have hw : (partsD t).all numD = true := by
        cases h1 : (partsD t).all numD with
        | true => rfl
        | false => rw [hp, h1] at h; cases h
      obtain ⟨b, x, y, rfl, e0, e1⟩ := pair_sq hp
      rw [partsD_of] at hw
      have hx := num_int (List.all_eq_true.mp hw x (by simp))
      have hy := num_int (List.all_eq_true.mp hw y (by simp))
      unfold fracD
      rw [hp, partsD_of, hw, e0, e1, Bool.true_and, Bool.true_and]
      generalize intD x = i at hx ⊢
      generalize intD y = j at hy ⊢
      subst hx hy
      exact bv_one (sv_ret (ev_andB (ev_cmpR op_ge (ev_ixQ (b' := b) (ds := [dI i, dI j]) (ev_var 0 rfl) ev_int rfl) ev_int rs_I0 (nomark _)) (fun _ => ev_one (b := true) (ev_cmpR op_eq (ev_bf2 cr_gcd hg (ev_ixQ (b' := b) (ds := [dI i, dI j]) (ev_var 0 rfl) ev_int rfl) (ev_ixQ (b' := b) (ds := [dI i, dI j]) (ev_var 0 rfl) ev_int rfl) (z := .int (gz i j)) (fun H Q q => ⟨i, j, rfl, q⟩)) ev_int rs_eqI (nomark _)))) ⟨rfl, Mle.refl _⟩)
def PrPart (q : Kd) (ds : List D) (M : Mem) (d : D) (M' : Mem) : Prop := ∃ t n, ds = [t] ∧ kD n t ∧ d = dB (kdD q t) ∧ M' = M
def PrAccK (ds : List D) (M : Mem) (d : D) (M' : Mem) : Prop := PrPart .acc ds M d M'
def PrVoiK (ds : List D) (M : Mem) (d : D) (M' : Mem) : Prop := PrPart .voi ds M d M'
def PrHeiK (ds : List D) (M : Mem) (d : D) (M' : Mem) : Prop := PrPart .hei ds M d M'
def PrTimK (ds : List D) (M : Mem) (d : D) (M' : Mem) : Prop := PrPart .tim ds M d M'
def PrIvsK (ds : List D) (M : Mem) (d : D) (M' : Mem) : Prop := PrPart .ivs ds M d M'
def PrNumsK (ds : List D) (M : Mem) (d : D) (M' : Mem) : Prop := PrPart .num ds M d M'
theorem c_p_is_accent (F : Fun K "_is_accent" "_is_accent" s_p_is_accent f fd) (hm : mg "_is_accent" = some (.ref f)) (hA : ∃ t, mg "MOST_ACCENT" = some (.int 9 t)) (c_p_is_whole : Cal P w K mg base 2 "is_whole" (spD K PrWhole)) : Cal P w K mg base 3 "_is_accent" (spD K PrAccK) := by
  refine cal_of F sc_p_is_accent hm (fun _ _ _ _ _ _ us hl => match us, hl with | [_], _ => rfl) (fun ds M d M' h => ?_) fun cdv A outer s H E ds M d M' hr h => ?_
  · obtain ⟨t, n, rfl, _⟩ := h
    rfl
  · obtain ⟨t, n, rfl, hk, rfl, rfl⟩ := h
    show BV _ _ [some t] _ _
    exact bv_one (sv_ret (ev_call c_p_is_whole (hr.mono (by decide)) (av_cons (ev_var 0 rfl) (av_cons ev_int (av_cons (ev_gI hA) av_nil))) ⟨t, n, 0, 9, rfl, hk, rfl, rfl⟩) ⟨rfl, Mle.refl _⟩)
theorem c_p_is_voice (F : Fun K "_is_voice" "_is_voice" s_p_is_voice f fd) (hm : mg "_is_voice" = some (.ref f)) (hA : ∃ t, mg "MOST_VOICES" = some (.int 4 t)) (c_p_is_whole : Cal P w K mg base 2 "is_whole" (spD K PrWhole)) : Cal P w K mg base 3 "_is_voice" (spD K PrVoiK) := by
  refine cal_of F sc_p_is_voice hm (fun _ _ _ _ _ _ us hl => match us, hl with | [_], _ => rfl) (fun ds M d M' h => ?_) fun cdv A outer s H E ds M d M' hr h => ?_
  · obtain ⟨t, n, rfl, _⟩ := h
    rfl
  · obtain ⟨t, n, rfl, hk, rfl, rfl⟩ := h
    show BV _ _ [some t] _ _
    exact bv_one (sv_ret (ev_call c_p_is_whole (hr.mono (by decide)) (av_cons (ev_var 0 rfl) (av_cons ev_int (av_cons (ev_op op_sub (ev_gI hA) ev_int rs_I0) av_nil))) ⟨t, n, 0, 3, rfl, hk, rfl, rfl⟩) ⟨rfl, Mle.refl _⟩)
theorem c_p_is_height (F : Fun K "_is_height" "_is_height" s_p_is_height f fd) (hm : mg "_is_height" = some (.ref f)) (hA : ∃ t, mg "MOST_HEIGHT" = some (.int 200 t)) (c_p_is_whole : Cal P w K mg base 2 "is_whole" (spD K PrWhole)) : Cal P w K mg base 3 "_is_height" (spD K PrHeiK) := by
  refine cal_of F sc_p_is_height hm (fun _ _ _ _ _ _ us hl => match us, hl with | [_], _ => rfl) (fun ds M d M' h => ?_) fun cdv A outer s H E ds M d M' hr h => ?_
  · obtain ⟨t, n, rfl, _⟩ := h
    rfl
  · obtain ⟨t, n, rfl, hk, rfl, rfl⟩ := h
    show BV _ _ [some t] _ _
    exact bv_one (sv_ret (ev_call c_p_is_whole (hr.mono (by decide)) (av_cons (ev_var 0 rfl) (av_cons (ev_un un_neg (ev_gI hA) ru_neg) (av_cons (ev_gI hA) av_nil))) ⟨t, n, -200, 200, rfl, hk, rfl, rfl⟩) ⟨rfl, Mle.refl _⟩)
def PrLessK (ds : List D) (M : Mem) (d : D) (M' : Mem) : Prop := ∃ b i j, ds = [.tup [dI 1000, dI 1], sq b [dI i, dI j]] ∧ d = dB (decide (1000 * j < i * 1)) ∧ M' = M
theorem c_p_is_less (F : Fun K "is_less" "is_less" s_p_is_less f fd) (hm : mg "is_less" = some (.ref f)) : Cal P w K mg base 1 "is_less" (spD K PrLessK) := by
  refine cal_of F sc_p_is_less hm (fun _ _ _ _ _ _ us hl => match us, hl with | [_, _], _ => rfl) (fun ds M d M' h => ?_) fun cdv A outer s H E ds M d M' hr h => ?_
  · obtain ⟨b, i, j, rfl, _⟩ := h
    rfl
  · obtain ⟨b, i, j, rfl, rfl, rfl⟩ := h
    show BV _ _ [some (.tup [dI 1000, dI 1]), some (sq b [dI i, dI j])] _ _
    exact bv_one (sv_ret (ev_cmpR op_lt (ev_op op_mul (ev_ixT (ev_var 0 rfl) ev_int rfl) (ev_ixQ (b' := b) (ds := [dI i, dI j]) (ev_var 1 rfl) ev_int rfl) (rs_I (cm_l (by decide) (by decide)))) (ev_op op_mul (ev_ixQ (b' := b) (ds := [dI i, dI j]) (ev_var 1 rfl) ev_int rfl) (ev_ixT (ev_var 0 rfl) ev_int rfl) (rs_I (cm_r (by decide) (by decide)))) rs_I0 (nomark _)) ⟨rfl, Mle.refl _⟩)
theorem c_p_is_times (F : Fun K "_is_times" "_is_times" s_p_is_times f fd) (hm : mg "_is_times" = some (.ref f)) (hA : ∃ t, mg "MOST_TIMES" = some (.int 1000 t)) (c_p_is_fraction : Cal P w K mg base 3 "is_fraction" (spD K PrFracK)) (c_p_is_less : Cal P w K mg base 1 "is_less" (spD K PrLessK)) : Cal P w K mg base 4 "_is_times" (spD K PrTimK) := by
  refine cal_of F sc_p_is_times hm (fun _ _ _ _ _ _ us hl => match us, hl with | [_], _ => rfl) (fun ds M d M' h => ?_) fun cdv A outer s H E ds M d M' hr h => ?_
  · obtain ⟨t, n, rfl, _⟩ := h
    rfl
  · obtain ⟨t, n, rfl, hk, rfl, rfl⟩ := h
    show BV _ _ [some t] _ _
    refine bv_one (sv_ret (ev_andB (p := fracD t) (q := decide (intD (partD t 0) ≥ 0) && !decide (1000 * intD (partD t 1) < intD (partD t 0) * 1)) (ev_call c_p_is_fraction (hr.mono (by decide)) (av_cons (ev_var 0 rfl) av_nil) ⟨t, n, rfl, hk, rfl, rfl⟩) (fun h => ?_)) ⟨rfl, Mle.refl _⟩)
    have h := (Bool.and_eq_true_iff.mp h).1
    obtain ⟨hp, hw⟩ := Bool.and_eq_true_iff.mp h
    obtain ⟨b, x, y, rfl, e0, e1⟩ := pair_sq hp
    rw [partsD_of] at hw
    have hx := num_int (List.all_eq_true.mp hw x (by simp))
    have hy := num_int (List.all_eq_true.mp hw y (by simp))
    rw [e0, e1]
    generalize intD x = i at hx ⊢
    generalize intD y = j at hy ⊢
    subst hx hy
    exact ev_andB (ev_cmpR op_ge (ev_ixQ (b' := b) (ds := [dI i, dI j]) (ev_var 0 rfl) ev_int rfl) ev_int rs_I0 (nomark _)) (fun _ => ev_one (b := true) (ev_notB (p := decide (1000 * j < i * 1)) (ev_call c_p_is_less (hr.mono (by decide)) (av_cons (ev_tup (av_cons (ev_gI hA) (av_cons ev_int av_nil))) (av_cons (ev_var 0 rfl) av_nil)) ⟨b, i, j, rfl, rfl, rfl⟩)))
theorem c_p_are_intervals (F : Fun K "_are_intervals" "_are_intervals" s_p_are_intervals f fd) (hm : mg "_are_intervals" = some (.ref f)) (T : Bt mg) (hA : ∃ t, mg "MOST_LISTED" = some (.int 12 t)) (c_p_is_row : Cal P w K mg base 1 "is_row" (spD K PrRow)) (c_p_is_tone : Cal P w K mg base 3 "is_tone" (spD K PrToneK)) : Cal P w K mg base 4 "_are_intervals" (spD K PrIvsK) := by
  refine cal_of F sc_p_are_intervals hm (fun _ _ _ _ _ _ us hl => match us, hl with | [_], _ => rfl) (fun ds M d M' h => ?_) fun cdv A outer s H E ds M d M' hr h => ?_
  · obtain ⟨t, n, rfl, _⟩ := h
    rfl
  · obtain ⟨t, n, rfl, hk, rfl, rfl⟩ := h
    show BV _ _ [some t, none] _ _
    refine bv_one (sv_ret (ev_andB (p := rowD t) (q := decide ((lenD t : Int) ≤ 12) && (partsD t).all toneD) (ev_call c_p_is_row (hr.mono (by decide)) (av_cons (ev_var 0 rfl) av_nil) ⟨t, n, rfl, hk, rfl, rfl⟩) (fun h => ?_)) ⟨rfl, Mle.refl _⟩)
    obtain ⟨b, ds, rfl, e⟩ := rowD_sq h
    obtain ⟨m, _, hl, hd⟩ := kD_sq0 hk
    unfold lenD
    rw [e]
    refine ev_andB (ev_cmpR op_le (ev_lenS2 T.len (ev_var 0 rfl)) (ev_gI hA) rs_I0 (nomark _)) (fun _ => ev_one (b := true) ?_)
    rw [← all_of]
    refine ev_to (ev_all (bs := ds.map toneD) rfl T.all (ev_to (ev_lcM (own := [("interval", 1)]) (g := gName 1) rfl sc_p_are_intervals.nd (iv_sq (ev_var 0 rfl)) (blkOk_by (N := ["thing", "interval"]) (sc := defScope s_p_are_intervals) (by decide +kernel)) (fun _ _ _ _ _ => (pg_name (i := 1) sc_p_are_intervals.nd rfl (.inl rfl))) (fun d => dB (toneD d)) (Nat.le_trans hl (by decide)) (fun i d h => ?_)) (by rw [List.map_map]; rfl))) rfl
    exact ⟨_, tgb_name, fun M2 s H C cl fp => ev_call c_p_is_tone (hr.mono (by decide)) (av_cons (ev_var 1 rfl) av_nil) ⟨d, m, rfl, hd d (List.mem_of_getElem? h), rfl, rfl⟩⟩
theorem c_p_are_numbers (F : Fun K "_are_numbers" "_are_numbers" s_p_are_numbers f fd) (hm : mg "_are_numbers" = some (.ref f)) (T : Bt mg) (hA : ∃ t, mg "MOST_LISTED" = some (.int 12 t)) (c_p_is_row : Cal P w K mg base 1 "is_row" (spD K PrRow)) (c_p_is_whole : Cal P w K mg base 2 "is_whole" (spD K PrWhole)) : Cal P w K mg base 4 "_are_numbers" (spD K PrNumsK) := by
  refine cal_of F sc_p_are_numbers hm (fun _ _ _ _ _ _ us hl => match us, hl with | [_], _ => rfl) (fun ds M d M' h => ?_) fun cdv A outer s H E ds M d M' hr h => ?_
  · obtain ⟨t, n, rfl, _⟩ := h
    rfl
  · obtain ⟨t, n, rfl, hk, rfl, rfl⟩ := h
    show BV _ _ [some t, none] _ _
    refine bv_one (sv_ret (ev_andB (p := rowD t) (q := decide ((lenD t : Int) ≤ 12) && (partsD t).all (wholeD 0 11)) (ev_call c_p_is_row (hr.mono (by decide)) (av_cons (ev_var 0 rfl) av_nil) ⟨t, n, rfl, hk, rfl, rfl⟩) (fun h => ?_)) ⟨rfl, Mle.refl _⟩)
    obtain ⟨b, ds, rfl, e⟩ := rowD_sq h
    obtain ⟨m, _, hl, hd⟩ := kD_sq0 hk
    unfold lenD
    rw [e]
    refine ev_andB (ev_cmpR op_le (ev_lenS2 T.len (ev_var 0 rfl)) (ev_gI hA) rs_I0 (nomark _)) (fun _ => ev_one (b := true) ?_)
    rw [← all_of]
    refine ev_to (ev_all (bs := ds.map (wholeD 0 11)) rfl T.all (ev_to (ev_lcM (own := [("number", 1)]) (g := gName 1) rfl sc_p_are_numbers.nd (iv_sq (ev_var 0 rfl)) (blkOk_by (N := ["thing", "number"]) (sc := defScope s_p_are_numbers) (by decide +kernel)) (fun _ _ _ _ _ => (pg_name (i := 1) sc_p_are_numbers.nd rfl (.inl rfl))) (fun d => dB (wholeD 0 11 d)) (Nat.le_trans hl (by decide)) (fun i d h => ?_)) (by rw [List.map_map]; rfl))) rfl
    exact ⟨_, tgb_name, fun M2 s H C cl fp => ev_call c_p_is_whole (hr.mono (by decide)) (av_cons (ev_var 1 rfl) (av_cons ev_int (av_cons ev_int av_nil))) ⟨d, m, 0, 11, rfl, hd d (List.mem_of_getElem? h), rfl, rfl⟩⟩
end
/-! ### is_test -/
def words : List Str := ["accent", "begins", "silent", "loose", "leap", "by", "apart", "class", "lasts", "along"]
def formW (z : Str) : Option (List Kd) :=
  if z = "accent" then some [.acc] else if z = "begins" then some [.voi] else if z = "silent" then some [.voi] else if z = "loose" then some [.voi]
  else if z = "leap" then some [.voi, .hei, .hei] else if z = "by" then some [.voi, .ivs] else if z = "apart" then some [.voi, .voi, .hei, .hei]
  else if z = "class" then some [.voi, .voi, .num] else if z = "lasts" then some [.tim, .tim] else if z = "along" then some [.voi, .voi] else none
def allK : List Kd → List D → Bool
  | [], [] => true
  | k :: ks, d :: ds => kdD k d && allK ks ds
  | _, _ => false
def twoV : List Kd → Bool
  | .voi :: .voi :: _ => true
  | _ => false
def isTestD (t : D) : Bool := match t with
  | .tup (.val (.str z) :: rest) => (match formW z with
    | some ks => decide (rest.length = ks.length) && (allK ks rest && (!twoV ks || !decide (intD (rest.getD 0 dN) = intD (rest.getD 1 dN))))
    | none => false)
  | _ => false
theorem kD_of_tup : ∀ {n : Nat} {d : D}, tupD n d → kD n d
  | 0, .val _, h => h
  | _ + 1, .val _, h => h
  | _ + 1, .tup _, h => ⟨h.1, fun d hd => kD_of_tup (h.2 d hd)⟩
  | 0, .tup _, h => h.elim
  | 0, .lst _, h => h.elim
  | _ + 1, .lst _, h => h.elim
  | 0, .dic, h => h.elim
  | _ + 1, .dic, h => h.elim
theorem allK_len : ∀ {ks : List Kd} {ds : List D}, allK ks ds = true → ds.length = ks.length
  | [], [], _ => rfl
  | _ :: ks, _ :: ds, h => congrArg (· + 1) (allK_len (Bool.and_eq_true_iff.mp h).2)
  | [], _ :: _, h => by cases h
  | _ :: _, [], h => by cases h
theorem allK_iff : ∀ {ks : List Kd} {ds : List D}, ds.length = ks.length → (allK ks ds = true ↔ ∀ p ∈ ks.zip ds, kdD p.1 p.2 = true)
  | [], [], _ => ⟨fun _ p h => by simp at h, fun _ => rfl⟩
  | k :: ks, d :: ds, e => by
    have ih := allK_iff (ks := ks) (ds := ds) (by simpa using e)
    show (kdD k d && allK ks ds) = true ↔ _
    rw [Bool.and_eq_true, ih, List.zip_cons_cons]
    simp
  | [], _ :: _, e => by cases e
  | _ :: _, [], e => by cases e
theorem zipK : ∀ (ks : List Kd) (ds : List D), zipD (ks.map fun k => dS (kdS k)) ds = (ks.zip ds).map fun p => .tup [dS (kdS p.1), p.2]
  | [], ds => by cases ds <;> rfl
  | _ :: _, [] => rfl
  | k :: ks, d :: ds => by
    show D.tup [dS (kdS k), d] :: zipD (ks.map fun k => dS (kdS k)) ds = _
    rw [zipK ks ds]
    rfl
theorem form_two {z : Str} {ks : List Kd} (h : formW z = some ks) (ht : twoV ks = true) : ∃ r, ks = .voi :: .voi :: r := by
  cases ks with
  | nil => cases ht
  | cons a r =>
    cases r with
    | nil => cases a <;> cases ht
    | cons b r => cases a <;> cases b <;> first | exact ⟨r, rfl⟩ | cases ht
theorem form_many {z : Str} {ks : List Kd} (h : formW z = some ks) : ks.length ≤ 4 ∧ ks ≠ [] ∧ (twoV ks = true ∨ (ks.take 2).map kdS ≠ ([("voice" : Str), "voice"] : List Str)) := by
  unfold formW at h
  split at h
  · cases h; exact ⟨by decide, by decide, .inr (by decide +kernel)⟩
  split at h
  · cases h; exact ⟨by decide, by decide, .inr (by decide +kernel)⟩
  split at h
  · cases h; exact ⟨by decide, by decide, .inr (by decide +kernel)⟩
  split at h
  · cases h; exact ⟨by decide, by decide, .inr (by decide +kernel)⟩
  split at h
  · cases h; exact ⟨by decide, by decide, .inr (by decide +kernel)⟩
  split at h
  · cases h; exact ⟨by decide, by decide, .inr (by decide +kernel)⟩
  split at h
  · cases h; exact ⟨by decide, by decide, .inl rfl⟩
  split at h
  · cases h; exact ⟨by decide, by decide, .inl rfl⟩
  split at h
  · cases h; exact ⟨by decide, by decide, .inr (by decide +kernel)⟩
  split at h
  · cases h; exact ⟨by decide, by decide, .inl rfl⟩
  · cases h
theorem shaped_two {z : Str} {ks : List Kd} (h : formW z = some ks) : SeqAt.shaped (D.py (.tup (((ks.take 2).map kdS).map dS))) = true := by
  unfold formW at h
  split at h
  · cases h; decide +kernel
  split at h
  · cases h; decide +kernel
  split at h
  · cases h; decide +kernel
  split at h
  · cases h; decide +kernel
  split at h
  · cases h; decide +kernel
  split at h
  · cases h; decide +kernel
  split at h
  · cases h; decide +kernel
  split at h
  · cases h; decide +kernel
  split at h
  · cases h; decide +kernel
  split at h
  · cases h; decide +kernel
  · cases h
theorem strs_eqv (xs ys : List Str) : PyData.eqv (D.py (.tup (xs.map dS))) (D.py (.tup (ys.map dS))) = decide (xs = ys) := by
  have h : ∀ xs ys : List Str, PyData.eqvAll (D.pyL (xs.map dS)) (D.pyL (ys.map dS)) = decide (xs = ys) := fun xs => by
    induction xs with
    | nil => intro ys; cases ys <;> simp [D.pyL, PyData.eqvAll]
    | cons x xs ih =>
      intro ys
      cases ys with
      | nil => simp [D.pyL, PyData.eqvAll]
      | cons y ys =>
        simp only [List.map_cons, D.pyL, PyData.eqvAll, D.py, PyData.eqv]
        rw [ih ys]
        by_cases e : x = y
        · subst e; simp
        · simp [e]
  simp only [D.py, PyData.eqv]
  exact h xs ys
theorem ev_neStrs {X : Cx} {ρ : Sl} {M M1 M2 : Mem} {a b : Expr} {pos : Pos} {xs ys : List Str} (hu : X.A.units + 64 < cLine) (hx : SeqAt.shaped (D.py (.tup (xs.map dS))) = true) (hy : SeqAt.shaped (D.py (.tup (ys.map dS))) = true) (ha : EV X a ρ M (.tup (xs.map dS)) M1) (hb : EV X b ρ M1 (.tup (ys.map dS)) M2) (hm : behindInMarks .NotEq b = false) : EV X (.Compare a [.NotEq] [b] pos) ρ M (dB (!decide (xs = ys))) M2 := by
  have pl : ∀ zs : List Str, D.plain (.tup (zs.map dS)) = true := fun zs => by
    show D.plainL (zs.map dS) = true
    induction zs with
    | nil => rfl
    | cons z zs ih =>
      show (D.plain (dS z) && D.plainL (zs.map dS)) = true
      rw [ih]
      rfl
  exact ev_to (ev_neD hu ha hb (pl xs) (pl ys) hx hy hm) (by rw [strs_eqv])
theorem cut_tail (x : D) (ds : List D) : cutD (x :: ds) (some 1) none = ds := by
  unfold cutD
  have e : HT.sIx (x :: ds).length 0 (some 1) = 1 := by
    rw [show HT.sIx (x :: ds).length 0 (some 1) = min 1 (x :: ds).length from HT.sIx_nat _ 0 1, List.length_cons]
    omega
  rw [e, HT.sIx_none]
  exact List.take_of_length_le (by simp)
theorem cut_two (ds : List D) : cutD ds none (some 2) = ds.take 2 := by
  unfold cutD
  rw [HT.sIx_none, List.drop_zero, Nat.sub_zero, show HT.sIx ds.length ds.length (some 2) = min 2 ds.length from HT.sIx_nat _ _ 2]
  exact (List.take_eq_take_min ..).symm
theorem tv_ninK {X : Cx} {ρ : Sl} {M M1 M2 : Mem} {a b : Expr} {pos : Pos} {p : Addr} {z : Str} {r : Option Value} {es : Array DictEntry} {n : Nat} (DD : KDict X.K X.w p es n) (ha : EV X a ρ M (dS z) M1) (hb : EV X b ρ M1 (dP p) M2) (e : PySem.W.nsIn X.K p z = some r) (hm : behindInMarks .NotIn b = false) : TV X (.Compare a [.NotIn] [b] pos) ρ M (!r.isSome) M2 :=
  (pt_cmpR (op_notIn_kd DD) ha hb hm).mono fun σ H Q ⟨G, sa, k⟩ => ⟨G, sa, fun v1 G1 H1 g1 sh1 r1 => ⟨G1, ⟨sh1, sa.sl.up g1⟩, fun v2 G2 H2 g2 sh2 r2 => by
    rw [r1.of_val, r2.of_val]
    exact ⟨z, r, rfl, rfl, e, _, rfl, k G2 H2 (g1.trans g2) sh2⟩⟩⟩
section
variable {P : Program} {w : World} {K : PySem.W.Frag} {mg : Str → Option Value} {base : Heap} {f : Addr} {fd : FuncData}
structure FormT (K : PySem.W.Frag) (w : World) (mg : Str → Option Value) (pF : Addr) : Prop where
  mgF : mg "FORMS" = some (.ref pF)
  dict : ∃ es n, KDict K w pF es n
  has : ∀ z ks, formW z = some ks → ∃ u, PySem.W.nsIn K pF z = some (some u) ∧ ∃ v, L2.RelV v u ∧ ∀ G, Rep K G v (.tup (ks.map fun k => dS (kdS k)))
  miss : PySem.W.nsIn K pF "Begins" = some none
def PartK (P : Program) (w : World) (K : PySem.W.Frag) (mg : Str → Option Value) (base : Heap) : Prop := ∃ pC, mg "PARTS" = some (.ref pC) ∧ ∀ q : Kd, ∃ fa, KDct K w pC (kdS q) (.ref fa) ∧ CalF P w K mg base 4 fa (spD K (PrPart q))
def PrTest (ds : List D) (M : Mem) (d : D) (M' : Mem) : Prop := ∃ t, ds = [t] ∧ tupD 5 t ∧ (∀ z rest, t = .tup (dS z :: rest) → z ∈ words ∨ z = "Begins") ∧ d = dB (isTestD t) ∧ M' = M
theorem c_p_is_test {pF : Addr} (F : Fun K "is_test" "is_test" s_p_is_test f fd) (hm : mg "is_test" = some (.ref f)) (T : Bt mg) (hz : mg "zip" = none) (KF : FormT K w mg pF) (KC : PartK P w K mg base) (c_p_is_row : Cal P w K mg base 1 "is_row" (spD K PrRow)) : Cal P w K mg base 5 "is_test" (spD K PrTest) := by
  refine cal_of F sc_p_is_test hm (fun _ _ _ _ _ _ us hl => match us, hl with | [_], _ => rfl) (fun ds M d M' h => ?_) fun cdv A outer s H E ds M d M' hr h => ?_
  · obtain ⟨t, rfl, _⟩ := h
    rfl
  · obtain ⟨t, rfl, ht, hw, rfl, rfl⟩ := h
    show BV _ _ [some t, none, none, none, none] _ _
    have hk := kD_of_tup ht
    cases t with
    | lst ds => exact ht.elim
    | dic => exact ht.elim
    | val v => exact bv_cons (sv_if (PW.pt (wv_or (q := false) (tv_not (b := false) (tv_val (ev_call c_p_is_row (hr.mono (by decide)) (av_cons (ev_var 0 rfl) av_nil) ⟨_, 5, rfl, hk, rfl, rfl⟩))) (fun h => nomatch h))) (fun _ => bv_one (sv_ret ev_bl ⟨rfl, Mle.refl _⟩)) (fun h => nomatch h))
    | tup ds =>
      cases ds with
      | nil => exact bv_cons (sv_if (PW.pt (wv_or (tv_not (b := true) (tv_val (ev_call c_p_is_row (hr.mono (by decide)) (av_cons (ev_var 0 rfl) av_nil) ⟨_, 5, rfl, hk, rfl, rfl⟩))) (fun _ => wv_or (q := false) (tv_not (b := false) (tv_sqT (b := false) (ds := []) (ev_var 0 rfl))) (fun h => nomatch h)))) (fun _ => bv_one (sv_ret ev_bl ⟨rfl, Mle.refl _⟩)) (fun h => nomatch h))
      | cons d0 rest =>
        have a0 : atI (d0 :: rest) 0 = some d0 := atI_nat (k := 0) rfl rfl
        have h0 := ht.2 d0 (List.mem_cons_self ..)
        obtain ⟨pC, hC, kC⟩ := KC
        by_cases hs : ∃ z, d0 = dS z
        · obtain ⟨z, rfl⟩ := hs
          obtain ⟨es, nn, DD⟩ := KF.dict
          cases ef : formW z with
          | none =>
            have zb : z = "Begins" := by
              rcases hw z rest rfl with h | h
              · exfalso
                simp only [words, List.mem_cons, List.not_mem_nil, or_false] at h
                rcases h with rfl | rfl | rfl | rfl | rfl | rfl | rfl | rfl | rfl | rfl <;> (revert ef; decide +kernel)
              · exact h
            have e0 : isTestD (.tup (dS z :: rest)) = false := by
              simp only [isTestD]
              rw [ef]
            rw [e0]
            have ms := KF.miss
            rw [← zb] at ms
            exact bv_cons (sv_if (PW.pt (wv_or (tv_not (b := true) (tv_val (ev_call c_p_is_row (hr.mono (by decide)) (av_cons (ev_var 0 rfl) av_nil) ⟨_, 5, rfl, hk, rfl, rfl⟩))) (fun _ => wv_or (tv_not (b := true) (tv_sqT (b := false) (ds := dS z :: rest) (ev_var 0 rfl))) (fun _ => wv_or (tv_not (b := true) (tv_val (ev_isi T.isinstance T.str boot_str (ev_ixT (ev_var 0 rfl) ev_int a0) rfl (by decide +kernel)))) (fun _ => wv_one_or (tv_ninK DD (ev_ixT (ev_var 0 rfl) ev_int a0) (ev_def KF.mgF) ms rfl)))))) (fun _ => bv_one (sv_ret ev_bl ⟨rfl, Mle.refl _⟩)) (fun h => nomatch h))
          | some ks =>
            obtain ⟨u, hu, v, rv, rp⟩ := KF.has z ks ef
            obtain ⟨k4, kne, two⟩ := form_many ef
            refine bv_cons (sv_if (PW.pt (wv_or (tv_not (b := true) (tv_val (ev_call c_p_is_row (hr.mono (by decide)) (av_cons (ev_var 0 rfl) av_nil) ⟨_, 5, rfl, hk, rfl, rfl⟩))) (fun _ => wv_or (tv_not (b := true) (tv_sqT (b := false) (ds := dS z :: rest) (ev_var 0 rfl))) (fun _ => wv_or (tv_not (b := true) (tv_val (ev_isi T.isinstance T.str boot_str (ev_ixT (ev_var 0 rfl) ev_int a0) rfl (by decide +kernel)))) (fun _ => wv_one_or (tv_ninK DD (ev_ixT (ev_var 0 rfl) ev_int a0) (ev_def KF.mgF) hu rfl)))))) (fun h => nomatch h) (fun _ => bv_nil ?_))
            refine bv_cons (sv_set 1 sc_p_is_test.nd (ev_ixK (ev_def KF.mgF) (ev_ixT (ev_var 0 rfl) ev_int a0) (KDict.ct DD hu rv) rp (by intro _ _; trivial)) ?_)
            show BV _ _ [some (.tup (dS z :: rest)), some (.tup (ks.map fun k => dS (kdS k))), none, none, none] _ _
            have spec : isTestD (.tup (dS z :: rest)) = (decide (rest.length = ks.length) && (allK ks rest && (!twoV ks || !decide (intD (rest.getD 0 dN) = intD (rest.getD 1 dN))))) := by
              simp only [isTestD]
              rw [ef]
            rw [spec]
            refine bv_cons (sv_if (p := !decide (rest.length = ks.length)) (tv_to (tv_cmpR op_ne (ev_lenT T.len (ev_var 0 rfl)) (ev_op op_add ev_int (ev_lenT T.len (ev_var 1 rfl)) rs_I0) rs_neI (nomark _)) ?_) (fun h => ?_) (fun h => bv_nil ?_))
            · rw [List.length_cons, List.length_map]
              congr 1
              exact decide_eq_decide.mpr ⟨fun h => by omega, fun h => by omega⟩
            · refine bv_one (sv_ret ev_bl ⟨?_, Mle.refl _⟩)
              rw [nt_ h]
              rfl
            have hlen : rest.length = ks.length := of_decide_eq_true (nf_ h)
            rw [decide_eq_true hlen, Bool.true_and]
            refine bv_cons (sw_for rfl (pg_tup rfl (pgs_cons (pg_name (i := 2) sc_p_is_test.nd rfl (.inl rfl)) (pgs_cons (pg_name (i := 3) sc_p_is_test.nd rfl (.inl rfl)) pgs_nil))) ?_)
            have cut : cutD (dS z :: rest) (some 1) none = rest := cut_tail _ _
            refine iw_zipT hz (av_cons (ev_var 1 rfl) (av_cons (ev_to (ev_sliceQ (b' := false) (ds := dS z :: rest) (ev_var 0 rfl) (ov_some ev_int) ov_none) (by rw [cut]; rfl)) av_nil)) ?_
            rw [zipK]
            refine ⟨fun i ρ M => ∃ x2 x3 x4, M = M' ∧ ρ = [some (.tup (dS z :: rest)), some (.tup (ks.map fun k => dS (kdS k))), x2, x3, x4] ∧ ∀ p ∈ (ks.zip rest).take i, kdD p.1 p.2 = true, ⟨none, none, none, rfl, rfl, fun p hp => by simp at hp⟩, fun i d ρ' M1 hd iv => ?_, fun ρ' M1 iv => ?_⟩
            · obtain ⟨x2, x3, x4, rfl, rfl, iv⟩ := iv
              rw [List.getElem?_map, Option.map_eq_some_iff] at hd
              obtain ⟨⟨q, x⟩, hq, rfl⟩ := hd
              have hx : kD 4 x := kD_of_tup (ht.2 x (List.mem_cons_of_mem _ (List.of_mem_zip (List.mem_of_getElem? hq)).2))
              obtain ⟨fa, kf, cf⟩ := kC q
              refine ⟨_, tg_tup (tg_cons tg_name (tg_cons tg_name tg_nil)), ?_⟩
              refine bv_cons (sv_set 4 sc_p_is_test.nd (ev_ixK (ev_def hC) (ev_var 2 rfl) kf (fun G => .val _) (by intro _ _; trivial)) ?_)
              refine bv_one (sv_if (tv_not (b := kdD q x) (tv_val (ev_callL 4 cf (hr.mono (by decide)) rfl (av_cons (ev_var 3 rfl) av_nil) ⟨x, 4, rfl, hx, rfl, rfl⟩))) (fun h => ?_) (fun h => ?_))
              · refine bv_one (sv_ret ev_bl ⟨?_, Mle.refl _⟩)
                have e : allK ks rest = false := by
                  rw [Bool.eq_false_iff]
                  intro z
                  have := (allK_iff hlen).mp z (q, x) (List.mem_of_getElem? hq)
                  rw [this] at h
                  cases h
                rw [e]
                rfl
              · refine bv_nil ⟨_, _, _, rfl, rfl, fun p hp => ?_⟩
                rw [List.take_succ, hq, Option.toList_some, List.mem_append] at hp
                rcases hp with hp | hp
                · exact iv p hp
                · obtain rfl := List.mem_singleton.mp hp
                  exact nf_ h
            · obtain ⟨x2, x3, x4, rfl, rfl, iv⟩ := iv
              rw [List.length_map, List.take_length] at iv
              have hall : allK ks rest = true := (allK_iff hlen).mpr iv
              rw [hall, Bool.true_and]
              have cut2 : cutD (ks.map fun k => dS (kdS k)) none (some 2) = ((ks.take 2).map kdS).map dS := by
                rw [cut_two, List.map_map, List.map_take]
                rfl
              have sh2 : SeqAt.shaped (D.py (.tup (((ks.take 2).map kdS).map dS))) = true := shaped_two ef
              rcases two with ht2 | hn2
              · obtain ⟨r, rfl⟩ := form_two ef ht2
                obtain ⟨x1, x2', rest', rfl⟩ : ∃ x1 x2' rest', rest = x1 :: x2' :: rest' := by
                  match rest, hlen with
                  | x1 :: x2 :: rest', _ => exact ⟨_, _, _, rfl⟩
                have w1 := whole_int (iv (.voi, x1) (by simp))
                have w2 := whole_int (iv (.voi, x2') (by simp))
                obtain ⟨i1, rfl, _⟩ := w1
                obtain ⟨i2, rfl, _⟩ := w2
                refine bv_one (sv_ret (ev_orB (ev_neStrs (xs := [kdS .voi, kdS .voi]) (ys := ["voice", "voice"]) (hu64 hr) (by decide +kernel) (by decide +kernel) (ev_to (ev_sliceQ (b' := false) (ds := Kd.voi :: Kd.voi :: r |>.map fun k => dS (kdS k)) (ev_var 1 rfl) ov_none (ov_some ev_int)) (by rw [cut2]; rfl)) (ev_tup (av_cons ev_str (av_cons ev_str av_nil))) rfl) (fun _ => ev_one (b := true) (ev_cmpR op_ne (ev_ixT (ds := dS z :: dI i1 :: dI i2 :: rest') (ev_var 0 rfl) ev_int (atI_nat (k := 1) rfl rfl)) (ev_ixT (ds := dS z :: dI i1 :: dI i2 :: rest') (ev_var 0 rfl) ev_int (atI_nat (k := 2) rfl rfl)) rs_neI (nomark _)))) ⟨?_, Mle.refl _⟩)
                rfl
              · have e2 : twoV ks = false ∨ twoV ks = true := by cases twoV ks <;> simp
                rcases e2 with e2 | e2
                · rw [e2]
                  refine bv_one (sv_ret (ev_to (ev_orB (q := false) (ev_neStrs (xs := (ks.take 2).map kdS) (ys := ["voice", "voice"]) (hu64 hr) sh2 (by decide +kernel) (ev_to (ev_sliceQ (b' := false) (ds := ks.map fun k => dS (kdS k)) (ev_var 1 rfl) ov_none (ov_some ev_int)) (by rw [cut2]; rfl)) (ev_tup (av_cons ev_str (av_cons ev_str av_nil))) rfl) (fun h => absurd (of_decide_eq_true (nf_ h)) hn2)) ?_) ⟨rfl, Mle.refl _⟩)
                  rw [decide_eq_false hn2]
                  rfl
                · obtain ⟨r, rfl⟩ := form_two ef e2
                  exact absurd rfl hn2
        · have e0 : isTestD (.tup (d0 :: rest)) = false := by
            cases d0 with
            | val v =>
              cases v with
              | str z => exact absurd ⟨z, rfl⟩ hs
              | _ => rfl
            | _ => rfl
          rw [e0]
          have k0 := kD_of_tup h0
          obtain ⟨ty, hty, _⟩ := kD_ty k0
          have hns : kitB ty "str" = some false := by
            cases d0 with
            | val v =>
              rcases kD_val k0 with rfl | ⟨b, rfl⟩ | ⟨i, rfl⟩ | ⟨z, rfl⟩
              · cases hty; decide +kernel
              · cases hty; decide +kernel
              · cases hty; decide +kernel
              · exact absurd ⟨z, rfl⟩ hs
            | tup _ => cases hty; decide +kernel
            | lst _ => cases hty; decide +kernel
            | dic => cases hty; decide +kernel
          exact bv_cons (sv_if (PW.pt (wv_or (tv_not (b := true) (tv_val (ev_call c_p_is_row (hr.mono (by decide)) (av_cons (ev_var 0 rfl) av_nil) ⟨_, 5, rfl, hk, rfl, rfl⟩))) (fun _ => wv_or (tv_not (b := true) (tv_sqT (b := false) (ds := d0 :: rest) (ev_var 0 rfl))) (fun _ => wv_or (q := false) (tv_not (b := false) (tv_val (ev_isi T.isinstance T.str boot_str (ev_ixT (ev_var 0 rfl) ev_int a0) hty hns))) (fun h => nomatch h))))) (fun _ => bv_one (sv_ret ev_bl ⟨rfl, Mle.refl _⟩)) (fun h => nomatch h))
end
/-! ### states -/
def areD (m : Int) (d : D) : Bool := rowD d && (!decide ((lenD d : Int) > 16) && (partsD d).all (wholeD 0 (m - 1)))
def choiceD (m s : Int) (d : D) : Bool := (rowD d && decide (lenD d = 4)) && ((areD m (partD d 0) && areD m (partD d 1)) && (wholeD 0 (s - 1) (partD d 2) && boolD (partD d 3)))
def stateD (m s : Int) (d : D) : Bool := rowD d && (!decide ((lenD d : Int) > 16) && (partsD d).all (choiceD m s))
theorem row4_sq {t : D} (h : (rowD t && decide (lenD t = 4)) = true) : ∃ b x y z u, t = sq b [x, y, z, u] ∧ partD t 0 = x ∧ partD t 1 = y ∧ partD t 2 = z ∧ partD t 3 = u := by
  obtain ⟨h1, h2⟩ := Bool.and_eq_true_iff.mp h
  obtain ⟨b, ds, rfl, e⟩ := rowD_sq h1
  have h2 := of_decide_eq_true h2
  unfold lenD at h2
  rw [e] at h2
  match ds, h2 with
  | [x, y, z, u], _ => exact ⟨b, x, y, z, u, rfl, by cases b <;> rfl, by cases b <;> rfl, by cases b <;> rfl, by cases b <;> rfl⟩
section
variable {P : Program} {w : World} {K : PySem.W.Frag} {mg : Str → Option Value} {base : Heap} {f : Addr} {fd : FuncData}
def PrAreT (ds : List D) (M : Mem) (d : D) (M' : Mem) : Prop := ∃ t n m, ds = [t, dI m] ∧ kD n t ∧ d = dB (areD m t) ∧ M' = M
theorem c_p_are_tests (F : Fun K "_are_tests" "_are_tests" s_p_are_tests f fd) (hm : mg "_are_tests" = some (.ref f)) (T : Bt mg) (hW : ∃ t, mg "MOST_WANTED" = some (.int 16 t)) (c_p_is_row : Cal P w K mg base 1 "is_row" (spD K PrRow)) (c_p_is_whole : Cal P w K mg base 2 "is_whole" (spD K PrWhole)) : Cal P w K mg base 3 "_are_tests" (spD K PrAreT) := by
  refine cal_of F sc_p_are_tests hm (fun _ _ _ _ _ _ us hl => match us, hl with | [_, _], _ => rfl) (fun ds M d M' h => ?_) fun cdv A outer s H E ds M d M' hr h => ?_
  · obtain ⟨t, n, m, rfl, _⟩ := h
    rfl
  · obtain ⟨t, n, m, rfl, hk, rfl, rfl⟩ := h
    show BV _ _ [some t, some (dI m), none] _ _
    refine bv_cons (sv_if (p := !rowD t || decide ((lenD t : Int) > 16)) (M1 := M') (PW.pt (wv_or (tv_not (tv_val (ev_call c_p_is_row (hr.mono (by decide)) (av_cons (ev_var 0 rfl) av_nil) ⟨t, n, rfl, hk, rfl, rfl⟩))) (fun h => wv_one_or ?_))) (fun h => ?_) (fun h => bv_nil ?_))
    · obtain ⟨b, ds, rfl, e⟩ := rowD_sq (nf_ h)
      unfold lenD
      rw [e]
      exact tv_cmpR op_gt (ev_lenS2 T.len (ev_var 0 rfl)) (ev_gI hW) rs_I0 (nomark _)
    · refine bv_one (sv_ret ev_bl ⟨?_, Mle.refl _⟩)
      unfold areD
      cases h1 : rowD t with
      | false => rfl
      | true =>
        rw [h1] at h
        rw [show decide ((lenD t : Int) > 16) = true from h]
        rfl
    · have h1 : rowD t = true := by
        cases h1 : rowD t with
        | true => rfl
        | false => rw [h1] at h; cases h
      rw [h1] at h
      have h2 : decide ((lenD t : Int) > 16) = false := h
      obtain ⟨b, ds, rfl, e⟩ := rowD_sq h1
      obtain ⟨k, _, hl, hd⟩ := kD_sq0 hk
      unfold areD
      rw [h1, h2, Bool.true_and, Bool.not_false, Bool.true_and, e, ← all_of]
      refine bv_one (sv_ret (ev_all (bs := ds.map (wholeD 0 (m - 1))) rfl T.all (ev_to (ev_lcM (own := [("number", 2)]) (g := gName 2) rfl sc_p_are_tests.nd (iv_sq (ev_var 0 rfl)) (blkOk_by (N := ["thing", "tests", "number"]) (sc := defScope s_p_are_tests) (by decide +kernel)) (fun _ _ _ _ _ => (pg_name (i := 2) sc_p_are_tests.nd rfl (.inl rfl))) (fun d => dB (wholeD 0 (m - 1) d)) (Nat.le_trans hl (by decide)) (fun i d h => ?_)) (by rw [List.map_map]; rfl))) ⟨rfl, Mle.refl _⟩)
      exact ⟨_, tgb_name, fun M2 s H C cl fp => ev_call c_p_is_whole (hr.mono (by decide)) (av_cons (ev_var 2 rfl) (av_cons ev_int (av_cons (ev_op op_sub (ev_var 1 rfl) ev_int rs_I0) av_nil))) ⟨d, k, 0, m - 1, rfl, hd d (List.mem_of_getElem? h), rfl, rfl⟩⟩
def PrChoice (ds : List D) (M : Mem) (d : D) (M' : Mem) : Prop := ∃ t n m s, ds = [t, dI m, dI s] ∧ kD n t ∧ d = dB (choiceD m s t) ∧ M' = M
theorem c_p_is_choice (F : Fun K "_is_choice" "_is_choice" s_p_is_choice f fd) (hm : mg "_is_choice" = some (.ref f)) (T : Bt mg) (c_p_is_row : Cal P w K mg base 1 "is_row" (spD K PrRow)) (c_p_are_tests : Cal P w K mg base 3 "_are_tests" (spD K PrAreT)) (c_p_is_whole : Cal P w K mg base 2 "is_whole" (spD K PrWhole)) : Cal P w K mg base 4 "_is_choice" (spD K PrChoice) := by
  refine cal_of F sc_p_is_choice hm (fun _ _ _ _ _ _ us hl => match us, hl with | [_, _, _], _ => rfl) (fun ds M d M' h => ?_) fun cdv A outer s H E ds M d M' hr h => ?_
  · obtain ⟨t, n, m, q, rfl, _⟩ := h
    rfl
  · obtain ⟨t, n, m, q, rfl, hk, rfl, rfl⟩ := h
    show BV _ _ [some t, some (dI m), some (dI q), none, none, none, none] _ _
    refine bv_cons (sv_if (p := !rowD t || !decide (lenD t = 4)) (M1 := M') (PW.pt (wv_or (tv_not (tv_val (ev_call c_p_is_row (hr.mono (by decide)) (av_cons (ev_var 0 rfl) av_nil) ⟨t, n, rfl, hk, rfl, rfl⟩))) (fun h => wv_one_or ?_))) (fun h => ?_) (fun h => bv_nil ?_))
    · obtain ⟨b, ds, rfl, e⟩ := rowD_sq (nf_ h)
      unfold lenD
      rw [e]
      refine tv_to (tv_cmpR op_ne (ev_lenS2 T.len (ev_var 0 rfl)) ev_int rs_neI (nomark _)) ?_
      congr 1
      exact decide_eq_decide.mpr ⟨fun h => by omega, fun h => by omega⟩
    · refine bv_one (sv_ret ev_bl ⟨?_, Mle.refl _⟩)
      unfold choiceD
      cases h1 : rowD t with
      | false => rfl
      | true =>
        rw [h1] at h
        rw [nt_ (show (!decide (lenD t = 4)) = true from h)]
        rfl
    · have h4 : (rowD t && decide (lenD t = 4)) = true := by
        cases h1 : rowD t with
        | true => rw [h1] at h; exact nf_ h
        | false => rw [h1] at h; cases h
      obtain ⟨b, x, y, z, u, rfl, e0, e1, e2, e3⟩ := row4_sq h4
      obtain ⟨k, _, hl, hd⟩ := kD_sq0 hk
      have kx := hd x (by simp)
      have ky := hd y (by simp)
      have kz := hd z (by simp)
      have ku := hd u (by simp)
      unfold choiceD
      rw [h4, e0, e1, e2, e3, Bool.true_and]
      refine bv_cons (sw_asg (pg_sq b rfl (pgs_cons (pg_name (i := 3) sc_p_is_choice.nd rfl (.inl rfl)) (pgs_cons (pg_name (i := 4) sc_p_is_choice.nd rfl (.inl rfl)) (pgs_cons (pg_name (i := 5) sc_p_is_choice.nd rfl (.inl rfl)) (pgs_cons (pg_name (i := 6) sc_p_is_choice.nd rfl (.inl rfl)) pgs_nil))))) ?_)
      refine ew_ev (ev_var 0 rfl) ⟨_, tg_sq (tg_cons tg_name (tg_cons tg_name (tg_cons tg_name (tg_cons tg_name (tg_nil))))), ?_⟩
      show BV _ _ [some (sq b [x, y, z, u]), some (dI m), some (dI q), some x, some y, some z, some u] _ _
      refine bv_cons (sv_if (p := !areD m x || !areD m y) (PW.pt (wv_or (tv_not (tv_val (ev_call c_p_are_tests (hr.mono (by decide)) (av_cons (ev_var 3 rfl) (av_cons (ev_var 1 rfl) av_nil)) ⟨x, k, m, rfl, kx, rfl, rfl⟩))) (fun h => wv_one_or (tv_not (tv_val (ev_call c_p_are_tests (hr.mono (by decide)) (av_cons (ev_var 4 rfl) (av_cons (ev_var 1 rfl) av_nil)) ⟨y, k, m, rfl, ky, rfl, rfl⟩)))))) (fun h => ?_) (fun h => bv_nil ?_))
      · refine bv_one (sv_ret ev_bl ⟨?_, Mle.refl _⟩)
        have e : (areD m x && areD m y) = false := by
          rw [← Bool.not_and] at h
          exact nt_ h
        rw [e]
        rfl
      · have e : (areD m x && areD m y) = true := by
          rw [← Bool.not_and] at h
          exact nf_ h
        rw [e, Bool.true_and]
        refine bv_one (sv_ret (ev_andB (p := wholeD 0 (q - 1) z) (q := boolD u) (ev_call c_p_is_whole (hr.mono (by decide)) (av_cons (ev_var 5 rfl) (av_cons ev_int (av_cons (ev_op op_sub (ev_var 2 rfl) ev_int rs_I0) av_nil))) ⟨z, k, 0, q - 1, rfl, kz, rfl, rfl⟩) (fun _ => ev_one (b := true) ?_)) ⟨rfl, Mle.refl _⟩)
        cases u with
        | val v =>
          rcases kD_val ku with rfl | ⟨g, rfl⟩ | ⟨i, rfl⟩ | ⟨w', rfl⟩
          · exact ev_isi (r := false) T.isinstance T.bool boot_bool (ev_var 6 rfl) rfl (by decide +kernel)
          · exact ev_isi (r := true) T.isinstance T.bool boot_bool (ev_var 6 rfl) rfl (by decide +kernel)
          · exact ev_isi (r := false) T.isinstance T.bool boot_bool (ev_var 6 rfl) rfl (by decide +kernel)
          · exact ev_isi (r := false) T.isinstance T.bool boot_bool (ev_var 6 rfl) rfl (by decide +kernel)
        | tup _ => exact ev_isi (r := false) T.isinstance T.bool boot_bool (ev_var 6 rfl) rfl (by decide +kernel)
        | lst _ => exact ev_isi (r := false) T.isinstance T.bool boot_bool (ev_var 6 rfl) rfl (by decide +kernel)
        | dic => exact ev_isi (r := false) T.isinstance T.bool boot_bool (ev_var 6 rfl) rfl (by decide +kernel)
def PrState (ds : List D) (M : Mem) (d : D) (M' : Mem) : Prop := ∃ t n m s, ds = [t, dI m, dI s] ∧ kD n t ∧ d = dB (stateD m s t) ∧ M' = M
theorem c_p_is_state (F : Fun K "_is_state" "_is_state" s_p_is_state f fd) (hm : mg "_is_state" = some (.ref f)) (T : Bt mg) (hW : ∃ t, mg "MOST_TUPLES" = some (.int 16 t)) (c_p_is_row : Cal P w K mg base 1 "is_row" (spD K PrRow)) (c_p_is_choice : Cal P w K mg base 4 "_is_choice" (spD K PrChoice)) : Cal P w K mg base 5 "_is_state" (spD K PrState) := by
  refine cal_of F sc_p_is_state hm (fun _ _ _ _ _ _ us hl => match us, hl with | [_, _, _], _ => rfl) (fun ds M d M' h => ?_) fun cdv A outer s H E ds M d M' hr h => ?_
  · obtain ⟨t, n, m, q, rfl, _⟩ := h
    rfl
  · obtain ⟨t, n, m, q, rfl, hk, rfl, rfl⟩ := h
    show BV _ _ [some t, some (dI m), some (dI q), none] _ _
    refine bv_cons (sv_if (p := !rowD t || decide ((lenD t : Int) > 16)) (M1 := M') (PW.pt (wv_or (tv_not (tv_val (ev_call c_p_is_row (hr.mono (by decide)) (av_cons (ev_var 0 rfl) av_nil) ⟨t, n, rfl, hk, rfl, rfl⟩))) (fun h => wv_one_or ?_))) (fun h => ?_) (fun h => bv_nil ?_))
    · obtain ⟨b, ds, rfl, e⟩ := rowD_sq (nf_ h)
      unfold lenD
      rw [e]
      exact tv_cmpR op_gt (ev_lenS2 T.len (ev_var 0 rfl)) (ev_gI hW) rs_I0 (nomark _)
    · refine bv_one (sv_ret ev_bl ⟨?_, Mle.refl _⟩)
      unfold stateD
      cases h1 : rowD t with
      | false => rfl
      | true =>
        rw [h1] at h
        rw [show decide ((lenD t : Int) > 16) = true from h]
        rfl
    · have h1 : rowD t = true := by
        cases h1 : rowD t with
        | true => rfl
        | false => rw [h1] at h; cases h
      rw [h1] at h
      have h2 : decide ((lenD t : Int) > 16) = false := h
      obtain ⟨b, ds, rfl, e⟩ := rowD_sq h1
      obtain ⟨k, _, hl, hd⟩ := kD_sq0 hk
      unfold stateD
      rw [h1, h2, Bool.true_and, Bool.not_false, Bool.true_and, e, ← all_of]
      refine bv_one (sv_ret (ev_all (bs := ds.map (choiceD m q)) rfl T.all (ev_to (ev_lcM (own := [("choice", 3)]) (g := gName 3) rfl sc_p_is_state.nd (iv_sq (ev_var 0 rfl)) (blkOk_by (N := ["thing", "tests", "states", "choice"]) (sc := defScope s_p_is_state) (by decide +kernel)) (fun _ _ _ _ _ => (pg_name (i := 3) sc_p_is_state.nd rfl (.inl rfl))) (fun d => dB (choiceD m q d)) (Nat.le_trans hl (by decide)) (fun i d h => ?_)) (by rw [List.map_map]; rfl))) ⟨rfl, Mle.refl _⟩)
      exact ⟨_, tgb_name, fun M2 s H C cl fp => ev_call c_p_is_choice (hr.mono (by decide)) (av_cons (ev_var 3 rfl) (av_cons (ev_var 1 rfl) (av_cons (ev_var 2 rfl) av_nil))) ⟨d, k, m, q, rfl, hd d (List.mem_of_getElem? h), rfl, rfl⟩⟩
/-- a choice as tuples -/
def choT (d : D) : D := .tup [.tup (partsD (partD d 0)), .tup (partsD (partD d 1)), partD d 2, partD d 3]
def PrChoT (ds : List D) (M : Mem) (d : D) (M' : Mem) : Prop := ∃ t m s, ds = [t] ∧ choiceD m s t = true ∧ d = choT t ∧ M' = M
theorem c_p_choice_as_tuples (F : Fun K "_choice_as_tuples" "_choice_as_tuples" s_p_choice_as_tuples f fd) (hm : mg "_choice_as_tuples" = some (.ref f)) (T : Bt mg) : Cal P w K mg base 1 "_choice_as_tuples" (spD K PrChoT) := by
  refine cal_of F sc_p_choice_as_tuples hm (fun _ _ _ _ _ _ us hl => match us, hl with | [_], _ => rfl) (fun ds M d M' h => ?_) fun cdv A outer s H E ds M d M' hr h => ?_
  · obtain ⟨t, m, q, rfl, _⟩ := h
    rfl
  · obtain ⟨t, m, q, rfl, hc, rfl, rfl⟩ := h
    obtain ⟨h4, hr2⟩ := Bool.and_eq_true_iff.mp hc
    obtain ⟨b, x, y, z, u, rfl, e0, e1, e2, e3⟩ := row4_sq h4
    rw [e0, e1] at hr2
    obtain ⟨ha, _⟩ := Bool.and_eq_true_iff.mp hr2
    obtain ⟨hx, hy⟩ := Bool.and_eq_true_iff.mp ha
    obtain ⟨b1, xs, rfl, ex⟩ := rowD_sq (Bool.and_eq_true_iff.mp hx).1
    obtain ⟨b2, ys, rfl, ey⟩ := rowD_sq (Bool.and_eq_true_iff.mp hy).1
    show BV _ _ [some (sq b [sq b1 xs, sq b2 ys, z, u]), none, none, none, none] _ _
    refine bv_cons (sw_asg (pg_sq b rfl (pgs_cons (pg_name (i := 1) sc_p_choice_as_tuples.nd rfl (.inl rfl)) (pgs_cons (pg_name (i := 2) sc_p_choice_as_tuples.nd rfl (.inl rfl)) (pgs_cons (pg_name (i := 3) sc_p_choice_as_tuples.nd rfl (.inl rfl)) (pgs_cons (pg_name (i := 4) sc_p_choice_as_tuples.nd rfl (.inl rfl)) pgs_nil))))) ?_)
    refine ew_ev (ev_var 0 rfl) ⟨_, tg_sq (tg_cons tg_name (tg_cons tg_name (tg_cons tg_name (tg_cons tg_name (tg_nil))))), ?_⟩
    refine bv_one (sv_ret (ev_tup (av_cons (ev_tupOf (b := b1) T.tuple (ev_var 1 rfl)) (av_cons (ev_tupOf (b := b2) T.tuple (ev_var 2 rfl)) (av_cons (ev_var 3 rfl) (av_cons (ev_var 4 rfl) av_nil))))) ⟨?_, Mle.refl _⟩)
    unfold choT
    rw [e0, e1, e2, e3, ex, ey]
def bitsI (is : List Int) : Int := is.foldl (fun k i => Builtin.bitOr k (1 * 2 ^ i.toNat)) 0
def PrBits (ds : List D) (M : Mem) (d : D) (M' : Mem) : Prop := ∃ is : List Int, ds = [.tup (is.map dI)] ∧ is.length ≤ 1000000 ∧ (∀ i ∈ is, 0 ≤ i ∧ i ≤ 1000) ∧ d = dI (bitsI is) ∧ M' = M
theorem c_p_bits_of (F : Fun K "bits_of" "bits_of" s_p_bits_of f fd) (hm : mg "bits_of" = some (.ref f)) (T : Bt mg) : Cal P w K mg base 1 "bits_of" (spD K PrBits) := by
  refine cal_of F sc_p_bits_of hm (fun _ _ _ _ _ _ us hl => match us, hl with | [_], _ => rfl) (fun ds M d M' h => ?_) fun cdv A outer s H E ds M d M' hr h => ?_
  · obtain ⟨is, rfl, _⟩ := h
    rfl
  · obtain ⟨is, rfl, hl, hi, rfl, rfl⟩ := h
    show BV _ _ [some (.tup (is.map dI)), none, none] _ _
    refine bv_cons (sv_set 1 sc_p_bits_of.nd ev_int ?_)
    refine bv_cons (sw_for rfl (pg_name (i := 2) sc_p_bits_of.nd rfl (.inl rfl)) ?_)
    refine iw_iv (iv_tup (ev_var 0 rfl)) ⟨fun i ρ M1 => ∃ (x2 : Option D), M1 = M' ∧ ρ = [some (.tup (is.map dI)), some (dI (bitsI (is.take i))), x2], ⟨none, rfl, rfl⟩, fun i d ρ' M1 hd iv => ?_, fun ρ' M1 iv => ?_⟩
    · obtain ⟨x2, rfl, rfl⟩ := iv
      rw [List.getElem?_map, Option.map_eq_some_iff] at hd
      obtain ⟨x, hx, rfl⟩ := hd
      have hx2 := hi x (List.mem_of_getElem? hx)
      refine ⟨_, tg_name, ?_⟩
      refine bv_one (sv_set 1 sc_p_bits_of.nd (ev_op op_or (ev_var 1 rfl) (ev_op op_shl ev_int (ev_var 2 rfl) (rs_I ⟨hx2.1, Int.le_trans hx2.2 (by decide), by decide⟩)) rs_I0) ⟨some (dI x), rfl, ?_⟩)
      have e : bitsI (is.take (i + 1)) = Builtin.bitOr (bitsI (is.take i)) (1 * 2 ^ x.toNat) := by
        unfold bitsI
        rw [List.take_succ, hx, Option.toList_some, List.foldl_append]
        rfl
      rw [e]
      rfl
    · obtain ⟨x2, rfl, rfl⟩ := iv
      rw [List.length_map, List.take_length]
      exact bv_one (sv_ret (ev_var 1 rfl) ⟨rfl, Mle.refl _⟩)
end
section
variable {P : Program} {w : World} {K : PySem.W.Frag} {mg : Str → Option Value} {base : Heap} {f : Addr} {fd : FuncData}
theorem c_BadBook_init {C S : Addr} (F : Fun K "__init__" "BadBook.__init__" s_BadBook_init f fd) (hS : mg "ScoreError" = some (.ref S)) (B : BaseE K S) (ok : OexC K C) (n1 : PySem.W.findIn K (.ref C) "part" = some none) (n2 : PySem.W.findIn K (.ref C) "number" = some none) :
    FnOk P w K mg base CX0 1 f fd ["self", "part", "number"] (spI C [("number", 1), ("part", 0)] (fun args => ∃ z n, args = [.str z, n] ∧ z.length ≤ 1000)) := by
  refine F.ok sc_BadBook_init (fun vs H Q E ⟨a, args, e, _, ⟨z, n, e2, _⟩, _⟩ => by rw [e, e2]; rfl) fun cdv A outer s H vs Q E hr h => ?_
  obtain ⟨a, args, rfl, ha, ⟨z, n, rfl, hz⟩, q⟩ := h
  refine ⟨_, pss_cons (ps_expr (pe_seinit rfl hS B (pa_cons (pe_var (i := 0) rfl (.inl rfl)) (pa_cons (pe_op op_add_str pe_str (pe_var (i := 1) rfl (.inl rfl))) pa_nil)))) (pss_cons (ps_ost (pe_var (i := 0) rfl (.inl rfl)) (pe_var (i := 1) rfl (.inl rfl))) (pss_one (ps_ost (pe_var (i := 0) rfl (.inl rfl)) (pe_var (i := 2) rfl (.inl rfl))))), ?_⟩
  refine ⟨.ref a, rfl, .str z, rfl, _, z, rfl, rfl, ?_, a, C, _, rfl, (by show 1 ≤ 1000; decide), ok, ha, .str z, rfl, .ref a, rfl, a, C, rfl, ok, n1, .inl ⟨ha, fun dx hdx hne => ⟨n, rfl, .ref a, rfl, a, C, rfl, ok, n2, .inr ⟨dx, [("part", .str z)], upd_same, ?_, (by show 1 ≤ 900; decide), ?_⟩⟩⟩⟩
  · exact Nat.le_trans (Nat.add_le_add_left hz _) (by decide)
  · rw [upd_ne hne]
    exact upd_same
  · rw [upd_once hne upd_same]
    exact q dx hdx hne
abbrev ErrBook (P : Program) (w : World) (K : PySem.W.Frag) (mg : Str → Option Value) (base : Heap) (C : Addr) : Prop := ErrC P w K mg base "BadBook" C [("number", 1), ("part", 0)] (fun args => ∃ z n, args = [.str z, n] ∧ z.length ≤ 1000)
/-- the first wrong one -/
def badAt (p : D → Bool) : Nat → List D → Option Nat
  | _, [] => none
  | i, d :: ds => if p d = true then badAt p (i + 1) ds else some i
theorem badAt_none {p : D → Bool} : ∀ {i : Nat} {ds : List D}, badAt p i ds = none → ∀ d ∈ ds, p d = true
  | _, [], _, d, h => by cases h
  | i, x :: ds, e, d, h => by
    unfold badAt at e
    split at e
    · rename_i hx
      rcases List.mem_cons.mp h with rfl | h
      · exact hx
      · exact badAt_none e d h
    · cases e
def optN : Option Nat → D
  | none => dN
  | some i => nD i
/-- what a raise of BadBook leaves -/
def Bad (C : Addr) (Φ : Res → Mem → Prop) (M : Mem) (z : Str) (i : Option Nat) : Prop := ∀ dx, M dx = none → Φ (.ex (.ref C) (some dx)) (M.set dx (.xd [("number", optN i), ("part", dS z)]))
theorem su_bad {X : Cx} {W : WX} {ρ : Sl} {M : Mem} {Φ : Res → Mem → Prop} {C : Addr} {a b : Expr} {p pos pos' : Pos} {z : Str} {i : Option Nat} (hc : X.calm = true) (tk : Takes X W) (B : ErrBook X.prog X.w X.K X.mg X.base C) (hr : Room 2 X.A) (hz : z.length ≤ 1000) (ha : AV X [a, b] ρ M [dS z, optN i] M) (q : Bad C Φ M z i)
    (hg : Gl X "BadBook" := by rfl) (he : starEach [a, b] X.env = (false, eval a X.env) :: starEach [b] X.env := by rfl) (hpl : (backTo pos (starEach [b] X.env)).any (·.1) = false := by rfl) : SU X W (.Raise (some (.Call (.Name "BadBook" p) [a, b] [] pos)) none pos') ρ M (fun o => match o with | .ex cls dd _ M2 => ∃ M', Φ (.ex cls dd) M' ∧ Mle M' M2 | _ => False) :=
  su_raiseF hc tk B hr (aw_av ha ⟨by show 2 ≤ 1000; decide, fun G vs r => by
    cases r with
    | cons r1 r2 =>
      cases r2 with
      | cons r2 r3 =>
        cases r3
        rw [r1.of_val]
        exact ⟨z, _, rfl, hz⟩, fun dx hdx => ⟨_, q dx hdx, Mle.refl _⟩⟩) hg (by decide) he hpl
def R_tests (C : Addr) (ds : List D) (M : Mem) (Φ : Res → Mem → Prop) : Prop := ∃ t, ds = [t] ∧
  ((rowD t = false ∧ kD 5 t ∧ Bad C Φ M "tests" none) ∨ ∃ ts, t = .tup ts ∧ ts.length ≤ 1000 ∧ (∀ d ∈ ts, tupD 5 d ∧ (∀ z rest, d = .tup (dS z :: rest) → z ∈ words ∨ z = "Begins") ∧ (isTestD d = true → ∃ q, d = tstD q ∧ TstOk q)) ∧
    (if ts.length ≤ 16 then (match badAt isTestD 0 ts with | none => Φ (.ok (.tup ts)) M | some i => Bad C Φ M "tests" (some i)) else Bad C Φ M "tests" none))
theorem c_p_checked_tests {C : Addr} (F : Fun K "_checked_tests" "_checked_tests" s_p_checked_tests f fd) (hm : mg "_checked_tests" = some (.ref f)) (T : Bt mg) (he : mg "enumerate" = none) (hM : ∃ t, mg "MOST_TESTS" = some (.int 16 t)) (B : ErrBook P w K mg base C) (c_p_is_row : Cal P w K mg base 1 "is_row" (spD K PrRow)) (c_p_is_test : Cal P w K mg base 5 "is_test" (spD K PrTest)) (c_p_tuples_of_test : Cal P w K mg base 2 "tuples_of_test" (spD K PrToT)) : CalX P w K mg base 6 "_checked_tests" (spU K (R_tests C)) := by
  refine calU_of F sc_p_checked_tests hm (fun _ _ _ _ _ _ us hl => match us, hl with | [_], _ => rfl) (fun ds M Φ h => ?_) fun cdv A outer s H E ds M Φ hr h W tk po => ?_
  · obtain ⟨t, rfl, _⟩ := h
    rfl
  · obtain ⟨t, rfl, h⟩ := h
    show BU _ _ _ [some t, none, none] _ _
    rcases h with ⟨hrow, hk, hb⟩ | ⟨ts, rfl, hl, hts, h⟩
    · refine bu_cons (su_if (tw_tv (p := true) (M1 := M) (PW.pt (wv_to (wv_or (p := true) (q := false) (tv_to (tv_not (tv_val (ev_call c_p_is_row (hr.mono (by decide)) (av_cons (ev_var 0 rfl) av_nil) ⟨t, 5, rfl, hk, rfl, rfl⟩))) (by rw [hrow]; rfl)) (fun h => nomatch h)) rfl)) ⟨fun _ => ?_, fun h => nomatch h⟩))
      exact bu_one (su_to (su_bad rfl tk B (hr.mono (by decide)) (by decide +kernel) (av_cons ev_str (av_cons ev_non av_nil)) hb) fun o ho => by
        cases o with
        | ex cls dd ρ M2 => exact ho
        | o o => exact ho.elim)
    · have hk : kD 6 (.tup ts) := ⟨Nat.le_trans hl (by decide), fun d hd => kD_of_tup (hts d hd).1⟩
      refine bu_cons (su_if (tw_tv (p := decide ((ts.length : Int) > 16)) (M1 := M) (PW.pt (wv_to (wv_or (p := false) (tv_not (b := true) (tv_val (ev_call c_p_is_row (hr.mono (by decide)) (av_cons (ev_var 0 rfl) av_nil) ⟨.tup ts, 6, rfl, hk, rfl, rfl⟩))) (fun _ => wv_one_or (tv_cmpR op_gt (ev_lenT T.len (ev_var 0 rfl)) (ev_gI hM) rs_I0 (nomark _)))) (Bool.false_or _))) ⟨fun hc => ?_, fun hc => bu_nil ?_⟩))
      · have hc := of_decide_eq_true hc
        rw [if_neg (by omega)] at h
        exact bu_one (su_to (su_bad rfl tk B (hr.mono (by decide)) (by decide +kernel) (av_cons ev_str (av_cons ev_non av_nil)) h) fun o ho => by
          cases o with
          | ex cls dd ρ M2 => exact ho
          | o o => exact ho.elim)
      have hc := of_decide_eq_false hc
      rw [if_pos (by omega)] at h
      refine bu_cons (su_for rfl (pg_tup rfl (pgs_cons (pg_name (i := 1) sc_p_checked_tests.nd rfl (.inl rfl)) (pgs_cons (pg_name (i := 2) sc_p_checked_tests.nd rfl (.inl rfl)) pgs_nil))) ?_ po)
      refine iw_enum false he (ev_var 0 rfl) ⟨fun i ρ M1 => M1 = M ∧ ∃ (x1 x2 : Option D), badAt isTestD 0 ts = badAt isTestD i (ts.drop i) ∧ ρ = [some (.tup ts), x1, x2], ⟨rfl, none, none, rfl, rfl⟩, fun i d ρ' M1 hd2 iv => ?_, fun ρ' M1 iv => ?_⟩
      · obtain ⟨rfl, x1, x2, hw, rfl⟩ := iv
        obtain ⟨c, hc2, rfl⟩ := enD_get hd2
        have hk2 := hts c (List.mem_of_getElem? hc2)
        rw [dropAt hc2] at hw
        refine ⟨_, tg_tup (tg_cons tg_name (tg_cons tg_name tg_nil)), ?_⟩
        refine bu_one (su_if (tw_tv (p := !isTestD c) (M1 := M1) (tv_not (tv_val (ev_call c_p_is_test (hr.mono (by decide)) (av_cons (ev_var 2 rfl) av_nil) ⟨c, rfl, hk2.1, hk2.2.1, rfl, rfl⟩))) ⟨fun hc => ?_, fun hc => bu_nil ?_⟩))
        · have e2 : badAt isTestD 0 ts = some i := by
            rw [hw]
            unfold badAt
            rw [if_neg (by rw [nt_ hc]; exact Bool.false_ne_true)]
          rw [e2] at h
          have e0 : dI ((0 + i : Nat) : Int) = optN (some i) := by
            rw [Nat.zero_add]
            rfl
          exact bu_one (su_to (su_bad rfl tk B (hr.mono (by decide)) (by decide +kernel) (av_cons ev_str (av_cons (ev_to (ev_var 1 rfl) e0) av_nil)) h) fun o ho => by
            cases o with
            | ex cls dd ρ M2 => exact ho
            | o o => exact ho.elim)
        · refine ⟨rfl, _, _, ?_, rfl⟩
          rw [hw]
          conv => lhs; unfold badAt
          rw [if_pos (nf_ hc)]
      · obtain ⟨rfl, x1, x2, hw, rfl⟩ := iv
        rw [enD_len, List.drop_length] at hw
        have hw : badAt isTestD 0 ts = none := hw
        have good := badAt_none hw
        rw [hw] at h
        refine bu_one (su_sv (Ψ' := fun o => o = .ret (.tup ts) M1) (sv_ret (ev_tupOf (b := true) (ds := ts) T.tuple (ev_to (ev_lcM (own := [("test", 2)]) (g := gName 2) rfl sc_p_checked_tests.nd (iv_tup (ds := ts) (ev_var 0 rfl)) (blkOk_by (N := ["tests", "number", "test"]) (sc := defScope s_p_checked_tests) (by decide +kernel)) (fun _ _ _ _ _ => (pg_name (i := 2) sc_p_checked_tests.nd rfl (.inl rfl))) (fun d => d) (Nat.le_trans hl (by decide)) (fun i d hd => ?_)) (by rw [List.map_id']; rfl))) rfl) fun o ho => by
          cases ho
          exact ⟨_, h, Mle.refl _⟩)
        have hk2 := hts d (List.mem_of_getElem? hd)
        obtain ⟨q, rfl, hq⟩ := hk2.2.2 (good d (List.mem_of_getElem? hd))
        refine ⟨_, tgb_name, fun M2 s H C cl fp => ev_call c_p_tuples_of_test (hr.mono (by decide)) (av_cons (ev_var 2 rfl) av_nil) ⟨q, false, ?_, hq, rfl, rfl⟩⟩
        cases q <;> rfl
end
/-! ### a book is made -/
def lcScope : Stmt → Scope
  | .Return (some (.Call _ [.ListComp _ _ s _] _ _)) _ => s
  | .Assign _ (.ListComp _ _ s _) _ => s
  | _ => defScope s_p_wall
def stT (d : D) : D := .tup ((partsD d).map choT)
section
variable {P : Program} {w : World} {K : PySem.W.Frag} {mg : Str → Option Value} {base : Heap} {f : Addr} {fd : FuncData}
theorem state_sq {m s : Int} {d : D} (h : stateD m s d = true) : ∃ b ds, d = sq b ds ∧ partsD d = ds ∧ ds.length ≤ 16 ∧ ∀ x ∈ ds, choiceD m s x = true := by
  obtain ⟨h1, h2⟩ := Bool.and_eq_true_iff.mp h
  obtain ⟨b, ds, rfl, e⟩ := rowD_sq h1
  obtain ⟨h2, h3⟩ := Bool.and_eq_true_iff.mp h2
  have h2 := of_decide_eq_false (nt_ h2)
  unfold lenD at h2
  rw [e] at h2 h3
  exact ⟨b, ds, rfl, e, by omega, List.all_eq_true.mp h3⟩
def R_states (C : Addr) (ds : List D) (M : Mem) (Φ : Res → Mem → Prop) : Prop := ∃ t m, ds = [t, dI m] ∧
  ((rowD t = false ∧ kD 7 t ∧ Bad C Φ M "states" none) ∨ ∃ ts, t = .tup ts ∧ ts.length ≤ 1000 ∧ (∀ d ∈ ts, kD 6 d) ∧
    (if 1 ≤ ts.length ∧ ts.length ≤ 24 then (match badAt (stateD m ts.length) 0 ts with | none => Φ (.ok (.tup (ts.map stT))) M | some i => Bad C Φ M "states" (some i)) else Bad C Φ M "states" none))
theorem c_p_checked_states {C : Addr} (F : Fun K "_checked_states" "_checked_states" s_p_checked_states f fd) (hm : mg "_checked_states" = some (.ref f)) (T : Bt mg) (he : mg "enumerate" = none) (hM : ∃ t, mg "MOST_STATES" = some (.int 24 t)) (B : ErrBook P w K mg base C) (c_p_is_row : Cal P w K mg base 1 "is_row" (spD K PrRow)) (c_p_is_state : Cal P w K mg base 5 "_is_state" (spD K PrState)) (c_p_choice_as_tuples : Cal P w K mg base 1 "_choice_as_tuples" (spD K PrChoT)) : CalX P w K mg base 6 "_checked_states" (spU K (R_states C)) := by
  refine calU_of F sc_p_checked_states hm (fun _ _ _ _ _ _ us hl => match us, hl with | [_, _], _ => rfl) (fun ds M Φ h => ?_) fun cdv A outer s H E ds M Φ hr h W tk po => ?_
  · obtain ⟨t, m, rfl, _⟩ := h
    rfl
  · obtain ⟨t, m, rfl, h⟩ := h
    show BU _ _ _ [some t, some (dI m), none, none, none] _ _
    rcases h with ⟨hrow, hk, hb⟩ | ⟨ts, rfl, hl, hts, h⟩
    · refine bu_cons (su_if (tw_tv (p := true) (M1 := M) (PW.pt (wv_to (wv_or (p := true) (q := false) (tv_to (tv_not (tv_val (ev_call c_p_is_row (hr.mono (by decide)) (av_cons (ev_var 0 rfl) av_nil) ⟨t, 7, rfl, hk, rfl, rfl⟩))) (by rw [hrow]; rfl)) (fun h => nomatch h)) rfl)) ⟨fun _ => ?_, fun h => nomatch h⟩))
      exact bu_one (su_to (su_bad rfl tk B (hr.mono (by decide)) (by decide +kernel) (av_cons ev_str (av_cons ev_non av_nil)) hb) fun o ho => by
        cases o with
        | ex cls dd ρ M2 => exact ho
        | o o => exact ho.elim)
    · have hk : kD 7 (.tup ts) := ⟨Nat.le_trans hl (by decide), fun d hd => hts d hd⟩
      refine bu_cons (su_if (tw_tv (p := !(decide ((1 : Int) ≤ (ts.length : Int)) && decide ((ts.length : Int) ≤ 24))) (M1 := M) (PW.pt (wv_to (wv_or (p := false) (tv_not (b := true) (tv_val (ev_call c_p_is_row (hr.mono (by decide)) (av_cons (ev_var 0 rfl) av_nil) ⟨.tup ts, 7, rfl, hk, rfl, rfl⟩))) (fun _ => wv_one_or (tv_not (tv_chain op_le op_le ev_int (ev_lenT T.len (ev_var 0 rfl)) (ev_gI hM))))) (Bool.false_or _))) ⟨fun hc => ?_, fun hc => bu_nil ?_⟩))
      · have hc := nt_ hc
        have hn : ¬ (1 ≤ ts.length ∧ ts.length ≤ 24) := fun ⟨a, b⟩ => by
          rw [decide_eq_true (show (1 : Int) ≤ (ts.length : Int) by omega), decide_eq_true (show (ts.length : Int) ≤ 24 by omega)] at hc
          cases hc
        rw [if_neg hn] at h
        exact bu_one (su_to (su_bad rfl tk B (hr.mono (by decide)) (by decide +kernel) (av_cons ev_str (av_cons ev_non av_nil)) h) fun o ho => by
          cases o with
          | ex cls dd ρ M2 => exact ho
          | o o => exact ho.elim)
      have hc := Bool.and_eq_true_iff.mp (nf_ hc)
      have hc1 := of_decide_eq_true hc.1
      have hc2 := of_decide_eq_true hc.2
      rw [if_pos ⟨by omega, by omega⟩] at h
      refine bu_cons (su_for rfl (pg_tup rfl (pgs_cons (pg_name (i := 2) sc_p_checked_states.nd rfl (.inl rfl)) (pgs_cons (pg_name (i := 3) sc_p_checked_states.nd rfl (.inl rfl)) pgs_nil))) ?_ po)
      refine iw_enum false he (ev_var 0 rfl) ⟨fun i ρ M1 => M1 = M ∧ ∃ (x1 x2 : Option D), badAt (stateD m ts.length) 0 ts = badAt (stateD m ts.length) i (ts.drop i) ∧ ρ = [some (.tup ts), some (dI m), x1, x2, none], ⟨rfl, none, none, rfl, rfl⟩, fun i d ρ' M1 hd2 iv => ?_, fun ρ' M1 iv => ?_⟩
      · obtain ⟨rfl, x1, x2, hw, rfl⟩ := iv
        obtain ⟨c, hc2, rfl⟩ := enD_get hd2
        have hk2 := hts c (List.mem_of_getElem? hc2)
        rw [dropAt hc2] at hw
        refine ⟨_, tg_tup (tg_cons tg_name (tg_cons tg_name tg_nil)), ?_⟩
        refine bu_one (su_if (tw_tv (p := !stateD m ts.length c) (M1 := M1) (tv_not (tv_val (ev_call c_p_is_state (hr.mono (by decide)) (av_cons (ev_var 3 rfl) (av_cons (ev_var 1 rfl) (av_cons (ev_lenT T.len (ev_var 0 rfl)) av_nil))) ⟨c, 6, m, ts.length, rfl, hk2, rfl, rfl⟩))) ⟨fun hc => ?_, fun hc => bu_nil ?_⟩))
        · have e2 : badAt (stateD m ts.length) 0 ts = some i := by
            rw [hw]
            unfold badAt
            rw [if_neg (by rw [nt_ hc]; exact Bool.false_ne_true)]
          rw [e2] at h
          have e0 : dI ((0 + i : Nat) : Int) = optN (some i) := by
            rw [Nat.zero_add]
            rfl
          exact bu_one (su_to (su_bad rfl tk B (hr.mono (by decide)) (by decide +kernel) (av_cons ev_str (av_cons (ev_to (ev_var 2 rfl) e0) av_nil)) h) fun o ho => by
            cases o with
            | ex cls dd ρ M2 => exact ho
            | o o => exact ho.elim)
        · refine ⟨rfl, _, _, ?_, rfl⟩
          rw [hw]
          conv => lhs; unfold badAt
          rw [if_pos (nf_ hc)]
      · obtain ⟨rfl, x1, x2, hw, rfl⟩ := iv
        rw [enD_len, List.drop_length] at hw
        have hw : badAt (stateD m ts.length) 0 ts = none := hw
        have good := badAt_none hw
        rw [hw] at h
        refine bu_one (su_sv (Ψ' := fun o => o = .ret (.tup (ts.map stT)) M1) (sv_ret (ev_tupOf (b := true) (ds := ts.map stT) T.tuple (ev_lcM (own := [("state", 3)]) (g := gName 3) rfl sc_p_checked_states.nd (iv_tup (ds := ts) (ev_var 0 rfl)) (blkOk_by (N := ["states", "tests", "number", "state", "choice"]) (sc := defScope s_p_checked_states) (by decide +kernel)) (fun _ _ _ _ _ => (pg_name (i := 3) sc_p_checked_states.nd rfl (.inl rfl))) stT (Nat.le_trans hl (by decide)) (fun i d hd => ?_))) rfl) fun o ho => by
          cases ho
          exact ⟨_, h, Mle.refl _⟩)
        obtain ⟨b, ds, rfl, ep, hl2, hch⟩ := state_sq (good d (List.mem_of_getElem? hd))
        refine ⟨_, tgb_name, fun M2 s H C cl fp => ?_⟩
        unfold stT
        rw [ep]
        refine ev_tupOf (b := true) (ds := ds.map choT) T.tuple (ev_lcM (own := [("choice", 4)]) (g := gName 4) rfl sc_p_checked_states.nd (iv_sq (ds := ds) (ev_var 3 rfl)) (blkOk_by (N := ["states", "tests", "number", "state", "choice"]) (sc := lcScope ((defBody s_p_checked_states).getLast?.getD s_p_wall)) (by decide +kernel)) (fun _ _ _ _ _ => (pg_name (i := 4) sc_p_checked_states.nd rfl (.inl rfl))) choT (Nat.le_trans hl2 (by decide)) (fun j x hx => ?_))
        exact ⟨_, tgb_name, fun M3 s H C cl fp => ev_call c_p_choice_as_tuples (hr.mono (by decide)) (av_cons (ev_var 4 rfl) av_nil) ⟨x, m, ts.length, rfl, hch x (List.mem_of_getElem? hx), rfl, rfl⟩⟩
end
/-! ### Steps, Book, told -/
theorem putD_len {f : Str} {d : D} : ∀ (fs : List (Str × D)), (putD f d fs).length ≤ fs.length + 1
  | [] => Nat.le_refl _
  | (g, x) :: r => by
    unfold putD
    split
    · exact Nat.le_succ _
    · exact Nat.succ_le_succ (putD_len r)
theorem putD_same {f : Str} {d : D} : ∀ (fs : List (Str × D)), (putD f d fs).lookup f = some d
  | [] => by simp [putD]
  | (g, x) :: r => by
    unfold putD
    split
    · rename_i h
      subst h
      simp [List.lookup]
    · rename_i h
      have e : (f == g) = false := beq_false_of_ne (fun q => h q.symm)
      simp only [List.lookup, e]
      exact putD_same r
theorem putD_ne {f g : Str} {d : D} (hne : g ≠ f) : ∀ (fs : List (Str × D)), (putD f d fs).lookup g = fs.lookup g
  | [] => by
    have e : (g == f) = false := beq_false_of_ne hne
    simp [putD, List.lookup, e]
  | (z, x) :: r => by
    unfold putD
    split
    · rename_i h
      subst h
      have e : (g == z) = false := beq_false_of_ne hne
      simp only [List.lookup, e]
    · simp only [List.lookup]
      split
      · rfl
      · exact putD_ne hne r
def ChoOk (d : D) : Prop := ∃ (is js : List Int) (x y : D), d = .tup [.tup (is.map dI), .tup (js.map dI), x, y] ∧ (is.length ≤ 1000 ∧ ∀ i ∈ is, 0 ≤ i ∧ i ≤ 1000) ∧ (js.length ≤ 1000 ∧ ∀ i ∈ js, 0 ≤ i ∧ i ≤ 1000)
def StOk (d : D) : Prop := ∃ cs, d = .tup cs ∧ cs.length ≤ 1000 ∧ ∀ c ∈ cs, ChoOk c
theorem are_ints {m : Int} {d : D} (hm : m ≤ 1000) (h : areD m d = true) : ∃ is : List Int, partsD d = is.map dI ∧ is.length ≤ 1000 ∧ ∀ i ∈ is, 0 ≤ i ∧ i ≤ 1000 := by
  obtain ⟨h1, h2⟩ := Bool.and_eq_true_iff.mp h
  obtain ⟨b, ds, rfl, e⟩ := rowD_sq h1
  obtain ⟨h2, h3⟩ := Bool.and_eq_true_iff.mp h2
  have h2 := of_decide_eq_false (nt_ h2)
  unfold lenD at h2
  rw [e] at h2 h3 ⊢
  have h3 := List.all_eq_true.mp h3
  have key : ∀ ds : List D, (∀ x ∈ ds, wholeD 0 (m - 1) x = true) → ∃ is : List Int, ds = is.map dI ∧ ∀ i ∈ is, 0 ≤ i ∧ i ≤ 1000 := fun ds => by
    induction ds with
    | nil => exact fun _ => ⟨[], rfl, fun i h => by cases h⟩
    | cons x ds ih =>
      intro h
      obtain ⟨is, rfl, hi⟩ := ih fun y hy => h y (List.mem_cons_of_mem _ hy)
      obtain ⟨i, rfl, hb⟩ := whole_int (h x (List.mem_cons_self ..))
      refine ⟨i :: is, rfl, fun j hj => ?_⟩
      rcases List.mem_cons.mp hj with rfl | hj
      · exact ⟨by omega, by omega⟩
      · exact hi j hj
  obtain ⟨is, rfl, hi⟩ := key ds h3
  rw [List.length_map] at h2
  exact ⟨is, rfl, by omega, hi⟩
theorem cho_ok {m s : Int} {d : D} (hm : m ≤ 1000) (h : choiceD m s d = true) : ChoOk (choT d) := by
  obtain ⟨_, h2⟩ := Bool.and_eq_true_iff.mp h
  obtain ⟨h3, _⟩ := Bool.and_eq_true_iff.mp h2
  obtain ⟨ha, hb⟩ := Bool.and_eq_true_iff.mp h3
  obtain ⟨is, e1, h1⟩ := are_ints hm ha
  obtain ⟨js, e2, h2⟩ := are_ints hm hb
  refine ⟨is, js, partD d 2, partD d 3, ?_, h1, h2⟩
  unfold choT
  rw [e1, e2]
theorem st_ok {m s : Int} {d : D} (hm : m ≤ 1000) (h : stateD m s d = true) : StOk (stT d) := by
  obtain ⟨b, ds, rfl, e, hl, hc⟩ := state_sq h
  refine ⟨_, rfl, by rw [e, List.length_map]; omega, fun c hc2 => ?_⟩
  rw [e] at hc2
  obtain ⟨x, hx, rfl⟩ := List.mem_map.mp hc2
  exact cho_ok hm (hc x hx)
section
variable {P : Program} {w : World} {K : PySem.W.Frag} {mg : Str → Option Value} {base : Heap} {f : Addr} {fd : FuncData}
def R_steps (C : Addr) (ds : List D) (M : Mem) (Φ : Res → Mem → Prop) : Prop := ∃ y ts ss, ds = [dP y, ts, .tup ss] ∧ M y = some (.ins C []) ∧ ss.length ≤ 1000 ∧ (∀ s ∈ ss, StOk s) ∧ ∀ fs, Φ (.ok dN) (M.set y (.ins C fs))
theorem c_Steps_init {C : Addr} (F : Fun K "__init__" "Steps.__init__" s_Steps_init f fd) (cS : Cls K C) (nS : ∀ z ∈ (["tests", "choices", "rows", "moves", "goings", "fillings"] : List Str), NoAttr K C z) (c_p_bits_of : Cal P w K mg base 1 "bits_of" (spD K PrBits)) : FnOk P w K mg base (L2.CX P w) 2 f fd ["self", "tests", "states"] (spU K (R_steps C)) := by
  refine fnU_of F sc_Steps_init (fun ds M Φ h => ?_) fun cdv A outer s H E ds M Φ hr h W tk po => ?_
  · obtain ⟨y, ts, ss, rfl, _⟩ := h
    rfl
  · obtain ⟨y, ts, ss, rfl, hm, hl, hs, hΦ⟩ := h
    show BU _ _ _ [some (dP y), some ts, some (.tup ss), none, none] _ _
    refine bu_bv (Ψ' := fun o => ∃ ρ fs, o = .nx ρ (M.set y (.ins C fs))) ?_ (fun o ⟨ρ, fs, e⟩ => by subst e; exact ⟨_, hΦ fs, Mle.refl _⟩)
    refine bv_cons (sw_fld (C := C) (p := y) (ew_ev (ev_var 1 rfl) ⟨ev_var 0 rfl, _, hm, by decide, ?_⟩) cS (nS _ (by simp)))
    have l1 := putD_len (f := ("tests" : Str)) (d := ts) []
    generalize putD "tests" ts [] = f1 at l1 ⊢
    have l1 : f1.length ≤ 1 := l1
    refine bv_cons (sw_fld (C := C) (p := y) (ew_ev (ev_lcM (own := [("state", 4)]) (g := gName 4) rfl sc_Steps_init.nd (iv_tup (ds := ss) (ev_var 2 rfl)) (blkOk_by (N := ["self", "tests", "states", "row", "state"]) (sc := defScope s_Steps_init) (by decide +kernel)) (fun _ _ _ _ _ => (pg_name (i := 4) sc_Steps_init.nd rfl (.inl rfl))) (fun d => .lst ((partsD d).map fun c => .tup [dI (bitsI ((partsD (partD c 0)).map intD)), dI (bitsI ((partsD (partD c 1)).map intD)), partD c 2, partD c 3])) (Nat.le_trans hl (by decide)) (fun i d hd => ?_)) ⟨ev_var 0 rfl, _, Mem.set_same, Nat.lt_of_le_of_lt l1 (by decide), ?_⟩) cS (nS _ (by simp)))
    · obtain ⟨cs, rfl, hc1, hc⟩ := hs d (List.mem_of_getElem? hd)
      refine ⟨_, tgb_name, fun M2 s H C cl fp => ?_⟩
      refine ev_lcM (own := [("row", 3)]) (g := gName 3) rfl sc_Steps_init.nd (iv_tup (ds := cs) (ev_var 4 rfl)) (blkOk_by (N := ["self", "tests", "states", "row", "state"]) (sc := lcScope ((defBody s_Steps_init).getD 1 s_p_wall)) (by decide +kernel)) (fun _ _ _ _ _ => (pg_name (i := 3) sc_Steps_init.nd rfl (.inl rfl))) _ (Nat.le_trans hc1 (by decide)) (fun j x hx => ?_)
      obtain ⟨is, js, u, v, rfl, ⟨i1, i2⟩, ⟨j1, j2⟩⟩ := hc x (List.mem_of_getElem? hx)
      have mm : ∀ is : List Int, (is.map dI).map intD = is := fun is => by
        rw [List.map_map]
        exact List.map_id is
      refine ⟨_, tgb_name, fun M3 s H C cl fp => ?_⟩
      show EV _ _ _ _ (.tup [dI (bitsI ((is.map dI).map intD)), dI (bitsI ((js.map dI).map intD)), u, v]) _
      rw [mm, mm]
      exact ev_tup (av_cons (ev_call c_p_bits_of (hr.mono (by decide)) (av_cons (ev_ixT (ds := [.tup (is.map dI), .tup (js.map dI), u, v]) (ev_var 3 rfl) ev_int rfl) av_nil) ⟨is, rfl, Nat.le_trans i1 (by decide), i2, rfl, rfl⟩) (av_cons (ev_call c_p_bits_of (hr.mono (by decide)) (av_cons (ev_ixT (ds := [.tup (is.map dI), .tup (js.map dI), u, v]) (ev_var 3 rfl) ev_int rfl) av_nil) ⟨js, rfl, Nat.le_trans j1 (by decide), j2, rfl, rfl⟩) (av_cons (ev_ixT (ds := [.tup (is.map dI), .tup (js.map dI), u, v]) (ev_var 3 rfl) ev_int rfl) (av_cons (ev_ixT (ds := [.tup (is.map dI), .tup (js.map dI), u, v]) (ev_var 3 rfl) ev_int rfl) av_nil))))
    rw [Mem.set_set]
    generalize (D.lst (List.map (fun d => D.lst ((partsD d).map fun c => D.tup [dI (bitsI ((partsD (partD c 0)).map intD)), dI (bitsI ((partsD (partD c 1)).map intD)), partD c 2, partD c 3])) ss)) = dch
    have l2 := putD_len (f := ("choices" : Str)) (d := dch) f1
    generalize putD "choices" dch f1 = f2 at l2 ⊢
    refine bv_cons (sw_fld (C := C) (p := y) (ew_ev ev_dict0 ⟨ev_var 0 rfl, f2, Mem.set_same, by omega, ?_⟩) cS (nS _ (by simp)))
    rw [Mem.set_set]
    have l3 := putD_len (f := ("rows" : Str)) (d := .dic) f2
    generalize putD "rows" .dic f2 = f3 at l3 ⊢
    refine bv_cons (sw_fld (C := C) (p := y) (ew_ev ev_dict0 ⟨ev_var 0 rfl, f3, Mem.set_same, by omega, ?_⟩) cS (nS _ (by simp)))
    rw [Mem.set_set]
    have l4 := putD_len (f := ("moves" : Str)) (d := .dic) f3
    generalize putD "moves" .dic f3 = f4 at l4 ⊢
    refine bv_cons (sw_fld (C := C) (p := y) (ew_ev ev_non ⟨ev_var 0 rfl, f4, Mem.set_same, by omega, ?_⟩) cS (nS _ (by simp)))
    rw [Mem.set_set]
    have l5 := putD_len (f := ("goings" : Str)) (d := dN) f4
    generalize putD "goings" dN f4 = f5 at l5 ⊢
    refine bv_one (sw_fld (C := C) (p := y) (ew_ev ev_dict0 ⟨ev_var 0 rfl, f5, Mem.set_same, by omega, ?_⟩) cS (nS _ (by simp)))
    rw [Mem.set_set]
    exact ⟨_, _, rfl⟩
end
/-! ### what a call of Book tells -/
def wrongT (t : D) : Option (Option Nat) := if (rowD t && decide (lenD t ≤ 16)) = true then (badAt isTestD 0 (partsD t)).map some else some none
def wrongS (m : Int) (t : D) : Option (Option Nat) := if (rowD t && (decide (1 ≤ lenD t) && decide (lenD t ≤ 24))) = true then (badAt (stateD m (lenD t)) 0 (partsD t)).map some else some none
def bookW (tt ss : D) : Option (Str × Option Nat) := match wrongT tt with
  | some i => some ("tests", i)
  | none => (wrongS (lenD tt) ss).map fun i => ("states", i)
def TstIn (d : D) : Prop := tupD 5 d ∧ (∀ z rest, d = .tup (dS z :: rest) → z ∈ words ∨ z = "Begins") ∧ (isTestD d = true → ∃ q, d = tstD q ∧ TstOk q)
def PreT (t : D) : Prop := (rowD t = false ∧ kD 5 t) ∨ ∃ ts, t = .tup ts ∧ ts.length ≤ 1000 ∧ ∀ d ∈ ts, TstIn d
def PreS (t : D) : Prop := (rowD t = false ∧ kD 7 t) ∨ ∃ ts, t = .tup ts ∧ ts.length ≤ 1000 ∧ ∀ d ∈ ts, kD 6 d
section
variable {P : Program} {w : World} {K : PySem.W.Frag} {mg : Str → Option Value} {base : Heap} {f : Addr} {fd : FuncData}
def R_book (C CE : Addr) (ds : List D) (M : Mem) (Φ : Res → Mem → Prop) : Prop := ∃ y M0 tt ss, ds = [dP y, tt, ss] ∧ M0 y = none ∧ M = M0.set y (.ins C []) ∧ PreT tt ∧ PreS ss ∧ match bookW tt ss with
  | none => ∀ M' fs, Mle M0 M' → M' y = some (.ins C fs) → fs.lookup ("states" : Str) = some (.tup ((partsD ss).map stT)) → Φ (.ok dN) M'
  | some (z, i) => ∀ M', Mle M0 M' → Bad CE Φ M' z i
theorem le_none {M M' : Mem} {p : Addr} (h : Mle M M') (e : M' p = none) : M p = none := by
  cases q : M p with
  | none => rfl
  | some o => rw [h _ _ q] at e; cases e
theorem fin_bad {C : Addr} {Φ : Res → Mem → Prop} {M : Mem} {z : Str} {i : Option Nat} {X : Cx} {W : WX} {rest : List Stmt} {ρ : Sl} (h : Bad C Φ M z i) : ∀ dx, M dx = none → thenU X W rest (FinU Φ) (.ex (.ref C) (some dx) ρ (M.set dx (.xd [("number", optN i), ("part", dS z)]))) := fun dx hdx => ⟨_, h dx hdx, Mle.refl _⟩
theorem wrongT_tup {ts : List D} : wrongT (.tup ts) = if ts.length ≤ 16 then (badAt isTestD 0 ts).map some else some none := by
  unfold wrongT
  show (if (true && decide (ts.length ≤ 16)) = true then _ else _) = _
  rw [Bool.true_and]
  by_cases h : ts.length ≤ 16
  · rw [if_pos h, if_pos (decide_eq_true h)]
    rfl
  · rw [if_neg h, if_neg (by simp [h])]
theorem wrongS_tup {m : Int} {ts : List D} : wrongS m (.tup ts) = if 1 ≤ ts.length ∧ ts.length ≤ 24 then (badAt (stateD m ts.length) 0 ts).map some else some none := by
  unfold wrongS
  show (if (true && (decide (1 ≤ ts.length) && decide (ts.length ≤ 24))) = true then _ else _) = _
  rw [Bool.true_and]
  by_cases h : 1 ≤ ts.length ∧ ts.length ≤ 24
  · rw [if_pos h, if_pos (by simp [h])]
    rfl
  · rw [if_neg h, if_neg (by simpa using h)]
theorem wrongT_not {t : D} (h : rowD t = false) : wrongT t = some none := by
  unfold wrongT
  rw [h]
  rfl
theorem wrongS_not {m : Int} {t : D} (h : rowD t = false) : wrongS m t = some none := by
  unfold wrongS
  rw [h]
  rfl
theorem c_Book_init {C CE CS : Addr} (F : Fun K "__init__" "Book.__init__" s_Book_init f fd) (T : Bt mg) (cB : Cls K C) (nB : ∀ z ∈ (["tests", "states", "steps"] : List Str), NoAttr K C z)
    (c_p_checked_tests : CalX P w K mg base 6 "_checked_tests" (spU K (R_tests CE))) (c_p_checked_states : CalX P w K mg base 6 "_checked_states" (spU K (R_states CE))) (mS : MkC P w K mg base 2 "Steps" CS (spU K (R_steps CS))) : FnOk P w K mg base (L2.CX P w) 7 f fd ["self", "tests", "states"] (spU K (R_book C CE)) := by
  refine fnU_of F sc_Book_init (fun ds M Φ h => ?_) fun cdv A outer s H E ds M Φ hr h W tk po => ?_
  · obtain ⟨y, M0, ts, ss, rfl, _⟩ := h
    rfl
  · obtain ⟨y, M0, tt, ss, rfl, hy, rfl, pT, pS, h⟩ := h
    have le0 : ∀ o, Mle M0 (M0.set y o) := fun o => mle_new (Mle.refl _) hy
    show BU _ _ _ [some (dP y), some tt, some ss] _ _
    refine bu_cons (su_fld (C := C) (p := y) (eu_call c_p_checked_tests tk (hr.mono (by decide)) (aw_av (av_cons (ev_var 1 rfl) av_nil) ⟨tt, rfl, ?_⟩)) cB (nB _ (by simp)))
    rcases pT with ⟨hrow, hk⟩ | ⟨ts, rfl, hl, hts⟩
    · unfold bookW at h
      rw [wrongT_not hrow] at h
      exact .inl ⟨hrow, hk, fin_bad (h _ (le0 _))⟩
    refine .inr ⟨ts, rfl, hl, hts, ?_⟩
    unfold bookW at h
    rw [wrongT_tup] at h
    by_cases hc : ts.length ≤ 16
    rotate_left
    · rw [if_neg hc] at h ⊢
      exact fin_bad (h _ (le0 _))
    rw [if_pos hc] at h ⊢
    cases hb : badAt isTestD 0 ts with
    | some i =>
      rw [hb] at h
      exact fin_bad (h _ (le0 _))
    | none =>
    rw [hb] at h
    refine ⟨ev_var 0 rfl, _, Mem.set_same, by decide, ?_⟩
    rw [Mem.set_set]
    show BU _ _ _ _ _ _
    have l1 := putD_len (f := ("tests" : Str)) (d := .tup ts) []
    have k1 := putD_same (f := ("tests" : Str)) (d := .tup ts) []
    generalize putD "tests" (.tup ts) [] = f1 at l1 k1 ⊢
    have l1 : f1.length ≤ 1 := l1
    refine bu_cons (su_fld (C := C) (p := y) (eu_call c_p_checked_states tk (hr.mono (by decide)) (aw_av (av_cons (ev_var 2 rfl) (av_cons (ev_lenT T.len (ev_fld (ev_var 0 rfl) Mem.set_same cB (nB _ (by simp)) k1)) av_nil)) ⟨ss, ts.length, rfl, ?_⟩)) cB (nB _ (by simp)))
    have h : match (wrongS ts.length ss).map fun i => (("states" : Str), i) with
      | none => ∀ M' fs, Mle M0 M' → M' y = some (.ins C fs) → fs.lookup ("states" : Str) = some (.tup ((partsD ss).map stT)) → Φ (.ok dN) M'
      | some (z, i) => ∀ M', Mle M0 M' → Bad CE Φ M' z i := h
    rcases pS with ⟨hrow, hk⟩ | ⟨sts, rfl, hl2, hsts⟩
    · rw [wrongS_not hrow] at h
      exact .inl ⟨hrow, hk, fin_bad (h _ (le0 _))⟩
    refine .inr ⟨sts, rfl, hl2, hsts, ?_⟩
    rw [wrongS_tup] at h
    by_cases hc2 : 1 ≤ sts.length ∧ sts.length ≤ 24
    rotate_left
    · rw [if_neg hc2] at h ⊢
      exact fin_bad (h _ (le0 _))
    rw [if_pos hc2] at h ⊢
    cases hb2 : badAt (stateD ts.length sts.length) 0 sts with
    | some i =>
      rw [hb2] at h
      exact fin_bad (h _ (le0 _))
    | none =>
    rw [hb2] at h
    refine ⟨ev_var 0 rfl, _, Mem.set_same, by omega, ?_⟩
    rw [Mem.set_set]
    show BU _ _ _ _ _ _
    have l2 := putD_len (f := ("states" : Str)) (d := .tup (sts.map stT)) f1
    have k2 := putD_same (f := ("states" : Str)) (d := .tup (sts.map stT)) f1
    have k1 := (putD_ne (f := ("states" : Str)) (g := ("tests" : Str)) (d := .tup (sts.map stT)) (by decide +kernel) f1).trans k1
    generalize putD "states" (.tup (sts.map stT)) f1 = f2 at l2 k1 k2 ⊢
    refine bu_one (su_fld (C := C) (p := y) (eu_make mS tk (hr.mono (by decide)) (aw_av (av_cons (ev_fld (ev_var 0 rfl) Mem.set_same cB (nB _ (by simp)) k1) (av_cons (ev_fld (ev_var 0 rfl) Mem.set_same cB (nB _ (by simp)) k2) av_nil)) (fun y2 hy2 => ?_))) cB (nB _ (by simp)))
    have ne : y ≠ y2 := fun q => by subst q; rw [Mem.set_same] at hy2; cases hy2
    have hy3 : M0 y2 = none := by rw [Mem.set_ne ne.symm] at hy2; exact hy2
    have good := badAt_none hb2
    refine ⟨y2, _, _, rfl, Mem.set_same, by rw [List.length_map]; exact hl2, fun s hs => ?_, fun fs => ⟨rfl, ?_⟩⟩
    · obtain ⟨x, hx, rfl⟩ := List.mem_map.mp hs
      exact st_ok (by omega) (good x hx)
    · rw [Mem.set_set]
      have at2 : ((M0.set y (.ins C f2)).set y2 (.ins CS fs)) y = some (.ins C f2) := by rw [Mem.set_ne ne]; exact Mem.set_same
      refine ⟨ev_var 0 rfl, _, at2, by omega, ?_⟩
      refine ⟨_, h _ _ ?_ Mem.set_same ((putD_ne (by decide +kernel) f2).trans k2), Mle.refl _⟩
      exact fun b u e => by
        rw [Mem.set_ne (fun q => by rw [q, hy] at e; cases e), Mem.set_ne (fun q => by rw [q, hy3] at e; cases e), Mem.set_ne (fun q => by rw [q, hy] at e; cases e)]
        exact e
structure GB (K : PySem.W.Frag) (mg : Str → Option Value) (C S : Addr) : Prop where
  bk : mg "BadBook" = some (.ref C)
  se : mg "ScoreError" = some (.ref S)
  yes : PySem.W.exmOne K (.ref C) (.ref C) = some true
  ec : ExcC K C
  cl : (PySem.W.clsIn K C).isSome = true
  k1 : PySem.W.kitOne K (.ref C) (.ref S) = some true
  xf : XfC K C
  n1 : PySem.W.findIn K (.ref C) "part" = some none
  n2 : PySem.W.findIn K (.ref C) "number" = some none
def R_told (ds : List D) (M : Mem) (Φ : D → Mem → Prop) : Prop := ∃ tt ss, ds = [tt, ss] ∧ PreT tt ∧ PreS ss ∧ match bookW tt ss with
  | none => ∀ M', Mle M M' → Φ (.tup [dS "told", nD (lenD ss)]) M'
  | some (z, i) => ∀ M', Mle M M' → Φ (.tup [dS "raised", dS z, optN i, dB true]) M'
theorem c_told {C CE S : Addr} (F : Fun K "_law_told" "_law_told" s_told f fd) (hm : mg "_law_told" = some (.ref f)) (T : Bt mg) (G : GB K mg CE S) (cB : Cls K C) (nB : ∀ z ∈ (["tests", "states", "steps"] : List Str), NoAttr K C z) (mB : MkC P w K mg base 7 "Book" C (spU K (R_book C CE))) : Cal P w K mg base 9 "_law_told" (spW K R_told) := by
  refine calW_of F sc_told hm (fun _ _ _ _ _ _ us hl => match us, hl with | [_, _], _ => rfl) (fun ds M Φ h => ?_) fun cdv A outer s H E ds M Φ hr h => ?_
  · obtain ⟨tt, ss, rfl, _⟩ := h
    rfl
  · obtain ⟨tt, ss, rfl, pT, pS, h⟩ := h
    show BV _ _ [some tt, some ss, none] _ _
    refine bv_one (sv_tryU1 (C := CE) (i := 2) rfl rfl takes0 ⟨rfl, by decide, .inl G.bk⟩ G.yes sc_told.nd rfl rfl (fun W pn xe tk po => ?_))
    refine bu_one (su_ret (eu_tup2 ev_str (eu_lenT T.len (eu_fld (eu_make mB tk (hr.mono (by decide)) (aw_av (av_cons (ev_var 0 rfl) (av_cons (ev_var 1 rfl) av_nil)) (fun y hy => ⟨y, M, tt, ss, rfl, hy, rfl, pT, pS, ?_⟩))) cB (nB _ (by simp))))))
    cases q : bookW tt ss with
    | none =>
      rw [q] at h
      intro M' fs le hy2 hl
      refine ⟨rfl, y, fs, _, rfl, hy2, hl, _, rfl, ?_⟩
      refine ⟨M', ?_, Mle.refl _⟩
      have := h M' le
      rw [List.length_map]
      exact this
    | some iz =>
      obtain ⟨z, i⟩ := iz
      rw [q] at h
      refine fun M1 le dx hdx => ⟨rfl, fun a oe pn hz hf => ?_⟩
      have hM : (M1.set dx (.xd [("number", optN i), ("part", dS z)])) dx = some (.xd [("number", optN i), ("part", dS z)]) := Mem.set_same
      have hd : ∀ x, some dx = some x → ∃ fs, (M1.set dx (.xd [("number", optN i), ("part", dS z)])) x = some (.xd fs) := fun x e => by
        cases e
        exact ⟨_, hM⟩
      exact bv_one (sv_ret (ev_tup (av_cons ev_str (av_cons (ev_xfld G.xf G.n1 hz hf (ev_var 2 rfl) hM rfl) (av_cons (ev_xfld G.xf G.n2 hz hf (ev_var 2 rfl) hM rfl) (av_cons (ev_isF (n := "wrong") (i := 2) (p3 := ⟨0, 0, 0, 0⟩) (cv := .ref S) (vc := .ref S) T.isinstance G.ec G.cl hz hf hd (fun u h => h) G.k1 (av_cons (ev_var 2 rfl) (av_cons (ev_glob rfl G.se rfl) av_nil))) av_nil))))) ⟨_, h _ (mle_new le (le_none le hdx)), Mle.refl _⟩)
end
/-! ### tests are drawn -/
def isNats (b v : Nat) (es : List D) : Prop := ∀ d ∈ es, ∃ k : Nat, d = nD k ∧ k < b ∧ k ≠ v
theorem isNats.snoc {b v : Nat} {es : List D} {k : Nat} (h : isNats b v es) (hk : k < b) (hne : k ≠ v) : isNats b v (es ++ [nD k]) := fun d hd => by
  rcases List.mem_append.mp hd with q | q
  · exact h d q
  · obtain rfl := List.mem_singleton.mp q
    exact ⟨k, rfl, hk, hne⟩
def HeiR (i : Int) : Prop := -200 ≤ i ∧ i ≤ 200
def TstR : Tst → Prop
  | .acc a => 0 ≤ a ∧ a ≤ 9
  | .beg v => v < 4
  | .sil v => v < 4
  | .loo v => v < 4
  | .leap v lo hi => v < 4 ∧ HeiR lo ∧ HeiR hi
  | .by_ v ivs => v < 4 ∧ ivs.length ≤ 12 ∧ ∀ t ∈ ivs, (-100 ≤ t.1 ∧ t.1 ≤ 100) ∧ (-100 ≤ t.2 ∧ t.2 ≤ 100)
  | .apart v s lo hi => (v < 4 ∧ s < 4 ∧ s ≠ v) ∧ HeiR lo ∧ HeiR hi
  | .cls v s ns => (v < 4 ∧ s < 4 ∧ s ≠ v) ∧ ns.length ≤ 12 ∧ ∀ n ∈ ns, 0 ≤ n ∧ n ≤ 11
  | .along v s => v < 4 ∧ s < 4 ∧ s ≠ v
  | .lasts l h => timesD (frD l) = true ∧ timesD (frD h) = true
theorem times_low : ∀ n ∈ List.range 9, ∀ m ∈ List.range 4, timesD (frD (low ((n : Nat) : Int) (1 + ((m : Nat) : Int)))) = true ∧ timesD (frD (addF (low ((n : Nat) : Int) (1 + ((m : Nat) : Int))) (1, 2))) = true := by decide +kernel
theorem times_at {n m : Int} (h1 : 0 ≤ n) (h2 : n ≤ 8) (h3 : 0 ≤ m) (h4 : m ≤ 3) : timesD (frD (low n (1 + m))) = true ∧ timesD (frD (addF (low n (1 + m)) (1, 2))) = true := by
  have := times_low n.toNat (List.mem_range.mpr (by omega)) m.toNat (List.mem_range.mpr (by omega))
  simp only [Int.toNat_of_nonneg h1, Int.toNat_of_nonneg h3] at this
  exact this
theorem whole_nat {v : Nat} {hi : Int} (h : (v : Int) ≤ hi) : wholeD 0 hi (nD v) = true := by
  show (decide ((0 : Int) ≤ (v : Int)) && decide ((v : Int) ≤ hi)) = true
  rw [decide_eq_true (by omega), decide_eq_true h]
  rfl
theorem whole_i {lo hi i : Int} (h1 : lo ≤ i) (h2 : i ≤ hi) : wholeD lo hi (dI i) = true := by
  show (decide (lo ≤ i) && decide (i ≤ hi)) = true
  rw [decide_eq_true h1, decide_eq_true h2]
  rfl
theorem tst_good : ∀ {t : Tst}, TstR t → isTestD (tstD t) = true
  | .acc a, h => by
    show (decide (1 = 1) && ((wholeD 0 9 (dI a) && true) && (!false || _))) = true
    rw [whole_i h.1 h.2]
    rfl
  | .beg v, h => by
    show (decide (1 = 1) && ((wholeD 0 3 (nD v) && true) && (!false || _))) = true
    rw [whole_nat (by have : v < 4 := h; omega)]
    rfl
  | .sil v, h => by
    show (decide (1 = 1) && ((wholeD 0 3 (nD v) && true) && (!false || _))) = true
    rw [whole_nat (by have : v < 4 := h; omega)]
    rfl
  | .loo v, h => by
    show (decide (1 = 1) && ((wholeD 0 3 (nD v) && true) && (!false || _))) = true
    rw [whole_nat (by have : v < 4 := h; omega)]
    rfl
  | .leap v lo hi, h => by
    obtain ⟨h1, h2, h3⟩ := h
    show (decide (3 = 3) && ((wholeD 0 3 (nD v) && (wholeD (-200) 200 (dI lo) && (wholeD (-200) 200 (dI hi) && true))) && (!false || _))) = true
    rw [whole_nat (by omega), whole_i h2.1 h2.2, whole_i h3.1 h3.2]
    rfl
  | .by_ v ivs, h => by
    obtain ⟨h1, h2, h3⟩ := h
    show (decide (2 = 2) && ((wholeD 0 3 (nD v) && ((true && (decide (((ivs.map frD).length : Int) ≤ 12) && (ivs.map frD).all toneD)) && true)) && (!false || _))) = true
    rw [whole_nat (by omega), List.length_map, decide_eq_true (show ((ivs.length : Nat) : Int) ≤ 12 by omega), show (ivs.map frD).all toneD = true from List.all_eq_true.mpr fun d hd => by
      obtain ⟨t, ht, rfl⟩ := List.mem_map.mp hd
      have := h3 t ht
      show ((true && decide (2 = 2)) && (wholeD (-1000) 1000 (dI t.1) && (wholeD (-1000) 1000 (dI t.2) && true))) = true
      rw [whole_i (by omega) (by omega), whole_i (by omega) (by omega)]
      rfl]
    rfl
  | .apart v s lo hi, h => by
    obtain ⟨⟨h1, h2, h0⟩, h3, h4⟩ := h
    show (decide (4 = 4) && ((wholeD 0 3 (nD v) && (wholeD 0 3 (nD s) && (wholeD (-200) 200 (dI lo) && (wholeD (-200) 200 (dI hi) && true)))) && (!true || !decide ((v : Int) = (s : Int))))) = true
    rw [whole_nat (by omega), whole_nat (by omega), whole_i h3.1 h3.2, whole_i h4.1 h4.2, decide_eq_false (show ¬ (v : Int) = (s : Int) by omega)]
    rfl
  | .cls v s ns, h => by
    obtain ⟨⟨h1, h2, h0⟩, h3, h4⟩ := h
    show (decide (3 = 3) && ((wholeD 0 3 (nD v) && (wholeD 0 3 (nD s) && ((true && (decide (((ns.map dI).length : Int) ≤ 12) && (ns.map dI).all (wholeD 0 11))) && true))) && (!true || !decide ((v : Int) = (s : Int))))) = true
    rw [whole_nat (by omega), whole_nat (by omega), List.length_map, decide_eq_true (show ((ns.length : Nat) : Int) ≤ 12 by omega), decide_eq_false (show ¬ (v : Int) = (s : Int) by omega), show (ns.map dI).all (wholeD 0 11) = true from List.all_eq_true.mpr fun d hd => by
      obtain ⟨t, ht, rfl⟩ := List.mem_map.mp hd
      exact whole_i (h4 t ht).1 (h4 t ht).2]
    rfl
  | .along v s, h => by
    obtain ⟨h1, h2, h0⟩ := h
    show (decide (2 = 2) && ((wholeD 0 3 (nD v) && (wholeD 0 3 (nD s) && true)) && (!true || !decide ((v : Int) = (s : Int))))) = true
    rw [whole_nat (by omega), whole_nat (by omega), decide_eq_false (show ¬ (v : Int) = (s : Int) by omega)]
    rfl
  | .lasts l u, h => by
    show (decide (2 = 2) && ((timesD (frD l) && (timesD (frD u) && true)) && (!false || _))) = true
    rw [h.1, h.2]
    rfl
section
variable {P : Program} {w : World} {K : PySem.W.Frag} {mg : Str → Option Value} {base : Heap} {f : Addr} {fd : FuncData}
def R_test (ds : List D) (M : Mem) (Φ : D → Mem → Prop) : Prop := ∃ (a : Addr) (p : Pool) (n : Nat), ds = [dP a, nD n] ∧ M a = some (Pool.mo p) ∧ p.Ok ∧ 1 ≤ n ∧ n ≤ 4 ∧ ∀ t : Tst, TstOk t → TstR t → Draw M a Φ (tstD t)
theorem tstOk_plain {t : Tst} (h1 : ∀ l h, t ≠ .lasts l h) (h2 : ∀ v ivs, t ≠ .by_ v ivs) (h3 : ∀ v s ns, t ≠ .cls v s ns) : TstOk t := ⟨fun l h e => absurd e (h1 l h), fun v ivs e => absurd e (h2 v ivs), fun v s ns e => absurd e (h3 v s ns)⟩
theorem c_test (F : Fun K "_law_test" "_law_test" s_test f fd) (hm : mg "_law_test" = some (.ref f)) (T : Bt mg) (c_take : Cal P w K mg base 2 "_law_take" (spW K R_take)) (c_pick : Cal P w K mg base 3 "_law_pick" (spW K R_pick)) (c_interval : Cal P w K mg base 3 "_law_interval" (spW K R_interval)) (c_lowest : Cal P w K mg base 1 "_law_lowest" (spD K PrLow)) (c_sum : Cal P w K mg base 2 "_law_sum" (spD K PrSum)) : Cal P w K mg base 4 "_law_test" (spW K R_test) := by
  refine calW_of F sc_test hm (fun _ _ _ _ _ _ us hl => match us, hl with | [_, _], _ => rfl) (fun ds M Φ h => ?_) fun cdv A outer s H E ds M Φ hr h => ?_
  · obtain ⟨a, p, n, rfl, _⟩ := h
    rfl
  · obtain ⟨a, p, n, rfl, hA, ok, n1, n4, hΦ⟩ := h
    show BV _ _ [some (dP a), some (nD n), none, none, none, none, none, none] _ _
    refine bv_cons (sw_set 2 sc_test.nd ?_)
    refine ew_callW c_pick (hr.mono (by decide)) (aw_av (av_cons (ev_var 0 rfl) (av_cons (ev_lst (av_cons ev_str (av_cons ev_str (av_cons ev_str (av_cons ev_str (av_cons ev_str (av_cons ev_str (av_cons ev_str (av_cons ev_str (av_cons ev_str (av_cons ev_str (av_cons ev_str (av_cons ev_str av_nil))))))))))))) av_nil)) ⟨a, p, true, _, rfl, hA, ok, by (simp only [List.length_cons, List.length_nil]; decide), by (simp only [List.length_cons, List.length_nil]; decide), fun d1 g1 p1 ok1 M1 fr1 hA1 => ?_⟩)
    obtain ⟨wd, rfl⟩ : ∃ wd : Str, d1 = dS wd := by
      simp only [List.mem_cons, List.not_mem_nil, or_false] at g1
      rcases g1 with rfl | rfl | rfl | rfl | rfl | rfl | rfl | rfl | rfl | rfl | rfl | rfl <;> exact ⟨_, rfl⟩
    have hwd : wd = "accent" ∨ wd = "begins" ∨ wd = "silent" ∨ wd = "loose" ∨ wd = "leap" ∨ wd = "by" ∨ wd = "apart" ∨ wd = "class" ∨ wd = "along" ∨ wd = "lasts" := by
      simp only [List.mem_cons, List.not_mem_nil, or_false, D.val.injEq, V.str.injEq] at g1
      rcases g1 with h | h | h | h | h | h | h | h | h | h | h | h <;> simp [h]
    clear g1
    show BV _ _ [some (dP a), some (nD n), some (dS wd), none, none, none, none, none] _ _
    refine bv_cons (sv_join (fun ρ M2 => ∃ (v : Nat) (q : Pool), ρ = [some (dP a), some (nD n), some (dS wd), some (nD v), none, none, none, none] ∧ v < 4 ∧ Fr1 a M1 M2 ∧ M2 a = some (Pool.mo q) ∧ q.Ok) (sw_set 3 sc_test.nd ?_) ?_)
    · refine ew_if ?_
      refine tw_cmp op_gt ?_ (nomark _)
      refine ew_callW c_take (hr.mono (by decide)) (aw_av (av_cons (ev_var 0 rfl) (av_cons ev_int av_nil)) ⟨a, p1, _, rfl, hA1, ok1, by decide, by decide, fun n2 lo2 hi2 p2 ok2 M2 fr2 hA2 => ⟨_, rfl, ?_⟩⟩)
      refine ew_ev ev_int ⟨_, _, rfl, rs_I0, ⟨fun h => ?_, fun h => ?_⟩⟩
      · refine ew_callW c_take (hr.mono (by decide)) (aw_av (av_cons (ev_var 0 rfl) (av_cons (ev_var 1 rfl) av_nil)) ⟨a, p2, _, rfl, hA2, ok2, by omega, by omega, fun n3 lo3 hi3 p3 ok3 M3 fr3 hA3 => ?_⟩)
        refine ⟨n3.toNat, p3, ?_, by omega, fr2.trans fr3, hA3, ok3⟩
        rw [show (dI n3 : D) = nD n3.toNat by (show dI n3 = dI ((n3.toNat : Nat) : Int); rw [Int.toNat_of_nonneg lo3])]
        rfl
      · refine ew_callW c_take (hr.mono (by decide)) (aw_av (av_cons (ev_var 0 rfl) (av_cons ev_int av_nil)) ⟨a, p2, _, rfl, hA2, ok2, by decide, by decide, fun n3 lo3 hi3 p3 ok3 M3 fr3 hA3 => ?_⟩)
        refine ⟨n3.toNat, p3, ?_, by omega, fr2.trans fr3, hA3, ok3⟩
        rw [show (dI n3 : D) = nD n3.toNat by (show dI n3 = dI ((n3.toNat : Nat) : Int); rw [Int.toNat_of_nonneg lo3])]
        rfl
    rintro ρ M2 ⟨v, p2, rfl, hv, fr2, hA2, ok2⟩
    have fr2 := fr1.trans fr2
    clear fr1 hA1 ok1 p1
    -- second
    refine bv_cons (sv_join (fun ρ M3 => ∃ (x : Nat) (q : Pool), ρ = [some (dP a), some (nD n), some (dS wd), some (nD v), some (nD x), none, none, none] ∧ (x < 4 ∧ x ≠ v) ∧ Fr1 a M2 M3 ∧ M3 a = some (Pool.mo q) ∧ q.Ok) (sw_set 4 sc_test.nd ?_) ?_)
    · refine ew_callW c_pick (hr.mono (by decide)) (aw_cons (ew_ev (ev_var 0 rfl) (aw_cons (ew_catL ?_))))
      refine ew_lcF (own := [("k", 5)]) (g := gName 5) rfl sc_test.nd (blkOk_by (N := ["pool", "voices", "word", "voice", "second", "k", "low", "high"]) (sc := defScope s_test) (by decide +kernel)) (fun _ _ _ _ _ => (pg_name (i := 5) sc_test.nd rfl (.inl rfl))) ?_
      refine iw_iv (iv_range1 T.range ev_int (by decide)) ⟨by (show (4 : Nat) ≤ sizeLine; decide), fun i acc M3 => isNats 4 v acc ∧ acc.length ≤ i ∧ (2 ≤ n → (if v = 0 then 1 else 0) < i → acc ≠ []) ∧ ∃ q : Pool, Fr1 a M2 M3 ∧ M3 a = some (Pool.mo q) ∧ q.Ok, ⟨fun d hd => (nomatch hd), Nat.le_refl _, fun _ h => absurd h (Nat.not_lt_zero _), p2, Fr1.refl _ _, hA2, ok2⟩, fun i d acc M3 hd hacc iv => ?_, fun acc M3 hacc iv q hq => ?_⟩
      · obtain ⟨ia, il, ie, p3, fr3, hA3, ok3⟩ := iv
        obtain ⟨hi, rfl⟩ := rgD_get hd
        have hi4 : i < 4 := hi
        refine ⟨_, tgb_name, fun q hq s H C cl fp => ?_⟩
        have hAq : (M3.set q (.lst acc)) a = some (Pool.mo p3) := Mem.set_at hA3 hq
        show TW _ _ [some (dP a), some (nD n), some (dS wd), some (nD v), none, some (dI (0 + (i : Nat))), none, none] _ _
        refine PW.pt (ww_and (tw_tv (tv_cmpR op_ne (ev_var 5 rfl) (ev_var 3 rfl) rs_neI (nomark _)) ⟨fun h1 => ?_, fun h1 => ?_⟩))
        · have hne : i ≠ v := by
            intro e
            subst e
            simp at h1
          refine ww_one_and (PW.pt (ww_or (tw_tv (tv_cmpR op_lt (ev_var 5 rfl) (ev_var 1 rfl) rs_I0 (nomark _)) ⟨fun h2 => ?_, fun h2 => ?_⟩)))
          · refine ww_or (tw_tv (tv_cmpR op_eq (ev_var 1 rfl) ev_int rs_eqI (nomark _)) ⟨fun h3 => ?_, fun h3 => ?_⟩)
            · refine ww_one_or (tw_cmp op_eq ?_ (nomark _))
              refine ew_callW c_take (hr.mono (by decide)) (aw_av (av_cons (ev_var 0 rfl) (av_cons ev_int av_nil)) ⟨a, p3, _, rfl, hAq, ok3, by decide, by decide, fun n4 lo4 hi4' p4 ok4 M4 fr4 hA4 => ⟨_, rfl, ?_⟩⟩)
              obtain ⟨e4, hq4, fr4, hb⟩ := lc_back hA3 hq fr4
              have hb := hb _ hA4
              have keep : 2 ≤ n → (if v = 0 then 1 else 0) < i + 1 → acc ≠ [] := fun a1 a2 => ie a1 (by
                have h2 := of_decide_eq_false h2
                split at a2 <;> split <;> omega)
              refine ew_ev ev_int ⟨_, _, rfl, rs_eqI, _, e4, hq4, fun _ => ⟨ia, by omega, keep, p4, fr3.trans fr4, hb, ok4⟩, fun _ s H C cl fp => ?_⟩
              refine ew_ev (ev_var 5 rfl) ⟨_, rfl, hq4, ?_⟩
              refine ⟨?_, by rw [List.length_append]; exact Nat.succ_le_succ il, fun _ _ => by simp, p4, fr3.trans fr4, hb, ok4⟩
              rw [show (dI (0 + (i : Nat)) : D) = nD i by rw [Int.zero_add]]
              exact ia.snoc hi4 hne
            · have h3 := of_decide_eq_true h3
              refine ⟨_, rfl, hq, fun h => (nomatch h), fun _ s H C cl fp => ?_⟩
              refine ew_ev (ev_var 5 rfl) ⟨_, rfl, hq, ?_⟩
              refine ⟨?_, by rw [List.length_append]; exact Nat.succ_le_succ il, fun _ _ => by simp, p3, fr3, hA3, ok3⟩
              rw [show (dI (0 + (i : Nat)) : D) = nD i by rw [Int.zero_add]]
              exact ia.snoc hi4 hne
          · refine ⟨_, rfl, hq, fun h => (nomatch h), fun _ s H C cl fp => ?_⟩
            refine ew_ev (ev_var 5 rfl) ⟨_, rfl, hq, ?_⟩
            refine ⟨?_, by rw [List.length_append]; exact Nat.succ_le_succ il, fun _ _ => by simp, p3, fr3, hA3, ok3⟩
            rw [show (dI (0 + (i : Nat)) : D) = nD i by rw [Int.zero_add]]
            exact ia.snoc hi4 hne
        · have he : i = v := by
            simp at h1
            omega
          refine ⟨_, rfl, hq, fun _ => ⟨ia, by omega, fun a1 a2 => ie a1 ?_, p3, fr3, hA3, ok3⟩, fun h => (nomatch h)⟩
          split at a2 <;> split <;> omega
      · obtain ⟨ia, il, ie, p3, fr3, hA3, ok3⟩ := iv
        refine ⟨q, acc, rfl, Mem.set_same, ?_⟩
        have hA3' : (M3.set q (.lst acc)) a = some (Pool.mo p3) := Mem.set_at hA3 hq
        have fr3' : Fr1 a M2 (M3.set q (.lst acc)) := fr3.trans ((Fr1.refl _ _).new hq)
        have l2 : ∀ z : D, (List.replicate (if decide ((n : Int) = 1) = true then (1 : Int) else 0).toNat [z]).flatten.length ≤ 1 := fun z => by
          split
          · exact Nat.le_refl 1
          · exact Nat.zero_le 1
        refine ew_mulN ?_
        refine ew_lstN (aw_av (av_cons (ev_op op_mod (ev_op op_add (ev_var 3 rfl) ev_int rs_I0) ev_int (rs_I (by decide))) av_nil) ⟨by (simp only [List.length_cons, List.length_nil]; decide), fun l hl => ⟨l, _, rfl, Mem.set_same, ?_⟩⟩)
        have qb : ((M3.set q (.lst acc)).set l (.lst [dI ((((v : Nat) : Int) + 1) % 4)])) q = some (.lst acc) := Mem.set_at Mem.set_same hl
        have ab : ((M3.set q (.lst acc)).set l (.lst [dI ((((v : Nat) : Int) + 1) % 4)])) a = some (Pool.mo p3) := Mem.set_at hA3' hl
        have frb : Fr1 a M2 ((M3.set q (.lst acc)).set l (.lst [dI ((((v : Nat) : Int) + 1) % 4)])) := fr3'.trans ((Fr1.refl _ _).new hl)
        have e4 : (dI ((((v : Nat) : Int) + 1) % 4) : D) = nD ((v + 1) % 4) := by
          show dI _ = dI _
          congr 2
        refine ew_ev (ev_intB T.int (ev_cmpR op_eq (ev_var 1 rfl) ev_int rs_eqI (nomark _))) ⟨_, rfl, Mem.set_same, by split <;> omega, by split <;> omega, by (split <;> (simp only [List.length_cons, List.length_nil]; decide)), fun m hm' => ⟨m, _, rfl, Mem.set_at qb hm', Mem.set_same, ?_, ?_⟩⟩
        · have l1 : acc.length ≤ 4 := il
          exact Nat.le_trans (Nat.add_le_add l1 (l2 _)) (by decide)
        · have rep : ∀ d ∈ (List.replicate (if decide ((n : Int) = 1) = true then (1 : Int) else 0).toNat [dI ((((v : Nat) : Int) + 1) % 4)]).flatten, ∃ k : Nat, d = nD k ∧ k < 4 ∧ k ≠ v := fun d hd => by
            split at hd
            · have hd : d ∈ [dI ((((v : Nat) : Int) + 1) % 4)] := by simpa using hd
              obtain rfl := List.mem_singleton.mp hd
              exact ⟨_, e4, Nat.mod_lt _ (by decide), by omega⟩
            · simp at hd
          refine aw_nil ⟨a, p3, true, _, rfl, Mem.set_at ab hm', ok3, ?_, ?_, fun d hd p4 ok4 M4 fr4 hA4 => ?_⟩
          · rw [List.length_append]
            by_cases h1 : n = 1
            · subst h1
              show 0 < _ + 1
              omega
            · have := List.length_pos_iff.mpr (ie (by omega) (by show _ < 4; split <;> decide))
              omega
          · rw [List.length_append]
            have l1 : acc.length ≤ 4 := il
            exact Nat.lt_of_le_of_lt (Nat.add_le_add l1 (l2 _)) (by decide)
          · obtain ⟨x, rfl, hx⟩ : ∃ k : Nat, d = nD k ∧ k < 4 ∧ k ≠ v := by
              rcases List.mem_append.mp hd with h | h
              · exact ia d h
              · exact rep d h
            exact ⟨x, p4, rfl, hx, (frb.trans ((Fr1.refl _ _).new hm')).trans fr4, hA4, ok4⟩
    rintro ρ M3 ⟨x, p3, rfl, hx, fr3, hA3, ok3⟩
    have fr3 := fr2.trans fr3
    clear fr2 hA2 ok2 p2
    refine bv_cons (sw_set 6 sc_test.nd ?_)
    refine ew_op op_sub ?_
    refine ew_callW c_take (hr.mono (by decide)) (aw_av (av_cons (ev_var 0 rfl) (av_cons ev_int av_nil)) ⟨a, p3, _, rfl, hA3, ok3, by decide, by decide, fun n4 lo4 hi4 p4 ok4 M4 fr4 hA4 => ⟨_, rfl, ?_⟩⟩)
    refine ew_ev ev_int ⟨_, _, rfl, rs_I0, ?_⟩
    refine bv_cons (sw_set 7 sc_test.nd ?_)
    refine ew_op op_add ?_
    refine ew_ev (ev_var 6 rfl) ⟨_, rfl, ?_⟩
    refine ew_callW c_take (hr.mono (by decide)) (aw_av (av_cons (ev_var 0 rfl) (av_cons ev_int av_nil)) ⟨a, p4, _, rfl, hA4, ok4, by decide, by decide, fun n5 lo5 hi5 p5 ok5 M5 fr5 hA5 => ⟨_, _, rfl, rs_I0, ?_⟩⟩)
    have fr := (fr3.trans fr4).trans fr5
    have rlo : HeiR (n4 - 20) := ⟨by omega, by omega⟩
    have rhi : HeiR (n4 - 20 + n5) := ⟨by omega, by omega⟩
    generalize hlo : n4 - 20 = lo at rlo rhi
    generalize hhi : lo + n5 = hi at rhi
    show BV _ _ [some (dP a), some (nD n), some (dS wd), some (nD v), some (nD x), none, some (dI lo), some (dI hi)] _ _
    refine bv_cons (sv_if (tv_cmpR op_eq (ev_var 2 rfl) ev_str rs_eqS (nomark _)) (fun h1 => ?_) (fun h1 => bv_nil ?_))
    · refine bv_one (sw_ret ?_)
      refine ew_tup ?_
      refine aw_cons ?_
      refine ew_ev ev_str ?_
      refine aw_cons ?_
      refine ew_if ?_
      refine tw_cmp op_eq ?_ (nomark _)
      refine ew_callW c_take (hr.mono (by decide)) (aw_av (av_cons (ev_var 0 rfl) (av_cons ev_int av_nil)) ⟨a, p5, _, rfl, hA5, ok5, by decide, by decide, fun n6 lo6 hi6 p6 ok6 M6 fr6 hA6 => ⟨_, rfl, ?_⟩⟩)
      refine ew_ev ev_int ⟨_, _, rfl, rs_eqI, ⟨fun h => ?_, fun h => ?_⟩⟩
      · refine ew_callW c_take (hr.mono (by decide)) (aw_av (av_cons (ev_var 0 rfl) (av_cons ev_int av_nil)) ⟨a, p6, _, rfl, hA6, ok6, by decide, by decide, fun n7 lo7 hi7 p7 ok7 M7 fr7 hA7 => ?_⟩)
        exact aw_nil ⟨by (simp only [List.length_cons, List.length_nil]; decide), _, hΦ (.acc n7) (tstOk_plain (fun _ _ h => nomatch h) (fun _ _ h => nomatch h) (fun _ _ _ h => nomatch h)) ⟨by omega, by omega⟩ p7 ok7 _ ((fr.trans fr6).trans fr7) hA7, Mle.refl _⟩
      · refine ew_ev ev_int ?_
        exact aw_nil ⟨by (simp only [List.length_cons, List.length_nil]; decide), _, hΦ (.acc 0) (tstOk_plain (fun _ _ h => nomatch h) (fun _ _ h => nomatch h) (fun _ _ _ h => nomatch h)) ⟨by decide, by decide⟩ p6 ok6 _ (fr.trans fr6) hA6, Mle.refl _⟩
    refine bv_cons (sv_if (tv_cmpR op_eq (ev_var 2 rfl) ev_str rs_eqS (nomark _)) (fun h2 => ?_) (fun h2 => bv_nil ?_))
    · exact bv_one (sv_ret (ev_tup (av_cons ev_str (av_cons (ev_var 3 rfl) (av_cons (ev_var 6 rfl) (av_cons (ev_var 7 rfl) av_nil))))) ⟨_, hΦ (.leap v lo hi) (tstOk_plain (fun _ _ h => nomatch h) (fun _ _ h => nomatch h) (fun _ _ _ h => nomatch h)) ⟨hv, rlo, rhi⟩ p5 ok5 _ fr hA5, Mle.refl _⟩)
    refine bv_cons (sv_if (tv_cmpR op_eq (ev_var 2 rfl) ev_str rs_eqS (nomark _)) (fun h3 => ?_) (fun h3 => bv_nil ?_))
    · refine bv_one (sw_ret ?_)
      refine ew_tup ?_
      refine aw_cons ?_
      refine ew_ev ev_str ?_
      refine aw_cons ?_
      refine ew_ev (ev_var 3 rfl) ?_
      refine aw_cons ?_
      refine ew_tupOf T.tuple ?_
      refine ew_lc (own := [("k", 5)]) (g := gName 5) rfl sc_test.nd (blkOk_by (N := ["pool", "voices", "word", "voice", "second", "k", "low", "high"]) (sc := defScope s_test) (by decide +kernel)) (fun _ _ _ _ _ => (pg_name (i := 5) sc_test.nd rfl (.inl rfl))) ?_
      refine iw_range1 T.range ?_
      refine ew_callW c_take (hr.mono (by decide)) (aw_av (av_cons (ev_var 0 rfl) (av_cons ev_int av_nil)) ⟨a, p5, _, rfl, hA5, ok5, by decide, by decide, fun n6 lo6 hi6 p6 ok6 M6 fr6 hA6 => ⟨_, rfl, by omega, ⟨by (rw [rgD_len]; exact Nat.le_trans (show n6.toNat ≤ 13 by omega) (by decide)), fun i acc M => ∃ (ivs : List Tn) (q : Pool), acc = ivs.map frD ∧ (∀ t ∈ ivs, (-100 ≤ t.1 ∧ t.1 ≤ 100) ∧ (-100 ≤ t.2 ∧ t.2 ≤ 100)) ∧ Fr1 a M6 M ∧ M a = some (Pool.mo q) ∧ q.Ok, ⟨[], p6, rfl, (fun _ h => nomatch h), Fr1.refl _ _, hA6, ok6⟩, fun i d acc M hd hacc iv => ?_, fun acc M hacc iv => ?_⟩⟩⟩)
      · obtain ⟨ivs, q, rfl, hiv, frq, hAq, okq⟩ := iv
        refine ⟨_, tgb_name, fun z hz s H C cl fp => ?_⟩
        refine ew_callW c_interval (hr.mono (by decide)) (aw_av (av_cons (ev_var 0 rfl) av_nil) ⟨a, q, rfl, Mem.set_at hAq hz, okq, fun u u1 u2 p7 ok7 M7 fr7 hA7 => ?_⟩)
        obtain ⟨e7, hz7, fr7', hb⟩ := lc_back hAq hz fr7
        exact ⟨_, e7, hz7, ivs ++ [u], p7, by rw [List.map_append]; rfl, (fun t ht => by
          rcases List.mem_append.mp ht with q | q
          · exact hiv t q
          · obtain rfl := List.mem_singleton.mp q
            exact ⟨u1, u2⟩), frq.trans fr7', hb _ hA7, ok7⟩
      · obtain ⟨ivs, q, rfl, hiv, frq, hAq, okq⟩ := iv
        refine ⟨true, _, rfl, ?_⟩
        refine aw_nil ⟨by (simp only [List.length_cons, List.length_nil]; decide), _, hΦ (.by_ v ivs) ⟨fun _ _ h => (nomatch h), fun v' ivs' h => by cases h; rw [List.length_map, rgD_len] at hacc; omega, fun _ _ _ h => (nomatch h)⟩ ⟨hv, by rw [List.length_map, rgD_len] at hacc; omega, hiv⟩ q okq _ ((fr.trans fr6).trans frq) hAq, Mle.refl _⟩
    refine bv_cons (sv_if (tv_cmpR op_eq (ev_var 2 rfl) ev_str rs_eqS (nomark _)) (fun h4 => ?_) (fun h4 => bv_nil ?_))
    · exact bv_one (sv_ret (ev_tup (av_cons ev_str (av_cons (ev_var 3 rfl) (av_cons (ev_var 4 rfl) (av_cons (ev_var 6 rfl) (av_cons (ev_var 7 rfl) av_nil)))))) ⟨_, hΦ (.apart v x lo hi) (tstOk_plain (fun _ _ h => nomatch h) (fun _ _ h => nomatch h) (fun _ _ _ h => nomatch h)) ⟨⟨hv, hx⟩, rlo, rhi⟩ p5 ok5 _ fr hA5, Mle.refl _⟩)
    refine bv_cons (sv_if (tv_cmpR op_eq (ev_var 2 rfl) ev_str rs_eqS (nomark _)) (fun h5 => ?_) (fun h5 => bv_nil ?_))
    · refine bv_one (sw_ret ?_)
      refine ew_tup ?_
      refine aw_cons ?_
      refine ew_ev ev_str ?_
      refine aw_cons ?_
      refine ew_ev (ev_var 3 rfl) ?_
      refine aw_cons ?_
      refine ew_ev (ev_var 4 rfl) ?_
      refine aw_cons ?_
      refine ew_tupOf T.tuple ?_
      refine ew_lc (own := [("k", 5)]) (g := gName 5) rfl sc_test.nd (blkOk_by (N := ["pool", "voices", "word", "voice", "second", "k", "low", "high"]) (sc := defScope s_test) (by decide +kernel)) (fun _ _ _ _ _ => (pg_name (i := 5) sc_test.nd rfl (.inl rfl))) ?_
      refine iw_range1 T.range ?_
      refine ew_callW c_take (hr.mono (by decide)) (aw_av (av_cons (ev_var 0 rfl) (av_cons ev_int av_nil)) ⟨a, p5, _, rfl, hA5, ok5, by decide, by decide, fun n6 lo6 hi6 p6 ok6 M6 fr6 hA6 => ⟨_, rfl, by omega, ⟨by (rw [rgD_len]; exact Nat.le_trans (show n6.toNat ≤ 13 by omega) (by decide)), fun i acc M => ∃ (ns : List Int) (q : Pool), acc = ns.map dI ∧ (∀ n ∈ ns, 0 ≤ n ∧ n ≤ 11) ∧ Fr1 a M6 M ∧ M a = some (Pool.mo q) ∧ q.Ok, ⟨[], p6, rfl, (fun _ h => nomatch h), Fr1.refl _ _, hA6, ok6⟩, fun i d acc M hd hacc iv => ?_, fun acc M hacc iv => ?_⟩⟩⟩)
      · obtain ⟨ns, q, rfl, hiv, frq, hAq, okq⟩ := iv
        refine ⟨_, tgb_name, fun z hz s H C cl fp => ?_⟩
        refine ew_callW c_take (hr.mono (by decide)) (aw_av (av_cons (ev_var 0 rfl) (av_cons ev_int av_nil)) ⟨a, q, _, rfl, Mem.set_at hAq hz, okq, by decide, by decide, fun u u1 u2 p7 ok7 M7 fr7 hA7 => ?_⟩)
        obtain ⟨e7, hz7, fr7', hb⟩ := lc_back hAq hz fr7
        exact ⟨_, e7, hz7, ns ++ [u], p7, by rw [List.map_append]; rfl, (fun t ht => by
          rcases List.mem_append.mp ht with q | q
          · exact hiv t q
          · obtain rfl := List.mem_singleton.mp q
            exact ⟨by omega, by omega⟩), frq.trans fr7', hb _ hA7, ok7⟩
      · obtain ⟨ns, q, rfl, hiv, frq, hAq, okq⟩ := iv
        refine ⟨true, _, rfl, ?_⟩
        refine aw_nil ⟨by (simp only [List.length_cons, List.length_nil]; decide), _, hΦ (.cls v x ns) ⟨fun _ _ h => (nomatch h), fun _ _ h => (nomatch h), fun v' s' ns' h => by cases h; rw [List.length_map, rgD_len] at hacc; omega⟩ ⟨⟨hv, hx⟩, by rw [List.length_map, rgD_len] at hacc; omega, hiv⟩ q okq _ ((fr.trans fr6).trans frq) hAq, Mle.refl _⟩
    refine bv_cons (sv_if (tv_cmpR op_eq (ev_var 2 rfl) ev_str rs_eqS (nomark _)) (fun h6 => ?_) (fun h6 => bv_nil ?_))
    · exact bv_one (sv_ret (ev_tup (av_cons ev_str (av_cons (ev_var 3 rfl) (av_cons (ev_var 4 rfl) av_nil)))) ⟨_, hΦ (.along v x) (tstOk_plain (fun _ _ h => nomatch h) (fun _ _ h => nomatch h) (fun _ _ _ h => nomatch h)) ⟨hv, hx⟩ p5 ok5 _ fr hA5, Mle.refl _⟩)
    refine bv_cons (sv_if (tv_cmpR op_eq (ev_var 2 rfl) ev_str rs_eqS (nomark _)) (fun h7 => ?_) (fun h7 => bv_nil ?_))
    · refine bv_cons (sw_set 6 sc_test.nd ?_)
      refine ew_callD c_lowest (hr.mono (by decide)) ?_
      refine aw_cons ?_
      refine ew_callW c_take (hr.mono (by decide)) (aw_av (av_cons (ev_var 0 rfl) (av_cons ev_int av_nil)) ⟨a, p5, _, rfl, hA5, ok5, by decide, by decide, fun n6 lo6 hi6 p6 ok6 M6 fr6 hA6 => ?_⟩)
      refine aw_cons ?_
      refine ew_op op_add ?_
      refine ew_ev ev_int ⟨_, rfl, ?_⟩
      refine ew_callW c_take (hr.mono (by decide)) (aw_av (av_cons (ev_var 0 rfl) (av_cons ev_int av_nil)) ⟨a, p6, _, rfl, hA6, ok6, by decide, by decide, fun n7 lo7 hi7 p7 ok7 M7 fr7 hA7 => ⟨_, _, rfl, rs_I0, ?_⟩⟩)
      refine aw_nil ⟨_, _, low_at (by omega) (bd_small (by omega) (by decide)) (bd_small (by omega) (by decide)), ?_⟩
      have lw : (low n6 (1 + n7)).2 > 0 := low_den (by omega)
      have lb : Bd 20 (low n6 (1 + n7)).1 ∧ Bd 20 (low n6 (1 + n7)).2 := ⟨low_bd1 (Bd.of (m := 100000) (k := 20) (by omega) (by decide)), low_bd2 (Bd.of (m := 100000) (k := 20) (by omega) (by decide))⟩
      have tl := times_at (n := n6) (m := n7) (by omega) (by omega) (by omega) (by omega)
      generalize low n6 (1 + n7) = l at lw lb tl ⊢
      have frl := (fr.trans fr6).trans fr7
      refine bv_one (sw_ret ?_)
      refine ew_tup ?_
      refine aw_cons ?_
      refine ew_ev ev_str ?_
      refine aw_cons ?_
      refine ew_ev (ev_var 6 rfl) ?_
      refine aw_cons ?_
      refine ew_callW c_pick (hr.mono (by decide)) (aw_av (av_cons (ev_var 0 rfl) (av_cons (ev_lst (av_cons (ev_var 6 rfl) (av_cons (ev_tup (av_cons ev_int (av_cons ev_int av_nil))) (av_cons (ev_tup (av_cons ev_int (av_cons ev_int av_nil))) (av_cons (ev_call c_sum (hr.mono (by decide)) (av_cons (ev_var 6 rfl) (av_cons (ev_tup (av_cons ev_int (av_cons ev_int av_nil))) av_nil)) ⟨l, (1, 2), rfl, ⟨lw, lb.1.mono (by decide), lb.2.mono (by decide)⟩, ⟨by decide, Bd.of (m := 10) (k := 60) (by decide) (by decide), Bd.of (m := 10) (k := 60) (by decide) (by decide)⟩, rfl, rfl⟩) av_nil))))) av_nil)) ⟨a, p7, true, _, rfl, hA7, ok7, by (simp only [List.length_cons, List.length_nil]; decide), by (simp only [List.length_cons, List.length_nil]; decide), fun d8 g8 p8 ok8 M8 fr8 hA8 => ?_⟩)
      obtain ⟨u, rfl, ut, ub⟩ : ∃ u : Tn, d8 = frD u ∧ timesD (frD u) = true ∧ Bd 40 u.1 ∧ Bd 40 u.2 := by
        simp only [List.mem_cons, List.not_mem_nil, or_false] at g8
        rcases g8 with rfl | rfl | rfl | rfl
        · exact ⟨l, rfl, tl.1, lb.1.mono (by decide), lb.2.mono (by decide)⟩
        · exact ⟨(1, 1), rfl, by decide +kernel, Bd.of (m := 10) (k := 40) (by decide) (by decide), Bd.of (m := 10) (k := 40) (by decide) (by decide)⟩
        · exact ⟨(1000, 1), rfl, by decide +kernel, Bd.of (m := 10000) (k := 40) (by decide) (by decide), Bd.of (m := 10) (k := 40) (by decide) (by decide)⟩
        · have d2 : 0 < l.2 * 2 := by omega
          have b1 : Bd 30 (l.1 * 2 + 1 * l.2) := (((lb.1.mul (Bd.of (m := 4) (k := 3) (by omega) (by decide))).add (((Bd.of (m := 4) (k := 3) (by omega) (by decide)).mul lb.2).mono (by decide)))).mono (by decide)
          have b2 : Bd 30 (l.2 * 2) := (lb.2.mul (Bd.of (m := 4) (k := 3) (by omega) (by decide))).mono (by decide)
          exact ⟨addF l (1, 2), rfl, tl.2, (low_bd1 b1).mono (by decide), (low_bd2 b2).mono (by decide)⟩
      exact aw_nil ⟨by (simp only [List.length_cons, List.length_nil]; decide), _, hΦ (.lasts l u) ⟨fun l' h' e => by cases e; exact ⟨⟨lb.1.mono (by decide), lb.2.mono (by decide)⟩, ub⟩, fun _ _ h => (nomatch h), fun _ _ _ h => (nomatch h)⟩ ⟨tl.1, ut⟩ p8 ok8 _ (frl.trans fr8) hA8, Mle.refl _⟩
    have h1 := of_decide_eq_false h1
    have h2 := of_decide_eq_false h2
    have h3 := of_decide_eq_false h3
    have h4 := of_decide_eq_false h4
    have h5 := of_decide_eq_false h5
    have h6 := of_decide_eq_false h6
    have h7 := of_decide_eq_false h7
    rcases hwd with rfl | rfl | rfl | rfl | rfl | rfl | rfl | rfl | rfl | rfl
    · exact absurd rfl h1
    · exact bv_one (sv_ret (ev_tup (av_cons (ev_var 2 rfl) (av_cons (ev_var 3 rfl) av_nil))) ⟨_, hΦ (.beg v) (tstOk_plain (fun _ _ h => nomatch h) (fun _ _ h => nomatch h) (fun _ _ _ h => nomatch h)) hv p5 ok5 _ fr hA5, Mle.refl _⟩)
    · exact bv_one (sv_ret (ev_tup (av_cons (ev_var 2 rfl) (av_cons (ev_var 3 rfl) av_nil))) ⟨_, hΦ (.sil v) (tstOk_plain (fun _ _ h => nomatch h) (fun _ _ h => nomatch h) (fun _ _ _ h => nomatch h)) hv p5 ok5 _ fr hA5, Mle.refl _⟩)
    · exact bv_one (sv_ret (ev_tup (av_cons (ev_var 2 rfl) (av_cons (ev_var 3 rfl) av_nil))) ⟨_, hΦ (.loo v) (tstOk_plain (fun _ _ h => nomatch h) (fun _ _ h => nomatch h) (fun _ _ _ h => nomatch h)) hv p5 ok5 _ fr hA5, Mle.refl _⟩)
    · exact absurd rfl h2
    · exact absurd rfl h3
    · exact absurd rfl h4
    · exact absurd rfl h5
    · exact absurd rfl h6
    · exact absurd rfl h7
end
/-! ### books are drawn -/
section
variable {X : Cx} {ρ : Sl} {M : Mem} {a b : Expr} {pos : Pos} {Φ : D → Mem → Prop}
theorem op_repTT : OpR X (binaryOp .Mult) (fun x y H Q => (rRepT X.K) x y H Q ∨ (rRep1 X.K) x y H Q) := by
  intro pins s σ H x y v u Q I rx ry h
  rcases h with h | h
  · exact op_repT pins s σ H x y v u Q I rx ry h
  · exact op_rep1 pins s σ H x y v u Q I rx ry h
theorem ew_mulT (h : EW X a ρ M (fun d1 M1 => ∃ ds, d1 = .tup ds ∧ ds ≠ [] ∧ ds.length ≤ 1000 ∧ EW X b ρ M1 (fun d2 M2 => ∃ k : Int, d2 = dI k ∧ (-1000 ≤ k ∧ k ≤ 1000) ∧ Φ (.tup (List.replicate k.toNat ds).flatten) M2))) : EW X (.BinOp a .Mult b pos) ρ M Φ :=
  (pe_op op_repTT h pk_e).mono fun σ H Q ⟨G, sa, kk⟩ => ⟨G, sa, fun v1 G1 H1 d1 M1 ⟨ds, e1, hne, hl, h2⟩ g1 sh1 r1 => ⟨M1, _, h2, G1, ⟨sh1, sa.sl.up g1⟩, fun v2 G2 H2 d2 M2 ⟨k, e2, hk, q0⟩ g2 sh2 r2 => by
    subst e1 e2
    have ne {G : Hp} {vs : List V} (r : RepL X.K G vs ds) : vs ≠ [] := fun e => by
      rw [e] at r
      cases r
      exact hne rfl
    cases r1 with
    | tup q r =>
      by_cases h2 : 2 ≤ k
      · refine .inl ⟨_, k, _, rfl, r2.of_val, sqtUp sh2.le (sqtUp g2 q), ne r, h2, hk.2, by rw [r.len]; exact hl, fun p hp => ?_⟩
        obtain ⟨sh3, g3⟩ := sh2.new (o := .tup (List.replicate k.toNat _).flatten) hp
        exact kk _ _ _ _ _ q0 ((g1.trans g2).trans g3) sh3 (.tup (.inl (.inl upd_same)) (rep_flat ((r.up g2).up g3) _))
      · refine .inr ?_
        by_cases h1 : k = 1
        · subst h1
          refine ⟨_, 1, _, rfl, r2.of_val, sqtUp sh2.le (sqtUp g2 q), ne r, .inl ⟨rfl, kk _ _ _ _ _ q0 (g1.trans g2) sh2 ?_⟩⟩
          show Rep _ _ _ (.tup (ds ++ []))
          rw [List.append_nil]
          exact .tup (sqtUp g2 q) (r.up g2)
        · refine ⟨_, k, _, rfl, r2.of_val, sqtUp sh2.le (sqtUp g2 q), ne r, .inr ⟨hk.1, by omega, fun p hp => ?_⟩⟩
          obtain ⟨sh3, g3⟩ := sh2.new (o := .tup ([] : List V)) hp
          rw [show k.toNat = 0 by omega] at q0
          exact kk _ _ _ _ _ q0 ((g1.trans g2).trans g3) sh3 (.tup (.inl (.inl upd_same)) .nil)⟩⟩
theorem ew_catNN (h : EW X a ρ M (fun d1 M1 => ∃ p ds, d1 = dP p ∧ M1 p = some (.lst ds) ∧ EW X b ρ M1 (fun d2 M2 => ∃ q es, d2 = dP q ∧ M2 p = some (.lst ds) ∧ M2 q = some (.lst es) ∧ ds.length + es.length ≤ sizeLine ∧ ∀ l, M2 l = none → Φ (dP l) (M2.set l (.lst (ds ++ es)))))) : EW X (.BinOp a .Add b pos) ρ M Φ :=
  (pe_op op_cat h pk_e).mono fun σ H Q ⟨G, sa, k⟩ => ⟨G, sa, fun v1 G1 H1 d1 M1 ⟨p, ds, e1, m1, h2⟩ g1 sh1 r1 => ⟨M1, _, h2, G1, ⟨sh1, sa.sl.up g1⟩, fun v2 G2 H2 d2 M2 ⟨q, es, e2, m1', m2, hl, hp⟩ g2 sh2 r2 => by
    subst e1 e2
    obtain ⟨_, vs, hv, r⟩ := sh2.mem p _ m1'
    obtain ⟨_, ws, hw, s⟩ := sh2.mem q _ m2
    refine ⟨p, q, vs, ws, r1.of_val, r2.of_val, hv, hw, by rw [r.len, s.len]; exact hl, fun l hl => ?_⟩
    obtain ⟨sh3, m3, _⟩ := sh2.newM hl (r.append s)
    exact k _ _ _ _ _ (hp l m3) (g1.trans g2) sh3 (.val _)⟩⟩
end
def IntsR (n : Nat) (is : List Int) : Prop := is.length ≤ 16 ∧ ∀ i ∈ is, 0 ≤ i ∧ i < (n : Int)
def RowR (m s : Nat) (c : D) : Prop := ∃ (is js : List Int) (k : Int) (b : Bool), c = .tup [.tup (is.map dI), .tup (js.map dI), dI k, dB b] ∧ IntsR m is ∧ IntsR m js ∧ 0 ≤ k ∧ k < (s : Int)
def StateR (m s : Nat) (d : D) : Prop := ∃ cs, d = .tup cs ∧ cs.length ≤ 16 ∧ ∀ c ∈ cs, RowR m s c
theorem are_good {m : Nat} {is : List Int} (h : IntsR m is) : areD m (.tup (is.map dI)) = true := by
  show (true && (!decide (((is.map dI).length : Int) > 16) && (is.map dI).all (wholeD 0 ((m : Int) - 1)))) = true
  rw [List.length_map, decide_eq_false (show ¬ ((is.length : Nat) : Int) > 16 by have := h.1; omega), show (is.map dI).all (wholeD 0 ((m : Int) - 1)) = true from List.all_eq_true.mpr fun d hd => by
    obtain ⟨t, ht, rfl⟩ := List.mem_map.mp hd
    have := h.2 t ht
    exact whole_i this.1 (by omega)]
  rfl
theorem row_good {m s : Nat} {c : D} (h : RowR m s c) : choiceD m s c = true := by
  obtain ⟨is, js, k, b, rfl, h1, h2, h3, h4⟩ := h
  show ((true && decide (4 = 4)) && ((areD m (.tup (is.map dI)) && areD m (.tup (js.map dI))) && (wholeD 0 ((s : Int) - 1) (dI k) && true))) = true
  rw [are_good h1, are_good h2, whole_i h3 (by omega)]
  rfl
theorem state_good {m s : Nat} {d : D} (h : StateR m s d) : stateD m s d = true := by
  obtain ⟨cs, rfl, h1, h2⟩ := h
  show (true && (!decide ((cs.length : Int) > 16) && cs.all (choiceD m s))) = true
  rw [decide_eq_false (show ¬ ((cs.length : Nat) : Int) > 16 by omega), List.all_eq_true.mpr fun c hc => row_good (h2 c hc)]
  rfl
theorem kD_ints {n : Nat} {is : List Int} (h : is.length ≤ 1000) : kD (n + 1) (.tup (is.map dI)) := ⟨by rw [List.length_map]; exact Nat.le_trans h (by decide), fun d hd => by
  obtain ⟨t, ht, rfl⟩ := List.mem_map.mp hd
  exact kD_int _⟩
theorem kD_row {m s : Nat} {c : D} (h : RowR m s c) : kD 4 c := by
  obtain ⟨is, js, k, b, rfl, h1, h2, h3, h4⟩ := h
  refine ⟨by (simp only [List.length_cons, List.length_nil]; decide), fun d hd => ?_⟩
  simp only [List.mem_cons, List.not_mem_nil, or_false] at hd
  rcases hd with rfl | rfl | rfl | rfl
  · exact kD_ints (Nat.le_trans h1.1 (by decide))
  · exact kD_ints (Nat.le_trans h2.1 (by decide))
  · exact kD_int _
  · exact kD_bool _
theorem kD_state {m s : Nat} {d : D} (h : StateR m s d) : kD 6 d := by
  obtain ⟨cs, rfl, h1, h2⟩ := h
  exact ⟨Nat.le_trans h1 (by decide), fun c hc => kD_up (kD_row (h2 c hc))⟩
section
variable {P : Program} {w : World} {K : PySem.W.Frag} {mg : Str → Option Value} {base : Heap} {f : Addr} {fd : FuncData}
def R_numbers (ds : List D) (M : Mem) (Φ : D → Mem → Prop) : Prop := ∃ (a : Addr) (p : Pool) (n : Nat), ds = [dP a, nD n] ∧ M a = some (Pool.mo p) ∧ p.Ok ∧ 1 ≤ n ∧ n ≤ 1000 ∧ ∀ is, IntsR n is → Draw M a Φ (.tup (is.map dI))
theorem c_numbers (F : Fun K "_law_numbers" "_law_numbers" s_numbers f fd) (hm : mg "_law_numbers" = some (.ref f)) (T : Bt mg) (c_take : Cal P w K mg base 2 "_law_take" (spW K R_take)) : Cal P w K mg base 3 "_law_numbers" (spW K R_numbers) := by
  refine calW_of F sc_numbers hm (fun _ _ _ _ _ _ us hl => match us, hl with | [_, _], _ => rfl) (fun ds M Φ h => ?_) fun cdv A outer s H E ds M Φ hr h => ?_
  · obtain ⟨a, p, n, rfl, _⟩ := h
    rfl
  · obtain ⟨a, p, n, rfl, hA, ok, n1, n4, hΦ⟩ := h
    show BV _ _ [some (dP a), some (nD n), none] _ _
    refine bv_cons (sw_if ?_)
    refine tw_cmp op_eq ?_ (nomark _)
    refine ew_callW c_take (hr.mono (by decide)) (aw_av (av_cons (ev_var 0 rfl) (av_cons ev_int av_nil)) ⟨a, p, _, rfl, hA, ok, by decide, by decide, fun n2 lo2 hi2 p2 ok2 M2 fr2 hA2 => ⟨_, rfl, ?_⟩⟩)
    refine ew_ev ev_int ⟨_, _, rfl, rs_eqI, fun h1 => ?_, fun h1 => bv_nil ?_⟩
    · refine bv_one (sw_ret ?_)
      refine ew_mulT ?_
      refine ew_tup ?_
      refine aw_cons ?_
      refine ew_callW c_take (hr.mono (by decide)) (aw_av (av_cons (ev_var 0 rfl) (av_cons (ev_var 1 rfl) av_nil)) ⟨a, p2, _, rfl, hA2, ok2, by omega, by omega, fun n3 lo3 hi3 p3 ok3 M3 fr3 hA3 => ?_⟩)
      refine aw_nil ⟨by (simp only [List.length_cons, List.length_nil]; decide), _, rfl, by simp, by (simp only [List.length_cons, List.length_nil]; decide), ?_⟩
      refine ew_callW c_take (hr.mono (by decide)) (aw_av (av_cons (ev_var 0 rfl) (av_cons ev_int av_nil)) ⟨a, p3, _, rfl, hA3, ok3, by decide, by decide, fun n4 lo4 hi4 p4 ok4 M4 fr4 hA4 => ?_⟩)
      have e : (List.replicate n4.toNat [dI n3]).flatten = (List.replicate n4.toNat n3).map dI := by
        rw [List.map_replicate]
        induction n4.toNat with
        | zero => rfl
        | succ k ih => rw [List.replicate_succ, List.flatten_cons, ih, List.replicate_succ]; rfl
      refine ⟨n4, rfl, ⟨by omega, by omega⟩, _, ?_, Mle.refl _⟩
      rw [e]
      exact hΦ _ ⟨by rw [List.length_replicate]; omega, fun i hi => by obtain rfl := (List.mem_replicate.mp hi).2; exact ⟨lo3, hi3⟩⟩ p4 ok4 _ ((fr2.trans fr3).trans fr4) hA4
    · refine bv_one (sw_ret ?_)
      refine ew_tupOf T.tuple ?_
      refine ew_lc (own := [("k", 2)]) (g := gName 2) rfl sc_numbers.nd (blkOk_by (N := ["pool", "many", "k"]) (sc := defScope s_numbers) (by decide +kernel)) (fun _ _ _ _ _ => (pg_name (i := 2) sc_numbers.nd rfl (.inl rfl))) ?_
      refine iw_range1 T.range ?_
      refine ew_ixQ ?_
      refine ew_ev (ev_tup (av_cons ev_int (av_cons ev_int (av_cons ev_int (av_cons ev_int (av_cons ev_int (av_cons ev_int av_nil))))))) ⟨false, [dI 0, dI 0, dI 1, dI 1, dI 2, dI 3], rfl, ?_⟩
      refine ew_callW c_take (hr.mono (by decide)) (aw_av (av_cons (ev_var 0 rfl) (av_cons ev_int av_nil)) ⟨a, p2, _, rfl, hA2, ok2, by decide, by decide, fun n3 lo3 hi3 p3 ok3 M3 fr3 hA3 => ?_⟩)
      obtain ⟨j, hj, h0, h3⟩ : ∃ j : Int, atI [dI 0, dI 0, dI 1, dI 1, dI 2, dI 3] n3 = some (dI j) ∧ 0 ≤ j ∧ j ≤ 3 := by
        have hc : n3 = 0 ∨ n3 = 1 ∨ n3 = 2 ∨ n3 = 3 ∨ n3 = 4 ∨ n3 = 5 := by omega
        rcases hc with rfl | rfl | rfl | rfl | rfl | rfl
        · exact ⟨0, rfl, by decide, by decide⟩
        · exact ⟨0, rfl, by decide, by decide⟩
        · exact ⟨1, rfl, by decide, by decide⟩
        · exact ⟨1, rfl, by decide, by decide⟩
        · exact ⟨2, rfl, by decide, by decide⟩
        · exact ⟨3, rfl, by decide, by decide⟩
      have fr3 := fr2.trans fr3
      refine ⟨n3, _, rfl, hj, j, rfl, by omega, ⟨by (rw [rgD_len]; exact Nat.le_trans (show j.toNat ≤ 3 by omega) (by decide)), fun i acc M => ∃ (ns : List Int) (q : Pool), acc = ns.map dI ∧ (∀ i ∈ ns, 0 ≤ i ∧ i < (n : Int)) ∧ Fr1 a M3 M ∧ M a = some (Pool.mo q) ∧ q.Ok, ⟨[], p3, rfl, (fun _ h => nomatch h), Fr1.refl _ _, hA3, ok3⟩, fun i d acc M hd hacc iv => ?_, fun acc M hacc iv => ?_⟩⟩
      · obtain ⟨ns, q, rfl, hiv, frq, hAq, okq⟩ := iv
        refine ⟨_, tgb_name, fun z hz s H C cl fp => ?_⟩
        refine ew_callW c_take (hr.mono (by decide)) (aw_av (av_cons (ev_var 0 rfl) (av_cons (ev_var 1 rfl) av_nil)) ⟨a, q, _, rfl, Mem.set_at hAq hz, okq, by omega, by omega, fun u u1 u2 p7 ok7 M7 fr7 hA7 => ?_⟩)
        obtain ⟨e7, hz7, fr7', hb⟩ := lc_back hAq hz fr7
        exact ⟨_, e7, hz7, ns ++ [u], p7, by rw [List.map_append]; rfl, (fun t ht => by
          rcases List.mem_append.mp ht with q | q
          · exact hiv t q
          · obtain rfl := List.mem_singleton.mp q
            exact ⟨u1, u2⟩), frq.trans fr7', hb _ hA7, ok7⟩
      · obtain ⟨ns, q, rfl, hiv, frq, hAq, okq⟩ := iv
        refine ⟨true, _, rfl, _, hΦ ns ⟨by rw [List.length_map, rgD_len] at hacc; omega, hiv⟩ q okq _ (fr3.trans frq) hAq, Mle.refl _⟩
def R_ltests (ds : List D) (M : Mem) (Φ : D → Mem → Prop) : Prop := ∃ (a : Addr) (p : Pool) (n : Nat) (m : Nat), ds = [dP a, nD n, nD m] ∧ M a = some (Pool.mo p) ∧ p.Ok ∧ (1 ≤ n ∧ n ≤ 4) ∧ (1 ≤ m ∧ m ≤ 16) ∧ ∀ ts : List Tst, (1 ≤ ts.length ∧ ts.length ≤ m) → (∀ t ∈ ts, TstOk t ∧ TstR t) → Draw M a Φ (.tup (ts.map tstD))
theorem c_tests (F : Fun K "_law_tests" "_law_tests" s_tests f fd) (hm : mg "_law_tests" = some (.ref f)) (T : Bt mg) (c_take : Cal P w K mg base 2 "_law_take" (spW K R_take)) (c_test : Cal P w K mg base 4 "_law_test" (spW K R_test)) : Cal P w K mg base 5 "_law_tests" (spW K R_ltests) := by
  refine calW_of F sc_tests hm (fun _ _ _ _ _ _ us hl => match us, hl with | [_, _, _], _ => rfl) (fun ds M Φ h => ?_) fun cdv A outer s H E ds M Φ hr h => ?_
  · obtain ⟨a, p, n, m, rfl, _⟩ := h
    rfl
  · obtain ⟨a, p, n, m, rfl, hA, ok, hn, hm16, hΦ⟩ := h
    show BV _ _ [some (dP a), some (nD n), some (nD m), none] _ _
    refine bv_one (sw_ret ?_)
    refine ew_tupOf T.tuple ?_
    refine ew_lc (own := [("k", 3)]) (g := gName 3) rfl sc_tests.nd (blkOk_by (N := ["pool", "voices", "most", "k"]) (sc := defScope s_tests) (by decide +kernel)) (fun _ _ _ _ _ => (pg_name (i := 3) sc_tests.nd rfl (.inl rfl))) ?_
    refine iw_range1 T.range ?_
    refine ew_op op_add ?_
    refine ew_ev ev_int ⟨_, rfl, ?_⟩
    refine ew_callW c_take (hr.mono (by decide)) (aw_av (av_cons (ev_var 0 rfl) (av_cons (ev_var 2 rfl) av_nil)) ⟨a, p, _, rfl, hA, ok, by omega, by omega, fun n3 lo3 hi3 p3 ok3 M3 fr3 hA3 => ?_⟩)
    refine ⟨_, _, rfl, rs_I0, _, rfl, by omega, ⟨by (rw [rgD_len]; exact Nat.le_trans (show (1 + n3).toNat ≤ 16 by omega) (by decide)), fun i acc M => ∃ (ts : List Tst) (q : Pool), acc = ts.map tstD ∧ (∀ t ∈ ts, TstOk t ∧ TstR t) ∧ Fr1 a M3 M ∧ M a = some (Pool.mo q) ∧ q.Ok, ⟨[], p3, rfl, (fun _ h => nomatch h), Fr1.refl _ _, hA3, ok3⟩, fun i d acc M hd hacc iv => ?_, fun acc M hacc iv => ?_⟩⟩
    · obtain ⟨ns, q, rfl, hiv, frq, hAq, okq⟩ := iv
      refine ⟨_, tgb_name, fun z hz s H C cl fp => ?_⟩
      refine ew_callW c_test (hr.mono (by decide)) (aw_av (av_cons (ev_var 0 rfl) (av_cons (ev_var 1 rfl) av_nil)) ⟨a, q, n, rfl, Mem.set_at hAq hz, okq, hn.1, hn.2, fun u u1 u2 p7 ok7 M7 fr7 hA7 => ?_⟩)
      obtain ⟨e7, hz7, fr7', hb⟩ := lc_back hAq hz fr7
      exact ⟨_, e7, hz7, ns ++ [u], p7, by rw [List.map_append]; rfl, (fun t ht => by
        rcases List.mem_append.mp ht with q | q
        · exact hiv t q
        · obtain rfl := List.mem_singleton.mp q
          exact ⟨u1, u2⟩), frq.trans fr7', hb _ hA7, ok7⟩
    · obtain ⟨ns, q, rfl, hiv, frq, hAq, okq⟩ := iv
      refine ⟨true, _, rfl, _, hΦ ns ⟨by rw [List.length_map, rgD_len] at hacc; omega, by rw [List.length_map, rgD_len] at hacc; omega⟩ hiv q okq _ (fr3.trans frq) hAq, Mle.refl _⟩
end
/-! ### what is wrong -/
def tupB : Nat → D → Bool
  | _, .val .non => true
  | _, .val (.bl _) => true
  | _, .val (.int _) => true
  | _, .val (.str _) => true
  | _, .val _ => false
  | _, .dic => false
  | _, .lst _ => false
  | 0, .tup _ => false
  | n + 1, .tup ds => decide (ds.length ≤ 100) && ds.all (tupB n)
theorem kD_tupB : ∀ {n : Nat} {d : D}, tupB n d = true → kD n d
  | 0, .val v, h => by
    cases v with
    | non => exact kD_none
    | bl b => exact kD_bool b
    | int i => exact kD_int i
    | str z => exact kD_str z
    | _ => cases h
  | _ + 1, .val v, h => by
    cases v with
    | non => exact kD_none
    | bl b => exact kD_bool b
    | int i => exact kD_int i
    | str z => exact kD_str z
    | _ => cases h
  | 0, .dic, h => by cases h
  | _ + 1, .dic, h => by cases h
  | 0, .lst _, h => by cases h
  | _ + 1, .lst _, h => by cases h
  | 0, .tup _, h => by cases h
  | n + 1, .tup ds, h => by
    obtain ⟨h1, h2⟩ := Bool.and_eq_true_iff.mp h
    exact ⟨Nat.le_trans (of_decide_eq_true h1) (by decide), fun d hd => kD_tupB (List.all_eq_true.mp h2 d hd)⟩
theorem tupD_tupB : ∀ {n : Nat} {d : D}, tupB n d = true → tupD n d
  | 0, .val v, h => by
    cases v with
    | non => exact .inl rfl
    | bl b => exact .inr (.inl ⟨b, rfl⟩)
    | int i => exact .inr (.inr (.inl ⟨i, rfl⟩))
    | str z => exact .inr (.inr (.inr ⟨z, rfl⟩))
    | _ => cases h
  | _ + 1, .val v, h => by
    cases v with
    | non => exact .inl rfl
    | bl b => exact .inr (.inl ⟨b, rfl⟩)
    | int i => exact .inr (.inr (.inl ⟨i, rfl⟩))
    | str z => exact .inr (.inr (.inr ⟨z, rfl⟩))
    | _ => cases h
  | 0, .dic, h => by cases h
  | _ + 1, .dic, h => by cases h
  | 0, .lst _, h => by cases h
  | _ + 1, .lst _, h => by cases h
  | 0, .tup _, h => by cases h
  | n + 1, .tup ds, h => by
    obtain ⟨h1, h2⟩ := Bool.and_eq_true_iff.mp h
    exact ⟨Nat.le_trans (of_decide_eq_true h1) (by decide), fun d hd => tupD_tupB (List.all_eq_true.mp h2 d hd)⟩
def headB : D → Bool
  | .tup (.val (.str z) :: _) => words.contains z || z == "Begins"
  | _ => true
def wrongB (d : D) : Bool := tupB 5 d && (headB d && !isTestD d)
theorem wrong_in {d : D} (h : wrongB d = true) : TstIn d ∧ isTestD d = false := by
  obtain ⟨h1, h2⟩ := Bool.and_eq_true_iff.mp h
  obtain ⟨h2, h3⟩ := Bool.and_eq_true_iff.mp h2
  have h3 := nt_ h3
  refine ⟨⟨tupD_tupB h1, fun z rest e => ?_, fun q => by rw [h3] at q; cases q⟩, h3⟩
  subst e
  have h2 : (words.contains z || z == "Begins") = true := h2
  rcases Bool.or_eq_true_iff.mp h2 with q | q
  · exact .inl (by simpa using q)
  · exact .inr (by simpa using q)
/-- no state among s, with m tests -/
def NoSt (m s : Nat) (d : D) : Prop := tupB 5 d = true ∧ stateD m s d = false
section
variable {P : Program} {w : World} {K : PySem.W.Frag} {mg : Str → Option Value} {base : Heap} {f : Addr} {fd : FuncData}
def R_wrongT (ds : List D) (M : Mem) (Φ : D → Mem → Prop) : Prop := ∃ (a : Addr) (p : Pool), ds = [dP a] ∧ M a = some (Pool.mo p) ∧ p.Ok ∧ ∀ d, wrongB d = true → Draw M a Φ d
theorem c_wrong_test (F : Fun K "_law_wrong_test" "_law_wrong_test" s_wrong_test f fd) (hm : mg "_law_wrong_test" = some (.ref f)) (T : Bt mg) (c_pick : Cal P w K mg base 3 "_law_pick" (spW K R_pick)) : Cal P w K mg base 4 "_law_wrong_test" (spW K R_wrongT) := by
  refine calW_of F sc_wrong_test hm (fun _ _ _ _ _ _ us hl => match us, hl with | [_], _ => rfl) (fun ds M Φ h => ?_) fun cdv A outer s H E ds M Φ hr h => ?_
  · obtain ⟨a, p, rfl, _⟩ := h
    rfl
  · obtain ⟨a, p, rfl, hA, ok, hΦ⟩ := h
    show BV _ _ [some (dP a), none] _ _
    refine bv_cons (sw_set 1 sc_wrong_test.nd (ew_lstN (aw_av (av_cons ev_non (av_cons (ev_tup av_nil) (av_cons ev_str (av_cons (ev_tup (av_cons ev_str (av_cons ev_int av_nil))) (av_cons (ev_tup (av_cons ev_int (av_cons ev_int av_nil))) (av_cons (ev_tup (av_cons ev_str av_nil)) (av_cons (ev_tup (av_cons ev_str (av_cons ev_int (av_cons ev_int av_nil)))) (av_cons (ev_tup (av_cons ev_str (av_cons ev_int av_nil))) (av_cons (ev_tup (av_cons ev_str (av_cons (ev_un un_neg ev_int ru_neg) av_nil))) (av_cons (ev_tup (av_cons ev_str (av_cons ev_bl av_nil))) (av_cons (ev_tup (av_cons ev_str (av_cons ev_non av_nil))) av_nil))))))))))) ⟨by (simp only [List.length_cons, List.length_nil, List.length_append]; decide), fun q0 hq0 => ?_⟩)))
    refine bv_cons (sw_set 1 sc_wrong_test.nd (ew_catNN (ew_ev (ev_var 1 rfl) ⟨_, _, rfl, Mem.set_same, ew_lstN (aw_av (av_cons (ev_tup (av_cons ev_str (av_cons ev_str av_nil))) (av_cons (ev_tup (av_cons ev_str (av_cons ev_int av_nil))) (av_cons (ev_tup (av_cons ev_str (av_cons (ev_un un_neg ev_int ru_neg) av_nil))) (av_cons (ev_tup (av_cons ev_str (av_cons ev_bl av_nil))) (av_cons (ev_tup (av_cons ev_str av_nil)) (av_cons (ev_tup (av_cons ev_str (av_cons ev_int (av_cons ev_int av_nil)))) (av_cons (ev_tup (av_cons ev_str (av_cons ev_int (av_cons ev_int av_nil)))) (av_cons (ev_tup (av_cons ev_str (av_cons ev_int (av_cons ev_int (av_cons ev_int (av_cons ev_int av_nil)))))) av_nil)))))))) ⟨by (simp only [List.length_cons, List.length_nil, List.length_append]; decide), fun r1 hr1 => ⟨_, _, rfl, Mem.set_at Mem.set_same hr1, Mem.set_same, by (simp only [List.length_cons, List.length_nil, List.length_append]; decide), fun q1 hq1 => ?_⟩⟩)⟩)))
    refine bv_cons (sw_set 1 sc_wrong_test.nd (ew_catNN (ew_ev (ev_var 1 rfl) ⟨_, _, rfl, Mem.set_same, ew_lstN (aw_av (av_cons (ev_tup (av_cons ev_str (av_cons ev_int (av_cons ev_int (av_cons ev_int av_nil))))) (av_cons (ev_tup (av_cons ev_str (av_cons ev_int (av_cons ev_int (av_cons ev_int av_nil))))) (av_cons (ev_tup (av_cons ev_str (av_cons ev_int (av_cons (ev_un un_neg ev_int ru_neg) (av_cons ev_int av_nil))))) (av_cons (ev_tup (av_cons ev_str (av_cons ev_int (av_cons ev_bl (av_cons ev_int av_nil))))) (av_cons (ev_tup (av_cons ev_str (av_cons ev_int (av_cons ev_non (av_cons ev_int av_nil))))) (av_cons (ev_tup (av_cons ev_str (av_cons ev_int av_nil))) (av_cons (ev_tup (av_cons ev_str (av_cons ev_int (av_cons ev_int av_nil)))) av_nil))))))) ⟨by (simp only [List.length_cons, List.length_nil, List.length_append]; decide), fun r2 hr2 => ⟨_, _, rfl, Mem.set_at Mem.set_same hr2, Mem.set_same, by (simp only [List.length_cons, List.length_nil, List.length_append]; decide), fun q2 hq2 => ?_⟩⟩)⟩)))
    refine bv_cons (sw_set 1 sc_wrong_test.nd (ew_catNN (ew_ev (ev_var 1 rfl) ⟨_, _, rfl, Mem.set_same, ew_lstN (aw_av (av_cons (ev_tup (av_cons ev_str (av_cons ev_int (av_cons (ev_mulT (ev_tup (av_cons (ev_tup (av_cons ev_int (av_cons ev_int av_nil))) av_nil)) ev_int (by simp) (by decide) (by (simp only [List.length_cons, List.length_nil]; decide))) av_nil)))) (av_cons (ev_tup (av_cons ev_str (av_cons ev_int (av_cons (ev_tup (av_cons (ev_tup (av_cons ev_int (av_cons ev_int av_nil))) av_nil)) av_nil)))) (av_cons (ev_tup (av_cons ev_str (av_cons ev_int (av_cons (ev_tup (av_cons (ev_tup (av_cons ev_int (av_cons ev_int av_nil))) (av_cons (ev_tup (av_cons ev_int av_nil)) av_nil))) av_nil)))) (av_cons (ev_tup (av_cons ev_str (av_cons ev_int (av_cons (ev_tup (av_cons (ev_tup (av_cons ev_int (av_cons ev_bl av_nil))) av_nil)) av_nil)))) (av_cons (ev_tup (av_cons ev_str (av_cons ev_int (av_cons (ev_tup av_nil) av_nil)))) (av_cons (ev_tup (av_cons ev_str (av_cons ev_int (av_cons ev_int (av_cons ev_int (av_cons ev_int av_nil)))))) av_nil)))))) ⟨by (simp only [List.length_cons, List.length_nil, List.length_append]; decide), fun r3 hr3 => ⟨_, _, rfl, Mem.set_at Mem.set_same hr3, Mem.set_same, by (simp only [List.length_cons, List.length_nil, List.length_append]; decide), fun q3 hq3 => ?_⟩⟩)⟩)))
    refine bv_cons (sw_set 1 sc_wrong_test.nd (ew_catNN (ew_ev (ev_var 1 rfl) ⟨_, _, rfl, Mem.set_same, ew_lstN (aw_av (av_cons (ev_tup (av_cons ev_str (av_cons ev_int (av_cons ev_int (av_cons ev_int (av_cons ev_int av_nil)))))) (av_cons (ev_tup (av_cons ev_str (av_cons ev_int (av_cons ev_int (av_cons ev_int av_nil))))) (av_cons (ev_tup (av_cons ev_str (av_cons ev_int (av_cons ev_int (av_cons ev_int (av_cons ev_int av_nil)))))) (av_cons (ev_tup (av_cons ev_str (av_cons ev_int (av_cons ev_bl (av_cons ev_int (av_cons ev_int av_nil)))))) (av_cons (ev_tup (av_cons ev_str (av_cons ev_int (av_cons ev_int (av_cons (ev_tup av_nil) av_nil))))) (av_cons (ev_tup (av_cons ev_str (av_cons ev_int (av_cons ev_int (av_cons (ev_tup (av_cons ev_int av_nil)) av_nil))))) av_nil)))))) ⟨by (simp only [List.length_cons, List.length_nil, List.length_append]; decide), fun r4 hr4 => ⟨_, _, rfl, Mem.set_at Mem.set_same hr4, Mem.set_same, by (simp only [List.length_cons, List.length_nil, List.length_append]; decide), fun q4 hq4 => ?_⟩⟩)⟩)))
    refine bv_cons (sw_set 1 sc_wrong_test.nd (ew_catNN (ew_ev (ev_var 1 rfl) ⟨_, _, rfl, Mem.set_same, ew_lstN (aw_av (av_cons (ev_tup (av_cons ev_str (av_cons ev_int (av_cons ev_int (av_cons (ev_tup (av_cons (ev_un un_neg ev_int ru_neg) av_nil)) av_nil))))) (av_cons (ev_tup (av_cons ev_str (av_cons ev_int (av_cons ev_int (av_cons (ev_mulT (ev_tup (av_cons ev_int av_nil)) ev_int (by simp) (by decide) (by (simp only [List.length_cons, List.length_nil]; decide))) av_nil))))) (av_cons (ev_tup (av_cons ev_str (av_cons ev_int (av_cons ev_int (av_cons ev_int av_nil))))) (av_cons (ev_tup (av_cons ev_str (av_cons ev_int (av_cons ev_int (av_cons (ev_tup (av_cons ev_bl av_nil)) av_nil))))) (av_cons (ev_tup (av_cons ev_str (av_cons ev_int av_nil))) (av_cons (ev_tup (av_cons ev_str (av_cons ev_int (av_cons ev_int av_nil)))) (av_cons (ev_tup (av_cons ev_str (av_cons ev_int (av_cons ev_int (av_cons ev_int av_nil))))) av_nil))))))) ⟨by (simp only [List.length_cons, List.length_nil, List.length_append]; decide), fun r5 hr5 => ⟨_, _, rfl, Mem.set_at Mem.set_same hr5, Mem.set_same, by (simp only [List.length_cons, List.length_nil, List.length_append]; decide), fun q5 hq5 => ?_⟩⟩)⟩)))
    refine bv_cons (sw_set 1 sc_wrong_test.nd (ew_catNN (ew_ev (ev_var 1 rfl) ⟨_, _, rfl, Mem.set_same, ew_lstN (aw_av (av_cons (ev_tup (av_cons ev_str (av_cons (ev_tup (av_cons ev_int (av_cons ev_int av_nil))) av_nil))) (av_cons (ev_tup (av_cons ev_str (av_cons (ev_tup (av_cons ev_int (av_cons ev_int av_nil))) (av_cons (ev_tup (av_cons ev_int (av_cons ev_int av_nil))) av_nil)))) (av_cons (ev_tup (av_cons ev_str (av_cons (ev_tup (av_cons ev_int (av_cons ev_int av_nil))) (av_cons (ev_tup (av_cons ev_int (av_cons ev_int av_nil))) av_nil)))) (av_cons (ev_tup (av_cons ev_str (av_cons (ev_tup (av_cons (ev_un un_neg ev_int ru_neg) (av_cons ev_int av_nil))) (av_cons (ev_tup (av_cons ev_int (av_cons ev_int av_nil))) av_nil)))) (av_cons (ev_tup (av_cons ev_str (av_cons ev_int (av_cons ev_int av_nil)))) av_nil))))) ⟨by (simp only [List.length_cons, List.length_nil, List.length_append]; decide), fun r6 hr6 => ⟨_, _, rfl, Mem.set_at Mem.set_same hr6, Mem.set_same, by (simp only [List.length_cons, List.length_nil, List.length_append]; decide), fun q6 hq6 => ?_⟩⟩)⟩)))
    refine bv_cons (sw_set 1 sc_wrong_test.nd (ew_catNN (ew_ev (ev_var 1 rfl) ⟨_, _, rfl, Mem.set_same, ew_lstN (aw_av (av_cons (ev_tup (av_cons ev_str (av_cons (ev_tup (av_cons ev_int (av_cons ev_int av_nil))) (av_cons (ev_tup (av_cons ev_int (av_cons ev_int av_nil))) av_nil)))) (av_cons (ev_tup (av_cons ev_str (av_cons ev_int (av_cons (ev_tup (av_cons ev_int (av_cons ev_int av_nil))) (av_cons (ev_tup (av_cons ev_int (av_cons ev_int av_nil))) av_nil))))) (av_cons (ev_tup (av_cons ev_str (av_cons (ev_tup (av_cons ev_bl (av_cons ev_int av_nil))) (av_cons (ev_tup (av_cons ev_int (av_cons ev_int av_nil))) av_nil)))) av_nil))) ⟨by (simp only [List.length_cons, List.length_nil, List.length_append]; decide), fun r7 hr7 => ⟨_, _, rfl, Mem.set_at Mem.set_same hr7, Mem.set_same, by (simp only [List.length_cons, List.length_nil, List.length_append]; decide), fun q7 hq7 => ?_⟩⟩)⟩)))
    refine bv_one (sw_ret ?_)
    refine ew_callW c_pick (hr.mono (by decide)) ?_
    refine aw_cons (ew_ev (ev_var 0 rfl) ?_)
    refine aw_cons (ew_frz (ew_ev (ev_var 1 rfl) ⟨_, _, _, rfl, rfl, hq7, ?_⟩))
    refine aw_nil ⟨a, p, true, _, rfl, (Mem.set_at (Mem.set_at (Mem.set_at (Mem.set_at (Mem.set_at (Mem.set_at (Mem.set_at (Mem.set_at (Mem.set_at (Mem.set_at (Mem.set_at (Mem.set_at (Mem.set_at (Mem.set_at hA hq0) hr1) hq1) hr2) hq2) hr3) hq3) hr4) hq4) hr5) hq5) hr6) hq6) hr7), ok, by (simp only [List.length_cons, List.length_nil, List.length_append]; decide), by (simp only [List.length_cons, List.length_nil, List.length_append]; decide), fun d hd p3 ok3 M3 fr3 hA3 => ⟨_, hΦ d ?_ p3 ok3 _ ((((((((((((((((Fr1.refl a M).new hq0).trans ((Fr1.refl _ _).new hr1)).trans ((Fr1.refl _ _).new hq1)).trans ((Fr1.refl _ _).new hr2)).trans ((Fr1.refl _ _).new hq2)).trans ((Fr1.refl _ _).new hr3)).trans ((Fr1.refl _ _).new hq3)).trans ((Fr1.refl _ _).new hr4)).trans ((Fr1.refl _ _).new hq4)).trans ((Fr1.refl _ _).new hr5)).trans ((Fr1.refl _ _).new hq5)).trans ((Fr1.refl _ _).new hr6)).trans ((Fr1.refl _ _).new hq6)).trans ((Fr1.refl _ _).new hr7)).trans fr3) hA3, Mle.refl _⟩⟩
    exact List.all_eq_true.mp (show List.all _ wrongB = true by decide +kernel) d hd
def R_wrongS (ds : List D) (M : Mem) (Φ : D → Mem → Prop) : Prop := ∃ (a : Addr) (p : Pool) (m s : Nat), ds = [dP a, nD m, nD s] ∧ M a = some (Pool.mo p) ∧ p.Ok ∧ 1 ≤ m ∧ 1 ≤ s ∧ ∀ d, NoSt m s d → Draw M a Φ d
theorem wrong_states {m s : Nat} (hm : 1 ≤ m) (hs : 1 ≤ s) : ∀ d ∈ ([dN, dI 0, dS "x", .tup [.tup [.tup [], .tup [], dI 0, dB false], .tup [.tup [], .tup [], dI 0, dB false], .tup [.tup [], .tup [], dI 0, dB false], .tup [.tup [], .tup [], dI 0, dB false], .tup [.tup [], .tup [], dI 0, dB false], .tup [.tup [], .tup [], dI 0, dB false], .tup [.tup [], .tup [], dI 0, dB false], .tup [.tup [], .tup [], dI 0, dB false], .tup [.tup [], .tup [], dI 0, dB false], .tup [.tup [], .tup [], dI 0, dB false], .tup [.tup [], .tup [], dI 0, dB false], .tup [.tup [], .tup [], dI 0, dB false], .tup [.tup [], .tup [], dI 0, dB false], .tup [.tup [], .tup [], dI 0, dB false], .tup [.tup [], .tup [], dI 0, dB false], .tup [.tup [], .tup [], dI 0, dB false], .tup [.tup [], .tup [], dI 0, dB false]], .tup [.tup [.tup [], .tup [], dI 0]], .tup [.tup [.tup [], .tup [], dI 0, dB false, dI 0]], .tup [dN], .tup [.tup [.tup [], .tup [], nD s, dB false]], .tup [.tup [.tup [], .tup [], dI (-1), dB true]], .tup [.tup [.tup [], .tup [], dI 0, dI 0]], .tup [.tup [.tup [], .tup [], dB true, dB false]], .tup [.tup [.tup [], .tup [], dN, dB false]], .tup [.tup [.tup [nD m], .tup [], dI 0, dB false]], .tup [.tup [.tup [], .tup [nD m], dI 0, dB false]], .tup [.tup [.tup [dI (-1)], .tup [], dI 0, dB false]], .tup [.tup [dI 0, .tup [], dI 0, dB false]], .tup [.tup [.tup [], dN, dI 0, dB false]], .tup [.tup [.tup [dB true], .tup [], dI 0, dB false]], .tup [.tup [.tup [dS "0"], .tup [], dI 0, dB false]], .tup [.tup [.tup [], .tup [], dI 0, dB false], .tup [.tup [], .tup [], dI 0, dN]], .tup [.tup [.tup [], .tup [], dI 0, dB false], .tup [.tup [], .tup [], dI 0, dB false], .tup [dI 0]], .tup [.tup [.tup [dI 0, dI 0, dI 0, dI 0, dI 0, dI 0, dI 0, dI 0, dI 0, dI 0, dI 0, dI 0, dI 0, dI 0, dI 0, dI 0, dI 0], .tup [], dI 0, dB false]]] : List D), NoSt m s d := by
  have e1 : wholeD 0 ((s : Int) - 1) (dI (s : Int)) = false := by
    show (decide ((0 : Int) ≤ (s : Int)) && decide ((s : Int) ≤ (s : Int) - 1)) = false
    rw [decide_eq_false (show ¬ (s : Int) ≤ (s : Int) - 1 by omega), Bool.and_false]
  have e2 : wholeD 0 ((m : Int) - 1) (dI (m : Int)) = false := by
    show (decide ((0 : Int) ≤ (m : Int)) && decide ((m : Int) ≤ (m : Int) - 1)) = false
    rw [decide_eq_false (show ¬ (m : Int) ≤ (m : Int) - 1 by omega), Bool.and_false]
  have e3 : wholeD 0 ((s : Int) - 1) (dI 0) = true := whole_i (by decide) (by omega)
  have e4 : wholeD 0 ((m : Int) - 1) (dI 0) = true := whole_i (by decide) (by omega)
  simp only [List.forall_mem_cons]
  refine ⟨?_, ?_, ?_, ?_, ?_, ?_, ?_, ?_, ?_, ?_, ?_, ?_, ?_, ?_, ?_, ?_, ?_, ?_, ?_, ?_, ?_, ?_, fun d hd => (nomatch hd)⟩ <;> refine ⟨by first | rfl | decide +kernel, ?_⟩ <;> simp [stateD, choiceD, areD, rowD, partsD, partD, lenD, boolD, e1, e2, e3, e4, List.replicate] <;> simp [wholeD]
theorem c_wrong_state (F : Fun K "_law_wrong_state" "_law_wrong_state" s_wrong_state f fd) (hm : mg "_law_wrong_state" = some (.ref f)) (T : Bt mg) (c_pick : Cal P w K mg base 3 "_law_pick" (spW K R_pick)) : Cal P w K mg base 4 "_law_wrong_state" (spW K R_wrongS) := by
  refine calW_of F sc_wrong_state hm (fun _ _ _ _ _ _ us hl => match us, hl with | [_, _, _], _ => rfl) (fun ds M Φ h => ?_) fun cdv A outer s H E ds M Φ hr h => ?_
  · obtain ⟨a, p, m, q, rfl, _⟩ := h
    rfl
  · obtain ⟨a, p, m, q, rfl, hA, ok, h1, h2, hΦ⟩ := h
    show BV _ _ [some (dP a), some (nD m), some (nD q), none, none] _ _
    refine bv_cons (sv_set 3 sc_wrong_state.nd (ev_tup (av_cons (ev_tup av_nil) (av_cons (ev_tup av_nil) (av_cons ev_int (av_cons ev_bl av_nil))))) ?_)
    refine bv_cons (sw_set 4 sc_wrong_state.nd (ew_lstN (aw_av (av_cons ev_non (av_cons ev_int (av_cons ev_str (av_cons (ev_mulT (ev_tup (av_cons (ev_var 3 rfl) av_nil)) ev_int (by simp) (by decide) (by (simp only [List.length_cons, List.length_nil]; decide))) (av_cons (ev_tup (av_cons (ev_sliceQ (b' := false) (ds := [.tup [], .tup [], dI 0, dB false]) (ev_var 3 rfl) ov_none (ov_some ev_int)) av_nil)) (av_cons (ev_tup (av_cons (ev_catT (ev_var 3 rfl) (ev_tup (av_cons ev_int av_nil)) (by (simp only [List.length_cons, List.length_nil]; decide))) av_nil)) (av_cons (ev_tup (av_cons ev_non av_nil)) (av_cons (ev_tup (av_cons (ev_tup (av_cons (ev_tup av_nil) (av_cons (ev_tup av_nil) (av_cons (ev_var 2 rfl) (av_cons ev_bl av_nil))))) av_nil)) (av_cons (ev_tup (av_cons (ev_tup (av_cons (ev_tup av_nil) (av_cons (ev_tup av_nil) (av_cons (ev_un un_neg ev_int ru_neg) (av_cons ev_bl av_nil))))) av_nil)) (av_cons (ev_tup (av_cons (ev_tup (av_cons (ev_tup av_nil) (av_cons (ev_tup av_nil) (av_cons ev_int (av_cons ev_int av_nil))))) av_nil)) av_nil)))))))))) ⟨by (simp only [List.length_cons, List.length_nil, List.length_append]; decide), fun q0 hq0 => ?_⟩)))
    refine bv_cons (sw_set 4 sc_wrong_state.nd (ew_catNN (ew_ev (ev_var 4 rfl) ⟨_, _, rfl, Mem.set_same, ew_lstN (aw_av (av_cons (ev_tup (av_cons (ev_tup (av_cons (ev_tup av_nil) (av_cons (ev_tup av_nil) (av_cons ev_bl (av_cons ev_bl av_nil))))) av_nil)) (av_cons (ev_tup (av_cons (ev_tup (av_cons (ev_tup av_nil) (av_cons (ev_tup av_nil) (av_cons ev_non (av_cons ev_bl av_nil))))) av_nil)) (av_cons (ev_tup (av_cons (ev_tup (av_cons (ev_tup (av_cons (ev_var 1 rfl) av_nil)) (av_cons (ev_tup av_nil) (av_cons ev_int (av_cons ev_bl av_nil))))) av_nil)) (av_cons (ev_tup (av_cons (ev_tup (av_cons (ev_tup av_nil) (av_cons (ev_tup (av_cons (ev_var 1 rfl) av_nil)) (av_cons ev_int (av_cons ev_bl av_nil))))) av_nil)) (av_cons (ev_tup (av_cons (ev_tup (av_cons (ev_tup (av_cons (ev_un un_neg ev_int ru_neg) av_nil)) (av_cons (ev_tup av_nil) (av_cons ev_int (av_cons ev_bl av_nil))))) av_nil)) av_nil))))) ⟨by (simp only [List.length_cons, List.length_nil, List.length_append]; decide), fun r1 hr1 => ⟨_, _, rfl, Mem.set_at Mem.set_same hr1, Mem.set_same, by (simp only [List.length_cons, List.length_nil, List.length_append]; decide), fun q1 hq1 => ?_⟩⟩)⟩)))
    refine bv_cons (sw_set 4 sc_wrong_state.nd (ew_catNN (ew_ev (ev_var 4 rfl) ⟨_, _, rfl, Mem.set_same, ew_lstN (aw_av (av_cons (ev_tup (av_cons (ev_tup (av_cons ev_int (av_cons (ev_tup av_nil) (av_cons ev_int (av_cons ev_bl av_nil))))) av_nil)) (av_cons (ev_tup (av_cons (ev_tup (av_cons (ev_tup av_nil) (av_cons ev_non (av_cons ev_int (av_cons ev_bl av_nil))))) av_nil)) (av_cons (ev_tup (av_cons (ev_tup (av_cons (ev_tup (av_cons ev_bl av_nil)) (av_cons (ev_tup av_nil) (av_cons ev_int (av_cons ev_bl av_nil))))) av_nil)) (av_cons (ev_tup (av_cons (ev_tup (av_cons (ev_tup (av_cons ev_str av_nil)) (av_cons (ev_tup av_nil) (av_cons ev_int (av_cons ev_bl av_nil))))) av_nil)) (av_cons (ev_tup (av_cons (ev_var 3 rfl) (av_cons (ev_tup (av_cons (ev_tup av_nil) (av_cons (ev_tup av_nil) (av_cons ev_int (av_cons ev_non av_nil))))) av_nil))) (av_cons (ev_tup (av_cons (ev_var 3 rfl) (av_cons (ev_var 3 rfl) (av_cons (ev_tup (av_cons ev_int av_nil)) av_nil)))) av_nil)))))) ⟨by (simp only [List.length_cons, List.length_nil, List.length_append]; decide), fun r2 hr2 => ⟨_, _, rfl, Mem.set_at Mem.set_same hr2, Mem.set_same, by (simp only [List.length_cons, List.length_nil, List.length_append]; decide), fun q2 hq2 => ?_⟩⟩)⟩)))
    refine bv_cons (sv_if (tv_cmpR op_gt (ev_var 1 rfl) ev_int rs_I0 (nomark _)) (fun _ => bv_one (sv_append (ev_var 4 rfl) (ev_tup (av_cons (ev_tup (av_cons (ev_mulT (ev_tup (av_cons ev_int av_nil)) ev_int (by simp) (by decide) (by (simp only [List.length_cons, List.length_nil]; decide))) (av_cons (ev_tup av_nil) (av_cons ev_int (av_cons ev_bl av_nil))))) av_nil)) ⟨_, Mem.set_same⟩ Mem.set_same (by (simp only [List.length_cons, List.length_nil, List.length_append]; decide)) ?_)) (fun h => absurd (of_decide_eq_false h) (by omega)))
    rw [Mem.set_set]
    refine bv_one (sw_ret ?_)
    refine ew_callW c_pick (hr.mono (by decide)) ?_
    refine aw_cons (ew_ev (ev_var 0 rfl) ?_)
    refine aw_cons (ew_frz (ew_ev (ev_var 4 rfl) ⟨_, _, _, rfl, rfl, hq2, ?_⟩))
    refine aw_nil ⟨a, p, true, _, rfl, (Mem.set_at (Mem.set_at (Mem.set_at (Mem.set_at hA hq0) hr1) hq1) hr2), ok, by (simp only [List.length_cons, List.length_nil, List.length_append]; decide), by (simp only [List.length_cons, List.length_nil, List.length_append]; decide), fun d hd p3 ok3 M3 fr3 hA3 => ⟨_, hΦ d ?_ p3 ok3 _ ((((((Fr1.refl a M).new hq0).trans ((Fr1.refl _ _).new hr1)).trans ((Fr1.refl _ _).new hq1)).trans ((Fr1.refl _ _).new hr2)).trans fr3) hA3, Mle.refl _⟩⟩
    exact wrong_states h1 h2 d hd
def chD (ds : List D) (i : Nat) (x : D) : List D := ds.take i ++ x :: ds.drop (i + 1)
theorem cut_to (ds : List D) (i : Nat) : cutD ds none (some (i : Int)) = ds.take i := by
  unfold cutD
  rw [HT.sIx_none, List.drop_zero, Nat.sub_zero, show HT.sIx ds.length ds.length (some ((i : Nat) : Int)) = min i ds.length from HT.sIx_nat _ _ i]
  exact (List.take_eq_take_min ..).symm
theorem cut_from (ds : List D) (i : Nat) : cutD ds (some (i : Int)) none = ds.drop i := by
  unfold cutD
  rw [HT.sIx_none, show HT.sIx ds.length 0 (some ((i : Nat) : Int)) = min i ds.length from HT.sIx_nat _ 0 i]
  have e : ds.drop (min i ds.length) = ds.drop i := by
    by_cases h : i ≤ ds.length
    · rw [Nat.min_eq_left h]
    · rw [Nat.min_eq_right (by omega), List.drop_length, List.drop_eq_nil_of_le (by omega)]
  rw [e]
  exact List.take_of_length_le (by rw [List.length_drop]; omega)
def PrChanged (ds : List D) (M : Mem) (d : D) (M' : Mem) : Prop := ∃ es i x, ds = [.tup es, nD i, x] ∧ es.length ≤ 1000 ∧ d = .tup (chD es i x) ∧ M' = M
theorem c_changed (F : Fun K "_law_changed" "_law_changed" s_changed f fd) (hm : mg "_law_changed" = some (.ref f)) : Cal P w K mg base 1 "_law_changed" (spD K PrChanged) := by
  refine cal_of F sc_changed hm (fun _ _ _ _ _ _ us hl => match us, hl with | [_, _, _], _ => rfl) (fun ds M d M' h => ?_) fun cdv A outer s H E ds M d M' hr h => ?_
  · obtain ⟨es, i, x, rfl, _⟩ := h
    rfl
  · obtain ⟨es, i, x, rfl, hl, rfl, rfl⟩ := h
    show BV _ _ [some (.tup es), some (nD i), some x] _ _
    have l1 : (cutD es none (some (i : Int))).length ≤ 1000 := by
      rw [cut_to, List.length_take]
      omega
    refine bv_one (sv_ret (ev_catT (ev_catT (ev_sliceQ (b' := false) (ds := es) (ev_var 0 rfl) ov_none (ov_some (ev_var 1 rfl))) (ev_tup (av_cons (ev_var 2 rfl) av_nil)) (Nat.le_trans (Nat.add_le_add_right l1 1) (by decide))) (ev_sliceQ (b' := false) (ds := es) (ev_var 0 rfl) (ov_some (ev_op op_add (ev_var 1 rfl) ev_int rs_I0)) ov_none) ?_) ⟨?_, Mle.refl _⟩)
    · rw [show ((i : Int) + 1) = ((i + 1 : Nat) : Int) from rfl, cut_from, List.length_append, List.length_drop]
      exact Nat.le_trans (show _ ≤ 2001 by (simp only [List.length_cons, List.length_nil]; omega)) (by decide)
    · rw [show ((i : Int) + 1) = ((i + 1 : Nat) : Int) from rfl, cut_from, cut_to]
      unfold chD
      rw [List.append_assoc]
      rfl
end
/-! ### a book is drawn -/
section
variable {P : Program} {w : World} {K : PySem.W.Frag} {mg : Str → Option Value} {base : Heap} {f : Addr} {fd : FuncData}
def R_lbook (ds : List D) (M : Mem) (Φ : D → Mem → Prop) : Prop := ∃ (a : Addr) (p : Pool) (n m q : Nat), ds = [dP a, nD n, nD m, nD q] ∧ M a = some (Pool.mo p) ∧ p.Ok ∧ (1 ≤ n ∧ n ≤ 4) ∧ (1 ≤ m ∧ m ≤ 16) ∧ (1 ≤ q ∧ q ≤ 24) ∧ ∀ (ts : List Tst) (ss : List D), (1 ≤ ts.length ∧ ts.length ≤ m) → (∀ t ∈ ts, TstOk t ∧ TstR t) → (1 ≤ ss.length ∧ ss.length ≤ q) → (∀ x ∈ ss, StateR ts.length ss.length x) → Draw M a Φ (.tup [.tup (ts.map tstD), .tup ss])
theorem c_book (F : Fun K "_law_book" "_law_book" s_book f fd) (hm : mg "_law_book" = some (.ref f)) (T : Bt mg) (c_take : Cal P w K mg base 2 "_law_take" (spW K R_take)) (c_tests : Cal P w K mg base 5 "_law_tests" (spW K R_ltests)) (c_numbers : Cal P w K mg base 3 "_law_numbers" (spW K R_numbers)) : Cal P w K mg base 6 "_law_book" (spW K R_lbook) := by
  refine calW_of F sc_book hm (fun _ _ _ _ _ _ us hl => match us, hl with | [_, _, _, _], _ => rfl) (fun ds M Φ h => ?_) fun cdv A outer s H E ds M Φ hr h => ?_
  · obtain ⟨a, p, n, m, q, rfl, _⟩ := h
    rfl
  · obtain ⟨a, p, n, m, q, rfl, hA, ok, hn, hm16, hq, hΦ⟩ := h
    show BV _ _ [some (dP a), some (nD n), some (nD m), some (nD q), none, none, none, none, none, none, none] _ _
    refine bv_cons (sw_set 4 sc_book.nd ?_)
    refine ew_callW c_tests (hr.mono (by decide)) (aw_av (av_cons (ev_var 0 rfl) (av_cons (ev_var 1 rfl) (av_cons (ev_var 2 rfl) av_nil))) ⟨a, p, n, m, rfl, hA, ok, hn, hm16, fun ts hts tsr p1 ok1 M1 fr1 hA1 => ?_⟩)
    refine bv_cons (sw_set 5 sc_book.nd ?_)
    refine ew_op op_add ?_
    refine ew_ev ev_int ⟨_, rfl, ?_⟩
    refine ew_callW c_take (hr.mono (by decide)) (aw_av (av_cons (ev_var 0 rfl) (av_cons (ev_var 3 rfl) av_nil)) ⟨a, p1, _, rfl, hA1, ok1, by omega, by omega, fun n3 lo3 hi3 p3 ok3 M3 fr3 hA3 => ?_⟩)
    refine ⟨_, _, rfl, rs_I0, ?_⟩
    have e5 : (V.int (1 + n3)) = V.int (((1 + n3).toNat : Nat) : Int) := by rw [Int.toNat_of_nonneg (by omega)]
    rw [e5]
    have hk : 1 ≤ (1 + n3).toNat ∧ (1 + n3).toNat ≤ q := by omega
    generalize (1 + n3).toNat = k at hk ⊢
    clear e5
    have fr3 := fr1.trans fr3
    have tl : (ts.map tstD).length = ts.length := List.length_map ..
    show BV _ _ [some (dP a), some (nD n), some (nD m), some (nD q), some (.tup (ts.map tstD)), some (nD k), none, none, none, none, none] _ _
    refine bv_cons (sv_set 6 sc_book.nd (ev_tup av_nil) ?_)
    refine bv_cons (sw_for rfl (pg_name (i := 7) sc_book.nd rfl (.inl rfl)) ?_)
    refine iw_iv (iv_range1 T.range (ev_var 5 rfl) (by omega)) ⟨fun i ρ M4 => ∃ (x7 x8 x9 x10 : Option D) (ss : List D) (q4 : Pool), ρ = [some (dP a), some (nD n), some (nD m), some (nD q), some (.tup (ts.map tstD)), some (nD k), some (.tup ss), x7, x8, x9, x10] ∧ ss.length = i ∧ (∀ x ∈ ss, StateR ts.length k x) ∧ Fr1 a M M4 ∧ M4 a = some (Pool.mo q4) ∧ q4.Ok, ⟨none, none, none, none, [], p3, rfl, rfl, (fun _ h => nomatch h), fr3, hA3, ok3⟩, fun i d ρ' M4 hd iv => ?_, fun ρ' M4 iv => ?_⟩
    · obtain ⟨x7, x8, x9, x10, ss, q4, rfl, hl, hss, fr4, hA4, ok4⟩ := iv
      obtain ⟨hi, rfl⟩ := rgD_get hd
      have hi : i < k := by
        have := hi
        omega
      refine ⟨_, tg_name, ?_⟩
      refine bv_cons (sv_set 8 sc_book.nd (ev_tup av_nil) ?_)
      refine bv_cons (sw_for rfl (pg_name (i := 9) sc_book.nd rfl (.inl rfl)) ?_)
      refine iw_range1 T.range ?_
      refine ew_to (Φ := fun d M5 => ∃ (j : Int) (q5 : Pool), d = dI j ∧ 0 ≤ j ∧ j ≤ 16 ∧ Fr1 a M M5 ∧ M5 a = some (Pool.mo q5) ∧ q5.Ok) ?_ ?_
      · refine ew_if ?_
        refine tw_cmp op_gt ?_ (nomark _)
        refine ew_callW c_take (hr.mono (by decide)) (aw_av (av_cons (ev_var 0 rfl) (av_cons ev_int av_nil)) ⟨a, q4, _, rfl, hA4, ok4, by decide, by decide, fun n5 lo5 hi5 p5 ok5 M5 fr5 hA5 => ⟨_, rfl, ?_⟩⟩)
        refine ew_ev ev_int ⟨_, _, rfl, rs_I0, fun _ => ?_, fun _ => ?_⟩
        · refine ew_callW c_take (hr.mono (by decide)) (aw_av (av_cons (ev_var 0 rfl) (av_cons ev_int av_nil)) ⟨a, p5, _, rfl, hA5, ok5, by decide, by decide, fun n6 lo6 hi6 p6 ok6 M6 fr6 hA6 => ?_⟩)
          exact ⟨n6, p6, rfl, lo6, by omega, (fr4.trans fr5).trans fr6, hA6, ok6⟩
        · exact ew_ev ev_int ⟨16, p5, rfl, by decide, by decide, fr4.trans fr5, hA5, ok5⟩
      rintro d M5 ⟨j, q5, rfl, j0, j16, fr5, hA5, ok5⟩
      refine ⟨j, rfl, by omega, fun i2 ρ M6 => ∃ (x9 x10 : Option D) (cs : List D) (q6 : Pool), ρ = [some (dP a), some (nD n), some (nD m), some (nD q), some (.tup (ts.map tstD)), some (nD k), some (.tup ss), some (dI (0 + (i : Nat))), some (.tup cs), x9, x10] ∧ cs.length = i2 ∧ (∀ x ∈ cs, RowR ts.length k x) ∧ Fr1 a M M6 ∧ M6 a = some (Pool.mo q6) ∧ q6.Ok, ⟨x9, x10, [], q5, rfl, rfl, (fun _ h => nomatch h), fr5, hA5, ok5⟩, fun i2 d2 ρ2 M6 hd2 iv => ?_, fun ρ2 M6 iv => ?_⟩
      · obtain ⟨x9, x10, cs, q6, rfl, hcl, hcs, fr6, hA6, ok6⟩ := iv
        obtain ⟨hi2, rfl⟩ := rgD_get hd2
        have hi2 : i2 < 16 := by
          have := hi2
          omega
        refine ⟨_, tg_name, ?_⟩
        refine bv_cons (sw_set 10 sc_book.nd ?_)
        refine ew_cmp op_eq ?_ (nomark _)
        refine ew_callW c_take (hr.mono (by decide)) (aw_av (av_cons (ev_var 0 rfl) (av_cons ev_int av_nil)) ⟨a, q6, _, rfl, hA6, ok6, by decide, by decide, fun n7 lo7 hi7 p7 ok7 M7 fr7 hA7 => ⟨_, rfl, ?_⟩⟩)
        refine ew_ev ev_int ⟨_, _, rfl, rs_eqI, ?_⟩
        generalize decide (n7 = 0) = br
        refine bv_one (sw_set 8 sc_book.nd ?_)
        refine ew_catT ?_
        refine ew_ev (ev_var 8 rfl) ⟨_, rfl, ?_⟩
        refine ew_tup ?_
        refine aw_cons ?_
        refine ew_tup ?_
        refine aw_cons ?_
        refine ew_callW c_numbers (hr.mono (by decide)) (aw_av (av_cons (ev_var 0 rfl) (av_cons (ev_to (ev_lenT T.len (ev_var 4 rfl)) (by rw [tl])) av_nil)) ⟨a, p7, ts.length, rfl, hA7, ok7, hts.1, by omega, fun is his p8 ok8 M8 fr8 hA8 => ?_⟩)
        refine aw_cons ?_
        refine ew_callW c_numbers (hr.mono (by decide)) (aw_av (av_cons (ev_var 0 rfl) (av_cons (ev_to (ev_lenT T.len (ev_var 4 rfl)) (by rw [tl])) av_nil)) ⟨a, p8, ts.length, rfl, hA8, ok8, hts.1, by omega, fun js hjs p9 ok9 M9 fr9 hA9 => ?_⟩)
        refine aw_cons ?_
        refine ew_callW c_take (hr.mono (by decide)) (aw_av (av_cons (ev_var 0 rfl) (av_cons (ev_var 5 rfl) av_nil)) ⟨a, p9, _, rfl, hA9, ok9, by omega, by omega, fun nA loA hiA pA okA MA frA hAA => ?_⟩)
        refine aw_cons (ew_ev (ev_var 10 rfl) ?_)
        refine aw_nil ⟨by (simp only [List.length_cons, List.length_nil]; decide), ?_⟩
        refine aw_nil ⟨by (simp only [List.length_cons, List.length_nil]; decide), _, rfl, ?_, ?_⟩
        · rw [hcl]
          exact Nat.le_trans (show i2 + 1 ≤ 17 by omega) (by decide)
        · refine ⟨some (dI (0 + (i2 : Nat))), some (dB br), cs ++ [.tup [.tup (is.map dI), .tup (js.map dI), dI nA, dB br]], pA, rfl, by rw [List.length_append, hcl]; rfl, fun x hx => ?_, (((fr6.trans fr7).trans fr8).trans fr9).trans frA, hAA, okA⟩
          rcases List.mem_append.mp hx with hx | hx
          · exact hcs x hx
          · obtain rfl := List.mem_singleton.mp hx
            exact ⟨is, js, nA, br, rfl, his, hjs, loA, hiA⟩
      · obtain ⟨x9, x10, cs, q6, rfl, hcl, hcs, fr6, hA6, ok6⟩ := iv
        rw [rgD_len] at hcl
        refine bv_one (sv_set 6 sc_book.nd (ev_catT (ev_var 6 rfl) (ev_tup (av_cons (ev_var 8 rfl) av_nil)) ?_) ?_)
        · rw [hl]
          exact Nat.le_trans (show i + 1 ≤ 25 by omega) (by decide)
        · refine ⟨_, _, _, _, ss ++ [.tup cs], q6, rfl, by rw [List.length_append, hl]; rfl, fun x hx => ?_, fr6, hA6, ok6⟩
          rcases List.mem_append.mp hx with hx | hx
          · exact hss x hx
          · obtain rfl := List.mem_singleton.mp hx
            exact ⟨cs, rfl, by omega, hcs⟩
    · obtain ⟨x7, x8, x9, x10, ss, q4, rfl, hl, hss, fr4, hA4, ok4⟩ := iv
      rw [rgD_len] at hl
      have hl : ss.length = k := by
        rw [hl]
        omega
      subst hl
      exact bv_one (sv_ret (ev_tup (av_cons (ev_var 4 rfl) (av_cons (ev_var 6 rfl) av_nil))) ⟨_, hΦ ts ss hts tsr hk hss q4 ok4 _ fr4 hA4, Mle.refl _⟩)
end
/-! ### the law -/
theorem badAt_all {p : D → Bool} : ∀ {i : Nat} {ds : List D}, (∀ d ∈ ds, p d = true) → badAt p i ds = none
  | _, [], _ => rfl
  | i, x :: ds, h => by
    unfold badAt
    rw [if_pos (h x (List.mem_cons_self ..))]
    exact badAt_all fun d hd => h d (List.mem_cons_of_mem _ hd)
theorem badAt_at {p : D → Bool} {x : D} {ys : List D} (hx : p x = false) : ∀ {i : Nat} {xs : List D}, (∀ d ∈ xs, p d = true) → badAt p i (xs ++ x :: ys) = some (i + xs.length)
  | i, [], _ => by
    show badAt p i (x :: ys) = _
    unfold badAt
    rw [if_neg (by rw [hx]; exact Bool.false_ne_true)]
    rfl
  | i, z :: xs, h => by
    show badAt p i (z :: (xs ++ x :: ys)) = _
    unfold badAt
    rw [if_pos (h z (List.mem_cons_self ..)), badAt_at hx fun d hd => h d (List.mem_cons_of_mem _ hd), List.length_cons]
    congr 1
    omega
theorem tst_tup {t : Tst} (r : TstR t) : tupB 5 (tstD t) = true := by
  cases t with
  | by_ v ivs =>
    have h := r.2.1
    simp [tstD, argsT, tupB, frD]
    omega
  | cls v s ns =>
    have h := r.2.1
    simp [tstD, argsT, tupB]
    omega
  | _ => simp [tstD, argsT, tupB, frD]
theorem tst_in {t : Tst} (h : TstOk t) (r : TstR t) : TstIn (tstD t) := ⟨tupD_tupB (tst_tup r), fun z rest e => by
  simp only [tstD, D.tup.injEq, List.cons.injEq, D.val.injEq, V.str.injEq] at e
  rw [← e.1]
  cases t <;> simp only [wordT] <;> exact .inl (by decide +kernel), fun _ => ⟨t, rfl, h⟩⟩
def tellD (tt ss : D) : D := match bookW tt ss with
  | none => .tup [dS "told", nD (lenD ss)]
  | some (z, i) => .tup [dS "raised", dS z, optN i, dB true]
theorem tell_ok {tt ss : D} (h : bookW tt ss = none) : tellD tt ss = .tup [dS "told", nD (lenD ss)] := by
  unfold tellD
  rw [h]
theorem tell_bad {tt ss : D} {z : Str} {i : Option Nat} (h : bookW tt ss = some (z, i)) : tellD tt ss = .tup [dS "raised", dS z, optN i, dB true] := by
  unfold tellD
  rw [h]
theorem okD_i {n : Nat} (i : Int) : okD n (dI i) := by cases n <;> exact .inr (.inr (.inl ⟨i, rfl⟩))
theorem okD_b {n : Nat} (i : Bool) : okD n (dB i) := by cases n <;> exact .inr (.inl ⟨i, rfl⟩)
theorem okD_s {n : Nat} (i : Str) : okD n (dS i) := by cases n <;> exact .inr (.inr (.inr ⟨i, rfl⟩))
theorem okD_n {n : Nat} : okD n dN := by cases n <;> exact .inl rfl
theorem okD_tell {tt ss : D} : okD 1 (tellD tt ss) := by
  unfold tellD
  split
  · refine ⟨by (simp only [List.length_cons, List.length_nil]; decide), fun d hd => ?_⟩
    simp only [List.mem_cons, List.not_mem_nil, or_false] at hd
    rcases hd with rfl | rfl
    · exact okD_s _
    · exact okD_i _
  · rename_i z i _
    refine ⟨by (simp only [List.length_cons, List.length_nil]; decide), fun d hd => ?_⟩
    simp only [List.mem_cons, List.not_mem_nil, or_false] at hd
    rcases hd with rfl | rfl | rfl | rfl
    · exact okD_s _
    · exact okD_s _
    · cases i with
      | none => exact okD_n
      | some i => exact okD_i _
    · exact okD_b _
theorem told_of {tt ss : D} {M : Mem} {Φ : D → Mem → Prop} (pT : PreT tt) (pS : PreS ss) (h : ∀ M', Mle M M' → Φ (tellD tt ss) M') : R_told [tt, ss] M Φ := by
  refine ⟨tt, ss, rfl, pT, pS, ?_⟩
  unfold tellD at h
  cases e : bookW tt ss with
  | none =>
    rw [e] at h
    exact h
  | some iz =>
    rw [e] at h
    exact h
structure BadS (m s k : Nat) (bs : List D) : Prop where
  len : bs.length = s
  ex : ∃ xs x ys, bs = xs ++ x :: ys ∧ xs.length = k ∧ (∀ d ∈ xs, stateD m s d = true) ∧ stateD m s x = false
  kd : ∀ d ∈ bs, kD 6 d
structure BadT (n j : Nat) (us : List D) : Prop where
  len : us.length = n
  ex : ∃ xs x ys, us = xs ++ x :: ys ∧ xs.length = j ∧ (∀ d ∈ xs, isTestD d = true) ∧ isTestD x = false
  kd : ∀ d ∈ us, TstIn d
theorem ch_len {ds : List D} {i : Nat} {x : D} (h : i < ds.length) : (chD ds i x).length = ds.length := by
  unfold chD
  rw [List.length_append, List.length_cons, List.length_take, List.length_drop]
  omega
theorem ch_mem {ds : List D} {i : Nat} {x d : D} (h : d ∈ chD ds i x) : d = x ∨ d ∈ ds := by
  unfold chD at h
  rcases List.mem_append.mp h with h | h
  · exact .inr (List.mem_of_mem_take h)
  · rcases List.mem_cons.mp h with h | h
    · exact .inl h
    · exact .inr (List.mem_of_mem_drop h)
theorem bs_ch {m k : Nat} {ss : List D} {x : D} (hk : k < ss.length) (hs : ∀ d ∈ ss, StateR m ss.length d) (hx : NoSt m ss.length x) : BadS m ss.length k (chD ss k x) :=
  ⟨ch_len hk, ⟨ss.take k, x, ss.drop (k + 1), rfl, by rw [List.length_take]; omega, fun d hd => state_good (hs d (List.mem_of_mem_take hd)), hx.2⟩, fun d hd => by
    rcases ch_mem hd with rfl | hd
    · exact kD_up (kD_tupB hx.1)
    · exact kD_state (hs d hd)⟩
theorem take_at {xs ys : List D} {x : D} : (xs ++ x :: ys).take (xs.length + 1) = xs ++ [x] := by
  rw [List.take_append, List.take_of_length_le (Nat.le_succ _), Nat.add_sub_cancel_left]
  rfl
theorem bs_none {m s k : Nat} {bs : List D} (h : BadS m s k bs) (hk : k + 1 < s) : BadS m s k (chD bs (k + 1) dN) := by
  obtain ⟨len, ⟨xs, x, ys, rfl, rfl, h1, h2⟩, kd⟩ := h
  refine ⟨by rw [ch_len (by omega)]; exact len, ⟨xs, x, dN :: (xs ++ x :: ys).drop (xs.length + 1 + 1), ?_, rfl, h1, h2⟩, fun d hd => ?_⟩
  · unfold chD
    rw [take_at, List.append_assoc]
    rfl
  · rcases ch_mem hd with rfl | hd
    · exact kD_none
    · exact kd d hd
theorem bt_ch {j : Nat} {us : List D} {x : D} (hj : j < us.length) (hs : ∀ d ∈ us, isTestD d = true ∧ TstIn d) (hx : wrongB x = true) : BadT us.length j (chD us j x) :=
  ⟨ch_len hj, ⟨us.take j, x, us.drop (j + 1), rfl, by rw [List.length_take]; omega, fun d hd => (hs d (List.mem_of_mem_take hd)).1, (wrong_in hx).2⟩, fun d hd => by
    rcases ch_mem hd with rfl | hd
    · exact (wrong_in hx).1
    · exact (hs d hd).2⟩
theorem rep_one {x : D} : ∀ {n : Nat}, (List.replicate n [x]).flatten = List.replicate n x
  | 0 => rfl
  | n + 1 => by
    rw [List.replicate_succ, List.flatten_cons, rep_one, List.replicate_succ]
    rfl
theorem bt_more {n j : Nat} {us : List D} {x : D} {k : Int} (h : BadT n j us) (hj : j < n) (hk : k = (n : Int) - (j : Int) - 1) (hx : wrongB x = true) : BadT n j (cutD us none (some ((j : Int) + 1)) ++ (List.replicate k.toNat [x]).flatten) := by
  subst hk
  obtain ⟨len, ⟨xs, z, ys, rfl, rfl, h1, h2⟩, kd⟩ := h
  rw [show ((xs.length : Int) + 1) = ((xs.length + 1 : Nat) : Int) from rfl, cut_to, take_at, rep_one]
  refine ⟨?_, ⟨xs, z, List.replicate _ x, by rw [List.append_assoc]; rfl, rfl, h1, h2⟩, fun d hd => ?_⟩
  · rw [List.length_append, List.length_append, List.length_replicate]
    simp only [List.length_cons, List.length_nil]
    omega
  · rcases List.mem_append.mp hd with hd | hd
    · exact kd d (by
        rcases List.mem_append.mp hd with hd | hd
        · exact List.mem_append_left _ hd
        · obtain rfl := List.mem_singleton.mp hd
          simp)
    · obtain rfl := (List.mem_replicate.mp hd).2
      exact (wrong_in hx).1
theorem book_ok {ds ss : List D} (h1 : ds.length ≤ 16) (h2 : ∀ d ∈ ds, isTestD d = true) (h3 : 1 ≤ ss.length ∧ ss.length ≤ 24) (h4 : ∀ d ∈ ss, stateD ds.length ss.length d = true) : bookW (.tup ds) (.tup ss) = none := by
  unfold bookW
  rw [wrongT_tup, if_pos h1, badAt_all h2]
  show (wrongS ((lenD (.tup ds) : Nat) : Int) (.tup ss)).map _ = none
  rw [wrongS_tup, if_pos h3, show (lenD (.tup ds) : Nat) = ds.length from rfl, badAt_all h4]
  rfl
theorem book_bs {ds bs : List D} {s k : Nat} (h1 : ds.length ≤ 16) (h2 : ∀ d ∈ ds, isTestD d = true) (h3 : 1 ≤ s ∧ s ≤ 24) (h4 : BadS ds.length s k bs) : bookW (.tup ds) (.tup bs) = some (("states" : Str), some k) := by
  obtain ⟨len, ⟨xs, x, ys, rfl, rfl, g1, g2⟩, kd⟩ := h4
  unfold bookW
  rw [wrongT_tup, if_pos h1, badAt_all h2]
  show (wrongS ((lenD (.tup ds) : Nat) : Int) (.tup _)).map _ = _
  rw [wrongS_tup, len, if_pos h3, show (lenD (.tup ds) : Nat) = ds.length from rfl, badAt_at g2 g1, Nat.zero_add]
  rfl
theorem book_bt {us : List D} {ss : D} {n j : Nat} (h1 : n ≤ 16) (h : BadT n j us) : bookW (.tup us) ss = some (("tests" : Str), some j) := by
  obtain ⟨len, ⟨xs, x, ys, rfl, rfl, g1, g2⟩, kd⟩ := h
  unfold bookW
  rw [wrongT_tup, len, if_pos h1, badAt_at g2 g1, Nat.zero_add]
  rfl
def rowF : D := .tup [.tup (List.replicate 16 [dI 0]).flatten, .tup (List.replicate 16 [dI 1]).flatten, dI 23, dB true]
def fullF : List D := (List.replicate 24 [.tup (List.replicate 16 [rowF]).flatten]).flatten
def alongF : D := .tup [dS "along", dI 0, dI 1]
def testsF : List D := (List.replicate 16 [alongF]).flatten
def CaseF (d : D) : Prop := ∃ x y, d = .tup [x, y, tellD x y] ∧ PreT x ∧ PreS y
theorem along_in : TstIn alongF := tst_in (t := .along 0 1) (tstOk_plain (fun _ _ h => nomatch h) (fun _ _ h => nomatch h) (fun _ _ _ h => nomatch h)) ⟨by decide, by decide, by decide⟩
theorem preT_along {ts : List D} (h : ts.length ≤ 1000) (q : ∀ d ∈ ts, d = alongF) : PreT (.tup ts) := .inr ⟨ts, rfl, h, fun d hd => by rw [q d hd]; exact along_in⟩
theorem testsF_all : ∀ d ∈ testsF, d = alongF := fun d hd => by
  unfold testsF at hd
  rw [rep_one] at hd
  exact (List.mem_replicate.mp hd).2
theorem preS_full {ss : List D} (h : ss.length ≤ 1000) (q : ∀ d ∈ ss, d ∈ fullF) : PreS (.tup ss) := .inr ⟨ss, rfl, h, fun d hd => kD_up (kD_tupB (List.all_eq_true.mp (show List.all fullF (tupB 5) = true by decide +kernel) d (q d hd)))⟩
theorem case_mk {x y d : D} (pT : PreT x) (pS : PreS y) (h : tellD x y = d) : CaseF (.tup [x, y, d]) := ⟨x, y, by rw [h], pT, pS⟩
section
variable {P : Program} {w : World} {K : PySem.W.Frag} {mg : Str → Option Value} {base : Heap} {f : Addr} {fd : FuncData}
theorem c_law (F : Fun K "law" "law" s_law f fd) (T : Bt mg) (c_pool : Cal P w K mg base 1 "_law_pool" (spN K PrPool)) (c_take : Cal P w K mg base 2 "_law_take" (spW K R_take)) (c_pick : Cal P w K mg base 3 "_law_pick" (spW K R_pick)) (c_book : Cal P w K mg base 6 "_law_book" (spW K R_lbook)) (c_told : Cal P w K mg base 9 "_law_told" (spW K R_told)) (c_same : Cal P w K mg base 3 "_law_same" (spD K (PrSame 1))) (c_changed : Cal P w K mg base 1 "_law_changed" (spD K PrChanged)) (c_wrong_state : Cal P w K mg base 4 "_law_wrong_state" (spW K R_wrongS)) (c_wrong_test : Cal P w K mg base 4 "_law_wrong_test" (spW K R_wrongT)) : FnOk P w K mg base CX0 10 f fd ["script"] (spLaw K) := by
  refine law_of F sc_law fun cdv A outer s H E ns hr hl => ?_
  show BV _ _ [some (.lst (ns.map dI)), none, none, none, none, none, none, none, none, none, none, none, none, none] _ _
  refine bv_cons (sv_setN 1 sc_law.nd (en_call c_pool (hr.mono (by decide)) (av_cons (ev_var 0 rfl) av_nil) ⟨ns, rfl, by omega, rfl, rfl⟩) (fun a ha => ?_))
  have hA : (Mem.set (fun _ => none) a (Pool.mo (Pool.new ns))) a = some (Pool.mo (Pool.new ns)) := Mem.set_same
  have ok := Pool.new_ok ns
  show BV _ _ _ (Mem.set (fun _ => none) a (Pool.mo (Pool.new ns))) _
  generalize Mem.set (fun _ => none) a (Pool.mo (Pool.new ns)) = M0 at hA ⊢
  generalize Pool.new ns = p at hA ok
  refine bv_cons (sw_for rfl (pg_name (i := 2) sc_law.nd rfl (.inl rfl)) ?_)
  refine iw_iv (iv_range1 T.range ev_int (by decide)) ⟨fun i ρ M => ∃ (x2 x3 x4 x5 x6 x7 x8 : Option D) (q : Pool), ρ = [some (.lst (ns.map dI)), some (dP a), x2, x3, x4, x5, x6, x7, x8, none, none, none, none, none] ∧ M a = some q.mo ∧ q.Ok, ⟨none, none, none, none, none, none, none, p, rfl, hA, ok⟩, fun i d ρ' M' hd iv => ?_, fun ρ' M' iv => ?_⟩
  · obtain ⟨x2, x3, x4, x5, x6, x7, x8, q, rfl, hA, ok⟩ := iv
    refine ⟨_, tg_name, ?_⟩
    refine bv_cons (sw_asg (pg_tup rfl (pgs_cons (pg_name (i := 3) sc_law.nd rfl (.inl rfl)) (pgs_cons (pg_name (i := 4) sc_law.nd rfl (.inl rfl)) pgs_nil))) ?_)
    refine ew_callW c_book (hr.mono (by decide)) (aw_av (av_cons (ev_var 1 rfl) (av_cons ev_int (av_cons ev_int (av_cons ev_int av_nil)))) ⟨a, q, 4, 16, 24, rfl, hA, ok, by decide, by decide, by decide, fun ts ss hts tsr hss ssr p1 ok1 M1 fr1 hA1 => ⟨_, tg_tup (tg_cons tg_name (tg_cons tg_name tg_nil)), ?_⟩⟩)
    have tl : (ts.map tstD).length = ts.length := List.length_map ..
    have gT : ∀ d ∈ ts.map tstD, isTestD d = true ∧ TstIn d := fun d hd => by
      obtain ⟨t, ht, rfl⟩ := List.mem_map.mp hd
      exact ⟨tst_good (tsr t ht).2, tst_in (tsr t ht).1 (tsr t ht).2⟩
    have nT : 1 ≤ (ts.map tstD).length ∧ (ts.map tstD).length ≤ 16 := by rw [tl]; exact hts
    rw [← tl] at ssr
    generalize ts.map tstD = us at gT nT ssr ⊢
    clear tl hts tsr
    have pT : PreT (.tup us) := .inr ⟨us, rfl, by omega, fun d hd => (gT d hd).2⟩
    have pS : PreS (.tup ss) := .inr ⟨ss, rfl, by omega, fun d hd => kD_state (ssr d hd)⟩
    have gT1 : ∀ d ∈ us, isTestD d = true := fun d hd => (gT d hd).1
    have e1 := tell_ok (book_ok nT.2 gT1 hss fun d hd => state_good (ssr d hd))
    show BV _ _ [some (.lst (ns.map dI)), some (dP a), some d, some (.tup us), some (.tup ss), x5, x6, x7, x8, none, none, none, none, none] _ _
    refine bv_cons (sw_if (tw_not (tw_val ?_)))
    refine ew_callD c_same (hr.mono (by decide)) (aw_cons (ew_callW c_told (hr.mono (by decide)) (aw_av (av_cons (ev_var 3 rfl) (av_cons (ev_var 4 rfl) av_nil)) (told_of pT pS fun M2 le2 => ?_))))
    refine aw_cons (ew_ev (ev_to (ev_tup (av_cons ev_str (av_cons (ev_lenT T.len (ev_var 4 rfl)) av_nil))) e1.symm) (aw_nil ⟨_, _, ⟨_, rfl, okD_tell, rfl, rfl⟩, _, rfl, fun h => (nomatch h), fun _ => bv_nil ?_⟩))
    have hA2 := le2 _ _ hA1
    refine bv_cons (sw_set 5 sc_law.nd ?_)
    refine ew_callW c_take (hr.mono (by decide)) (aw_av (av_cons (ev_var 1 rfl) (av_cons (ev_lenT T.len (ev_var 4 rfl)) av_nil)) ⟨a, p1, _, rfl, hA2, ok1, by omega, by omega, fun n3 lo3 hi3 p3 ok3 M3 fr3 hA3 => ?_⟩)
    obtain ⟨k, rfl⟩ : ∃ k : Nat, n3 = (k : Int) := ⟨n3.toNat, by omega⟩
    have hk : k < ss.length := by omega
    refine bv_cons (sw_set 6 sc_law.nd ?_)
    refine ew_callD c_changed (hr.mono (by decide)) ?_
    refine aw_cons (ew_ev (ev_var 4 rfl) ?_)
    refine aw_cons (ew_ev (ev_var 5 rfl) ?_)
    refine aw_cons ?_
    refine ew_callW c_wrong_state (hr.mono (by decide)) (aw_av (av_cons (ev_var 1 rfl) (av_cons (ev_lenT T.len (ev_var 3 rfl)) (av_cons (ev_lenT T.len (ev_var 4 rfl)) av_nil))) ⟨a, p3, us.length, ss.length, rfl, hA3, ok3, nT.1, hss.1, fun x hx p4 ok4 M4 fr4 hA4 => ?_⟩)
    refine aw_nil ⟨_, _, ⟨ss, k, x, rfl, by omega, rfl, rfl⟩, ?_⟩
    have b0 := bs_ch hk ssr hx
    generalize chD ss k x = bs0 at b0 ⊢
    show BV _ _ [some (.lst (ns.map dI)), some (dP a), some d, some (.tup us), some (.tup ss), some (nD k), some (.tup bs0), x7, x8, none, none, none, none, none] _ _
    refine bv_cons (sv_join (fun ρ M => ∃ (bs : List D) (q : Pool), ρ = [some (.lst (ns.map dI)), some (dP a), some d, some (.tup us), some (.tup ss), some (nD k), some (.tup bs), x7, x8, none, none, none, none, none] ∧ BadS us.length ss.length k bs ∧ M a = some q.mo ∧ q.Ok) (sw_if (PW.pt (ww_and ?_))) ?_)
    · refine tw_cmp op_eq ?_ (nomark _)
      refine ew_callW c_take (hr.mono (by decide)) (aw_av (av_cons (ev_var 1 rfl) (av_cons ev_int av_nil)) ⟨a, p4, _, rfl, hA4, ok4, by decide, by decide, fun n5 lo5 hi5 p5 ok5 M5 fr5 hA5 => ⟨_, rfl, ?_⟩⟩)
      refine ew_ev ev_int ⟨_, _, rfl, rs_eqI, ?_⟩
      cases decide (n5 = 0) with
      | false => exact ⟨fun h => (nomatch h), fun _ => ⟨fun h => (nomatch h), fun _ => bv_nil ⟨bs0, p5, rfl, b0, hA5, ok5⟩⟩⟩
      | true =>
        refine ⟨fun _ => ww_one_and (tw_tv (tv_cmpR op_lt (ev_op op_add (ev_var 5 rfl) ev_int rs_I0) (ev_lenT T.len (ev_var 4 rfl)) rs_I0 (nomark _)) ⟨fun h => ?_, fun h => bv_nil ⟨bs0, p5, rfl, b0, hA5, ok5⟩⟩), fun h => (nomatch h)⟩
        have h := of_decide_eq_true h
        have hk2 : k + 1 < ss.length := by omega
        refine bv_one (sv_set 6 sc_law.nd (ev_call c_changed (hr.mono (by decide)) (av_cons (ev_var 6 rfl) (av_cons (ev_op op_add (ev_var 5 rfl) ev_int rs_I0) (av_cons ev_non av_nil))) ⟨bs0, k + 1, dN, rfl, by rw [b0.len]; omega, rfl, rfl⟩) ⟨_, p5, rfl, bs_none b0 hk2, hA5, ok5⟩)
    rintro ρ M5 ⟨bs, p5, rfl, hb, hA5, ok5⟩
    have pB : PreS (.tup bs) := .inr ⟨bs, rfl, by rw [hb.len]; omega, hb.kd⟩
    have e2 := tell_bad (book_bs nT.2 gT1 hss hb)
    refine bv_cons (sw_if (tw_not (tw_val ?_)))
    refine ew_callD c_same (hr.mono (by decide)) (aw_cons (ew_callW c_told (hr.mono (by decide)) (aw_av (av_cons (ev_var 3 rfl) (av_cons (ev_var 6 rfl) av_nil)) (told_of pT pB fun M6 le6 => ?_))))
    refine aw_cons (ew_ev (ev_to (ev_tup (av_cons ev_str (av_cons ev_str (av_cons (ev_var 5 rfl) (av_cons ev_bl av_nil))))) e2.symm) (aw_nil ⟨_, _, ⟨_, rfl, okD_tell, rfl, rfl⟩, _, rfl, fun h => (nomatch h), fun _ => bv_nil ?_⟩))
    have hA6 := le6 _ _ hA5
    refine bv_cons (sw_set 7 sc_law.nd ?_)
    refine ew_callW c_take (hr.mono (by decide)) (aw_av (av_cons (ev_var 1 rfl) (av_cons (ev_lenT T.len (ev_var 3 rfl)) av_nil)) ⟨a, p5, _, rfl, hA6, ok5, by omega, by omega, fun n7 lo7 hi7 p7 ok7 M7 fr7 hA7 => ?_⟩)
    obtain ⟨j, rfl⟩ : ∃ j : Nat, n7 = (j : Int) := ⟨n7.toNat, by omega⟩
    have hj : j < us.length := by omega
    refine bv_cons (sw_set 8 sc_law.nd ?_)
    refine ew_callD c_changed (hr.mono (by decide)) ?_
    refine aw_cons (ew_ev (ev_var 3 rfl) ?_)
    refine aw_cons (ew_ev (ev_var 7 rfl) ?_)
    refine aw_cons ?_
    refine ew_callW c_wrong_test (hr.mono (by decide)) (aw_av (av_cons (ev_var 1 rfl) av_nil) ⟨a, p7, rfl, hA7, ok7, fun y hy p8 ok8 M8 fr8 hA8 => ?_⟩)
    refine aw_nil ⟨_, _, ⟨us, j, y, rfl, by omega, rfl, rfl⟩, ?_⟩
    have t0 := bt_ch hj gT hy
    generalize chD us j y = vs0 at t0 ⊢
    show BV _ _ [some (.lst (ns.map dI)), some (dP a), some d, some (.tup us), some (.tup ss), some (nD k), some (.tup bs), some (nD j), some (.tup vs0), none, none, none, none, none] _ _
    refine bv_cons (sv_join (fun ρ M => ∃ (vs : List D) (q : Pool), ρ = [some (.lst (ns.map dI)), some (dP a), some d, some (.tup us), some (.tup ss), some (nD k), some (.tup bs), some (nD j), some (.tup vs), none, none, none, none, none] ∧ BadT us.length j vs ∧ M a = some q.mo ∧ q.Ok) (sw_if ?_) ?_)
    · refine tw_cmp op_eq ?_ (nomark _)
      refine ew_callW c_take (hr.mono (by decide)) (aw_av (av_cons (ev_var 1 rfl) (av_cons ev_int av_nil)) ⟨a, p8, _, rfl, hA8, ok8, by decide, by decide, fun n9 lo9 hi9 p9 ok9 M9 fr9 hA9 => ⟨_, rfl, ?_⟩⟩)
      refine ew_ev ev_int ⟨_, _, rfl, rs_eqI, fun h => ?_, fun h => bv_nil ⟨vs0, p9, rfl, t0, hA9, ok9⟩⟩
      refine bv_one (sw_set 8 sc_law.nd ?_)
      refine ew_catT ?_
      refine ew_ev (ev_sliceQ (b' := false) (ds := vs0) (ev_var 8 rfl) ov_none (ov_some (ev_op op_add (ev_var 7 rfl) ev_int rs_I0))) ⟨_, rfl, ?_⟩
      refine ew_mulT ?_
      refine ew_tup ?_
      refine aw_cons ?_
      refine ew_callW c_wrong_test (hr.mono (by decide)) (aw_av (av_cons (ev_var 1 rfl) av_nil) ⟨a, p9, rfl, hA9, ok9, fun z hz pA okA MA frA hAA => ?_⟩)
      refine aw_nil ⟨by (simp only [List.length_cons, List.length_nil]; decide), _, rfl, by simp, by (simp only [List.length_cons, List.length_nil]; decide), ?_⟩
      have t1 := bt_more (k := ((us.length : Nat) : Int) - (j : Int) - 1) t0 hj rfl hz
      refine ew_ev (ev_op op_sub (ev_op op_sub (ev_lenT T.len (ev_var 3 rfl)) (ev_var 7 rfl) rs_I0) ev_int rs_I0) ⟨_, rfl, ⟨by omega, by omega⟩, _, rfl, ?_, ⟨_, pA, rfl, t1, hAA, okA⟩⟩
      have := t1.len
      rw [List.length_append] at this
      exact Nat.le_trans (show _ ≤ 16 by omega) (by decide)
    rintro ρ M9 ⟨vs, p9, rfl, ht, hA9, ok9⟩
    have pV : PreT (.tup vs) := .inr ⟨vs, rfl, by rw [ht.len]; omega, ht.kd⟩
    refine bv_one (sw_if (tw_not (tw_val ?_)))
    refine ew_callD c_same (hr.mono (by decide)) (aw_cons (ew_callW c_told (hr.mono (by decide)) (aw_cons (ew_ev (ev_var 8 rfl) (aw_cons ?_)))))
    refine ew_callW c_pick (hr.mono (by decide)) (aw_av (av_cons (ev_var 1 rfl) (av_cons (ev_lst (av_cons (ev_var 4 rfl) (av_cons (ev_var 6 rfl) (av_cons (ev_tup av_nil) (av_cons ev_non av_nil))))) av_nil)) ⟨a, p9, true, _, rfl, hA9, ok9, by (simp only [List.length_cons, List.length_nil]; decide), by (simp only [List.length_cons, List.length_nil]; decide), fun dS0 gS pB2 okB MB frB hAB => ?_⟩)
    have pS2 : PreS dS0 := by
      simp only [List.mem_cons, List.not_mem_nil, or_false] at gS
      rcases gS with rfl | rfl | rfl | rfl
      · exact pS
      · exact pB
      · exact .inr ⟨[], rfl, by decide, fun d hd => (nomatch hd)⟩
      · exact .inl ⟨rfl, kD_none⟩
    have e3 := tell_bad (book_bt (ss := dS0) nT.2 ht)
    refine aw_nil (told_of pV pS2 fun M7 le7 => ?_)
    refine aw_cons (ew_ev (ev_to (ev_tup (av_cons ev_str (av_cons ev_str (av_cons (ev_var 7 rfl) (av_cons ev_bl av_nil))))) e3.symm) (aw_nil ⟨_, _, ⟨_, rfl, okD_tell, rfl, rfl⟩, _, rfl, fun h => (nomatch h), fun _ => bv_nil ?_⟩))
    exact ⟨_, _, _, _, _, _, _, pB2, rfl, le7 _ _ hAB, okB⟩
  · obtain ⟨x2, x3, x4, x5, x6, x7, x8, q, rfl, hA, ok⟩ := iv
    refine bv_cons (sv_set 9 sc_law.nd (d := rowF) (ev_tup (av_cons (ev_mulT (ev_tup (av_cons ev_int av_nil)) ev_int (by simp) (by decide) (by (simp only [List.length_cons, List.length_nil]; decide))) (av_cons (ev_mulT (ev_tup (av_cons ev_int av_nil)) ev_int (by simp) (by decide) (by (simp only [List.length_cons, List.length_nil]; decide))) (av_cons ev_int (av_cons ev_bl av_nil))))) ?_)
    refine bv_cons (sv_set 10 sc_law.nd (d := .tup fullF) (ev_mulT (ev_tup (av_cons (ev_mulT (ev_tup (av_cons (ev_var 9 rfl) av_nil)) ev_int (by simp) (by decide) (by (simp only [List.length_cons, List.length_nil]; decide))) av_nil)) ev_int (by simp) (by decide) (by (simp only [List.length_cons, List.length_nil]; decide))) ?_)
    refine bv_cons (sv_set 3 sc_law.nd (d := .tup testsF) (ev_mulT (ev_tup (av_cons (ev_tup (av_cons ev_str (av_cons ev_int (av_cons ev_int av_nil)))) av_nil)) ev_int (by simp) (by decide) (by (simp only [List.length_cons, List.length_nil]; decide))) ?_)
    show BV _ _ [some (.lst (ns.map dI)), some (dP a), x2, some (.tup testsF), x4, x5, x6, x7, x8, some rowF, some (.tup fullF), none, none, none] _ _
    have lT : testsF.length = 16 := by decide +kernel
    have lF : fullF.length = 24 := by decide +kernel
    have cT : cutD testsF none (some 1) = [alongF] := rfl
    have pT0 : PreT (.tup testsF) := preT_along (by omega) testsF_all
    have pF0 : PreS (.tup fullF) := preS_full (by omega) fun d hd => hd
    have pE : PreS (.tup []) := .inr ⟨[], rfl, by decide, fun d hd => (nomatch hd)⟩
    refine bv_cons (sw_for rfl (pg_tup rfl (pgs_cons (pg_name (i := 11) sc_law.nd rfl (.inl rfl)) (pgs_cons (pg_name (i := 12) sc_law.nd rfl (.inl rfl)) (pgs_cons (pg_name (i := 13) sc_law.nd rfl (.inl rfl)) pgs_nil)))) ?_)
    have all : ∀ d ∈ ([.tup [.tup testsF, .tup fullF, .tup [dS "told", dI 24]], .tup [.tup (testsF ++ cutD testsF none (some 1)), .tup [], .tup [dS "raised", dS "tests", dN, dB true]], .tup [dN, .tup fullF, .tup [dS "raised", dS "tests", dN, dB true]], .tup [.tup testsF, .tup (fullF ++ cutD fullF none (some 1)), .tup [dS "raised", dS "states", dN, dB true]], .tup [.tup testsF, .tup [], .tup [dS "raised", dS "states", dN, dB true]], .tup [.tup testsF, dN, .tup [dS "raised", dS "states", dN, dB true]], .tup [.tup [], .tup [.tup []], .tup [dS "told", dI 1]]] : List D), CaseF d := by
      simp only [List.forall_mem_cons]
      refine ⟨case_mk pT0 pF0 (tell_ok (by decide +kernel)), case_mk (preT_along ?_ fun d hd => ?_) pE (tell_bad (z := "tests") (i := none) (by decide +kernel)), case_mk (.inl ⟨rfl, kD_none⟩) pF0 (tell_bad (z := "tests") (i := none) (by decide +kernel)), case_mk pT0 (preS_full ?_ fun d hd => ?_) (tell_bad (z := "states") (i := none) (by decide +kernel)), case_mk pT0 pE (tell_bad (z := "states") (i := none) (by decide +kernel)), case_mk pT0 (.inl ⟨rfl, kD_none⟩) (tell_bad (z := "states") (i := none) (by decide +kernel)), case_mk (.inr ⟨[], rfl, by decide, fun d hd => (nomatch hd)⟩) (.inr ⟨[.tup []], rfl, by decide, fun d hd => ?_⟩) (tell_ok (by decide +kernel)), fun d hd => (nomatch hd)⟩
      · rw [cT, List.length_append, lT]
        decide
      · rcases List.mem_append.mp hd with hd | hd
        · exact testsF_all d hd
        · rw [cT] at hd
          exact List.mem_singleton.mp hd
      · rw [List.length_append, lF, show (some (1 : Int)) = some ((1 : Nat) : Int) from rfl, cut_to, List.length_take]
        omega
      · rcases List.mem_append.mp hd with hd | hd
        · exact hd
        · rw [show (some (1 : Int)) = some ((1 : Nat) : Int) from rfl, cut_to] at hd
          exact List.mem_of_mem_take hd
      · obtain rfl := List.mem_singleton.mp hd
        exact ⟨by decide, fun d hd => (nomatch hd)⟩
    refine iw_iv (iv_list (ev_lst (av_cons (ev_tup (av_cons (ev_var 3 rfl) (av_cons (ev_var 10 rfl) (av_cons (ev_tup (av_cons ev_str (av_cons ev_int av_nil))) av_nil)))) (av_cons (ev_tup (av_cons (ev_catT (ev_var 3 rfl) (ev_sliceQ (b' := false) (ds := testsF) (ev_var 3 rfl) ov_none (ov_some ev_int)) (by rw [lT, cT]; decide)) (av_cons (ev_tup av_nil) (av_cons (ev_tup (av_cons ev_str (av_cons ev_str (av_cons ev_non (av_cons ev_bl av_nil))))) av_nil)))) (av_cons (ev_tup (av_cons ev_non (av_cons (ev_var 10 rfl) (av_cons (ev_tup (av_cons ev_str (av_cons ev_str (av_cons ev_non (av_cons ev_bl av_nil))))) av_nil)))) (av_cons (ev_tup (av_cons (ev_var 3 rfl) (av_cons (ev_catT (ev_var 10 rfl) (ev_sliceQ (b' := false) (ds := fullF) (ev_var 10 rfl) ov_none (ov_some ev_int)) (by rw [lF, show (some (1 : Int)) = some ((1 : Nat) : Int) from rfl, cut_to, List.length_take, lF]; decide)) (av_cons (ev_tup (av_cons ev_str (av_cons ev_str (av_cons ev_non (av_cons ev_bl av_nil))))) av_nil)))) (av_cons (ev_tup (av_cons (ev_var 3 rfl) (av_cons (ev_tup av_nil) (av_cons (ev_tup (av_cons ev_str (av_cons ev_str (av_cons ev_non (av_cons ev_bl av_nil))))) av_nil)))) (av_cons (ev_tup (av_cons (ev_var 3 rfl) (av_cons ev_non (av_cons (ev_tup (av_cons ev_str (av_cons ev_str (av_cons ev_non (av_cons ev_bl av_nil))))) av_nil)))) (av_cons (ev_tup (av_cons (ev_tup av_nil) (av_cons (ev_tup (av_cons (ev_tup av_nil) av_nil)) (av_cons (ev_tup (av_cons ev_str (av_cons ev_int av_nil))) av_nil)))) av_nil))))))))) ⟨fun i ρ M => ∃ (x11 x12 x13 : Option D), ρ = [some (.lst (ns.map dI)), some (dP a), x2, some (.tup testsF), x4, x5, x6, x7, x8, some rowF, some (.tup fullF), x11, x12, x13], ⟨none, none, none, rfl⟩, fun i d ρ' M2 hd iv => ?_, fun ρ' M2 iv => ?_⟩
    · obtain ⟨x11, x12, x13, rfl⟩ := iv
      obtain ⟨x, y, rfl, pX, pY⟩ := all d (List.mem_of_getElem? hd)
      refine ⟨_, tg_tup (tg_cons tg_name (tg_cons tg_name (tg_cons tg_name tg_nil))), ?_⟩
      refine bv_one (sw_if (tw_not (tw_val ?_)))
      refine ew_callD c_same (hr.mono (by decide)) (aw_cons (ew_callW c_told (hr.mono (by decide)) (aw_av (av_cons (ev_var 11 rfl) (av_cons (ev_var 12 rfl) av_nil)) (told_of pX pY fun M3 le3 => ?_))))
      refine aw_cons (ew_ev (ev_var 13 rfl) (aw_nil ⟨_, _, ⟨_, rfl, okD_tell, rfl, rfl⟩, _, rfl, fun h => (nomatch h), fun _ => bv_nil ?_⟩))
      exact ⟨_, _, _, rfl⟩
    · obtain ⟨x11, x12, x13, rfl⟩ := iv
      exact bv_one (sv_ret ev_bl rfl)
end
theorem no_any {K : PySem.W.Frag} {cls c1 c2 : Value} (e1 : PySem.W.exmOne K cls c1 = some false) (e2 : PySem.W.exmOne K cls c2 = some false) : PySem.W.exmAny K cls [c1, c2] = some false := by
  simp only [PySem.W.exmAny, e1, e2]
  rfl
theorem kit_own {K : PySem.W.Frag} {cls : Value} {C : Addr} {b : Bool} (hb : b = true) (h1 : PySem.W.subIn K (.ref C) (.type "BaseException") = some true) (hd : PySem.W.hasDictIn K C = true) (ht : PySem.W.typeIn K (.ref C) = some (.type "type")) (h4 : PySem.W.subIn K cls (.ref C) = some b) : PySem.W.kitOne K cls (.ref C) = some b := by
  have e := PySem.W.exm_ref h1 hd ht h4
  unfold PySem.W.exmOne at e
  rw [if_pos (by rw [h1]; rfl)] at e
  unfold PySem.W.kitOne
  split
  · rw [hb]
  · exact e
theorem kit_bt {K : PySem.W.Frag} {cls : Value} {t : String} (hm : PySem.W.kitMeta t = true) (h : PySem.W.subIn K cls (.type t) = some true) : PySem.W.kitOne K cls (.type t) = some true := by
  unfold PySem.W.kitOne
  split
  · rfl
  · show (if PySem.W.kitMeta t = true then PySem.W.subIn K cls (.type t) else none) = some true
    rw [if_pos hm]
    exact h
section
variable {P : Program} {w : World} {K : PySem.W.Frag} {mg : Str → Option Value} {base : Heap} {f : Addr} {j k : Nat} {x : Str} {Pr Pr' : List D → Mem → D → Mem → Prop}
theorem Cal.at_f {sp : Sp} (C : Cal P w K mg base k x sp) (hm : mg x = some (.ref f)) : CalF P w K mg base k f sp := by
  obtain ⟨f', h, c⟩ := C.val
  rw [hm] at h
  cases h
  exact c
theorem CalF.cast (C : CalF P w K mg base j f (spD K Pr)) (h : j ≤ k) (q : ∀ ds M d M', Pr' ds M d M' → Pr ds M d M') : CalF P w K mg base k f (spD K Pr') := by
  obtain ⟨fd, ps, a, b, F⟩ := C.ex
  exact ⟨fd, ps, a, b, (F.mono h).imp fun vs H Q E ⟨G, ds, M, d, M', sh, r, p, k⟩ => ⟨G, ds, M, d, M', sh, r, q _ _ _ _ p, k⟩⟩
end
theorem form_has {Pd : Str → List Kd → Prop} (h1 : Pd "accent" [.acc]) (h2 : Pd "begins" [.voi]) (h3 : Pd "silent" [.voi]) (h4 : Pd "loose" [.voi]) (h5 : Pd "leap" [.voi, .hei, .hei]) (h6 : Pd "by" [.voi, .ivs]) (h7 : Pd "apart" [.voi, .voi, .hei, .hei]) (h8 : Pd "class" [.voi, .voi, .num]) (h9 : Pd "lasts" [.tim, .tim]) (h10 : Pd "along" [.voi, .voi]) : ∀ z ks, formW z = some ks → Pd z ks := fun z ks h => by
  unfold formW at h
  split at h
  · rename_i q; subst q; cases h; exact h1
  split at h
  · rename_i q; subst q; cases h; exact h2
  split at h
  · rename_i q; subst q; cases h; exact h3
  split at h
  · rename_i q; subst q; cases h; exact h4
  split at h
  · rename_i q; subst q; cases h; exact h5
  split at h
  · rename_i q; subst q; cases h; exact h6
  split at h
  · rename_i q; subst q; cases h; exact h7
  split at h
  · rename_i q; subst q; cases h; exact h8
  split at h
  · rename_i q; subst q; cases h; exact h9
  split at h
  · rename_i q; subst q; cases h; exact h10
  · cases h
theorem all_k3 {Pd : Str → Prop} {a b c : Str} (h1 : Pd a) (h2 : Pd b) (h3 : Pd c) : ∀ z ∈ ([a, b, c] : List Str), Pd z := by
  simp only [List.forall_mem_cons]
  exact ⟨h1, h2, h3, fun z h => (nomatch h)⟩
theorem all_k6 {Pd : Str → Prop} {a b c d e f : Str} (h1 : Pd a) (h2 : Pd b) (h3 : Pd c) (h4 : Pd d) (h5 : Pd e) (h6 : Pd f) : ∀ z ∈ ([a, b, c, d, e, f] : List Str), Pd z := by
  simp only [List.forall_mem_cons]
  exact ⟨h1, h2, h3, h4, h5, h6, fun z h => (nomatch h)⟩
theorem all_mk {l : PySem.W.OpenLaw} {w : World} {K : PySem.W.Frag} {h : Heap} {mg : Str → Option Value} {fa f_take f_pool f_pick f_is_integer f_same f_lowest f_p_is_row f_p_is_pair f_p_is_number f_p_is_whole f_p_is_tone f_interval f_sum f_p_tuple_of f_p_tuples_of_test f_p_is_fraction f_p_is_accent f_p_is_voice f_p_is_height f_p_is_less f_p_is_times f_p_are_intervals f_p_are_numbers f_p_is_test f_p_are_tests f_p_is_choice f_p_is_state f_p_choice_as_tuples f_p_bits_of f_p_checked_tests f_p_checked_states f_told f_test f_numbers f_tests f_wrong_test f_wrong_state f_changed f_book f_law : Addr} (X : K.In h) (G : h.Ns mainGlobals mg) (hfa : mg "law" = some (.ref fa))
    {t_FAR t_MOST_ACCENT t_MOST_VOICES t_MOST_HEIGHT t_MOST_TIMES t_MOST_LISTED t_MOST_WANTED t_MOST_TUPLES t_MOST_TESTS t_MOST_STATES : Tok}
    {pF pC tf_accent tf_begins tf_silent tf_loose tf_leap tf_by tf_apart tf_class tf_lasts tf_along : Addr} {tod_accent tod_begins tod_silent tod_loose tod_leap tod_by tod_apart tod_class tod_lasts tod_along : Option Addr} {tn_accent tn_begins tn_silent tn_loose tn_leap tn_by tn_apart tn_class tn_lasts tn_along : Nat} {tsl_accent tsl_begins tsl_silent tsl_loose tsl_leap tsl_by tsl_apart tsl_class tsl_lasts tsl_along : Array (Option Value)} {tt_accent0 tt_begins0 tt_silent0 tt_loose0 tt_leap0 tt_leap1 tt_leap2 tt_by0 tt_by1 tt_apart0 tt_apart1 tt_apart2 tt_apart3 tt_class0 tt_class1 tt_class2 tt_lasts0 tt_lasts1 tt_along0 tt_along1 : Tok}
    {CC CS CB CT fI fB fT : Addr} {o_nm o_q : Str} {o_N : Addr} {o_bs o_bm : List Value} {o_sn : List Str} {o_sub : List Value} {o_ab : Bool} {o_col : Option Bool} {o_dd : Option Addr} {o_k0 o_k1 o_k2 o_k3 o_k5 : Option Value}
    {od_I an_I : Option Addr} {sl_I : Array (Option Value)} {oc_I kV_I dc_I pm_I cd_I ct_I : Value}
    {od_B an_B : Option Addr} {sl_B : Array (Option Value)} {oc_B kV_B dc_B pm_B cd_B ct_B : Value}
    {od_T an_T : Option Addr} {sl_T : Array (Option Value)} {oc_T kV_T dc_T pm_T cd_T ct_T : Value}
    {od_take an_take od_pool an_pool od_pick an_pick od_is_integer an_is_integer od_same an_same od_lowest an_lowest od_p_is_row an_p_is_row od_p_is_pair an_p_is_pair od_p_is_number an_p_is_number od_p_is_whole an_p_is_whole od_p_is_tone an_p_is_tone od_interval an_interval od_sum an_sum od_p_tuple_of an_p_tuple_of od_p_tuples_of_test an_p_tuples_of_test od_p_is_fraction an_p_is_fraction od_p_is_accent an_p_is_accent od_p_is_voice an_p_is_voice od_p_is_height an_p_is_height od_p_is_less an_p_is_less od_p_is_times an_p_is_times od_p_are_intervals an_p_are_intervals od_p_are_numbers an_p_are_numbers od_p_is_test an_p_is_test od_p_are_tests an_p_are_tests od_p_is_choice an_p_is_choice od_p_is_state an_p_is_state od_p_choice_as_tuples an_p_choice_as_tuples od_p_bits_of an_p_bits_of od_p_checked_tests an_p_checked_tests od_p_checked_states an_p_checked_states od_told an_told od_test an_test od_numbers an_numbers od_tests an_tests od_wrong_test an_wrong_test od_wrong_state an_wrong_state od_changed an_changed od_book an_book od_law an_law : Option Addr} {sl_take sl_pool sl_pick sl_is_integer sl_same sl_lowest sl_p_is_row sl_p_is_pair sl_p_is_number sl_p_is_whole sl_p_is_tone sl_interval sl_sum sl_p_tuple_of sl_p_tuples_of_test sl_p_is_fraction sl_p_is_accent sl_p_is_voice sl_p_is_height sl_p_is_less sl_p_is_times sl_p_are_intervals sl_p_are_numbers sl_p_is_test sl_p_are_tests sl_p_is_choice sl_p_is_state sl_p_choice_as_tuples sl_p_bits_of sl_p_checked_tests sl_p_checked_states sl_told sl_test sl_numbers sl_tests sl_wrong_test sl_wrong_state sl_changed sl_book sl_law : Array (Option Value)} {oc_take kV_take dc_take pm_take cd_take ct_take oc_pool kV_pool dc_pool pm_pool cd_pool ct_pool oc_pick kV_pick dc_pick pm_pick cd_pick ct_pick oc_is_integer kV_is_integer dc_is_integer pm_is_integer cd_is_integer ct_is_integer oc_same kV_same dc_same pm_same cd_same ct_same oc_lowest kV_lowest dc_lowest pm_lowest cd_lowest ct_lowest oc_p_is_row kV_p_is_row dc_p_is_row pm_p_is_row cd_p_is_row ct_p_is_row oc_p_is_pair kV_p_is_pair dc_p_is_pair pm_p_is_pair cd_p_is_pair ct_p_is_pair oc_p_is_number kV_p_is_number dc_p_is_number pm_p_is_number cd_p_is_number ct_p_is_number oc_p_is_whole kV_p_is_whole dc_p_is_whole pm_p_is_whole cd_p_is_whole ct_p_is_whole oc_p_is_tone kV_p_is_tone dc_p_is_tone pm_p_is_tone cd_p_is_tone ct_p_is_tone oc_interval kV_interval dc_interval pm_interval cd_interval ct_interval oc_sum kV_sum dc_sum pm_sum cd_sum ct_sum oc_p_tuple_of kV_p_tuple_of dc_p_tuple_of pm_p_tuple_of cd_p_tuple_of ct_p_tuple_of oc_p_tuples_of_test kV_p_tuples_of_test dc_p_tuples_of_test pm_p_tuples_of_test cd_p_tuples_of_test ct_p_tuples_of_test oc_p_is_fraction kV_p_is_fraction dc_p_is_fraction pm_p_is_fraction cd_p_is_fraction ct_p_is_fraction oc_p_is_accent kV_p_is_accent dc_p_is_accent pm_p_is_accent cd_p_is_accent ct_p_is_accent oc_p_is_voice kV_p_is_voice dc_p_is_voice pm_p_is_voice cd_p_is_voice ct_p_is_voice oc_p_is_height kV_p_is_height dc_p_is_height pm_p_is_height cd_p_is_height ct_p_is_height oc_p_is_less kV_p_is_less dc_p_is_less pm_p_is_less cd_p_is_less ct_p_is_less oc_p_is_times kV_p_is_times dc_p_is_times pm_p_is_times cd_p_is_times ct_p_is_times oc_p_are_intervals kV_p_are_intervals dc_p_are_intervals pm_p_are_intervals cd_p_are_intervals ct_p_are_intervals oc_p_are_numbers kV_p_are_numbers dc_p_are_numbers pm_p_are_numbers cd_p_are_numbers ct_p_are_numbers oc_p_is_test kV_p_is_test dc_p_is_test pm_p_is_test cd_p_is_test ct_p_is_test oc_p_are_tests kV_p_are_tests dc_p_are_tests pm_p_are_tests cd_p_are_tests ct_p_are_tests oc_p_is_choice kV_p_is_choice dc_p_is_choice pm_p_is_choice cd_p_is_choice ct_p_is_choice oc_p_is_state kV_p_is_state dc_p_is_state pm_p_is_state cd_p_is_state ct_p_is_state oc_p_choice_as_tuples kV_p_choice_as_tuples dc_p_choice_as_tuples pm_p_choice_as_tuples cd_p_choice_as_tuples ct_p_choice_as_tuples oc_p_bits_of kV_p_bits_of dc_p_bits_of pm_p_bits_of cd_p_bits_of ct_p_bits_of oc_p_checked_tests kV_p_checked_tests dc_p_checked_tests pm_p_checked_tests cd_p_checked_tests ct_p_checked_tests oc_p_checked_states kV_p_checked_states dc_p_checked_states pm_p_checked_states cd_p_checked_states ct_p_checked_states oc_told kV_told dc_told pm_told cd_told ct_told oc_test kV_test dc_test pm_test cd_test ct_test oc_numbers kV_numbers dc_numbers pm_numbers cd_numbers ct_numbers oc_tests kV_tests dc_tests pm_tests cd_tests ct_tests oc_wrong_test kV_wrong_test dc_wrong_test pm_wrong_test cd_wrong_test ct_wrong_test oc_wrong_state kV_wrong_state dc_wrong_state pm_wrong_state cd_wrong_state ct_wrong_state oc_changed kV_changed dc_changed pm_changed cd_changed ct_changed oc_book kV_book dc_book pm_book cd_book ct_book oc_law kV_law dc_law pm_law cd_law ct_law : Value}
    (a_take : PySem.W.nsIn K mainGlobals "_law_take" = some (some (.ref f_take))) (l_take : K.lookup f_take = some ⟨oc_take, od_take, .func (PySem.W.fnOf "_law_take" "_law_take" (defArgs s_take) (defBody s_take) (defScope s_take) .none kV_take dc_take pm_take an_take cd_take ct_take), sl_take⟩) (c_take : PySem.W.codeIn K cd_take "_law_take" = true) (k_take : PySem.W.keepIn K (.ref f_take) = true)
    (a_pool : PySem.W.nsIn K mainGlobals "_law_pool" = some (some (.ref f_pool))) (l_pool : K.lookup f_pool = some ⟨oc_pool, od_pool, .func (PySem.W.fnOf "_law_pool" "_law_pool" (defArgs s_pool) (defBody s_pool) (defScope s_pool) .none kV_pool dc_pool pm_pool an_pool cd_pool ct_pool), sl_pool⟩) (c_pool : PySem.W.codeIn K cd_pool "_law_pool" = true) (k_pool : PySem.W.keepIn K (.ref f_pool) = true)
    (a_pick : PySem.W.nsIn K mainGlobals "_law_pick" = some (some (.ref f_pick))) (l_pick : K.lookup f_pick = some ⟨oc_pick, od_pick, .func (PySem.W.fnOf "_law_pick" "_law_pick" (defArgs s_pick) (defBody s_pick) (defScope s_pick) .none kV_pick dc_pick pm_pick an_pick cd_pick ct_pick), sl_pick⟩) (c_pick : PySem.W.codeIn K cd_pick "_law_pick" = true) (k_pick : PySem.W.keepIn K (.ref f_pick) = true)
    (a_is_integer : PySem.W.nsIn K mainGlobals "_law_is_integer" = some (some (.ref f_is_integer))) (l_is_integer : K.lookup f_is_integer = some ⟨oc_is_integer, od_is_integer, .func (PySem.W.fnOf "_law_is_integer" "_law_is_integer" (defArgs s_is_integer) (defBody s_is_integer) (defScope s_is_integer) .none kV_is_integer dc_is_integer pm_is_integer an_is_integer cd_is_integer ct_is_integer), sl_is_integer⟩) (c_is_integer : PySem.W.codeIn K cd_is_integer "_law_is_integer" = true) (k_is_integer : PySem.W.keepIn K (.ref f_is_integer) = true)
    (a_same : PySem.W.nsIn K mainGlobals "_law_same" = some (some (.ref f_same))) (l_same : K.lookup f_same = some ⟨oc_same, od_same, .func (PySem.W.fnOf "_law_same" "_law_same" (defArgs s_same) (defBody s_same) (defScope s_same) .none kV_same dc_same pm_same an_same cd_same ct_same), sl_same⟩) (c_same : PySem.W.codeIn K cd_same "_law_same" = true) (k_same : PySem.W.keepIn K (.ref f_same) = true)
    (a_lowest : PySem.W.nsIn K mainGlobals "_law_lowest" = some (some (.ref f_lowest))) (l_lowest : K.lookup f_lowest = some ⟨oc_lowest, od_lowest, .func (PySem.W.fnOf "_law_lowest" "_law_lowest" (defArgs s_lowest) (defBody s_lowest) (defScope s_lowest) .none kV_lowest dc_lowest pm_lowest an_lowest cd_lowest ct_lowest), sl_lowest⟩) (c_lowest : PySem.W.codeIn K cd_lowest "_law_lowest" = true) (k_lowest : PySem.W.keepIn K (.ref f_lowest) = true)
    (a_p_is_row : PySem.W.nsIn K mainGlobals "is_row" = some (some (.ref f_p_is_row))) (l_p_is_row : K.lookup f_p_is_row = some ⟨oc_p_is_row, od_p_is_row, .func (PySem.W.fnOf "is_row" "is_row" (defArgs s_p_is_row) (defBody s_p_is_row) (defScope s_p_is_row) .none kV_p_is_row dc_p_is_row pm_p_is_row an_p_is_row cd_p_is_row ct_p_is_row), sl_p_is_row⟩) (c_p_is_row : PySem.W.codeIn K cd_p_is_row "is_row" = true) (k_p_is_row : PySem.W.keepIn K (.ref f_p_is_row) = true)
    (a_p_is_pair : PySem.W.nsIn K mainGlobals "is_pair" = some (some (.ref f_p_is_pair))) (l_p_is_pair : K.lookup f_p_is_pair = some ⟨oc_p_is_pair, od_p_is_pair, .func (PySem.W.fnOf "is_pair" "is_pair" (defArgs s_p_is_pair) (defBody s_p_is_pair) (defScope s_p_is_pair) .none kV_p_is_pair dc_p_is_pair pm_p_is_pair an_p_is_pair cd_p_is_pair ct_p_is_pair), sl_p_is_pair⟩) (c_p_is_pair : PySem.W.codeIn K cd_p_is_pair "is_pair" = true) (k_p_is_pair : PySem.W.keepIn K (.ref f_p_is_pair) = true)
    (a_p_is_number : PySem.W.nsIn K mainGlobals "is_number" = some (some (.ref f_p_is_number))) (l_p_is_number : K.lookup f_p_is_number = some ⟨oc_p_is_number, od_p_is_number, .func (PySem.W.fnOf "is_number" "is_number" (defArgs s_p_is_number) (defBody s_p_is_number) (defScope s_p_is_number) .none kV_p_is_number dc_p_is_number pm_p_is_number an_p_is_number cd_p_is_number ct_p_is_number), sl_p_is_number⟩) (c_p_is_number : PySem.W.codeIn K cd_p_is_number "is_number" = true) (k_p_is_number : PySem.W.keepIn K (.ref f_p_is_number) = true)
    (a_p_is_whole : PySem.W.nsIn K mainGlobals "is_whole" = some (some (.ref f_p_is_whole))) (l_p_is_whole : K.lookup f_p_is_whole = some ⟨oc_p_is_whole, od_p_is_whole, .func (PySem.W.fnOf "is_whole" "is_whole" (defArgs s_p_is_whole) (defBody s_p_is_whole) (defScope s_p_is_whole) .none kV_p_is_whole dc_p_is_whole pm_p_is_whole an_p_is_whole cd_p_is_whole ct_p_is_whole), sl_p_is_whole⟩) (c_p_is_whole : PySem.W.codeIn K cd_p_is_whole "is_whole" = true) (k_p_is_whole : PySem.W.keepIn K (.ref f_p_is_whole) = true)
    (a_p_is_tone : PySem.W.nsIn K mainGlobals "is_tone" = some (some (.ref f_p_is_tone))) (l_p_is_tone : K.lookup f_p_is_tone = some ⟨oc_p_is_tone, od_p_is_tone, .func (PySem.W.fnOf "is_tone" "is_tone" (defArgs s_p_is_tone) (defBody s_p_is_tone) (defScope s_p_is_tone) .none kV_p_is_tone dc_p_is_tone pm_p_is_tone an_p_is_tone cd_p_is_tone ct_p_is_tone), sl_p_is_tone⟩) (c_p_is_tone : PySem.W.codeIn K cd_p_is_tone "is_tone" = true) (k_p_is_tone : PySem.W.keepIn K (.ref f_p_is_tone) = true)
    (a_interval : PySem.W.nsIn K mainGlobals "_law_interval" = some (some (.ref f_interval))) (l_interval : K.lookup f_interval = some ⟨oc_interval, od_interval, .func (PySem.W.fnOf "_law_interval" "_law_interval" (defArgs s_interval) (defBody s_interval) (defScope s_interval) .none kV_interval dc_interval pm_interval an_interval cd_interval ct_interval), sl_interval⟩) (c_interval : PySem.W.codeIn K cd_interval "_law_interval" = true) (k_interval : PySem.W.keepIn K (.ref f_interval) = true)
    (a_sum : PySem.W.nsIn K mainGlobals "_law_sum" = some (some (.ref f_sum))) (l_sum : K.lookup f_sum = some ⟨oc_sum, od_sum, .func (PySem.W.fnOf "_law_sum" "_law_sum" (defArgs s_sum) (defBody s_sum) (defScope s_sum) .none kV_sum dc_sum pm_sum an_sum cd_sum ct_sum), sl_sum⟩) (c_sum : PySem.W.codeIn K cd_sum "_law_sum" = true) (k_sum : PySem.W.keepIn K (.ref f_sum) = true)
    (a_p_tuple_of : PySem.W.nsIn K mainGlobals "tuple_of" = some (some (.ref f_p_tuple_of))) (l_p_tuple_of : K.lookup f_p_tuple_of = some ⟨oc_p_tuple_of, od_p_tuple_of, .func (PySem.W.fnOf "tuple_of" "tuple_of" (defArgs s_p_tuple_of) (defBody s_p_tuple_of) (defScope s_p_tuple_of) .none kV_p_tuple_of dc_p_tuple_of pm_p_tuple_of an_p_tuple_of cd_p_tuple_of ct_p_tuple_of), sl_p_tuple_of⟩) (c_p_tuple_of : PySem.W.codeIn K cd_p_tuple_of "tuple_of" = true) (k_p_tuple_of : PySem.W.keepIn K (.ref f_p_tuple_of) = true)
    (a_p_tuples_of_test : PySem.W.nsIn K mainGlobals "tuples_of_test" = some (some (.ref f_p_tuples_of_test))) (l_p_tuples_of_test : K.lookup f_p_tuples_of_test = some ⟨oc_p_tuples_of_test, od_p_tuples_of_test, .func (PySem.W.fnOf "tuples_of_test" "tuples_of_test" (defArgs s_p_tuples_of_test) (defBody s_p_tuples_of_test) (defScope s_p_tuples_of_test) .none kV_p_tuples_of_test dc_p_tuples_of_test pm_p_tuples_of_test an_p_tuples_of_test cd_p_tuples_of_test ct_p_tuples_of_test), sl_p_tuples_of_test⟩) (c_p_tuples_of_test : PySem.W.codeIn K cd_p_tuples_of_test "tuples_of_test" = true) (k_p_tuples_of_test : PySem.W.keepIn K (.ref f_p_tuples_of_test) = true)
    (a_p_is_fraction : PySem.W.nsIn K mainGlobals "is_fraction" = some (some (.ref f_p_is_fraction))) (l_p_is_fraction : K.lookup f_p_is_fraction = some ⟨oc_p_is_fraction, od_p_is_fraction, .func (PySem.W.fnOf "is_fraction" "is_fraction" (defArgs s_p_is_fraction) (defBody s_p_is_fraction) (defScope s_p_is_fraction) .none kV_p_is_fraction dc_p_is_fraction pm_p_is_fraction an_p_is_fraction cd_p_is_fraction ct_p_is_fraction), sl_p_is_fraction⟩) (c_p_is_fraction : PySem.W.codeIn K cd_p_is_fraction "is_fraction" = true) (k_p_is_fraction : PySem.W.keepIn K (.ref f_p_is_fraction) = true)
    (a_p_is_accent : PySem.W.nsIn K mainGlobals "_is_accent" = some (some (.ref f_p_is_accent))) (l_p_is_accent : K.lookup f_p_is_accent = some ⟨oc_p_is_accent, od_p_is_accent, .func (PySem.W.fnOf "_is_accent" "_is_accent" (defArgs s_p_is_accent) (defBody s_p_is_accent) (defScope s_p_is_accent) .none kV_p_is_accent dc_p_is_accent pm_p_is_accent an_p_is_accent cd_p_is_accent ct_p_is_accent), sl_p_is_accent⟩) (c_p_is_accent : PySem.W.codeIn K cd_p_is_accent "_is_accent" = true) (k_p_is_accent : PySem.W.keepIn K (.ref f_p_is_accent) = true)
    (a_p_is_voice : PySem.W.nsIn K mainGlobals "_is_voice" = some (some (.ref f_p_is_voice))) (l_p_is_voice : K.lookup f_p_is_voice = some ⟨oc_p_is_voice, od_p_is_voice, .func (PySem.W.fnOf "_is_voice" "_is_voice" (defArgs s_p_is_voice) (defBody s_p_is_voice) (defScope s_p_is_voice) .none kV_p_is_voice dc_p_is_voice pm_p_is_voice an_p_is_voice cd_p_is_voice ct_p_is_voice), sl_p_is_voice⟩) (c_p_is_voice : PySem.W.codeIn K cd_p_is_voice "_is_voice" = true) (k_p_is_voice : PySem.W.keepIn K (.ref f_p_is_voice) = true)
    (a_p_is_height : PySem.W.nsIn K mainGlobals "_is_height" = some (some (.ref f_p_is_height))) (l_p_is_height : K.lookup f_p_is_height = some ⟨oc_p_is_height, od_p_is_height, .func (PySem.W.fnOf "_is_height" "_is_height" (defArgs s_p_is_height) (defBody s_p_is_height) (defScope s_p_is_height) .none kV_p_is_height dc_p_is_height pm_p_is_height an_p_is_height cd_p_is_height ct_p_is_height), sl_p_is_height⟩) (c_p_is_height : PySem.W.codeIn K cd_p_is_height "_is_height" = true) (k_p_is_height : PySem.W.keepIn K (.ref f_p_is_height) = true)
    (a_p_is_less : PySem.W.nsIn K mainGlobals "is_less" = some (some (.ref f_p_is_less))) (l_p_is_less : K.lookup f_p_is_less = some ⟨oc_p_is_less, od_p_is_less, .func (PySem.W.fnOf "is_less" "is_less" (defArgs s_p_is_less) (defBody s_p_is_less) (defScope s_p_is_less) .none kV_p_is_less dc_p_is_less pm_p_is_less an_p_is_less cd_p_is_less ct_p_is_less), sl_p_is_less⟩) (c_p_is_less : PySem.W.codeIn K cd_p_is_less "is_less" = true) (k_p_is_less : PySem.W.keepIn K (.ref f_p_is_less) = true)
    (a_p_is_times : PySem.W.nsIn K mainGlobals "_is_times" = some (some (.ref f_p_is_times))) (l_p_is_times : K.lookup f_p_is_times = some ⟨oc_p_is_times, od_p_is_times, .func (PySem.W.fnOf "_is_times" "_is_times" (defArgs s_p_is_times) (defBody s_p_is_times) (defScope s_p_is_times) .none kV_p_is_times dc_p_is_times pm_p_is_times an_p_is_times cd_p_is_times ct_p_is_times), sl_p_is_times⟩) (c_p_is_times : PySem.W.codeIn K cd_p_is_times "_is_times" = true) (k_p_is_times : PySem.W.keepIn K (.ref f_p_is_times) = true)
    (a_p_are_intervals : PySem.W.nsIn K mainGlobals "_are_intervals" = some (some (.ref f_p_are_intervals))) (l_p_are_intervals : K.lookup f_p_are_intervals = some ⟨oc_p_are_intervals, od_p_are_intervals, .func (PySem.W.fnOf "_are_intervals" "_are_intervals" (defArgs s_p_are_intervals) (defBody s_p_are_intervals) (defScope s_p_are_intervals) .none kV_p_are_intervals dc_p_are_intervals pm_p_are_intervals an_p_are_intervals cd_p_are_intervals ct_p_are_intervals), sl_p_are_intervals⟩) (c_p_are_intervals : PySem.W.codeIn K cd_p_are_intervals "_are_intervals" = true) (k_p_are_intervals : PySem.W.keepIn K (.ref f_p_are_intervals) = true)
    (a_p_are_numbers : PySem.W.nsIn K mainGlobals "_are_numbers" = some (some (.ref f_p_are_numbers))) (l_p_are_numbers : K.lookup f_p_are_numbers = some ⟨oc_p_are_numbers, od_p_are_numbers, .func (PySem.W.fnOf "_are_numbers" "_are_numbers" (defArgs s_p_are_numbers) (defBody s_p_are_numbers) (defScope s_p_are_numbers) .none kV_p_are_numbers dc_p_are_numbers pm_p_are_numbers an_p_are_numbers cd_p_are_numbers ct_p_are_numbers), sl_p_are_numbers⟩) (c_p_are_numbers : PySem.W.codeIn K cd_p_are_numbers "_are_numbers" = true) (k_p_are_numbers : PySem.W.keepIn K (.ref f_p_are_numbers) = true)
    (a_p_is_test : PySem.W.nsIn K mainGlobals "is_test" = some (some (.ref f_p_is_test))) (l_p_is_test : K.lookup f_p_is_test = some ⟨oc_p_is_test, od_p_is_test, .func (PySem.W.fnOf "is_test" "is_test" (defArgs s_p_is_test) (defBody s_p_is_test) (defScope s_p_is_test) .none kV_p_is_test dc_p_is_test pm_p_is_test an_p_is_test cd_p_is_test ct_p_is_test), sl_p_is_test⟩) (c_p_is_test : PySem.W.codeIn K cd_p_is_test "is_test" = true) (k_p_is_test : PySem.W.keepIn K (.ref f_p_is_test) = true)
    (a_p_are_tests : PySem.W.nsIn K mainGlobals "_are_tests" = some (some (.ref f_p_are_tests))) (l_p_are_tests : K.lookup f_p_are_tests = some ⟨oc_p_are_tests, od_p_are_tests, .func (PySem.W.fnOf "_are_tests" "_are_tests" (defArgs s_p_are_tests) (defBody s_p_are_tests) (defScope s_p_are_tests) .none kV_p_are_tests dc_p_are_tests pm_p_are_tests an_p_are_tests cd_p_are_tests ct_p_are_tests), sl_p_are_tests⟩) (c_p_are_tests : PySem.W.codeIn K cd_p_are_tests "_are_tests" = true) (k_p_are_tests : PySem.W.keepIn K (.ref f_p_are_tests) = true)
    (a_p_is_choice : PySem.W.nsIn K mainGlobals "_is_choice" = some (some (.ref f_p_is_choice))) (l_p_is_choice : K.lookup f_p_is_choice = some ⟨oc_p_is_choice, od_p_is_choice, .func (PySem.W.fnOf "_is_choice" "_is_choice" (defArgs s_p_is_choice) (defBody s_p_is_choice) (defScope s_p_is_choice) .none kV_p_is_choice dc_p_is_choice pm_p_is_choice an_p_is_choice cd_p_is_choice ct_p_is_choice), sl_p_is_choice⟩) (c_p_is_choice : PySem.W.codeIn K cd_p_is_choice "_is_choice" = true) (k_p_is_choice : PySem.W.keepIn K (.ref f_p_is_choice) = true)
    (a_p_is_state : PySem.W.nsIn K mainGlobals "_is_state" = some (some (.ref f_p_is_state))) (l_p_is_state : K.lookup f_p_is_state = some ⟨oc_p_is_state, od_p_is_state, .func (PySem.W.fnOf "_is_state" "_is_state" (defArgs s_p_is_state) (defBody s_p_is_state) (defScope s_p_is_state) .none kV_p_is_state dc_p_is_state pm_p_is_state an_p_is_state cd_p_is_state ct_p_is_state), sl_p_is_state⟩) (c_p_is_state : PySem.W.codeIn K cd_p_is_state "_is_state" = true) (k_p_is_state : PySem.W.keepIn K (.ref f_p_is_state) = true)
    (a_p_choice_as_tuples : PySem.W.nsIn K mainGlobals "_choice_as_tuples" = some (some (.ref f_p_choice_as_tuples))) (l_p_choice_as_tuples : K.lookup f_p_choice_as_tuples = some ⟨oc_p_choice_as_tuples, od_p_choice_as_tuples, .func (PySem.W.fnOf "_choice_as_tuples" "_choice_as_tuples" (defArgs s_p_choice_as_tuples) (defBody s_p_choice_as_tuples) (defScope s_p_choice_as_tuples) .none kV_p_choice_as_tuples dc_p_choice_as_tuples pm_p_choice_as_tuples an_p_choice_as_tuples cd_p_choice_as_tuples ct_p_choice_as_tuples), sl_p_choice_as_tuples⟩) (c_p_choice_as_tuples : PySem.W.codeIn K cd_p_choice_as_tuples "_choice_as_tuples" = true) (k_p_choice_as_tuples : PySem.W.keepIn K (.ref f_p_choice_as_tuples) = true)
    (a_p_bits_of : PySem.W.nsIn K mainGlobals "bits_of" = some (some (.ref f_p_bits_of))) (l_p_bits_of : K.lookup f_p_bits_of = some ⟨oc_p_bits_of, od_p_bits_of, .func (PySem.W.fnOf "bits_of" "bits_of" (defArgs s_p_bits_of) (defBody s_p_bits_of) (defScope s_p_bits_of) .none kV_p_bits_of dc_p_bits_of pm_p_bits_of an_p_bits_of cd_p_bits_of ct_p_bits_of), sl_p_bits_of⟩) (c_p_bits_of : PySem.W.codeIn K cd_p_bits_of "bits_of" = true) (k_p_bits_of : PySem.W.keepIn K (.ref f_p_bits_of) = true)
    (a_p_checked_tests : PySem.W.nsIn K mainGlobals "_checked_tests" = some (some (.ref f_p_checked_tests))) (l_p_checked_tests : K.lookup f_p_checked_tests = some ⟨oc_p_checked_tests, od_p_checked_tests, .func (PySem.W.fnOf "_checked_tests" "_checked_tests" (defArgs s_p_checked_tests) (defBody s_p_checked_tests) (defScope s_p_checked_tests) .none kV_p_checked_tests dc_p_checked_tests pm_p_checked_tests an_p_checked_tests cd_p_checked_tests ct_p_checked_tests), sl_p_checked_tests⟩) (c_p_checked_tests : PySem.W.codeIn K cd_p_checked_tests "_checked_tests" = true) (k_p_checked_tests : PySem.W.keepIn K (.ref f_p_checked_tests) = true)
    (a_p_checked_states : PySem.W.nsIn K mainGlobals "_checked_states" = some (some (.ref f_p_checked_states))) (l_p_checked_states : K.lookup f_p_checked_states = some ⟨oc_p_checked_states, od_p_checked_states, .func (PySem.W.fnOf "_checked_states" "_checked_states" (defArgs s_p_checked_states) (defBody s_p_checked_states) (defScope s_p_checked_states) .none kV_p_checked_states dc_p_checked_states pm_p_checked_states an_p_checked_states cd_p_checked_states ct_p_checked_states), sl_p_checked_states⟩) (c_p_checked_states : PySem.W.codeIn K cd_p_checked_states "_checked_states" = true) (k_p_checked_states : PySem.W.keepIn K (.ref f_p_checked_states) = true)
    (a_told : PySem.W.nsIn K mainGlobals "_law_told" = some (some (.ref f_told))) (l_told : K.lookup f_told = some ⟨oc_told, od_told, .func (PySem.W.fnOf "_law_told" "_law_told" (defArgs s_told) (defBody s_told) (defScope s_told) .none kV_told dc_told pm_told an_told cd_told ct_told), sl_told⟩) (c_told : PySem.W.codeIn K cd_told "_law_told" = true) (k_told : PySem.W.keepIn K (.ref f_told) = true)
    (a_test : PySem.W.nsIn K mainGlobals "_law_test" = some (some (.ref f_test))) (l_test : K.lookup f_test = some ⟨oc_test, od_test, .func (PySem.W.fnOf "_law_test" "_law_test" (defArgs s_test) (defBody s_test) (defScope s_test) .none kV_test dc_test pm_test an_test cd_test ct_test), sl_test⟩) (c_test : PySem.W.codeIn K cd_test "_law_test" = true) (k_test : PySem.W.keepIn K (.ref f_test) = true)
    (a_numbers : PySem.W.nsIn K mainGlobals "_law_numbers" = some (some (.ref f_numbers))) (l_numbers : K.lookup f_numbers = some ⟨oc_numbers, od_numbers, .func (PySem.W.fnOf "_law_numbers" "_law_numbers" (defArgs s_numbers) (defBody s_numbers) (defScope s_numbers) .none kV_numbers dc_numbers pm_numbers an_numbers cd_numbers ct_numbers), sl_numbers⟩) (c_numbers : PySem.W.codeIn K cd_numbers "_law_numbers" = true) (k_numbers : PySem.W.keepIn K (.ref f_numbers) = true)
    (a_tests : PySem.W.nsIn K mainGlobals "_law_tests" = some (some (.ref f_tests))) (l_tests : K.lookup f_tests = some ⟨oc_tests, od_tests, .func (PySem.W.fnOf "_law_tests" "_law_tests" (defArgs s_tests) (defBody s_tests) (defScope s_tests) .none kV_tests dc_tests pm_tests an_tests cd_tests ct_tests), sl_tests⟩) (c_tests : PySem.W.codeIn K cd_tests "_law_tests" = true) (k_tests : PySem.W.keepIn K (.ref f_tests) = true)
    (a_wrong_test : PySem.W.nsIn K mainGlobals "_law_wrong_test" = some (some (.ref f_wrong_test))) (l_wrong_test : K.lookup f_wrong_test = some ⟨oc_wrong_test, od_wrong_test, .func (PySem.W.fnOf "_law_wrong_test" "_law_wrong_test" (defArgs s_wrong_test) (defBody s_wrong_test) (defScope s_wrong_test) .none kV_wrong_test dc_wrong_test pm_wrong_test an_wrong_test cd_wrong_test ct_wrong_test), sl_wrong_test⟩) (c_wrong_test : PySem.W.codeIn K cd_wrong_test "_law_wrong_test" = true) (k_wrong_test : PySem.W.keepIn K (.ref f_wrong_test) = true)
    (a_wrong_state : PySem.W.nsIn K mainGlobals "_law_wrong_state" = some (some (.ref f_wrong_state))) (l_wrong_state : K.lookup f_wrong_state = some ⟨oc_wrong_state, od_wrong_state, .func (PySem.W.fnOf "_law_wrong_state" "_law_wrong_state" (defArgs s_wrong_state) (defBody s_wrong_state) (defScope s_wrong_state) .none kV_wrong_state dc_wrong_state pm_wrong_state an_wrong_state cd_wrong_state ct_wrong_state), sl_wrong_state⟩) (c_wrong_state : PySem.W.codeIn K cd_wrong_state "_law_wrong_state" = true) (k_wrong_state : PySem.W.keepIn K (.ref f_wrong_state) = true)
    (a_changed : PySem.W.nsIn K mainGlobals "_law_changed" = some (some (.ref f_changed))) (l_changed : K.lookup f_changed = some ⟨oc_changed, od_changed, .func (PySem.W.fnOf "_law_changed" "_law_changed" (defArgs s_changed) (defBody s_changed) (defScope s_changed) .none kV_changed dc_changed pm_changed an_changed cd_changed ct_changed), sl_changed⟩) (c_changed : PySem.W.codeIn K cd_changed "_law_changed" = true) (k_changed : PySem.W.keepIn K (.ref f_changed) = true)
    (a_book : PySem.W.nsIn K mainGlobals "_law_book" = some (some (.ref f_book))) (l_book : K.lookup f_book = some ⟨oc_book, od_book, .func (PySem.W.fnOf "_law_book" "_law_book" (defArgs s_book) (defBody s_book) (defScope s_book) .none kV_book dc_book pm_book an_book cd_book ct_book), sl_book⟩) (c_book : PySem.W.codeIn K cd_book "_law_book" = true) (k_book : PySem.W.keepIn K (.ref f_book) = true)
    (a_law : PySem.W.nsIn K mainGlobals "law" = some (some (.ref f_law))) (l_law : K.lookup f_law = some ⟨oc_law, od_law, .func (PySem.W.fnOf "law" "law" (defArgs s_law) (defBody s_law) (defScope s_law) .none kV_law dc_law pm_law an_law cd_law ct_law), sl_law⟩) (c_law : PySem.W.codeIn K cd_law "law" = true) (k_law : PySem.W.keepIn K (.ref f_law) = true)
    (z_len : PySem.W.nsIn K mainGlobals "len" = some none)
    (z_int : PySem.W.nsIn K mainGlobals "int" = some none)
    (z_isinstance : PySem.W.nsIn K mainGlobals "isinstance" = some none)
    (z_range : PySem.W.nsIn K mainGlobals "range" = some none)
    (z_list : PySem.W.nsIn K mainGlobals "list" = some none)
    (z_tuple : PySem.W.nsIn K mainGlobals "tuple" = some none)
    (z_all : PySem.W.nsIn K mainGlobals "all" = some none)
    (z_bool : PySem.W.nsIn K mainGlobals "bool" = some none)
    (z_str : PySem.W.nsIn K mainGlobals "str" = some none)
    (z_abs : PySem.W.nsIn K mainGlobals "abs" = some none)
    (z_enumerate : PySem.W.nsIn K mainGlobals "enumerate" = some none)
    (z_zip : PySem.W.nsIn K mainGlobals "zip" = some none)
    (a_FAR : PySem.W.nsIn K mainGlobals "FAR" = some (some (.int 1000 t_FAR)))
    (a_MOST_ACCENT : PySem.W.nsIn K mainGlobals "MOST_ACCENT" = some (some (.int 9 t_MOST_ACCENT)))
    (a_MOST_HEIGHT : PySem.W.nsIn K mainGlobals "MOST_HEIGHT" = some (some (.int 200 t_MOST_HEIGHT)))
    (a_MOST_LISTED : PySem.W.nsIn K mainGlobals "MOST_LISTED" = some (some (.int 12 t_MOST_LISTED)))
    (a_MOST_STATES : PySem.W.nsIn K mainGlobals "MOST_STATES" = some (some (.int 24 t_MOST_STATES)))
    (a_MOST_TESTS : PySem.W.nsIn K mainGlobals "MOST_TESTS" = some (some (.int 16 t_MOST_TESTS)))
    (a_MOST_TIMES : PySem.W.nsIn K mainGlobals "MOST_TIMES" = some (some (.int 1000 t_MOST_TIMES)))
    (a_MOST_TUPLES : PySem.W.nsIn K mainGlobals "MOST_TUPLES" = some (some (.int 16 t_MOST_TUPLES)))
    (a_MOST_VOICES : PySem.W.nsIn K mainGlobals "MOST_VOICES" = some (some (.int 4 t_MOST_VOICES)))
    (a_MOST_WANTED : PySem.W.nsIn K mainGlobals "MOST_WANTED" = some (some (.int 16 t_MOST_WANTED)))
    (g_gcd : PySem.W.nsIn K mainGlobals "gcd" = some (some (.builtin "math.gcd")))
    (a_FORMS : PySem.W.nsIn K mainGlobals "FORMS" = some (some (.ref pF)))
    (d_FORMS : He.dicW K pF = some (He.keysIn w.params ["accent", "begins", "silent", "loose", "leap", "by", "apart", "class", "lasts", "along"]))
    (a_PARTS : PySem.W.nsIn K mainGlobals "PARTS" = some (some (.ref pC)))
    (d_PARTS : He.dicW K pC = some (He.keysIn w.params ["accent", "voice", "height", "times", "intervals", "numbers"]))
    (z_Begins : PySem.W.nsIn K pF "Begins" = some none)
    (e_F_accent : PySem.W.nsIn K pF "accent" = some (some (.ref tf_accent)))
    (l_F_accent : K.lookup tf_accent = some ⟨.type "tuple", tod_accent, .seq #[.str "accent" tt_accent0] tn_accent, tsl_accent⟩)
    (e_F_begins : PySem.W.nsIn K pF "begins" = some (some (.ref tf_begins)))
    (l_F_begins : K.lookup tf_begins = some ⟨.type "tuple", tod_begins, .seq #[.str "voice" tt_begins0] tn_begins, tsl_begins⟩)
    (e_F_silent : PySem.W.nsIn K pF "silent" = some (some (.ref tf_silent)))
    (l_F_silent : K.lookup tf_silent = some ⟨.type "tuple", tod_silent, .seq #[.str "voice" tt_silent0] tn_silent, tsl_silent⟩)
    (e_F_loose : PySem.W.nsIn K pF "loose" = some (some (.ref tf_loose)))
    (l_F_loose : K.lookup tf_loose = some ⟨.type "tuple", tod_loose, .seq #[.str "voice" tt_loose0] tn_loose, tsl_loose⟩)
    (e_F_leap : PySem.W.nsIn K pF "leap" = some (some (.ref tf_leap)))
    (l_F_leap : K.lookup tf_leap = some ⟨.type "tuple", tod_leap, .seq #[.str "voice" tt_leap0, .str "height" tt_leap1, .str "height" tt_leap2] tn_leap, tsl_leap⟩)
    (e_F_by : PySem.W.nsIn K pF "by" = some (some (.ref tf_by)))
    (l_F_by : K.lookup tf_by = some ⟨.type "tuple", tod_by, .seq #[.str "voice" tt_by0, .str "intervals" tt_by1] tn_by, tsl_by⟩)
    (e_F_apart : PySem.W.nsIn K pF "apart" = some (some (.ref tf_apart)))
    (l_F_apart : K.lookup tf_apart = some ⟨.type "tuple", tod_apart, .seq #[.str "voice" tt_apart0, .str "voice" tt_apart1, .str "height" tt_apart2, .str "height" tt_apart3] tn_apart, tsl_apart⟩)
    (e_F_class : PySem.W.nsIn K pF "class" = some (some (.ref tf_class)))
    (l_F_class : K.lookup tf_class = some ⟨.type "tuple", tod_class, .seq #[.str "voice" tt_class0, .str "voice" tt_class1, .str "numbers" tt_class2] tn_class, tsl_class⟩)
    (e_F_lasts : PySem.W.nsIn K pF "lasts" = some (some (.ref tf_lasts)))
    (l_F_lasts : K.lookup tf_lasts = some ⟨.type "tuple", tod_lasts, .seq #[.str "times" tt_lasts0, .str "times" tt_lasts1] tn_lasts, tsl_lasts⟩)
    (e_F_along : PySem.W.nsIn K pF "along" = some (some (.ref tf_along)))
    (l_F_along : K.lookup tf_along = some ⟨.type "tuple", tod_along, .seq #[.str "voice" tt_along0, .str "voice" tt_along1] tn_along, tsl_along⟩)
    (e_C_accent : PySem.W.nsIn K pC "accent" = some (some (.ref f_p_is_accent)))
    (e_C_voice : PySem.W.nsIn K pC "voice" = some (some (.ref f_p_is_voice)))
    (e_C_height : PySem.W.nsIn K pC "height" = some (some (.ref f_p_is_height)))
    (e_C_times : PySem.W.nsIn K pC "times" = some (some (.ref f_p_is_times)))
    (e_C_intervals : PySem.W.nsIn K pC "intervals" = some (some (.ref f_p_are_intervals)))
    (e_C_numbers : PySem.W.nsIn K pC "numbers" = some (some (.ref f_p_are_numbers)))
    (a_BadBook : PySem.W.nsIn K mainGlobals "BadBook" = some (some (.ref CC)))
    (a_ScoreError : PySem.W.nsIn K mainGlobals "ScoreError" = some (some (.ref CS)))
    (a_Book : PySem.W.nsIn K mainGlobals "Book" = some (some (.ref CB)))
    (a_Steps : PySem.W.nsIn K mainGlobals "Steps" = some (some (.ref CT)))
    (o_lk : K.lookup CC = some (excClassObj o_nm o_q CC o_N o_bs o_bm true o_sn o_sub o_ab o_col o_dd o_k0 o_k1 o_k2 o_k3 o_k5 "ValueError.__new__"))
    (o_mro : PySem.HandSPX.refsVE o_bm = true)
    (o_sa : PySem.W.findIn K (.ref CC) "__setattr__" = some (some (.builtin "object.__setattr__")))
    (b_kp : PySem.W.keepIn K (.ref CC) = true)
    (b_sb : PySem.W.subIn K (.ref CC) (.type "BaseException") = some true)
    (b_ty : PySem.W.typeIn K (.ref CC) = some (.type "type"))
    (i_fn : PySem.W.findIn K (.ref CC) "__init__" = some (some (.ref fI)))
    (i_ty : PySem.W.typeIn K (.ref fI) = some (.type "function"))
    (l_I : K.lookup fI = some ⟨oc_I, od_I, .func (PySem.W.fnOf "__init__" "BadBook.__init__" (defArgs s_BadBook_init) (defBody s_BadBook_init) (defScope s_BadBook_init) .none kV_I dc_I pm_I an_I cd_I ct_I), sl_I⟩)
    (c_I : PySem.W.codeIn K cd_I "BadBook.__init__" = true)
    (k_I : PySem.W.keepIn K (.ref fI) = true)
    (s_ga : PySem.W.specialIn K (.ref CS) "__getattribute__" = some (some (.builtin "type.__getattribute__")))
    (s_rd : PySem.W.readsIn K CS (.type "type") = true)
    (s_ini : PySem.W.findCls K (.ref CS) (.type "type") "__init__" = some (.val (.builtin "ValueError.__init__")))
    (n_num : PySem.W.findIn K (.ref CC) "number" = some none)
    (n_par : PySem.W.findIn K (.ref CC) "part" = some none)
    (e_hg : PySem.W.findIn K (.ref CC) "__getattribute__" = some (some (.builtin "BaseException.__getattribute__")))
    (e_hk : PySem.W.findIn K (.ref CC) "__getattr__" = some none)
    (e_hd : PySem.W.hasDictIn K CC = true)
    (e_ha : PySem.W.findIn K (.ref CC) "__class__" = some (some (.builtin "object.__class__")))
    (e_hn : PySem.W.specialIn K (.builtin "object.__class__") "__get__" = some (some (.builtin "getset_descriptor.__get__")))
    (e_ht : PySem.W.takesIn K (.builtin "object.__class__") = some true)
    (e_hm : PySem.W.mroIn K CC (.type "object") = some true)
    (s3_sb : PySem.W.subIn K (.ref CS) (.type "BaseException") = some true)
    (s3_hd : PySem.W.hasDictIn K CS = true)
    (s3_ty : PySem.W.typeIn K (.ref CS) = some (.type "type"))
    (s3_yes : PySem.W.subIn K (.ref CC) (.ref CS) = some true)
    (s4_yes : PySem.W.subIn K (.ref CC) (.ref CC) = some true)
    (mk_B : PySem.W.makesIn K CB = true)
    (in_B : PySem.W.findIn K (.ref CB) "__init__" = some (some (.ref fB)))
    (fn_B : PySem.W.isFn K (.ref fB) = true)
    (kp_B : PySem.W.keepIn K (.ref CB) = true)
    (pg_B : PySem.W.plainGet K CB Str.empty = true)
    (hd_B : PySem.W.hasDictIn K CB = true)
    (po_B : PySem.W.plainOver K CB = true)
    (sa_B : PySem.W.findIn K (.ref CB) "__setattr__" = some (some (.builtin "object.__setattr__")))
    (na_B_tests : PySem.W.findIn K (.ref CB) "tests" = some none)
    (na_B_states : PySem.W.findIn K (.ref CB) "states" = some none)
    (na_B_steps : PySem.W.findIn K (.ref CB) "steps" = some none)
    (mk_T : PySem.W.makesIn K CT = true)
    (in_T : PySem.W.findIn K (.ref CT) "__init__" = some (some (.ref fT)))
    (fn_T : PySem.W.isFn K (.ref fT) = true)
    (kp_T : PySem.W.keepIn K (.ref CT) = true)
    (pg_T : PySem.W.plainGet K CT Str.empty = true)
    (hd_T : PySem.W.hasDictIn K CT = true)
    (po_T : PySem.W.plainOver K CT = true)
    (sa_T : PySem.W.findIn K (.ref CT) "__setattr__" = some (some (.builtin "object.__setattr__")))
    (na_T_tests : PySem.W.findIn K (.ref CT) "tests" = some none)
    (na_T_choices : PySem.W.findIn K (.ref CT) "choices" = some none)
    (na_T_rows : PySem.W.findIn K (.ref CT) "rows" = some none)
    (na_T_moves : PySem.W.findIn K (.ref CT) "moves" = some none)
    (na_T_goings : PySem.W.findIn K (.ref CT) "goings" = some none)
    (na_T_fillings : PySem.W.findIn K (.ref CT) "fillings" = some none)
    (l_B : K.lookup fB = some ⟨oc_B, od_B, .func (PySem.W.fnOf "__init__" "Book.__init__" (defArgs s_Book_init) (defBody s_Book_init) (defScope s_Book_init) .none kV_B dc_B pm_B an_B cd_B ct_B), sl_B⟩)
    (c_B : PySem.W.codeIn K cd_B "Book.__init__" = true)
    (k_B : PySem.W.keepIn K (.ref fB) = true)
    (l_T : K.lookup fT = some ⟨oc_T, od_T, .func (PySem.W.fnOf "__init__" "Steps.__init__" (defArgs s_Steps_init) (defBody s_Steps_init) (defScope s_Steps_init) .none kV_T dc_T pm_T an_T cd_T ct_T), sl_T⟩)
    (c_T : PySem.W.codeIn K cd_T "Steps.__init__" = true)
    (k_T : PySem.W.keepIn K (.ref fT) = true)
    : ∃ fd : FuncData, (∀ (s : Shared) (v : Value), BindsTo s fd ⟨[v], []⟩ [("script", v)]) ∧ ∀ base : Heap, K.In base → base.Ns mainGlobals mg → FnOk l.prog w K mg base CX0 10 fa fd ["script"] (spLaw K) := by
  have e := hfa.symm.trans (PySem.W.mg_of X G a_law)
  cases e
  have T : Bt mg := ⟨PySem.W.mg_none_of X G z_len, PySem.W.mg_none_of X G z_int, PySem.W.mg_none_of X G z_isinstance, PySem.W.mg_none_of X G z_range, PySem.W.mg_none_of X G z_list, PySem.W.mg_none_of X G z_tuple, PySem.W.mg_none_of X G z_all, PySem.W.mg_none_of X G z_bool, PySem.W.mg_none_of X G z_str⟩
  have F_take := fun_mk (st := s_take) l_take c_take k_take
  have m_take := PySem.W.mg_of X G a_take
  have F_pool := fun_mk (st := s_pool) l_pool c_pool k_pool
  have m_pool := PySem.W.mg_of X G a_pool
  have F_pick := fun_mk (st := s_pick) l_pick c_pick k_pick
  have m_pick := PySem.W.mg_of X G a_pick
  have F_is_integer := fun_mk (st := s_is_integer) l_is_integer c_is_integer k_is_integer
  have m_is_integer := PySem.W.mg_of X G a_is_integer
  have F_same := fun_mk (st := s_same) l_same c_same k_same
  have m_same := PySem.W.mg_of X G a_same
  have F_lowest := fun_mk (st := s_lowest) l_lowest c_lowest k_lowest
  have m_lowest := PySem.W.mg_of X G a_lowest
  have F_p_is_row := fun_mk (st := s_p_is_row) l_p_is_row c_p_is_row k_p_is_row
  have m_p_is_row := PySem.W.mg_of X G a_p_is_row
  have F_p_is_pair := fun_mk (st := s_p_is_pair) l_p_is_pair c_p_is_pair k_p_is_pair
  have m_p_is_pair := PySem.W.mg_of X G a_p_is_pair
  have F_p_is_number := fun_mk (st := s_p_is_number) l_p_is_number c_p_is_number k_p_is_number
  have m_p_is_number := PySem.W.mg_of X G a_p_is_number
  have F_p_is_whole := fun_mk (st := s_p_is_whole) l_p_is_whole c_p_is_whole k_p_is_whole
  have m_p_is_whole := PySem.W.mg_of X G a_p_is_whole
  have F_p_is_tone := fun_mk (st := s_p_is_tone) l_p_is_tone c_p_is_tone k_p_is_tone
  have m_p_is_tone := PySem.W.mg_of X G a_p_is_tone
  have F_interval := fun_mk (st := s_interval) l_interval c_interval k_interval
  have m_interval := PySem.W.mg_of X G a_interval
  have F_sum := fun_mk (st := s_sum) l_sum c_sum k_sum
  have m_sum := PySem.W.mg_of X G a_sum
  have F_p_tuple_of := fun_mk (st := s_p_tuple_of) l_p_tuple_of c_p_tuple_of k_p_tuple_of
  have m_p_tuple_of := PySem.W.mg_of X G a_p_tuple_of
  have F_p_tuples_of_test := fun_mk (st := s_p_tuples_of_test) l_p_tuples_of_test c_p_tuples_of_test k_p_tuples_of_test
  have m_p_tuples_of_test := PySem.W.mg_of X G a_p_tuples_of_test
  have F_p_is_fraction := fun_mk (st := s_p_is_fraction) l_p_is_fraction c_p_is_fraction k_p_is_fraction
  have m_p_is_fraction := PySem.W.mg_of X G a_p_is_fraction
  have F_p_is_accent := fun_mk (st := s_p_is_accent) l_p_is_accent c_p_is_accent k_p_is_accent
  have m_p_is_accent := PySem.W.mg_of X G a_p_is_accent
  have F_p_is_voice := fun_mk (st := s_p_is_voice) l_p_is_voice c_p_is_voice k_p_is_voice
  have m_p_is_voice := PySem.W.mg_of X G a_p_is_voice
  have F_p_is_height := fun_mk (st := s_p_is_height) l_p_is_height c_p_is_height k_p_is_height
  have m_p_is_height := PySem.W.mg_of X G a_p_is_height
  have F_p_is_less := fun_mk (st := s_p_is_less) l_p_is_less c_p_is_less k_p_is_less
  have m_p_is_less := PySem.W.mg_of X G a_p_is_less
  have F_p_is_times := fun_mk (st := s_p_is_times) l_p_is_times c_p_is_times k_p_is_times
  have m_p_is_times := PySem.W.mg_of X G a_p_is_times
  have F_p_are_intervals := fun_mk (st := s_p_are_intervals) l_p_are_intervals c_p_are_intervals k_p_are_intervals
  have m_p_are_intervals := PySem.W.mg_of X G a_p_are_intervals
  have F_p_are_numbers := fun_mk (st := s_p_are_numbers) l_p_are_numbers c_p_are_numbers k_p_are_numbers
  have m_p_are_numbers := PySem.W.mg_of X G a_p_are_numbers
  have F_p_is_test := fun_mk (st := s_p_is_test) l_p_is_test c_p_is_test k_p_is_test
  have m_p_is_test := PySem.W.mg_of X G a_p_is_test
  have F_p_are_tests := fun_mk (st := s_p_are_tests) l_p_are_tests c_p_are_tests k_p_are_tests
  have m_p_are_tests := PySem.W.mg_of X G a_p_are_tests
  have F_p_is_choice := fun_mk (st := s_p_is_choice) l_p_is_choice c_p_is_choice k_p_is_choice
  have m_p_is_choice := PySem.W.mg_of X G a_p_is_choice
  have F_p_is_state := fun_mk (st := s_p_is_state) l_p_is_state c_p_is_state k_p_is_state
  have m_p_is_state := PySem.W.mg_of X G a_p_is_state
  have F_p_choice_as_tuples := fun_mk (st := s_p_choice_as_tuples) l_p_choice_as_tuples c_p_choice_as_tuples k_p_choice_as_tuples
  have m_p_choice_as_tuples := PySem.W.mg_of X G a_p_choice_as_tuples
  have F_p_bits_of := fun_mk (st := s_p_bits_of) l_p_bits_of c_p_bits_of k_p_bits_of
  have m_p_bits_of := PySem.W.mg_of X G a_p_bits_of
  have F_p_checked_tests := fun_mk (st := s_p_checked_tests) l_p_checked_tests c_p_checked_tests k_p_checked_tests
  have m_p_checked_tests := PySem.W.mg_of X G a_p_checked_tests
  have F_p_checked_states := fun_mk (st := s_p_checked_states) l_p_checked_states c_p_checked_states k_p_checked_states
  have m_p_checked_states := PySem.W.mg_of X G a_p_checked_states
  have F_told := fun_mk (st := s_told) l_told c_told k_told
  have m_told := PySem.W.mg_of X G a_told
  have F_test := fun_mk (st := s_test) l_test c_test k_test
  have m_test := PySem.W.mg_of X G a_test
  have F_numbers := fun_mk (st := s_numbers) l_numbers c_numbers k_numbers
  have m_numbers := PySem.W.mg_of X G a_numbers
  have F_tests := fun_mk (st := s_tests) l_tests c_tests k_tests
  have m_tests := PySem.W.mg_of X G a_tests
  have F_wrong_test := fun_mk (st := s_wrong_test) l_wrong_test c_wrong_test k_wrong_test
  have m_wrong_test := PySem.W.mg_of X G a_wrong_test
  have F_wrong_state := fun_mk (st := s_wrong_state) l_wrong_state c_wrong_state k_wrong_state
  have m_wrong_state := PySem.W.mg_of X G a_wrong_state
  have F_changed := fun_mk (st := s_changed) l_changed c_changed k_changed
  have m_changed := PySem.W.mg_of X G a_changed
  have F_book := fun_mk (st := s_book) l_book c_book k_book
  have m_book := PySem.W.mg_of X G a_book
  have F_law := fun_mk (st := s_law) l_law c_law k_law
  have m_law := PySem.W.mg_of X G a_law
  have n_abs := PySem.W.mg_none_of X G z_abs
  have n_enumerate := PySem.W.mg_none_of X G z_enumerate
  have n_zip := PySem.W.mg_none_of X G z_zip
  refine ⟨PySem.W.fnOf "law" "law" (defArgs s_law) (defBody s_law) (defScope s_law) .none kV_law dc_law pm_law an_law cd_law ct_law, fun s v => .of_eq rfl, fun base _ _ => ?_⟩
  have F_I := fun_mk (st := s_BadBook_init) l_I c_I k_I
  have F_B := fun_mk (st := s_Book_init) l_B c_B k_B
  have F_T := fun_mk (st := s_Steps_init) l_T c_T k_T
  have O_E : OexC K CC := ⟨⟨_, _, _, _, _, _, _, _, _, _, _, _, _, _, _, o_lk, o_mro⟩, o_sa, b_sb, b_ty, b_kp⟩
  have E_bk : Vt.ErrBook l.prog w K mg base CC := ⟨O_E, PySem.W.mg_of X G a_BadBook, _, _, _, i_fn, i_ty, F_I.binds (fun _ _ _ _ _ _ us hl => match us, hl with | [_, _, _], _ => rfl), Vt.c_BadBook_init F_I (PySem.W.mg_of X G a_ScoreError) ⟨s_ga, s_rd, s_ini⟩ O_E n_par n_num⟩
  have G_B : Vt.GB K mg CC CS := ⟨PySem.W.mg_of X G a_BadBook, PySem.W.mg_of X G a_ScoreError, PySem.W.exm_ref b_sb e_hd b_ty s4_yes, ⟨e_hg, e_hk, b_sb, e_hd, e_ha, e_hn, e_ht, e_hm⟩, by obtain ⟨cd, hc, _⟩ := PySem.W.any_some e_hd; rw [hc]; rfl, kit_own rfl s3_sb s3_hd s3_ty s3_yes, ⟨e_hg, e_hk, b_sb, e_hd⟩, n_par, n_num⟩
  have cB : Cls K CB := ⟨pg_B, hd_B, po_B, sa_B⟩
  have cT : Cls K CT := ⟨pg_T, hd_T, po_T, sa_T⟩
  have nB : ∀ z ∈ (["tests", "states", "steps"] : List Str), NoAttr K CB z := Vt.all_k3 na_B_tests na_B_states na_B_steps
  have nT : ∀ z ∈ (["tests", "choices", "rows", "moves", "goings", "fillings"] : List Str), NoAttr K CT z := Vt.all_k6 na_T_tests na_T_choices na_T_rows na_T_moves na_T_goings na_T_fillings
  have q_c_take0 := Vt.c_take0 (P := l.prog) (w := w) (base := base) F_take m_take T
  have q_c_take := Vt.c_take (P := l.prog) (w := w) (base := base) F_take m_take T
  have q_c_pool := Vt.c_pool (P := l.prog) (w := w) (base := base) F_pool m_pool
  have q_c_pick := Vt.c_pick F_pick m_pick T q_c_take
  have q_c_is_integer := Vt.c_is_integer (P := l.prog) (w := w) (base := base) F_is_integer m_is_integer T
  have q_c_same := Vt.c_same F_same m_same T q_c_is_integer
  have q_w_take := Vt.w_take q_c_take
  have q_w_pick := Vt.w_pick q_c_pick
  have q_c_lowest := Vt.c_lowest (P := l.prog) (w := w) (base := base) F_lowest m_lowest T n_abs
  have q_c_p_is_row := Vt.c_p_is_row (P := l.prog) (w := w) (base := base) F_p_is_row m_p_is_row T
  have q_c_p_is_pair := Vt.c_p_is_pair F_p_is_pair m_p_is_pair T q_c_p_is_row
  have q_c_p_is_number := Vt.c_p_is_number (P := l.prog) (w := w) (base := base) F_p_is_number m_p_is_number T
  have q_c_p_is_whole := Vt.c_p_is_whole F_p_is_whole m_p_is_whole q_c_p_is_number
  have q_c_p_is_tone := Vt.c_p_is_tone F_p_is_tone m_p_is_tone T ⟨_, PySem.W.mg_of X G a_FAR⟩ q_c_p_is_pair q_c_p_is_whole
  have q_c_interval := Vt.c_interval F_interval m_interval T q_w_take
  have q_c_sum := Vt.c_sum F_sum m_sum T q_c_lowest
  have q_c_p_tuple_of := Vt.c_p_tuple_of (P := l.prog) (w := w) (base := base) F_p_tuple_of m_p_tuple_of
  have q_c_p_tuples_of_test := Vt.c_p_tuples_of_test F_p_tuples_of_test m_p_tuples_of_test T q_c_p_tuple_of
  have q_c_p_is_fraction := Vt.c_p_is_fraction F_p_is_fraction m_p_is_fraction T (PySem.W.mg_of X G g_gcd) q_c_p_is_pair q_c_p_is_number
  have q_c_p_is_accent := Vt.c_p_is_accent F_p_is_accent m_p_is_accent ⟨_, PySem.W.mg_of X G a_MOST_ACCENT⟩ q_c_p_is_whole
  have q_c_p_is_voice := Vt.c_p_is_voice F_p_is_voice m_p_is_voice ⟨_, PySem.W.mg_of X G a_MOST_VOICES⟩ q_c_p_is_whole
  have q_c_p_is_height := Vt.c_p_is_height F_p_is_height m_p_is_height ⟨_, PySem.W.mg_of X G a_MOST_HEIGHT⟩ q_c_p_is_whole
  have q_c_p_is_less := Vt.c_p_is_less (P := l.prog) (w := w) (base := base) F_p_is_less m_p_is_less
  have q_c_p_is_times := Vt.c_p_is_times F_p_is_times m_p_is_times ⟨_, PySem.W.mg_of X G a_MOST_TIMES⟩ q_c_p_is_fraction q_c_p_is_less
  have q_c_p_are_intervals := Vt.c_p_are_intervals F_p_are_intervals m_p_are_intervals T ⟨_, PySem.W.mg_of X G a_MOST_LISTED⟩ q_c_p_is_row q_c_p_is_tone
  have q_c_p_are_numbers := Vt.c_p_are_numbers F_p_are_numbers m_p_are_numbers T ⟨_, PySem.W.mg_of X G a_MOST_LISTED⟩ q_c_p_is_row q_c_p_is_whole
  have KF : Vt.FormT K w mg pF := ⟨PySem.W.mg_of X G a_FORMS, He.dicW_ok d_FORMS, Vt.form_has ⟨.ref tf_accent, e_F_accent, .ref tf_accent, rfl, fun G => Vt.rep_kS (zs := ["accent"]) l_F_accent rfl rfl (by simp only [List.size_toArray, List.length_cons, List.length_nil]; decide) (.cons ⟨_, rfl⟩ .nil)⟩ ⟨.ref tf_begins, e_F_begins, .ref tf_begins, rfl, fun G => Vt.rep_kS (zs := ["voice"]) l_F_begins rfl rfl (by simp only [List.size_toArray, List.length_cons, List.length_nil]; decide) (.cons ⟨_, rfl⟩ .nil)⟩ ⟨.ref tf_silent, e_F_silent, .ref tf_silent, rfl, fun G => Vt.rep_kS (zs := ["voice"]) l_F_silent rfl rfl (by simp only [List.size_toArray, List.length_cons, List.length_nil]; decide) (.cons ⟨_, rfl⟩ .nil)⟩ ⟨.ref tf_loose, e_F_loose, .ref tf_loose, rfl, fun G => Vt.rep_kS (zs := ["voice"]) l_F_loose rfl rfl (by simp only [List.size_toArray, List.length_cons, List.length_nil]; decide) (.cons ⟨_, rfl⟩ .nil)⟩ ⟨.ref tf_leap, e_F_leap, .ref tf_leap, rfl, fun G => Vt.rep_kS (zs := ["voice", "height", "height"]) l_F_leap rfl rfl (by simp only [List.size_toArray, List.length_cons, List.length_nil]; decide) (.cons ⟨_, rfl⟩ (.cons ⟨_, rfl⟩ (.cons ⟨_, rfl⟩ .nil)))⟩ ⟨.ref tf_by, e_F_by, .ref tf_by, rfl, fun G => Vt.rep_kS (zs := ["voice", "intervals"]) l_F_by rfl rfl (by simp only [List.size_toArray, List.length_cons, List.length_nil]; decide) (.cons ⟨_, rfl⟩ (.cons ⟨_, rfl⟩ .nil))⟩ ⟨.ref tf_apart, e_F_apart, .ref tf_apart, rfl, fun G => Vt.rep_kS (zs := ["voice", "voice", "height", "height"]) l_F_apart rfl rfl (by simp only [List.size_toArray, List.length_cons, List.length_nil]; decide) (.cons ⟨_, rfl⟩ (.cons ⟨_, rfl⟩ (.cons ⟨_, rfl⟩ (.cons ⟨_, rfl⟩ .nil))))⟩ ⟨.ref tf_class, e_F_class, .ref tf_class, rfl, fun G => Vt.rep_kS (zs := ["voice", "voice", "numbers"]) l_F_class rfl rfl (by simp only [List.size_toArray, List.length_cons, List.length_nil]; decide) (.cons ⟨_, rfl⟩ (.cons ⟨_, rfl⟩ (.cons ⟨_, rfl⟩ .nil)))⟩ ⟨.ref tf_lasts, e_F_lasts, .ref tf_lasts, rfl, fun G => Vt.rep_kS (zs := ["times", "times"]) l_F_lasts rfl rfl (by simp only [List.size_toArray, List.length_cons, List.length_nil]; decide) (.cons ⟨_, rfl⟩ (.cons ⟨_, rfl⟩ .nil))⟩ ⟨.ref tf_along, e_F_along, .ref tf_along, rfl, fun G => Vt.rep_kS (zs := ["voice", "voice"]) l_F_along rfl rfl (by simp only [List.size_toArray, List.length_cons, List.length_nil]; decide) (.cons ⟨_, rfl⟩ (.cons ⟨_, rfl⟩ .nil))⟩, z_Begins⟩
  have KC : Vt.PartK l.prog w K mg base := ⟨pC, PySem.W.mg_of X G a_PARTS, fun q => by
    obtain ⟨es, n, DD⟩ := He.dicW_ok d_PARTS
    cases q with
    | acc => exact ⟨f_p_is_accent, Vt.KDict.ct DD e_C_accent rfl, Vt.CalF.cast (Vt.Cal.at_f q_c_p_is_accent m_p_is_accent) (by decide) (fun _ _ _ _ h => h)⟩
    | voi => exact ⟨f_p_is_voice, Vt.KDict.ct DD e_C_voice rfl, Vt.CalF.cast (Vt.Cal.at_f q_c_p_is_voice m_p_is_voice) (by decide) (fun _ _ _ _ h => h)⟩
    | hei => exact ⟨f_p_is_height, Vt.KDict.ct DD e_C_height rfl, Vt.CalF.cast (Vt.Cal.at_f q_c_p_is_height m_p_is_height) (by decide) (fun _ _ _ _ h => h)⟩
    | tim => exact ⟨f_p_is_times, Vt.KDict.ct DD e_C_times rfl, Vt.CalF.cast (Vt.Cal.at_f q_c_p_is_times m_p_is_times) (by decide) (fun _ _ _ _ h => h)⟩
    | ivs => exact ⟨f_p_are_intervals, Vt.KDict.ct DD e_C_intervals rfl, Vt.CalF.cast (Vt.Cal.at_f q_c_p_are_intervals m_p_are_intervals) (by decide) (fun _ _ _ _ h => h)⟩
    | num => exact ⟨f_p_are_numbers, Vt.KDict.ct DD e_C_numbers rfl, Vt.CalF.cast (Vt.Cal.at_f q_c_p_are_numbers m_p_are_numbers) (by decide) (fun _ _ _ _ h => h)⟩⟩
  have q_c_p_is_test := Vt.c_p_is_test F_p_is_test m_p_is_test T n_zip KF KC q_c_p_is_row
  have q_c_p_are_tests := Vt.c_p_are_tests F_p_are_tests m_p_are_tests T ⟨_, PySem.W.mg_of X G a_MOST_WANTED⟩ q_c_p_is_row q_c_p_is_whole
  have q_c_p_is_choice := Vt.c_p_is_choice F_p_is_choice m_p_is_choice T q_c_p_is_row q_c_p_are_tests q_c_p_is_whole
  have q_c_p_is_state := Vt.c_p_is_state F_p_is_state m_p_is_state T ⟨_, PySem.W.mg_of X G a_MOST_TUPLES⟩ q_c_p_is_row q_c_p_is_choice
  have q_c_p_choice_as_tuples := Vt.c_p_choice_as_tuples (P := l.prog) (w := w) (base := base) F_p_choice_as_tuples m_p_choice_as_tuples T
  have q_c_p_bits_of := Vt.c_p_bits_of (P := l.prog) (w := w) (base := base) F_p_bits_of m_p_bits_of T
  have q_c_p_checked_tests := Vt.c_p_checked_tests F_p_checked_tests m_p_checked_tests T n_enumerate ⟨_, PySem.W.mg_of X G a_MOST_TESTS⟩ E_bk q_c_p_is_row q_c_p_is_test q_c_p_tuples_of_test
  have q_c_p_checked_states := Vt.c_p_checked_states F_p_checked_states m_p_checked_states T n_enumerate ⟨_, PySem.W.mg_of X G a_MOST_STATES⟩ E_bk q_c_p_is_row q_c_p_is_state q_c_p_choice_as_tuples
  have M_T : Vt.MkC l.prog w K mg base 2 "Steps" CT (spU K (R_steps CT)) := ⟨_, _, _, PySem.W.mg_of X G a_Steps, ⟨mk_T, in_T, fn_T, kp_T⟩, F_T.binds (fun _ _ _ _ _ _ us hl => match us, hl with | [_, _, _], _ => rfl), Vt.c_Steps_init F_T cT nT q_c_p_bits_of⟩
  have M_B : Vt.MkC l.prog w K mg base 7 "Book" CB (spU K (R_book CB CC)) := ⟨_, _, _, PySem.W.mg_of X G a_Book, ⟨mk_B, in_B, fn_B, kp_B⟩, F_B.binds (fun _ _ _ _ _ _ us hl => match us, hl with | [_, _, _], _ => rfl), Vt.c_Book_init F_B T cB nB q_c_p_checked_tests q_c_p_checked_states M_T⟩
  have q_c_told := Vt.c_told F_told m_told T G_B cB nB M_B
  have q_c_test := Vt.c_test F_test m_test T q_w_take q_w_pick q_c_interval q_c_lowest q_c_sum
  have q_c_numbers := Vt.c_numbers F_numbers m_numbers T q_w_take
  have q_c_tests := Vt.c_tests F_tests m_tests T q_w_take q_c_test
  have q_c_wrong_test := Vt.c_wrong_test F_wrong_test m_wrong_test T q_w_pick
  have q_c_wrong_state := Vt.c_wrong_state F_wrong_state m_wrong_state T q_w_pick
  have q_c_changed := Vt.c_changed (P := l.prog) (w := w) (base := base) F_changed m_changed
  have q_c_book := Vt.c_book F_book m_book T q_w_take q_c_tests q_c_numbers
  exact Vt.c_law F_law T q_c_pool q_w_take q_w_pick q_c_book q_c_told (q_c_same 1) q_c_changed q_c_wrong_state q_c_wrong_test
end Vt
open PySem PySem.W PyProof.Rows
set_option maxRecDepth 100000 in
set_option maxHeartbeats 0 in
theorem PySem.Challenge.cw_counterheld_k27_wrong_books_holds : PySem.Challenge.rw_counterheld_k27_wrong_books.Holds := by
  w_on; o_law; k_head; (case hw => w_witness2)
  k_fill
  refine Vt.walk (l := PySem.Challenge.rw_counterheld_k27_wrong_books) (k := 10) ⟨rfl, by decide, by decide⟩ rfl rfl (fun w h Y => PySem.W.kIn_of Y) ?F
  case F =>
    intro w mg fa h KX G hmg
    refine' Vt.all_mk KX G hmg ?a_take ?l_take ?c_take ?k_take ?a_pool ?l_pool ?c_pool ?k_pool ?a_pick ?l_pick ?c_pick ?k_pick ?a_is_integer ?l_is_integer ?c_is_integer ?k_is_integer ?a_same ?l_same ?c_same ?k_same ?a_lowest ?l_lowest ?c_lowest ?k_lowest ?a_p_is_row ?l_p_is_row ?c_p_is_row ?k_p_is_row ?a_p_is_pair ?l_p_is_pair ?c_p_is_pair ?k_p_is_pair ?a_p_is_number ?l_p_is_number ?c_p_is_number ?k_p_is_number ?a_p_is_whole ?l_p_is_whole ?c_p_is_whole ?k_p_is_whole ?a_p_is_tone ?l_p_is_tone ?c_p_is_tone ?k_p_is_tone ?a_interval ?l_interval ?c_interval ?k_interval ?a_sum ?l_sum ?c_sum ?k_sum ?a_p_tuple_of ?l_p_tuple_of ?c_p_tuple_of ?k_p_tuple_of ?a_p_tuples_of_test ?l_p_tuples_of_test ?c_p_tuples_of_test ?k_p_tuples_of_test ?a_p_is_fraction ?l_p_is_fraction ?c_p_is_fraction ?k_p_is_fraction ?a_p_is_accent ?l_p_is_accent ?c_p_is_accent ?k_p_is_accent ?a_p_is_voice ?l_p_is_voice ?c_p_is_voice ?k_p_is_voice ?a_p_is_height ?l_p_is_height ?c_p_is_height ?k_p_is_height ?a_p_is_less ?l_p_is_less ?c_p_is_less ?k_p_is_less ?a_p_is_times ?l_p_is_times ?c_p_is_times ?k_p_is_times ?a_p_are_intervals ?l_p_are_intervals ?c_p_are_intervals ?k_p_are_intervals ?a_p_are_numbers ?l_p_are_numbers ?c_p_are_numbers ?k_p_are_numbers ?a_p_is_test ?l_p_is_test ?c_p_is_test ?k_p_is_test ?a_p_are_tests ?l_p_are_tests ?c_p_are_tests ?k_p_are_tests ?a_p_is_choice ?l_p_is_choice ?c_p_is_choice ?k_p_is_choice ?a_p_is_state ?l_p_is_state ?c_p_is_state ?k_p_is_state ?a_p_choice_as_tuples ?l_p_choice_as_tuples ?c_p_choice_as_tuples ?k_p_choice_as_tuples ?a_p_bits_of ?l_p_bits_of ?c_p_bits_of ?k_p_bits_of ?a_p_checked_tests ?l_p_checked_tests ?c_p_checked_tests ?k_p_checked_tests ?a_p_checked_states ?l_p_checked_states ?c_p_checked_states ?k_p_checked_states ?a_told ?l_told ?c_told ?k_told ?a_test ?l_test ?c_test ?k_test ?a_numbers ?l_numbers ?c_numbers ?k_numbers ?a_tests ?l_tests ?c_tests ?k_tests ?a_wrong_test ?l_wrong_test ?c_wrong_test ?k_wrong_test ?a_wrong_state ?l_wrong_state ?c_wrong_state ?k_wrong_state ?a_changed ?l_changed ?c_changed ?k_changed ?a_book ?l_book ?c_book ?k_book ?a_law ?l_law ?c_law ?k_law ?z_len ?z_int ?z_isinstance ?z_range ?z_list ?z_tuple ?z_all ?z_bool ?z_str ?z_abs ?z_enumerate ?z_zip ?a_FAR ?a_MOST_ACCENT ?a_MOST_HEIGHT ?a_MOST_LISTED ?a_MOST_STATES ?a_MOST_TESTS ?a_MOST_TIMES ?a_MOST_TUPLES ?a_MOST_VOICES ?a_MOST_WANTED ?g_gcd ?a_FORMS ?d_FORMS ?a_PARTS ?d_PARTS ?z_Begins ?e_F_accent ?l_F_accent ?e_F_begins ?l_F_begins ?e_F_silent ?l_F_silent ?e_F_loose ?l_F_loose ?e_F_leap ?l_F_leap ?e_F_by ?l_F_by ?e_F_apart ?l_F_apart ?e_F_class ?l_F_class ?e_F_lasts ?l_F_lasts ?e_F_along ?l_F_along ?e_C_accent ?e_C_voice ?e_C_height ?e_C_times ?e_C_intervals ?e_C_numbers ?a_BadBook ?a_ScoreError ?a_Book ?a_Steps ?o_lk ?o_mro ?o_sa ?b_kp ?b_sb ?b_ty ?i_fn ?i_ty ?l_I ?c_I ?k_I ?s_ga ?s_rd ?s_ini ?n_num ?n_par ?e_hg ?e_hk ?e_hd ?e_ha ?e_hn ?e_ht ?e_hm ?s3_sb ?s3_hd ?s3_ty ?s3_yes ?s4_yes ?mk_B ?in_B ?fn_B ?kp_B ?pg_B ?hd_B ?po_B ?sa_B ?na_B_tests ?na_B_states ?na_B_steps ?mk_T ?in_T ?fn_T ?kp_T ?pg_T ?hd_T ?po_T ?sa_T ?na_T_tests ?na_T_choices ?na_T_rows ?na_T_moves ?na_T_goings ?na_T_fillings ?l_B ?c_B ?k_B ?l_T ?c_T ?k_T
    (case a_take => k_is)
    (case l_take => k_is)
    (case c_take => k_is)
    (case k_take => k_is)
    (case a_pool => k_is)
    (case l_pool => k_is)
    (case c_pool => k_is)
    (case k_pool => k_is)
    (case a_pick => k_is)
    (case l_pick => k_is)
    (case c_pick => k_is)
    (case k_pick => k_is)
    (case a_is_integer => k_is)
    (case l_is_integer => k_is)
    (case c_is_integer => k_is)
    (case k_is_integer => k_is)
    (case a_same => k_is)
    (case l_same => k_is)
    (case c_same => k_is)
    (case k_same => k_is)
    (case a_lowest => k_is)
    (case l_lowest => k_is)
    (case c_lowest => k_is)
    (case k_lowest => k_is)
    (case a_p_is_row => k_is)
    (case l_p_is_row => k_is)
    (case c_p_is_row => k_is)
    (case k_p_is_row => k_is)
    (case a_p_is_pair => k_is)
    (case l_p_is_pair => k_is)
    (case c_p_is_pair => k_is)
    (case k_p_is_pair => k_is)
    (case a_p_is_number => k_is)
    (case l_p_is_number => k_is)
    (case c_p_is_number => k_is)
    (case k_p_is_number => k_is)
    (case a_p_is_whole => k_is)
    (case l_p_is_whole => k_is)
    (case c_p_is_whole => k_is)
    (case k_p_is_whole => k_is)
    (case a_p_is_tone => k_is)
    (case l_p_is_tone => k_is)
    (case c_p_is_tone => k_is)
    (case k_p_is_tone => k_is)
    (case a_interval => k_is)
    (case l_interval => k_is)
    (case c_interval => k_is)
    (case k_interval => k_is)
    (case a_sum => k_is)
    (case l_sum => k_is)
    (case c_sum => k_is)
    (case k_sum => k_is)
    (case a_p_tuple_of => k_is)
    (case l_p_tuple_of => k_is)
    (case c_p_tuple_of => k_is)
    (case k_p_tuple_of => k_is)
    (case a_p_tuples_of_test => k_is)
    (case l_p_tuples_of_test => k_is)
    (case c_p_tuples_of_test => k_is)
    (case k_p_tuples_of_test => k_is)
    (case a_p_is_fraction => k_is)
    (case l_p_is_fraction => k_is)
    (case c_p_is_fraction => k_is)
    (case k_p_is_fraction => k_is)
    (case a_p_is_accent => k_is)
    (case l_p_is_accent => k_is)
    (case c_p_is_accent => k_is)
    (case k_p_is_accent => k_is)
    (case a_p_is_voice => k_is)
    (case l_p_is_voice => k_is)
    (case c_p_is_voice => k_is)
    (case k_p_is_voice => k_is)
    (case a_p_is_height => k_is)
    (case l_p_is_height => k_is)
    (case c_p_is_height => k_is)
    (case k_p_is_height => k_is)
    (case a_p_is_less => k_is)
    (case l_p_is_less => k_is)
    (case c_p_is_less => k_is)
    (case k_p_is_less => k_is)
    (case a_p_is_times => k_is)
    (case l_p_is_times => k_is)
    (case c_p_is_times => k_is)
    (case k_p_is_times => k_is)
    (case a_p_are_intervals => k_is)
    (case l_p_are_intervals => k_is)
    (case c_p_are_intervals => k_is)
    (case k_p_are_intervals => k_is)
    (case a_p_are_numbers => k_is)
    (case l_p_are_numbers => k_is)
    (case c_p_are_numbers => k_is)
    (case k_p_are_numbers => k_is)
    (case a_p_is_test => k_is)
    (case l_p_is_test => k_is)
    (case c_p_is_test => k_is)
    (case k_p_is_test => k_is)
    (case a_p_are_tests => k_is)
    (case l_p_are_tests => k_is)
    (case c_p_are_tests => k_is)
    (case k_p_are_tests => k_is)
    (case a_p_is_choice => k_is)
    (case l_p_is_choice => k_is)
    (case c_p_is_choice => k_is)
    (case k_p_is_choice => k_is)
    (case a_p_is_state => k_is)
    (case l_p_is_state => k_is)
    (case c_p_is_state => k_is)
    (case k_p_is_state => k_is)
    (case a_p_choice_as_tuples => k_is)
    (case l_p_choice_as_tuples => k_is)
    (case c_p_choice_as_tuples => k_is)
    (case k_p_choice_as_tuples => k_is)
    (case a_p_bits_of => k_is)
    (case l_p_bits_of => k_is)
    (case c_p_bits_of => k_is)
    (case k_p_bits_of => k_is)
    (case a_p_checked_tests => k_is)
    (case l_p_checked_tests => k_is)
    (case c_p_checked_tests => k_is)
    (case k_p_checked_tests => k_is)
    (case a_p_checked_states => k_is)
    (case l_p_checked_states => k_is)
    (case c_p_checked_states => k_is)
    (case k_p_checked_states => k_is)
    (case a_told => k_is)
    (case l_told => k_is)
    (case c_told => k_is)
    (case k_told => k_is)
    (case a_test => k_is)
    (case l_test => k_is)
    (case c_test => k_is)
    (case k_test => k_is)
    (case a_numbers => k_is)
    (case l_numbers => k_is)
    (case c_numbers => k_is)
    (case k_numbers => k_is)
    (case a_tests => k_is)
    (case l_tests => k_is)
    (case c_tests => k_is)
    (case k_tests => k_is)
    (case a_wrong_test => k_is)
    (case l_wrong_test => k_is)
    (case c_wrong_test => k_is)
    (case k_wrong_test => k_is)
    (case a_wrong_state => k_is)
    (case l_wrong_state => k_is)
    (case c_wrong_state => k_is)
    (case k_wrong_state => k_is)
    (case a_changed => k_is)
    (case l_changed => k_is)
    (case c_changed => k_is)
    (case k_changed => k_is)
    (case a_book => k_is)
    (case l_book => k_is)
    (case c_book => k_is)
    (case k_book => k_is)
    (case a_law => k_is)
    (case l_law => k_is)
    (case c_law => k_is)
    (case k_law => k_is)
    (case z_len => k_is)
    (case z_int => k_is)
    (case z_isinstance => k_is)
    (case z_range => k_is)
    (case z_list => k_is)
    (case z_tuple => k_is)
    (case z_all => k_is)
    (case z_bool => k_is)
    (case z_str => k_is)
    (case z_abs => k_is)
    (case z_enumerate => k_is)
    (case z_zip => k_is)
    (case a_FAR => k_is)
    (case a_MOST_ACCENT => k_is)
    (case a_MOST_HEIGHT => k_is)
    (case a_MOST_LISTED => k_is)
    (case a_MOST_STATES => k_is)
    (case a_MOST_TESTS => k_is)
    (case a_MOST_TIMES => k_is)
    (case a_MOST_TUPLES => k_is)
    (case a_MOST_VOICES => k_is)
    (case a_MOST_WANTED => k_is)
    (case g_gcd => k_is)
    (case a_FORMS => k_is)
    (case d_FORMS => rfl)
    (case a_PARTS => k_is)
    (case d_PARTS => rfl)
    (case z_Begins => k_is)
    (case e_F_accent => k_is)
    (case l_F_accent => k_is)
    (case e_F_begins => k_is)
    (case l_F_begins => k_is)
    (case e_F_silent => k_is)
    (case l_F_silent => k_is)
    (case e_F_loose => k_is)
    (case l_F_loose => k_is)
    (case e_F_leap => k_is)
    (case l_F_leap => k_is)
    (case e_F_by => k_is)
    (case l_F_by => k_is)
    (case e_F_apart => k_is)
    (case l_F_apart => k_is)
    (case e_F_class => k_is)
    (case l_F_class => k_is)
    (case e_F_lasts => k_is)
    (case l_F_lasts => k_is)
    (case e_F_along => k_is)
    (case l_F_along => k_is)
    (case e_C_accent => k_is)
    (case e_C_voice => k_is)
    (case e_C_height => k_is)
    (case e_C_times => k_is)
    (case e_C_intervals => k_is)
    (case e_C_numbers => k_is)
    (case a_BadBook => k_is)
    (case a_ScoreError => k_is)
    (case a_Book => k_is)
    (case a_Steps => k_is)
    (case o_lk => k_is)
    (case o_mro => first | rfl | decide +kernel)
    (case o_sa => k_is)
    (case b_kp => k_is)
    (case b_sb => k_is)
    (case b_ty => k_is)
    (case i_fn => k_is)
    (case i_ty => k_is)
    (case l_I => k_is)
    (case c_I => k_is)
    (case k_I => k_is)
    (case s_ga => k_is)
    (case s_rd => k_is)
    (case s_ini => k_is)
    (case n_num => k_is)
    (case n_par => k_is)
    (case e_hg => k_is)
    (case e_hk => k_is)
    (case e_hd => k_is)
    (case e_ha => k_is)
    (case e_hn => k_is)
    (case e_ht => k_is)
    (case e_hm => k_is)
    (case s3_sb => k_is)
    (case s3_hd => k_is)
    (case s3_ty => k_is)
    (case s3_yes => k_is)
    (case s4_yes => k_is)
    (case mk_B => k_is)
    (case in_B => k_is)
    (case fn_B => k_is)
    (case kp_B => k_is)
    (case pg_B => k_is)
    (case hd_B => k_is)
    (case po_B => k_is)
    (case sa_B => k_is)
    (case na_B_tests => k_is)
    (case na_B_states => k_is)
    (case na_B_steps => k_is)
    (case mk_T => k_is)
    (case in_T => k_is)
    (case fn_T => k_is)
    (case kp_T => k_is)
    (case pg_T => k_is)
    (case hd_T => k_is)
    (case po_T => k_is)
    (case sa_T => k_is)
    (case na_T_tests => k_is)
    (case na_T_choices => k_is)
    (case na_T_rows => k_is)
    (case na_T_moves => k_is)
    (case na_T_goings => k_is)
    (case na_T_fillings => k_is)
    (case l_B => k_is)
    (case c_B => k_is)
    (case k_B => k_is)
    (case l_T => k_is)
    (case c_T => k_is)
    (case k_T => k_is)
